import PyProof.Rows.All
import Wide.All
import OpenK.AllK
import Wide.FinOn
import Lean
import PyProof.EqAt
import PyProof.EqKinds
import PyProof.TupleCall
import PyProof.StrLawsIdx
import PySem.Challenge.RW_seek_k05_whole_texts_read
set_option Elab.async false
set_option linter.all false
set_option maxRecDepth 100000
set_option maxHeartbeats 4000000
namespace L2
open PySem PySem.Spec PyProof.Rows
abbrev Key:=Sum Int Str
def keyIs:Key->Value->Bool
 |.inl k,v=>Value.isInt k v
 |.inr x,v=>Value.isStrOf x v
def keyH(w:World):Key->Int
 |.inl k=>hashInt k
 |.inr x=>hashStr w x
theorem keyIs_shape:∀ {k:Key} {v:Value},keyIs k v=true->(∃i t,k=Sum.inl i/\v=Value.int i t)∨(∃x t,k=Sum.inr x/\v=Value.str x t)
 |.inl i,v,h=>by
  obtain⟨t,e⟩:=Value.isInt_shape (k:=i) (v:=v) h
  exact .inl ⟨i,t,rfl,e⟩
 |.inr x,v,h=>by
  obtain⟨t,e⟩:=Value.isStrOf_shape (x:=x) (v:=v) h
  exact .inr ⟨x,t,rfl,e⟩
theorem keyIs_int(i:Int)(t:Tok):keyIs (.inl i) (.int i t)=true:=by simp[keyIs,Value.isInt]
theorem keyIs_str(x:Str)(t:Tok):keyIs (.inr x) (.str x t)=true:=by simp[keyIs,Value.isStrOf]
theorem key_ll(a b:Int):decide ((Sum.inl a:Key)=Sum.inl b)=(a==b):=by
 by_cases e:a=b
 ·subst e;simp
 ·have h:¬(Sum.inl a:Key)=Sum.inl b:=fun q=>e (Sum.inl.inj q)
  rw[decide_eq_false h]
  exact(beq_eq_false_iff_ne.mpr e).symm
theorem key_rr(a b:Str):decide ((Sum.inr a:Key)=Sum.inr b)=decide (a=b):=by
 by_cases e:a=b
 ·subst e;simp
 ·have h:¬(Sum.inr a:Key)=Sum.inr b:=fun q=>e (Sum.inr.inj q)
  rw[decide_eq_false h,decide_eq_false e]
theorem key_lr(a:Int)(b:Str):decide ((Sum.inl a:Key)=Sum.inr b)=false:=decide_eq_false (fun q=>nomatch q)
theorem key_rl(a:Str)(b:Int):decide ((Sum.inr a:Key)=Sum.inl b)=false:=decide_eq_false (fun q=>nomatch q)
def mixKind(prog:Program)(w:World):PySem.KeyKind prog w Key where
 is:=keyIs
 hash:=keyH w
 inj:=fun v a b ha hb=>by
  rcases keyIs_shape ha with⟨i,t,rfl,rfl⟩ | ⟨x,t,rfl,rfl⟩
  ·rcases keyIs_shape hb with⟨j,u,rfl,e⟩ | ⟨y,u,rfl,e⟩
   ·injection e with e1 _;rw[e1]
   ·exact nomatch e
  ·rcases keyIs_shape hb with⟨j,u,rfl,e⟩ | ⟨y,u,rfl,e⟩
   ·exact nomatch e
   ·injection e with e1 _;rw[e1]
 byValue:=fun k v h=>by
  rcases keyIs_shape h with⟨i,t,rfl,rfl⟩ | ⟨x,t,rfl,rfl⟩ <;> rfl
 pyHash:=fun hv h=>by
  rcases keyIs_shape hv with⟨i,t,rfl,rfl⟩ | ⟨x,t,rfl,rfl⟩
  ·exact wpAny_pyHash_int h
  ·exact wpAny_pyHash_str h
 eqBool:=fun hu hv h=>by
  rcases keyIs_shape hu with⟨i,t,rfl,rfl⟩ | ⟨x,t,rfl,rfl⟩
  ·rcases keyIs_shape hv with⟨j,u,rfl,rfl⟩ | ⟨y,u,rfl,rfl⟩
   ·rw[key_ll]at h;exact wpAny_eqBool_int h
   ·rw[key_lr]at h;exact SeqAt.EqAt.int_str i t y u _ _ _ _ h
  ·rcases keyIs_shape hv with⟨j,u,rfl,rfl⟩ | ⟨y,u,rfl,rfl⟩
   ·rw[key_rl]at h;exact SeqAt.EqAt.str_int x t j u _ _ _ _ h
   ·rw[key_rr]at h;exact wpAny_eqBool_str h
 «strs»:=fun k x t v h=>by
  rcases keyIs_shape h with⟨i,u,rfl,e⟩ | ⟨y,u,rfl,e⟩
  ·exact nomatch e
  ·injection e with e1 _
   subst e1
   cases v <;> rfl
theorem mixKind_int(prog:Program)(w:World)(i:Int)(t:Tok):(mixKind prog w).is (.inl i) (.int i t)=true:=keyIs_int i t
theorem mixKind_str(prog:Program)(w:World)(x:Str)(t:Tok):(mixKind prog w).is (.inr x) (.str x t)=true:=keyIs_str x t
inductive V where
 |non | bl (b:Bool) | int (i:Int) | str (x:Str) | byt (b:Array UInt8) | flt (b:UInt64) | ref (a:Addr) | ty (n:String)
 deriving DecidableEq
def RelV:V->Value->Prop
 |.non,u=>u=Value.none
 |.bl b,u=>u=Value.bool b
 |.int i,u=>∃t,u=Value.int i t
 |.str x,u=>∃t,u=Value.str x t
 |.byt b,u=>∃t,u=Value.bytes b t
 |.flt b,u=>∃t,u=Value.float b t
 |.ref a,u=>u=Value.ref a
 |.ty n,u=>u=Value.type n
abbrev Vals:List V->List Value->Prop:=Paired RelV
theorem Vals.length{xs:List V}{us:List Value}(r:Vals xs us):xs.length=us.length:=Paired.length r
theorem Vals.get:∀ {xs:List V} {us:List Value} {i:Nat} {x:V},Vals xs us->xs[i]? = some x->∃u,us[i]? = some u/\RelV x u
 |_,_,_,_,.nil,e=>by simp at e
 |_,_,0,_,.cons r _,e=>by simp at e;subst e;exact⟨_,rfl,r⟩
 |_,_,i+1,x,.cons _ t,e=>by
  obtain⟨u,h1,h2⟩:=Vals.get (i:=i) (x:=x) t (by simpa using e)
  exact⟨u,by simpa using h1,h2⟩
theorem Vals.set{x:V}{u:Value}(r:RelV x u):∀ {xs:List V} {us:List Value} (i:Nat),Vals xs us->Vals (xs.set i x) (us.set i u)
 |_,_,_,.nil=>.nil
 |_,_,0,.cons _ t=>.cons r t
 |_,_,i+1,.cons q t=>.cons q (Vals.set r i t)
theorem Vals.append:∀ {xs ys:List V} {us ws:List Value},Vals xs us->Vals ys ws->Vals (xs++ys) (us++ws)
 |_,_,_,_,.nil,s=>s
 |_,_,_,_,.cons r t,s=>.cons r (Vals.append t s)
theorem Vals.take:∀ {xs:List V} {us:List Value} (n:Nat),Vals xs us->Vals (xs.take n) (us.take n)
 |_,_,0,_=>.nil
 |_,_,_+1,.nil=>.nil
 |_,_,n+1,.cons r t=>.cons r (Vals.take n t)
theorem Vals.drop:∀ {xs:List V} {us:List Value} (n:Nat),Vals xs us->Vals (xs.drop n) (us.drop n)
 |_,_,0,r=>r
 |_,_,_+1,.nil=>.nil
 |_,_,n+1,.cons _ t=>Vals.drop n t
def RelO:Option V->Option Value->Prop
 |some v,some u=>RelV v u
 |none,none=>True
 |_,_=>False
def KV{κ:Type}:List (κ×V)->List (κ×Value)->Prop:=Paired fun(p:κ×V) (q:κ×Value)=>p.1=q.1/\RelV p.2 q.2
def kV:Key->V
 |.inl i=>.int i
 |.inr x=>.str x
inductive HO where
 /-- a list -/
 |lst (xs:List V)
 /-- a tuple (never changes) -/
 |tup (xs:List V)
 /-- a dict whose keys are ints and texts;one whose keys are tuples of ints and texts (the empty one is both) -/
 |dK (kvs:List (Key×V)) | dT (kvs:List (List Key×V))
 /-- a set of ints: its members,its size -/
 |set (S:Int->Bool) (n:Nat)
 /-- an instance of the class at C,its dict at dx,its attributes -/
 |ins (C dx:Addr) (fs:List (Str×V))
 /-- the dict of the instance at x -/
 |own (x:Addr)
 /-- the dict of an exception -/
 |xd (fs:List (Str×V))
 /-- a bound method,f of x -/
 |met (f x:Addr)
 /-- a range object lo,lo+1,.. below hi -/
 |rng (lo hi:Int)
 /-- a thing that is known to the object (the script;a dict while a loop walks it): read,never written while it is so -/
 |frz (o:Obj) (u:HO)
 /-- a code object's table -/
 |tbl (ps:Array Value)
 /-- any other thing,by what is true of its one object (a def of one's own: SetO a S n:=HO.ext fun h=>..) -/
 |ext (φ:Heap->Prop)
abbrev Hp:=Addr->Option HO
def upd(H:Hp)(a:Addr)(o:HO):Hp:=fun b=>if b=a then some o else H b
theorem upd_same{H:Hp}{a:Addr}{o:HO}:upd H a o a=some o:=by unfold upd;rw[if_pos rfl]
theorem upd_ne{H:Hp}{a b:Addr}{o:HO}(h:b≠a):upd H a o b=H b:=by unfold upd;rw[if_neg h]
theorem upd_upd{H:Hp}{a:Addr}{o u:HO}:upd (upd H a o) a u=upd H a u:=by
 funext b;unfold upd;split <;> rfl
theorem ne_of{H:Hp}{a b:Addr}{o u:HO}(h:H a=some o)(h':H b=some u)(d:o≠u):a≠b:=by
 intro e;subst e;rw[h]at h';exact d (Option.some.inj h')
theorem ne_of_none{H:Hp}{a b:Addr}{o:HO}(h:H a=some o)(h':H b=none):a≠b:=by
 intro e;subst e;rw[h]at h';cases h'
section
variable(P:Program)(w:World)
def ObjOk(H:Hp)(h:Heap)(a:Addr):HO->Prop
 |.lst xs=>xs.length<=sizeLine/\∃(its:List Value) (n:Nat),Vals xs its/\h.get? a=some { cls:=.type "list",data:=.seq its.toArray n }
 |.tup xs=>xs.length<=sizeLine/\∃its:List Value,Vals xs its/\IsTup h a its.toArray
 |.dK kvs=>kvs.length<=sizeLine/\(a==sysModules)=false/\∃vs,KV kvs vs/\h.DictOf (mixKind P w) a vs
 |.dT kvs=>kvs.length<=sizeLine/\(a==sysModules)=false/\∃xs:List (List Key×Addr×Value),
   Paired (fun(p:List Key×V) (q:List Key×Addr×Value)=>p.1=q.1/\H q.2.1=some (.tup (p.1.map kV))/\RelV p.2 q.2.2) kvs xs /\
   ∃o es ep,h.get? a=some o/\o.ExactDict/\o.data=.dict es ep/\es.toList=xs.map (entryOfKey (tupleKind (mixKind P w)))/\(xs.map (·.1)).Nodup
 |.set S n=>h.SetOf (intKind P w) a S n
 |.ins C dx fs=>H dx=some (.own a)/\fs.length<=1000/\dx≠a/\h.get? a=some (W.instObj C dx) /\
   ∃mA,h.Ns1 dx mA/\(∀f,RelO (fs.lookup f) (mA f))/\PySem.Within mA (fs.map (·.1))
 |.own _=>∃o,h.get? a=some o
 |.xd fs=>∃mA,h.Ns1 a mA/\∀f,RelO (fs.lookup f) (mA f)
 |.rng lo hi=>∃t u v,h.get? a=some { cls:=.type "range",data:=.fields #[.int lo t,.int hi u,.int 1 v] }
 |.frz o u=>h.get? a=some o/\ObjOk H h a u
 |.tbl ps=>h.get? a=some { cls:=.none,data:=.fields ps }
 |.met f x=>h.get? a=some (W.methodObj (.ref f) (.ref x))
 |.ext φ=>φ h/\(∃o,h.get? a=some o)/\∀h1 h2:Heap,φ h1->(∀o,h1.get? a=some o->h2.get? a=some o)->φ h2
def HOk(H:Hp)(h:Heap):Prop:=∀a o,H a=some o->ObjOk P w H h a o
end
section
variable{P:Program}{w:World}{H H':Hp}{h h':Heap}{a:Addr}{o:HO}
theorem ObjOk.lt(x:ObjOk P w H h a o):a<h.objs.size:=by
 cases o with
 |lst xs=>obtain⟨_,_,_,_,e⟩:=x;exact Heap.lt_size e
 |tup xs=>obtain⟨_,_,_,p⟩:=x;exact p.lt
 |dK kvs=>obtain⟨_,_,_,_,o,_,_,e,_⟩:=x;exact Heap.lt_size e
 |dT kvs=>obtain⟨_,_,_,_,o,_,_,e,_⟩:=x;exact Heap.lt_size e
 |set S n=>obtain⟨o,_,_,_,e,_⟩:=x;exact Heap.lt_size e
 |ins C dx fs=>obtain⟨_,_,_,e,_⟩:=x;exact Heap.lt_size e
 |own y=>obtain⟨_,e⟩:=x;exact Heap.lt_size e
 |xd fs=>obtain⟨_,⟨_,_,_,e,_⟩,_⟩:=x;exact Heap.lt_size e
 |rng lo hi=>obtain⟨_,_,_,e⟩:=x;exact Heap.lt_size e
 |frz ob u=>obtain⟨e,_⟩:=x;exact Heap.lt_size e
 |tbl ps=>exact Heap.lt_size (show h.get? a=some _ from x)
 |met f y=>exact Heap.lt_size (show h.get? a=some _ from x)
 |ext φ=>obtain⟨_,⟨_,e⟩,_⟩:=x;exact Heap.lt_size e
theorem Paired.mapP{α β:Type}{F G:α->β->Prop}:∀ {l₁:List α} {l₂:List β},Paired F l₁ l₂->(∀a b,F a b->G a b)->Paired G l₁ l₂
 |_,_,.nil,_=>.nil
 |_,_,.cons r t,f=>.cons (f _ _ r) (Paired.mapP t f)
theorem ObjOk.stay(x:ObjOk P w H h a o)(k:∀b u,(b=a∨H b=some (.own a))->h.get? b=some u->h'.get? b=some u)
  (ho:∀b,H b=some (.own a)->H' b=some (.own a)) (ht:∀b xs,H b=some (.tup xs)->H' b=some (.tup xs)):ObjOk P w H' h' a o:=by
 induction o with
 |lst xs=>obtain⟨z,its,n,r,e⟩:=x;exact⟨z,its,n,r,k _ _ (.inl rfl) e⟩
 |tup xs=>obtain⟨z,its,r,ob,e,c⟩:=x;exact⟨z,its,r,ob,k _ _ (.inl rfl) e,c⟩
 |dK kvs=>obtain⟨z,y,vs,r,ob,es,ep,e,c⟩:=x;exact⟨z,y,vs,r,ob,es,ep,k _ _ (.inl rfl) e,c⟩
 |dT kvs =>
  obtain⟨z,y,xs,r,ob,es,ep,e,c⟩:=x
  exact⟨z,y,xs,Paired.mapP r fun p q z=>⟨z.1,ht _ _ z.2.1,z.2.2⟩,ob,es,ep,k _ _ (.inl rfl) e,c⟩
 |set S n=>obtain⟨ob,es,ep,t,e,c⟩:=x;exact⟨ob,es,ep,t,k _ _ (.inl rfl) e,c⟩
 |ins C dx fs =>
  obtain⟨d,z,ne,e,mA,⟨od,es,ep,e2,c⟩,r⟩:=x
  exact⟨ho _ d,z,ne,k _ _ (.inl rfl) e,mA,⟨od,es,ep,k _ _ (.inr d) e2,c⟩,r⟩
 |own y=>obtain⟨ob,e⟩:=x;exact⟨ob,k _ _ (.inl rfl) e⟩
 |xd fs=>obtain⟨mA,⟨od,es,ep,e,c⟩,r⟩:=x;exact⟨mA,⟨od,es,ep,k _ _ (.inl rfl) e,c⟩,r⟩
 |rng lo hi=>obtain⟨t,u,v,e⟩:=x;exact⟨t,u,v,k _ _ (.inl rfl) e⟩
 |frz ob u ih=>obtain⟨e,q⟩:=x;exact⟨k _ _ (.inl rfl) e,ih q⟩
 |tbl ps =>
  have e:h.get? a=some { cls:=.none,data:=.fields ps }:=x
  show h'.get? a=some { cls:=.none,data:=.fields ps }
  exact k a _ (.inl rfl) e
 |met f y =>
  have e:h.get? a=some (W.methodObj (.ref f) (.ref y)):=x
  show h'.get? a=some (W.methodObj (.ref f) (.ref y))
  exact k a _ (.inl rfl) e
 |ext φ=>obtain⟨p,⟨o,e⟩,st⟩:=x;exact⟨st _ _ p fun o q=>k _ _ (.inl rfl) q,⟨o,k _ _ (.inl rfl) e⟩,st⟩
theorem HOk.lt(x:HOk P w H h)(e:H a=some o):a<h.objs.size:=(x a o e).lt
theorem HOk.fresh(x:HOk P w H h)(e:h.objs.size<=a):H a=none:=by
 cases q:H a with
 |none=>rfl
 |some u=>exact absurd (Nat.lt_of_lt_of_le (x.lt q) e) (Nat.lt_irrefl _)
theorem HOk.kept(x:HOk P w H h)(k:∀b u,h.get? b=some u->h'.get? b=some u):HOk P w H h':=fun a o e =>
 (x a o e).stay (fun b u _ q=>k b u q) (fun _ q=>q) fun _ _ q=>q
theorem HOk.laid(x:HOk P w H h)(k:∀b u,h.get? b=some u->h'.get? b=some u)(hp:h.objs.size<=a)(new:ObjOk P w (upd H a o) h' a o):HOk P w (upd H a o) h':=fun b u e=>by
 have hn:=x.fresh hp
 by_cases hb:b=a
 ·subst hb;rw[upd_same]at e;cases e;exact new
 ·rw[upd_ne hb]at e
  exact(x b u e).stay (fun c v _ q=>k c v q) (fun c q=>by rw[upd_ne (ne_of_none q hn)];exact q) fun c xs q=>by rw[upd_ne (ne_of_none q hn)];exact q
end
def Rd(H:Hp)(a:Addr)(u:HO):Prop:=H a=some u∨∃o,H a=some (.frz o u)
theorem Rd.ok{P:Program}{w:World}{H:Hp}{h:Heap}{a:Addr}{u:HO}(r:Rd H a u)(x:HOk P w H h):ObjOk P w H h a u:=by
 rcases r with r | ⟨o,r⟩
 ·exact x a u r
 ·obtain⟨_,q⟩:=x a _ r
  exact q
def Mut:Option HO->Prop
 |some (.lst _)=>True
 |some (.dK _)=>True
 |some (.dT _)=>True
 |some (.set _ _)=>True
 |some (.ins _ _ _)=>True
 |some (.ext _)=>True
 |_=>False
section
variable{P:Program}{w:World}{H:Hp}{h h':Heap}{x e:Addr}{o':HO}
theorem HOk.write(ok:HOk P w H h)(mu:Mut (H x))(he:e=x∨H e=some (.own x))(k:∀b u,b≠e->h.get? b=some u->h'.get? b=some u)(heo:∃u,h'.get? e=some u)
  (new:ObjOk P w (upd H x o') h' x o'):HOk P w (upd H x o') h':=fun b u q=>by
 have nown:∀c y,H c=some (.own y)->c≠x:=fun c y r z=>by subst z;rw[r]at mu;exact mu
 have ntup:∀c xs,H c=some (.tup xs)->c≠x:=fun c xs r z=>by subst z;rw[r]at mu;exact mu
 by_cases hb:b=x
 ·subst hb;rw[upd_same]at q;cases q;exact new
 ·rw[upd_ne hb]at q
  by_cases hbe:b=e
  ·have q':H b=some (.own x):=by
    rcases he with z | z
    ·exact absurd (hbe.trans z) hb
    ·rw[hbe];exact z
   rw[q]at q';cases q'
   obtain⟨v,hv⟩:=heo
   exact⟨v,by rw[hbe];exact hv⟩
  ·refine(ok b u q).stay (fun c v hc r=>k c v ?_ r) (fun c r=>by rw[upd_ne (nown c b r)];exact r) fun c xs r=>by rw[upd_ne (ntup c xs r)];exact r
   rcases hc with rfl | hc
   ·exact hbe
   ·rintro rfl
    rcases he with z | z
    ·exact nown c b hc z
    ·rw[hc]at z;cases z;exact hb rfl
end
structure Un(fs ex:List Addr)(H H':Hp)(h h':Heap):Prop where
 keep:∀b o,h.get? b=some o->H b=none->b∉fs->b∉ex->h'.get? b=some o
 slot:∀b o,h.get? b=some o->H b=none->b∈fs->b∉ex->∃sl,h'.get? b=some { o with slots:=sl }
 free:∀b o,h.get? b=some o->H b=none->b∉ex->H' b=none
 there:∀b o,h.get? b=some o->b∉ex->∃o',h'.get? b=some o'
 tups:∀b xs,H b=some (.tup xs)->H' b=some (.tup xs)
 frzs:∀b o u,H b=some (.frz o u)->H' b=some (.frz o u)
 tbls:∀b ps,H b=some (.tbl ps)->∃more,H' b=some (.tbl (ps++more))
section
variable{fs fs' ex ex':List Addr}{H H1 H2:Hp}{h h1 h2 h':Heap}{a x e:Addr}{o:HO}
theorem Un.any(u:Un fs ex H H1 h h1){b:Addr}{ob:Obj}(q:h.get? b=some ob)(n:H b=none)(hx:b∉ex):∃sl,h1.get? b=some { ob with slots:=sl }:=by
 by_cases hb:b∈fs
 ·exact u.slot b ob q n hb hx
 ·exact⟨ob.slots,u.keep b ob q n hb hx⟩
theorem Un.trans(a:Un fs ex H H1 h h1)(b:Un fs ex H1 H2 h1 h2):Un fs ex H H2 h h2 where
 keep:=fun c ob q n hc hx=>b.keep c ob (a.keep c ob q n hc hx) (a.free c ob q n hx) hc hx
 slot:=fun c ob q n hc hx=>by
  obtain⟨sl,e1⟩:=a.slot c ob q n hc hx
  obtain⟨sl',e2⟩:=b.slot c _ e1 (a.free c ob q n hx) hc hx
  exact⟨sl',e2⟩
 free:=fun c ob q n hx=>by
  obtain⟨o',e1⟩:=a.there c ob q hx
  exact b.free c o' e1 (a.free c ob q n hx) hx
 there:=fun c ob q hx=>by
  obtain⟨o',e1⟩:=a.there c ob q hx
  exact b.there c o' e1 hx
 tups:=fun c xs q=>b.tups c xs (a.tups c xs q)
 frzs:=fun c ob xs q=>b.frzs c ob xs (a.frzs c ob xs q)
 tbls:=fun c ps q=>by
  obtain⟨m1,e1⟩:=a.tbls c ps q
  obtain⟨m2,e2⟩:=b.tbls c _ e1
  exact⟨m1++m2,by rw[e2,Array.append_assoc]⟩
theorem Un.kept(k:∀b u,h.get? b=some u->h'.get? b=some u):Un fs ex H H h h' :=
 ⟨fun b ob q _ _ _=>k b ob q,fun b ob q _ _ _=>⟨ob.slots,k b ob q⟩,fun _ _ _ n _=>n,fun b ob q _=>⟨ob,k b ob q⟩,fun _ _ q=>q,fun _ _ _ q=>q,fun _ ps q=>⟨#[],by rw[q];simp⟩⟩
theorem Un.refl:Un fs ex H H h h:=Un.kept fun _ _ q=>q
theorem Un.laid(k:∀b u,h.get? b=some u->h'.get? b=some u)(hp:h.objs.size<=a)(hn:H a=none):Un fs ex H (upd H a o) h h' where
 keep:=fun b u q _ _ _=>k b u q
 slot:=fun b u q _ _ _=>⟨u.slots,k b u q⟩
 free:=fun b u q n _=>by rw[upd_ne (Nat.ne_of_lt (Nat.lt_of_lt_of_le (Heap.lt_size q) hp))];exact n
 there:=fun b u q _=>⟨u,k b u q⟩
 tups:=fun b xs q=>by rw[upd_ne (ne_of_none q hn)];exact q
 frzs:=fun b u xs q=>by rw[upd_ne (ne_of_none q hn)];exact q
 tbls:=fun b ps q=>⟨#[],by rw[upd_ne (ne_of_none q hn),q];simp⟩
theorem Un.write(mu:Mut (H x))(he:e=x∨H e=some (.own x))(k:∀b u,b≠e->h.get? b=some u->h'.get? b=some u)(heo:∃u,h'.get? e=some u):Un fs ex H (upd H x o) h h':=by
 have hx:∀b,H b=none->b≠x:=fun b n z=>by subst z;rw[n]at mu;exact mu
 have hb:∀b,H b=none->b≠e:=fun b n z=>by
  subst z
  rcases he with r | r
  ·exact hx b n r
  ·rw[n]at r;cases r
 have hm:∀b u,H b=some u->¬Mut (some u)->b≠x:=fun b u q nm z=>by subst z;rw[q]at mu;exact nm mu
 refine⟨fun b u q n _ _=>k b u (hb b n) q,fun b u q n _ _=>⟨u.slots,k b u (hb b n) q⟩,fun b u q n _=>by rw[upd_ne (hx b n)];exact n,fun b u q _=>?_,
  fun b xs q=>by rw[upd_ne (hm b _ q fun z=>z)];exact q,fun b u xs q=>by rw[upd_ne (hm b _ q fun z=>z)];exact q,fun b ps q=>⟨#[],by rw[upd_ne (hm b _ q fun z=>z),q];simp⟩⟩
 by_cases hbe:b=e
 ·subst hbe;exact heo
 ·exact⟨u,k b u hbe q⟩
end
def trk(h:Heap)(H:Hp):List Addr:=(List.range h.objs.size).filter fun a=>(H a).isSome
def hidT(h:Heap)(H:Hp):Heap:=W.hideAll h (trk h H)
theorem hidT_size(h:Heap)(H:Hp):(hidT h H).objs.size=h.objs.size:=W.hideAll_size _ _
theorem hidT_get{h:Heap}{H:Hp}{b:Addr}{o:Obj}(e:h.get? b=some o)(n:H b=none):(hidT h H).get? b=some o :=
 W.hideAll_get _ e fun hm=>by
  have q:(H b).isSome=true:=(List.mem_filter.mp hm).2
  rw[n]at q;simp at q
theorem of_hidT{h:Heap}{H:Hp}{b:Addr}{o:Obj}(e:(hidT h H).get? b=some o):h.get? b=some o/\H b=none:=by
 have e':h.get? b=some o:=W.of_hideAll (trk h H) e
 refine⟨e',?_⟩
 cases q:H b with
 |none=>rfl
 |some x =>
  have hm:b∈trk h H:=List.mem_filter.mpr ⟨List.mem_range.mpr (Heap.lt_size e'),by simp[q]⟩
  have z:(hidT h H).get? b=none:=W.hideAll_none (trk h H) hm
  rw[z]at e;cases e
def allNews(g h:Heap)(L:Addr):List (Addr×Obj):=(List.range h.objs.size).filterMap fun a=>if a=L∨(g.get? a).isSome=true then none else(h.get? a).map fun o=>(a,o)
def rest(g h:Heap)(L d:Addr):List (Addr×Obj):=(allNews g h L).filter fun p=>decide (p.1≠d)
structure Mod(K:W.Frag)(mg:Str->Option Value)(base:Heap):Prop where
 kin:K.In base
 glob:base.Ns mainGlobals mg
 blt:∃mb,base.Ns builtinsNs mb/\∀x:Str,x≠"__name__"->mb x=bootBuiltins x
 nolimit:base.NoLimit
structure Cx where
 prog:Program
 w:World
 K:W.Frag
 mg:Str->Option Value
 base:Heap
 A:Around
 N:List Str
 s₀:Shared
 H₀:Hp
 env:Env
 outer:List Env
 stack:List Env
 ex:List Addr
 fn:Str->Bool
 calm:Bool
 pn:List (Addr×Obj)
 xe:Value->Shared->Prop
def frs(l:List Env):List Addr:=l.filterMap (·.frame)
abbrev Cx.fs(X:Cx):List Addr:=frs X.outer
def Vis(sc:Scope)(x:Str):Prop:=sc.names.lookup x=some .local∨sc.names.lookup x=some .cell∨sc.names.lookup x=some .free
def Loc(sc:Scope)(x:Str):Prop:=sc.names.lookup x=some .local∨sc.names.lookup x=some .cell
def Look(env:Env)(h:Heap)(m:Str->Option Value)(x:Str)(u:Value):Prop :=
 (env.kindOf x=some .local/\m x=some u)∨((env.kindOf x=some .cell∨env.kindOf x=some .free)/\∃c,env.cells.lookup x=some c/\h.IsCell c (some u))
structure Cx.Ok(X:Cx):Prop where
 mod:Mod X.K X.mg X.base
 kind:X.env.scope.kind=.function
 glob:X.env.globals=mainGlobals
 blt:X.env.builtins=builtinsNs
 above:X.s₀.heap.objs.size<=X.env.locals
 inj:∀x y c,X.env.cells.lookup x=some c->X.env.cells.lookup y=some c->x=y
 has:∀x,(X.env.kindOf x=some .cell∨X.env.kindOf x=some .free)->∃c,X.env.cells.lookup x=some c
 cab:∀x c,X.fn x=true->X.env.cells.lookup x=some c->X.s₀.heap.objs.size<=c
 hd:X.calm=true->X.A.handled=none
 frames:X.A.frames=some X.stack
 stk:X.stack=X.outer∨(X.stack=X.env::X.outer/\X.env.frame=some X.env.locals)
 exf:∀b∈X.ex,b≠X.env.locals/\∀x c,X.env.cells.lookup x=some c->c≠b
 bs:∀b o,X.base.get? b=some o->X.s₀.heap.get? b=some o/\X.H₀ b=none
 bsz:X.base.objs.size<=X.s₀.heap.objs.size
 noex:∀b o,X.base.get? b=some o->b∉X.ex
 exfs:∀b∈X.ex,b∉X.fs
 funs:X.s₀.heap.FunFrames X.base X.outer
 frf:∀b∈X.fs,X.H₀ b=none
structure Inv(X:Cx)(pins:List (Addr×Obj))(σ:List (Option V))(H:Hp)(s:Shared):Prop where
 ok:X.Ok
 os:s.os=X.s₀.os
 bare:AllBare s.gens
 base:Un X.fs X.ex X.H₀ H X.s₀.heap s.heap
 loc:∃m,s.heap.Ns X.env.locals m/\∀(i:Nat) (x:Str) (v:V),X.N[i]? = some x->σ[i]? = some (some v)->Vis X.env.scope x->∃u,RelV v u/\Look X.env s.heap m x u
 cell:∀x c,X.env.cells.lookup x=some c->∃v,s.heap.IsCell c v
 free:H X.env.locals=none
 freeC:∀x c,X.env.cells.lookup x=some c->H c=none
 pin:∀p∈X.pn++pins,s.heap.get? p.1=some p.2/\H p.1=none/\p.1≠X.env.locals/\p.1∉X.fs/\∀v,p.2.data≠.cell v
 hok:HOk X.prog X.w H s.heap
 len:σ.length=X.N.length
section
variable{X:Cx}{pins:List (Addr×Obj)}{σ:List (Option V)}{H H':Hp}{s:Shared}{h':Heap}
theorem Cx.Ok.nofr(ok:X.Ok){b:Addr}{o:Obj}(e:X.base.get? b=some o):b∉X.fs:=fun hb=>by
 have:=(ok.funs.mem hb).1
 rw[e]at this;cases this
theorem Inv.bs(I:Inv X pins σ H s):∀b o,X.base.get? b=some o->s.heap.get? b=some o/\H b=none:=fun b o e =>
 ⟨I.base.keep b o (I.ok.bs b o e).1 (I.ok.bs b o e).2 (I.ok.nofr e) (I.ok.noex b o e),I.base.free b o (I.ok.bs b o e).1 (I.ok.bs b o e).2 (I.ok.noex b o e)⟩
theorem Inv.bk(I:Inv X pins σ H s):∀b o,X.base.get? b=some o->s.heap.get? b=some o:=fun b o e=>(I.bs b o e).1
theorem Inv.mod(I:Inv X pins σ H s):Mod X.K X.mg X.base:=I.ok.mod
theorem Inv.kIn(I:Inv X pins σ H s):X.K.In s.heap:=I.ok.mod.kin.keeps I.bk
theorem Inv.fr(I:Inv X pins σ H s):∃m,Fr X.base X.env.locals s.heap m :=
 let⟨m,hn,_⟩:=I.loc
 ⟨m,hn,I.bk,Nat.le_trans I.ok.bsz I.ok.above⟩
theorem Inv.lt(I:Inv X pins σ H s):X.env.locals<s.heap.objs.size:=let⟨_,hn,_⟩:=I.loc;hn.lt
theorem Inv.sz(I:Inv X pins σ H s):X.s₀.heap.objs.size<=s.heap.objs.size:=Nat.le_trans I.ok.above (Nat.le_of_lt I.lt)
theorem Inv.nofs(I:Inv X pins σ H s){a:Addr}(h:s.heap.objs.size<=a):a∉X.fs:=fun hb=>by
 obtain⟨_,o,ho,_⟩:=I.ok.funs.mem hb
 exact absurd (Nat.lt_of_lt_of_le (Heap.lt_size ho) (Nat.le_trans I.sz h)) (Nat.lt_irrefl _)
theorem Inv.cne(I:Inv X pins σ H s):∀x c,X.env.cells.lookup x=some c->c≠X.env.locals:=fun x c e z=>by
 obtain⟨v,o,ho,hd⟩:=I.cell x c e
 obtain⟨m,⟨o',es,ep,ho',hd',_⟩,_⟩:=I.loc
 rw[z,ho']at ho;cases ho;rw[hd']at hd;cases hd
theorem Inv.funs(I:Inv X pins σ H s):s.heap.FunFrames X.base X.outer:=by
 have all:∀(l:List Env),(∀b∈frs l,b∈X.fs)->X.s₀.heap.FunFrames X.base l->s.heap.FunFrames X.base l:=by
  intro l
  induction l with
  |nil=>intro _ _;trivial
  |cons env r ih =>
   intro hs hl
   obtain⟨hk,⟨L,o,hf,hn,ho,hd⟩,hr⟩:=hl
   have hL:L∈X.fs:=hs L (by unfold frs;rw[List.filterMap_cons,hf];exact List.mem_cons_self)
   obtain⟨sl,e⟩:=I.base.slot L o ho (I.ok.frf L hL) hL fun z=>I.ok.exfs L z hL
   exact⟨hk,⟨L,_,hf,hn,e,hd⟩,ih (fun b hb=>hs b (by unfold frs;rw[List.filterMap_cons,hf];exact List.mem_cons_of_mem _ hb)) hr⟩
 exact all X.outer (fun _ hb=>hb) I.ok.funs
theorem Inv.stack(I:Inv X pins σ H s):s.heap.FunFrames X.base X.stack:=by
 rcases I.ok.stk with e | ⟨e,hf⟩
 ·rw[e];exact I.funs
 ·rw[e]
  obtain⟨m,hn,_⟩:=I.loc
  refine .cons (by rw[I.ok.kind];decide) hf hn ?_ I.funs
  exact Heap.get?_none_of_le (Nat.le_trans I.ok.bsz I.ok.above)
theorem Inv.stkSub(I:Inv X pins σ H s):∀b∈frs X.stack,b∈X.env.locals::X.fs:=fun b hb=>by
 rcases I.ok.stk with e | ⟨e,hf⟩
 ·rw[e]at hb;exact List.mem_cons_of_mem _ hb
 ·rw[e]at hb
  unfold frs at hb
  rw[List.filterMap_cons,hf]at hb
  exact hb
theorem Inv.stkFree(I:Inv X pins σ H s):∀b∈frs X.stack,H b=none:=fun b hb=>by
 rcases List.mem_cons.mp (I.stkSub b hb) with e | hb
 ·rw[e];exact I.free
 ·obtain⟨_,o,ho,_⟩:=I.ok.funs.mem hb
  exact I.base.free b o ho (I.ok.frf b hb) fun z=>I.ok.exfs b z hb
theorem Inv.step{g':Array GenState}{t':Nat}{d':Drawn}{ch:List Addr}(I:Inv X pins σ H s)
  (hch:∀b∈ch,(b∈X.ex∨X.s₀.heap.objs.size<=b)/\b≠X.env.locals/\(∀x c,X.env.cells.lookup x=some c->c≠b)/\∀p∈X.pn++pins,p.1≠b)
  (keep:∀b o,b≠X.env.locals->b∉X.fs->b∉ch->s.heap.get? b=some o->H b=none->h'.get? b=some o)
  (slot:∀b o,b≠X.env.locals->b∈X.fs->b∉ch->s.heap.get? b=some o->H b=none->∃sl,h'.get? b=some { o with slots:=sl }) (free:∀b o,b∉ch->s.heap.get? b=some o->H b=none->H' b=none)
  (there:∀b o,b∉ch->s.heap.get? b=some o->∃o',h'.get? b=some o')
  (tups:∀b xs,H b=some (.tup xs)->H' b=some (.tup xs)) (frzs:∀b o u,H b=some (.frz o u)->H' b=some (.frz o u)) (tbls:∀b ps,H b=some (.tbl ps)->∃more,H' b=some (.tbl (ps++more)))
  (ns:∀m,s.heap.Ns X.env.locals m->h'.Ns X.env.locals m) (hok:HOk X.prog X.w H' h') (hg:AllBare g') :
  Inv X pins σ H' { s with heap:=h',gens:=g',drawn:=d',toks:=t' }:=by
 have neL:∀b o,X.s₀.heap.get? b=some o->b≠X.env.locals:=fun b o e=>Nat.ne_of_lt (Nat.lt_of_lt_of_le (Heap.lt_size e) I.ok.above)
 have neC:∀b o,X.s₀.heap.get? b=some o->b∉X.ex->b∉ch:=fun b o e hx hb=>by
  rcases(hch b hb).1 with z | z
  ·exact hx z
  ·exact absurd (Nat.lt_of_lt_of_le (Heap.lt_size e) z) (Nat.lt_irrefl _)
 have cellK:∀x c,X.env.cells.lookup x=some c->∀v,s.heap.IsCell c v->h'.IsCell c v:=fun x c e v ⟨o,ho,hd⟩=>by
  have nch:c∉ch:=fun z=>(hch c z).2.2.1 x c e rfl
  by_cases hc:c∈X.fs
  ·obtain⟨sl,q⟩:=slot c o (I.cne x c e) hc nch ho (I.freeC x c e)
   exact⟨_,q,hd⟩
  ·exact⟨o,keep c o (I.cne x c e) hc nch ho (I.freeC x c e),hd⟩
 refine⟨I.ok,I.os,hg,⟨fun b o e n hb hx=>?_,fun b o e n hb hx=>?_,fun b o e n hx=>?_,fun b o e hx=>?_,fun b xs e=>tups b xs (I.base.tups b xs e),fun b o xs e=>frzs b o xs (I.base.frzs b o xs e),fun b ps e=>?_⟩,?_,fun x c e=>?_,?_,fun x c e=>?_,fun p hp=>?_,hok,I.len⟩
 ·exact keep b o (neL b o e) hb (neC b o e hx) (I.base.keep b o e n hb hx) (I.base.free b o e n hx)
 ·obtain⟨sl,e1⟩:=I.base.slot b o e n hb hx
  obtain⟨sl',e2⟩:=slot b _ (neL b o e) hb (neC b o e hx) e1 (I.base.free b o e n hx)
  exact⟨sl',e2⟩
 ·obtain⟨o',e1⟩:=I.base.there b o e hx
  exact free b o' (neC b o e hx) e1 (I.base.free b o e n hx)
 ·obtain⟨o',e1⟩:=I.base.there b o e hx
  exact there b o' (neC b o e hx) e1
 ·obtain⟨m1,e1⟩:=I.base.tbls b ps e
  obtain⟨m2,e2⟩:=tbls b _ e1
  exact⟨m1++m2,by rw[e2,Array.append_assoc]⟩
 ·obtain⟨m,hn,hl⟩:=I.loc
  refine⟨m,ns m hn,fun i x v e1 e2 e3=>?_⟩
  obtain⟨u,r,l⟩:=hl i x v e1 e2 e3
  refine⟨u,r,?_⟩
  rcases l with l | ⟨k,c,e,z⟩
  ·exact .inl l
  ·exact .inr ⟨k,c,e,cellK x c e _ z⟩
 ·obtain⟨v,z⟩:=I.cell x c e
  exact⟨v,cellK x c e v z⟩
 ·obtain⟨m,⟨o,_,_,ho,_⟩,_⟩:=I.loc
  exact free _ o (fun z=>(hch _ z).2.1 rfl) ho I.free
 ·obtain⟨v,o,ho,hd⟩:=I.cell x c e
  exact free c o (fun z=>(hch c z).2.2.1 x c e rfl) ho (I.freeC x c e)
 ·obtain⟨e,n,ne,nf,d⟩:=I.pin p hp
  have nch:p.1∉ch:=fun z=>(hch p.1 z).2.2.2 p hp rfl
  exact⟨keep p.1 p.2 ne nf nch e n,free p.1 p.2 nch e n,ne,nf,d⟩
theorem Inv.un{t':Nat}(I:Inv X pins σ H s)(u:Un X.fs [] H H' s.heap h')(hok:HOk X.prog X.w H' h'):Inv X pins σ H' { s with heap:=h',toks:=t' }:=by
 obtain⟨m,⟨o,es,ep,ho,r⟩,_⟩:=id I.loc
 obtain⟨sl,hL⟩:=u.any ho I.free (by simp)
 exact I.step (g':=s.gens) (d':=s.drawn) (ch:=[]) (fun _ z=>nomatch z) (fun b o _ hb _ e n=>u.keep b o e n hb (by simp)) (fun b o _ hb _ e n=>u.slot b o e n hb (by simp)) (fun b o _ e n=>u.free b o e n (by simp)) (fun b o _ e=>u.there b o e (by simp)) u.tups u.frzs u.tbls (fun m' hm=>by
  obtain⟨o',es',ep',ho',r'⟩:=hm
  rw[ho]at ho';cases ho'
  exact⟨_,es',ep',hL,r'⟩) hok I.bare
theorem Inv.call{g':Array GenState}{t':Nat}{d':Drawn}{ch:List Addr}(I:Inv X pins σ H s)(u:Un (frs X.stack) ch H H' s.heap h')(hok:HOk X.prog X.w H' h')(hg:AllBare g')
  (hch:∀b∈ch,(b∈X.ex∨X.s₀.heap.objs.size<=b)/\b≠X.env.locals/\(∀x c,X.env.cells.lookup x=some c->c≠b)/\∀p∈X.pn++pins,p.1≠b) :
  Inv X pins σ H' { s with heap:=h',gens:=g',drawn:=d',toks:=t' }:=by
 obtain⟨m,⟨o,es,ep,ho,r⟩,_⟩:=id I.loc
 obtain⟨sl,hL⟩:=u.any ho I.free fun z=>(hch _ z).2.1 rfl
 exact I.step (ch:=ch) hch (fun b o hL hb hc e n=>u.keep b o e n (fun z=>(List.mem_cons.mp (I.stkSub b z)).elim hL hb) hc) (fun b o _ _ hc e n=>u.any e n hc) (fun b o hc e n=>u.free b o e n hc) (fun b o hc e=>u.there b o e hc) u.tups u.frzs u.tbls (fun m' hm=>by
  obtain⟨o',es',ep',ho',r'⟩:=hm
  rw[ho]at ho';cases ho'
  exact⟨_,es',ep',hL,r'⟩) hok hg
theorem Inv.turned{t':Nat}{it:Addr}(I:Inv X pins σ H s)(k:∀b o,b≠it->s.heap.get? b=some o->h'.get? b=some o)(hn:H it=none)(hL:it≠X.env.locals)
  (h1:it∈X.ex∨X.s₀.heap.objs.size<=it) (h2:∀x c,X.env.cells.lookup x=some c->c≠it) (h3:∀p∈X.pn++pins,p.1≠it):Inv X pins σ H { s with heap:=h',toks:=t' }:=by
 have nit:∀b u,H b=some u->b≠it:=fun b u e z=>by rw[z,hn]at e;cases e
 refine I.step (g':=s.gens) (d':=s.drawn) (ch:=[it]) (fun b hb=>?_) (fun b o _ _ hc e _=>k b o (fun z=>hc (by simp[z])) e) (fun b o _ _ hc e _=>⟨o.slots,k b o (fun z=>hc (by simp[z])) e⟩) (fun _ _ _ _ n=>n)
  (fun b o hc e=>⟨o,k b o (fun z=>hc (by simp[z])) e⟩) (fun _ _ e=>e) (fun _ _ _ e=>e) (fun b ps e=>⟨#[],by rw[e];simp⟩) (fun m hm=>?_) (fun b u e=>?_) I.bare
 ·have e:b=it:=by simpa using hb
  subst e
  exact⟨h1,hL,h2,h3⟩
 ·obtain⟨o,es,ep,ho,r⟩:=hm
  exact⟨o,es,ep,k _ o (Ne.symm hL) ho,r⟩
 ·refine(I.hok b u e).stay (fun c v hc q=>k c v ?_ q) (fun _ q=>q) fun _ _ q=>q
  rcases hc with z | z
  ·rw[z];exact nit b u e
  ·exact nit c _ z
theorem Inv.tok(I:Inv X pins σ H s)(t:Nat):Inv X pins σ H { s with toks:=t }:=I.un (h':=s.heap) (t':=t) Un.refl I.hok
theorem Inv.kept{t':Nat}(I:Inv X pins σ H s)(k:∀b u,s.heap.get? b=some u->h'.get? b=some u):Inv X pins σ H { s with heap:=h',toks:=t' }:=I.un (Un.kept k) (I.hok.kept k)
theorem Inv.laid{a:Addr}{o:HO}{t':Nat}(I:Inv X pins σ H s)(k:∀b u,s.heap.get? b=some u->h'.get? b=some u)(hp:s.heap.objs.size<=a)(new:ObjOk X.prog X.w (upd H a o) h' a o) :
  Inv X pins σ (upd H a o) { s with heap:=h',toks:=t' }:=I.un (Un.laid k hp (I.hok.fresh hp)) (I.hok.laid k hp new)
theorem Inv.write{x e:Addr}{o:HO}{t':Nat}(I:Inv X pins σ H s)(mu:Mut (H x))(he:e=x∨H e=some (.own x))(k:∀b u,b≠e->s.heap.get? b=some u->h'.get? b=some u)(heo:∃u,h'.get? e=some u)
  (new:ObjOk X.prog X.w (upd H x o) h' x o):Inv X pins σ (upd H x o) { s with heap:=h',toks:=t' }:=I.un (Un.write mu he k heo) (I.hok.write mu he k heo new)
theorem Inv.weak{σ':List (Option V)}(I:Inv X pins σ H s)(hl:σ'.length=σ.length)(w:∀(i:Nat) v,σ'[i]? = some (some v)->σ[i]? = some (some v)):Inv X pins σ' H s :=
 ⟨I.ok,I.os,I.bare,I.base,let⟨m,hn,hl'⟩:=I.loc;⟨m,hn,fun i x v e1 e2 e3=>hl' i x v e1 (w i v e2) e3⟩,I.cell,I.free,I.freeC,I.pin,I.hok,hl.trans I.len⟩
theorem Inv.pins_of{pins':List (Addr×Obj)}(I:Inv X pins σ H s)(h:∀p∈pins',s.heap.get? p.1=some p.2/\H p.1=none/\p.1≠X.env.locals/\p.1∉X.fs/\∀v,p.2.data≠.cell v):Inv X pins' σ H s :=
 ⟨I.ok,I.os,I.bare,I.base,I.loc,I.cell,I.free,I.freeC,fun p hp=>(List.mem_append.mp hp).elim (fun z=>I.pin p (List.mem_append_left _ z)) (h p),I.hok,I.len⟩
theorem nodup_ix{N:List Str}(hN:N.Nodup){i j:Nat}{x:Str}(a:N[i]? = some x)(b:N[j]? = some x):i=j:=by
 obtain⟨h1,e1⟩:=List.getElem?_eq_some_iff.mp a
 obtain⟨h2,e2⟩:=List.getElem?_eq_some_iff.mp b
 exact(List.getElem_inj hN).mp (e1.trans e2.symm)
theorem store_ok2{M:Model}{A:Around}{E:Value->Shared->Prop}{i:Nat}{x:Str}{v:V}{u:Value}{Q:Unit->Shared->Prop}(I:Inv X pins σ H s)(hN:X.N.Nodup)(hi:X.N[i]? = some x)(hx:Loc X.env.scope x)(r:RelV v u)
  (h:∀s',Inv X pins (σ.set i (some v)) H s'->(∃a,Heap.SameBut a s.heap s'.heap/\(a=X.env.locals∨X.env.cells.lookup x=some a))->Q () s') (hf:X.fn x=true∨X.env.scope.names.lookup x=some .local:=by first | exact .inl rfl | exact .inr rfl | assumption):wpAny M A (storeName X.env x u) Q E s:=by
 obtain⟨m,hn,hl⟩:=id I.loc
 have hcls:(X.env.scope.kind==.class||(X.env.scope.kind==.module&&X.env.locals != X.env.globals))=false:=by rw[I.ok.kind];rfl
 have hiσ:i<σ.length:=by rw[I.len];exact(List.getElem?_eq_some_iff.mp hi).1
 have cne:=I.cne
 have tracked:∀ {a:Addr} {h':Heap},(∃o,s.heap.get? a=some o/\H a=none)->Heap.SameBut a s.heap h'->HOk X.prog X.w H h':=fun{a h'} ha hs b ob e=>by
  obtain⟨_,_,hfree⟩:=ha
  refine(I.hok b ob e).stay (fun c w' hc q=>(hs.2 c ?_).trans q) (fun _ q=>q) fun _ _ q=>q
  rintro rfl
  rcases hc with rfl | hc
  ·rw[hfree]at e;cases e
  ·rw[hfree]at hc;cases hc
 rcases hx with hk | hk
 ·refine wpAny_storeName_local hk hn (fun h' hn' hs=>?_) hcls
  obtain⟨oL,_,_,hoL,_⟩:=id hn
  refine h _ ⟨I.ok,I.os,I.bare,⟨fun b o e n hb hx=>?_,fun b o e n hb hx=>?_,I.base.free,fun b o e hx=>?_,I.base.tups,I.base.frzs,I.base.tbls⟩,⟨_,hn',fun j y v' e1 e2 e3=>?_⟩,fun y c e=>?_,I.free,I.freeC,fun p hp=>?_,tracked ⟨oL,hoL,I.free⟩ hs,by simpa using I.len⟩ ⟨_,hs,.inl rfl⟩
  ·exact(hs.2 b (Nat.ne_of_lt (Nat.lt_of_lt_of_le (Heap.lt_size e) I.ok.above))).trans (I.base.keep b o e n hb hx)
  ·obtain⟨sl,e1⟩:=I.base.slot b o e n hb hx
   exact⟨sl,(hs.2 b (Nat.ne_of_lt (Nat.lt_of_lt_of_le (Heap.lt_size e) I.ok.above))).trans e1⟩
  ·obtain⟨o',e1⟩:=I.base.there b o e hx
   exact⟨o',(hs.2 b (Nat.ne_of_lt (Nat.lt_of_lt_of_le (Heap.lt_size e) I.ok.above))).trans e1⟩
  ·by_cases hj:j=i
   ·subst hj
    rw[hi]at e1;cases e1
    rw[List.getElem?_set_self hiσ]at e2
    cases e2
    exact⟨u,r,.inl ⟨hk,by simp⟩⟩
   ·rw[List.getElem?_set_ne (Ne.symm hj)]at e2
    obtain⟨u',r',q⟩:=hl j y v' e1 e2 e3
    refine⟨u',r',?_⟩
    rcases q with⟨k,e⟩ | ⟨k,c,e,z⟩
    ·refine .inl ⟨k,?_⟩
     have:y≠x:=fun e=>hj (nodup_ix hN e1 (e ▸ hi))
     simp[this,e]
    ·exact .inr ⟨k,c,e,z.sameBut hs (cne y c e)⟩
  ·obtain⟨w',z⟩:=I.cell y c e
   exact⟨w',z.sameBut hs (cne y c e)⟩
  ·obtain⟨e,n,ne,nf,d⟩:=I.pin p hp
   exact⟨(hs.2 p.1 ne).trans e,n,ne,nf,d⟩
 ·have hfn:X.fn x=true:=by
   rcases hf with z | z
   ·exact z
   ·rw[z]at hk;cases hk
  obtain⟨c,hc⟩:=I.ok.has x (.inl hk)
  obtain⟨w',z⟩:=I.cell x c hc
  refine wpAny_storeName_cell I.ok.kind hk hc z (fun h' hc' hs=>?_)
  obtain⟨oc,hoc,hocd⟩:=id z
  refine h { s with heap:=h' } ⟨I.ok,I.os,I.bare,⟨fun b o e n hb hx=>?_,fun b o e n hb hx=>?_,I.base.free,fun b o e hx=>?_,I.base.tups,I.base.frzs,I.base.tbls⟩,⟨m,hn.sameBut hs (Ne.symm (cne x c hc)),fun j y v' e1 e2 e3=>?_⟩,fun y c' e=>?_,I.free,I.freeC,fun p hp=>?_,tracked ⟨oc,hoc,I.freeC x c hc⟩ hs,by simpa using I.len⟩ ⟨c,hs,.inr hc⟩
  ·exact(hs.2 b (Nat.ne_of_lt (Nat.lt_of_lt_of_le (Heap.lt_size e) (I.ok.cab x c hfn hc)))).trans (I.base.keep b o e n hb hx)
  ·obtain⟨sl,e1⟩:=I.base.slot b o e n hb hx
   exact⟨sl,(hs.2 b (Nat.ne_of_lt (Nat.lt_of_lt_of_le (Heap.lt_size e) (I.ok.cab x c hfn hc)))).trans e1⟩
  ·obtain⟨o',e1⟩:=I.base.there b o e hx
   exact⟨o',(hs.2 b (Nat.ne_of_lt (Nat.lt_of_lt_of_le (Heap.lt_size e) (I.ok.cab x c hfn hc)))).trans e1⟩
  ·by_cases hj:j=i
   ·subst hj
    rw[hi]at e1;cases e1
    rw[List.getElem?_set_self hiσ]at e2
    cases e2
    exact⟨u,r,.inr ⟨.inl hk,c,hc,hc'⟩⟩
   ·rw[List.getElem?_set_ne (Ne.symm hj)]at e2
    obtain⟨u',r',q⟩:=hl j y v' e1 e2 e3
    refine⟨u',r',?_⟩
    rcases q with q | ⟨k,c',e,z'⟩
    ·exact .inl q
    ·refine .inr ⟨k,c',e,z'.sameBut hs ?_⟩
     rintro rfl
     exact hj (nodup_ix hN e1 (I.ok.inj _ _ _ e hc ▸ hi))
  ·by_cases hcc:c'=c
   ·subst hcc;exact⟨_,hc'⟩
   ·obtain⟨w2,z2⟩:=I.cell y c' e
    exact⟨w2,z2.sameBut hs hcc⟩
  ·obtain⟨e,n,ne,nf,d⟩:=I.pin p hp
   refine⟨(hs.2 p.1 ?_).trans e,n,ne,nf,d⟩
   intro q
   rw[q,hoc]at e
   have q':oc=p.2:=Option.some.inj e
   exact d w' (by rw[← q'];exact hocd)
theorem store_ok{M:Model}{A:Around}{E:Value->Shared->Prop}{i:Nat}{x:Str}{v:V}{u:Value}{Q:Unit->Shared->Prop}(I:Inv X pins σ H s)(hN:X.N.Nodup)(hi:X.N[i]? = some x)(hx:Loc X.env.scope x)(r:RelV v u)
  (h:∀s',Inv X pins (σ.set i (some v)) H s'->Q () s') (hf:X.fn x=true∨X.env.scope.names.lookup x=some .local:=by first | exact .inl rfl | exact .inr rfl | assumption):wpAny M A (storeName X.env x u) Q E s :=
 store_ok2 I hN hi hx r (fun s' I' _=>h s' I') hf
theorem Inv.call'{s':Shared}{ch:List Addr}(I:Inv X pins σ H s)(ho:s'.os=s.os)(u:Un (frs X.stack) ch H H' s.heap s'.heap)(hok:HOk X.prog X.w H' s'.heap)(hg:AllBare s'.gens)
  (hch:∀b∈ch,(b∈X.ex∨X.s₀.heap.objs.size<=b)/\b≠X.env.locals/\(∀x c,X.env.cells.lookup x=some c->c≠b)/\∀p∈X.pn++pins,p.1≠b):Inv X pins σ H' s':=by
 obtain⟨h',g',d',t',o'⟩:=s'
 have e:o'=s.os:=ho
 subst e
 exact I.call (g':=g') (t':=t') (d':=d') u hok hg hch
end
abbrev XK:=Value->Option Addr->Hp->Prop
abbrev St:=List (Option V)
abbrev VK:=V->Hp->Prop
abbrev TE:=St->Hp->VK->Prop
abbrev TT:=St->Hp->(Bool->Hp->Prop)->Prop
abbrev TA:=St->Hp->(List V->Hp->Prop)->Prop
structure Ends where
 nx:St->Hp->Prop
 rt:VK
 bk:St->Hp->Prop:=fun _ _=>False
 ct:St->Hp->Prop:=fun _ _=>False
abbrev TS:=Ends->St->Hp->Prop
def EP(X:Cx)(pins:List (Addr×Obj))(σ:St)(Q:VK)(u:Value)(s':Shared):Prop:=∃v H',Inv X pins σ H' s'/\RelV v u/\Q v H'
def TP(X:Cx)(pins:List (Addr×Obj))(σ:St)(Q:Bool->Hp->Prop)(b:Bool)(s':Shared):Prop:=∃H',Inv X pins σ H' s'/\Q b H'
def AP(X:Cx)(pins:List (Addr×Obj))(σ:St)(Q:List V->Hp->Prop)(us:List Value)(s':Shared):Prop:=∃vs H',Inv X pins σ H' s'/\Vals vs us/\Q vs H'
def SP(X:Cx)(pins:List (Addr×Obj))(D:Ends)(f:Flow)(s':Shared):Prop :=
 match f with
 |.next=>∃σ' H',Inv X pins σ' H' s'/\D.nx σ' H'
 |.brk=>∃σ' H',Inv X pins σ' H' s'/\D.bk σ' H'
 |.cont=>∃σ' H',Inv X pins σ' H' s'/\D.ct σ' H'
 |.ret u=>∃v σ' H',Inv X pins σ' H' s'/\RelV v u/\D.rt v H'
def PE(X:Cx)(e:Expr)(t:TE):Prop :=
 ∀(pins:List (Addr×Obj)) (s:Shared) (σ:St) (H:Hp) (Q:VK),Inv X pins σ H s->t σ H Q->wpAny (model X.prog X.w) X.A (eval e X.env) (EP X pins σ Q) X.xe s
def PT(X:Cx)(e:Expr)(t:TT):Prop :=
 ∀(pins:List (Addr×Obj)) (s:Shared) (σ:St) (H:Hp) (Q:Bool->Hp->Prop),Inv X pins σ H s->t σ H Q->wpAny (model X.prog X.w) X.A (isTrue e X.env (eval e X.env)) (TP X pins σ Q) X.xe s
def PW(X:Cx)(e:Expr)(t:TT):Prop :=
 ∀(whole:Sem Value) (pins:List (Addr×Obj)) (s:Shared) (σ:St) (H:Hp) (Q:Bool->Hp->Prop),Inv X pins σ H s->t σ H Q->wpAny (model X.prog X.w) X.A (isTrue e X.env whole) (TP X pins σ Q) X.xe s
theorem PW.pt{X:Cx}{e:Expr}{t:TT}(h:PW X e t):PT X e t:=h _
def PA(X:Cx)(es:List Expr)(t:TA):Prop :=
 ∀(pos:Pos) (pins:List (Addr×Obj)) (s:Shared) (σ:St) (H:Hp) (Q:List V->Hp->Prop),Inv X pins σ H s->t σ H Q->wpAny (model X.prog X.w) X.A (spliced (backTo pos (starEach es X.env))) (AP X pins σ Q) X.xe s
def PS(X:Cx)(st:Stmt)(t:TS):Prop :=
 ∀(pins:List (Addr×Obj)) (s:Shared) (σ:St) (H:Hp) (D:Ends),Inv X pins σ H s->t D σ H->wpAny (model X.prog X.w) X.A (exec st X.env) (SP X pins D) X.xe s
def PSs(X:Cx)(st:List Stmt)(t:TS):Prop :=
 ∀(pins:List (Addr×Obj)) (s:Shared) (σ:St) (H:Hp) (D:Ends),Inv X pins σ H s->t D σ H->wpAny (model X.prog X.w) X.A (execs st X.env) (SP X pins D) X.xe s
theorem thn{α:Type}{t:Sem α}{Q Q':α->Shared->Prop}{M:Model}{A:Around}{E:Value->Shared->Prop}{s:Shared}(h:wpAny M A t Q E s)(hQ:∀a s,Q a s->Q' a s):wpAny M A t Q' E s:=wpAny_mono h hQ fun _ _ x=>x
section
variable{X:Cx}
theorem bin{a b:Expr}{ta tb:TE}(ha:PE X a ta)(hb:PE X b tb){pins:List (Addr×Obj)}{s:Shared}{σ:St}{H:Hp}{R:V->V->Hp->Prop}(I:Inv X pins σ H s)(h:ta σ H fun x H1=>tb σ H1 fun y H2=>R x y H2)
  {α:Type} {Q:α->Shared->Prop} {f:Value->Value->Sem α}
  (hf:∀v u s2 x y H2,Inv X pins σ H2 s2->RelV x v->RelV y u->R x y H2->wpAny (model X.prog X.w) X.A (f v u) Q X.xe s2) :
  wpAny (model X.prog X.w) X.A (eval a X.env) (fun v s₁=>wpAny (model X.prog X.w) X.A (eval b X.env) (fun u s₂=>wpAny (model X.prog X.w) X.A (f v u) Q X.xe s₂) X.xe s₁) X.xe s:=by
 refine thn (ha pins s σ H _ I h) fun v s1 ⟨x,H1,I1,r1,q1⟩=>?_
 refine thn (hb pins s1 σ H1 _ I1 q1) fun u s2 ⟨y,H2,I2,r2,q2⟩=>?_
 exact hf v u s2 x y H2 I2 r1 r2 q2
def tVar(i:Nat):TE:=fun σ H Q=>∃v,σ[i]? = some (some v)/\Q v H
def tC(v:V):TE:=fun _ H Q=>Q v H
theorem pe_var{i:Nat}{x:Str}{pos:Pos}(hN:X.N[i]? = some x)(hv:Vis X.env.scope x)(hd:(x==("__debug__":Str))=false:=by decide)(hcd:(x==("__classdict__":Str))=false:=by decide):PE X (.Name x pos) (tVar i):=by
 intro pins s σ H Q I h
 obtain⟨v,e,h⟩:=h
 obtain⟨m,hn,hl⟩:=I.loc
 obtain⟨u,r,l⟩:=hl i x v hN e hv
 have fin:EP X pins σ Q u s:=⟨v,H,I,r,h⟩
 rcases l with⟨hk,hm⟩ | ⟨hk,c,hc,hcell⟩
 ·exact wpAny_Name (wpAny_loadName_local I.ok.kind hk hn hm fin) hd
 ·rcases hk with hk | hk
  ·exact wpAny_Name (wpAny_loadName_cell I.ok.kind hk hc hcell fin) hd
  ·exact wpAny_Name (wpAny_loadName_free I.ok.kind hk hc hcell fin hcd) hd
theorem pe_int{i j pos}:PE X (.Constant (.int i) j pos) (tC (.int i)):=fun _ _ _ H _ I h=>wpAny_Constant_int ⟨.int i,H,I.tok _,⟨_,rfl⟩,h⟩
theorem pe_bl{b j pos}:PE X (.Constant (.bool b) j pos) (tC (.bl b)):=fun _ _ _ H _ I h=>Constant_bool ⟨.bl b,H,I,rfl,h⟩
theorem pe_non{j pos}:PE X (.Constant .none j pos) (tC .non):=fun _ _ _ H _ I h=>Constant_none ⟨.non,H,I,rfl,h⟩
theorem pe_str{x j pos}:PE X (.Constant (.str x) j pos) (tC (.str x)):=fun _ _ _ H _ I h=>Calls.Constant_str ⟨.str x,H,I.tok _,⟨_,rfl⟩,h⟩
def Gl(X:Cx)(x:Str):Prop:=X.env.kindOf x=some .globalImplicit
theorem ld_glob{E:Value->Shared->Prop}{pins:List (Addr×Obj)}{s:Shared}{σ:St}{H:Hp}{x:Str}{u:Value}{pos:Pos}{Q:Value->Shared->Prop}(I:Inv X pins σ H s)(hg:Gl X x)(hm:X.mg x=some u)(h:Q u s)
  (hd:(x==("__debug__":Str))=false:=by decide):wpAny (model X.prog X.w) X.A (eval (.Name x pos) X.env) Q E s :=
 Calls.Name_function_global I.ok.kind hg (Calls.loadGlobal_global (by rw[I.ok.glob];exact I.mod.glob.keeps I.bk) hm h) hd
theorem ld_blt{E:Value->Shared->Prop}{pins:List (Addr×Obj)}{s:Shared}{σ:St}{H:Hp}{x:Str}{u:Value}{pos:Pos}{Q:Value->Shared->Prop}(I:Inv X pins σ H s)(hg:Gl X x)(hm:X.mg x=none)(hv:bootBuiltins x=some u)(h:Q u s)
  (hn:x≠"__name__":=by decide) (hd:(x==("__debug__":Str))=false:=by decide):wpAny (model X.prog X.w) X.A (eval (.Name x pos) X.env) Q E s:=by
 obtain⟨mb,h1,h2⟩:=I.mod.blt
 exact Calls.Name_function_global I.ok.kind hg (Calls.loadGlobal_builtin (by rw[I.ok.glob];exact I.mod.glob.keeps I.bk) hm (by rw[I.ok.blt];exact h1.keeps I.bk) ((h2 x hn).trans hv) h) hd
theorem pe_glob{x:Str}{v:V}{u:Value}{pos:Pos}(hg:Gl X x)(hm:X.mg x=some u)(r:RelV v u)(hd:(x==("__debug__":Str))=false:=by decide):PE X (.Name x pos) (tC v) :=
 fun _ _ _ H _ I h=>ld_glob I hg hm ⟨v,H,I,r,h⟩ hd
theorem pe_bltn{x:Str}{v:V}{u:Value}{pos:Pos}(hg:Gl X x)(hm:X.mg x=none)(hv:bootBuiltins x=some u)(r:RelV v u)(hn:x≠"__name__":=by decide)(hd:(x==("__debug__":Str))=false:=by decide):PE X (.Name x pos) (tC v) :=
 fun _ _ _ H _ I h=>ld_blt I hg hm hv ⟨v,H,I,r,h⟩ hn hd
variable{a b:Expr}{ta tb:TE}{pos:Pos}
def PC(X:Cx)(op:CmpOp)(a b:Expr)(t:TE):Prop :=
 ∀(pins:List (Addr×Obj)) (s:Shared) (σ:St) (H:Hp) (Q:VK),Inv X pins σ H s->t σ H Q ->
  wpAny (model X.prog X.w) X.A (eval a X.env) (fun v s₁=>wpAny (model X.prog X.w) X.A (eval b X.env) (fun u s₂=>wpAny (model X.prog X.w) X.A (compareOp op v u) (EP X pins σ Q) X.xe s₂) X.xe s₁) X.xe s
theorem nobehind(b:Expr){op:CmpOp}(h:op≠.In)(h2:op≠.NotIn):behindInMarks op b=false:=by
 have e1:(op==CmpOp.In)=false:=by cases op <;> first | rfl | exact absurd rfl h
 have e2:(op==CmpOp.NotIn)=false:=by cases op <;> first | rfl | exact absurd rfl h2
 cases b <;> simp[behindInMarks,e1,e2]
def tIsN(ta:TE):TE:=fun σ H Q=>ta σ H fun x H1=>Q (.bl (decide (x=.non))) H1
def tNotN(ta:TE):TE:=fun σ H Q=>ta σ H fun x H1=>Q (.bl (!decide (x=.non))) H1
theorem RelV.none_iff{x:V}{v:Value}(r:RelV x v):(v==Value.none)=decide (x=.non):=by
 cases x with
 |non=>cases r;rfl
 |bl _=>cases r;rfl
 |int _=>obtain⟨t,rfl⟩:=r;rfl
 |str _=>obtain⟨t,rfl⟩:=r;rfl
 |byt _=>obtain⟨t,rfl⟩:=r;rfl
 |flt _=>obtain⟨t,rfl⟩:=r;rfl
 |ref _=>cases r;rfl
 |ty _=>cases r;rfl
theorem pc_isN{j pos'}(ha:PE X a ta):PC X .Is a (.Constant .none j pos') (tIsN ta):=by
 intro pins s σ H Q I h
 refine thn (ha pins s σ H _ I h) fun v s1 ⟨x,H1,I1,r1,q1⟩=>?_
 exact Constant_none (is_none_gen ⟨.bl _,H1,I1,by rw[r1.none_iff];rfl,q1⟩)
theorem pc_notN{j pos'}(ha:PE X a ta):PC X .IsNot a (.Constant .none j pos') (tNotN ta):=by
 intro pins s σ H Q I h
 refine thn (ha pins s σ H _ I h) fun v s1 ⟨x,H1,I1,r1,q1⟩=>?_
 exact Constant_none (isnot_none_gen ⟨.bl _,H1,I1,by rw[r1.none_iff];rfl,q1⟩)
def tB(t:TE):TT:=fun σ H Q=>t σ H fun x H1=>∃c,x=.bl c/\Q c H1
theorem pt_cmp{op:CmpOp}{t:TE}(h:PC X op a b t)(h1:behindInMarks op b=false:=by first | exact nobehind _ (by decide) (by decide) | rfl):PT X (.Compare a [op] [b] pos) (tB t):=by
 intro pins s σ H Q I hw
 refine wpAny_isTrue_Compare1 (thn (h pins s σ H _ I hw) fun v s1 h1=>thn h1 fun u s2 h2=>thn h2 fun c s3 ⟨x,H1,I1,r1,q1⟩=>?_) h1
 obtain⟨d,rfl,q⟩:=q1
 cases r1
 exact wpAny_truthy_bool ⟨H1,I1,q⟩
theorem pt_val{e:Expr}{t:TE}(h:PE X e t)(he:∀whole,isTrue e X.env whole=(do let v ← whole;standAt e.pos;holding [v] (truthy v)):=by intro _;rfl):PT X e (tB t):=by
 intro pins s σ H Q I hw
 refine isTrue_plain (thn (h pins s σ H _ I hw) fun v s1 ⟨x,H1,I1,r1,q1⟩=>?_) (he _)
 obtain⟨d,rfl,q⟩:=q1
 cases r1
 exact wpAny_truthy_bool ⟨H1,I1,q⟩
variable{tA tB':TT}{rest:List Expr}
def tAnd(t u:TT):TT:=fun σ H Q=>t σ H fun c H1=>if c=true then u σ H1 Q else Q false H1
def tOr(t u:TT):TT:=fun σ H Q=>t σ H fun c H1=>if c=true then Q true H1 else u σ H1 Q
def tNot(t:TT):TT:=fun σ H Q=>t σ H fun c H1=>Q (!c) H1
theorem pw_and1(ha:PT X a tA):PW X (.BoolOp .And [a] pos) tA:=by
 intro wh pins s σ H Q I h
 refine isTrue_and (thn (ha pins s σ H Q I h) fun c s1 e=>?_)
 cases c with
 |true=>exact isTrue_and_nil e
 |false=>exact e
theorem pw_or1(ha:PT X a tA):PW X (.BoolOp .Or [a] pos) tA:=by
 intro wh pins s σ H Q I h
 refine isTrue_or (thn (ha pins s σ H Q I h) fun c s1 e=>?_)
 cases c with
 |false=>exact isTrue_or_nil e
 |true=>exact e
theorem pw_and(ha:PT X a tA)(hb:PW X (.BoolOp .And (b::rest) pos) tB'):PW X (.BoolOp .And (a::b::rest) pos) (tAnd tA tB'):=by
 intro wh pins s σ H Q I h
 refine isTrue_and (thn (ha pins s σ H _ I h) fun c s1 ⟨H1,I1,q1⟩=>?_)
 cases c with
 |true=>exact hb wh pins s1 σ H1 Q I1 q1
 |false=>exact⟨H1,I1,q1⟩
theorem pw_or(ha:PT X a tA)(hb:PW X (.BoolOp .Or (b::rest) pos) tB'):PW X (.BoolOp .Or (a::b::rest) pos) (tOr tA tB'):=by
 intro wh pins s σ H Q I h
 refine isTrue_or (thn (ha pins s σ H _ I h) fun c s1 ⟨H1,I1,q1⟩=>?_)
 cases c with
 |true=>exact⟨H1,I1,q1⟩
 |false=>exact hb wh pins s1 σ H1 Q I1 q1
theorem pt_not(ha:PT X a tA):PT X (.UnaryOp .Not a pos) (tNot tA):=by
 intro pins s σ H Q I h
 exact isTrue_not (ha pins s σ H (fun c H1=>Q (!c) H1) I h)
def tAndV(ta tb:TE):TE:=fun σ H Q=>ta σ H fun x H1=>∃c,x=.bl c/\if c=true then tb σ H1 Q else Q (.bl false) H1
def tOrV(ta tb:TE):TE:=fun σ H Q=>ta σ H fun x H1=>∃c,x=.bl c/\if c=true then Q (.bl true) H1 else tb σ H1 Q
def tNotV(ta:TE):TE:=fun σ H Q=>ta σ H fun x H1=>∃c,x=.bl c/\Q (.bl (!c)) H1
theorem pe_one{op}{t:TE}(h:PE X a t):PE X (.BoolOp op [a] pos) t:=fun pins s σ H Q I hw=>BoolOp_one (h pins s σ H Q I hw)
theorem pe_and(ha:PE X a ta)(hb:PE X (.BoolOp .And (b::rest) pos) tb):PE X (.BoolOp .And (a::b::rest) pos) (tAndV ta tb):=by
 intro pins s σ H Q I h
 refine BoolOp_and (thn (ha pins s σ H _ I h) fun v s1 ⟨x,H1,I1,r1,q1⟩=>?_)
 obtain⟨c,rfl,q1⟩:=q1
 cases r1
 refine wpAny_truthy_bool ?_
 cases c with
 |true=>exact hb pins s1 σ H1 Q I1 q1
 |false=>exact⟨.bl false,H1,I1,rfl,q1⟩
theorem pe_or(ha:PE X a ta)(hb:PE X (.BoolOp .Or (b::rest) pos) tb):PE X (.BoolOp .Or (a::b::rest) pos) (tOrV ta tb):=by
 intro pins s σ H Q I h
 refine BoolOp_or (thn (ha pins s σ H _ I h) fun v s1 ⟨x,H1,I1,r1,q1⟩=>?_)
 obtain⟨c,rfl,q1⟩:=q1
 cases r1
 refine wpAny_truthy_bool ?_
 cases c with
 |false=>exact hb pins s1 σ H1 Q I1 q1
 |true=>exact⟨.bl true,H1,I1,rfl,q1⟩
theorem pe_not(ha:PE X a ta):PE X (.UnaryOp .Not a pos) (tNotV ta):=by
 intro pins s σ H Q I h
 refine UnaryOp_ (thn (ha pins s σ H _ I h) fun v s1 ⟨x,H1,I1,r1,q1⟩=>?_)
 obtain⟨c,rfl,q1⟩:=q1
 cases r1
 exact not_of (wpAny_truthy_bool ⟨.bl (!c),H1,I1,rfl,q1⟩)
def tIf(t:TT)(ta tb:TE):TE:=fun σ H Q=>t σ H fun c H1=>if c=true then ta σ H1 Q else tb σ H1 Q
theorem pe_ifExp{c:Expr}(hc:PT X c tA)(ha:PE X a ta)(hb:PE X b tb):PE X (.IfExp c a b pos) (tIf tA ta tb):=by
 intro pins s σ H Q I h
 refine wpAny_IfExp (thn (hc pins s σ H _ I h) fun d s1 ⟨H1,I1,q1⟩=>?_)
 cases d with
 |true=>exact ha pins s1 σ H1 Q I1 q1
 |false=>exact hb pins s1 σ H1 Q I1 q1
end
def SqL(K:W.Frag)(H:Hp)(a:Addr)(xs:List V):Prop :=
 Rd H a (.lst xs) ∨
  ∃(o:Obj) (its:Array Value) (n:Nat),K.lookup a=some o/\o.cls=.type "list"/\o.dict=none/\o.data=.seq its n/\its.size<=sizeLine/\Vals xs its.toList
def SqT(K:W.Frag)(H:Hp)(a:Addr)(xs:List V):Prop :=
 Rd H a (.tup xs) ∨
  ∃(o:Obj) (its:Array Value) (n:Nat),K.lookup a=some o/\o.cls=.type "tuple"/\o.data=.seq its n/\its.size<=sizeLine/\Vals xs its.toList
def absV:Value->Option V
 |.none=>some .non
 |.bool b=>some (.bl b)
 |.int i _=>some (.int i)
 |.str x _=>some (.str x)
 |.bytes b _=>some (.byt b)
 |.float b _=>some (.flt b)
 |.ref a=>some (.ref a)
 |.type n=>some (.ty n)
 |_=>none
theorem RelV.abs{x:V}{u:Value}(r:RelV x u):absV u=some x:=by
 cases x with
 |non=>cases r;rfl
 |bl _=>cases r;rfl
 |int _=>obtain⟨t,rfl⟩:=r;rfl
 |str _=>obtain⟨t,rfl⟩:=r;rfl
 |byt _=>obtain⟨t,rfl⟩:=r;rfl
 |flt _=>obtain⟨t,rfl⟩:=r;rfl
 |ref _=>cases r;rfl
 |ty _=>cases r;rfl
theorem RelV.inj{x y:V}{u:Value}(r:RelV x u)(q:RelV y u):x=y:=Option.some.inj (r.abs.symm.trans q.abs)
theorem Vals.inj:∀ {xs ys:List V} {us:List Value},Vals xs us->Vals ys us->xs=ys
 |_,_,_,.nil,.nil=>rfl
 |_,_,_,.cons r t,.cons r' t'=>by rw[r.inj r',Vals.inj t t']
section
variable{X:Cx}{pins:List (Addr×Obj)}{σ:St}{H:Hp}{s:Shared}{a:Addr}{xs ys:List V}
theorem SqL.of{K:W.Frag}(h:H a=some (.lst xs)):SqL K H a xs:=.inl (.inl h)
theorem SqT.of{K:W.Frag}(h:H a=some (.tup xs)):SqT K H a xs:=.inl (.inl h)
theorem Inv.list(I:Inv X pins σ H s)(h:SqL X.K H a xs):∃its:List Value,Vals xs its/\PlainL s.heap a its.toArray/\xs.length<=sizeLine:=by
 rcases h with h | ⟨o,its,n,hk,hc,hd,hs,hz,r⟩
 ·obtain⟨z,its,n,r,e⟩:=h.ok I.hok
  exact⟨its,r,⟨_,n,e,rfl,rfl,rfl⟩,z⟩
 ·refine⟨its.toList,r,⟨o,n,I.kIn a o hk,hc,hd,by simpa using hs⟩,?_⟩
  have e:=r.length
  simp only[Array.length_toList]at e
  omega
theorem Inv.tuple(I:Inv X pins σ H s)(h:SqT X.K H a xs):∃its:List Value,Vals xs its/\IsTup s.heap a its.toArray/\xs.length<=sizeLine:=by
 rcases h with h | ⟨o,its,n,hk,hc,hs,hz,r⟩
 ·obtain⟨z,its,r,p⟩:=h.ok I.hok
  exact⟨its,r,p,z⟩
 ·refine⟨its.toList,r,⟨o,I.kIn a o hk,hc,n,by simpa using hs⟩,?_⟩
  have e:=r.length
  simp only[Array.length_toList]at e
  omega
theorem Inv.list_inj(I:Inv X pins σ H s)(h:SqL X.K H a xs)(h':SqL X.K H a ys):xs=ys:=by
 obtain⟨its,r,⟨o,n,e,_,_,d⟩,_⟩:=I.list h
 obtain⟨its',r',⟨o',n',e',_,_,d'⟩,_⟩:=I.list h'
 rw[e]at e';cases e'
 rw[d]at d'
 injection d' with d1 _
 have:its=its':=by simpa using congrArg Array.toList d1
 subst this
 exact r.inj r'
theorem Inv.tuple_inj(I:Inv X pins σ H s)(h:SqT X.K H a xs)(h':SqT X.K H a ys):xs=ys:=by
 obtain⟨its,r,⟨o,e,_,n,d⟩,_⟩:=I.tuple h
 obtain⟨its',r',⟨o',e',_,n',d'⟩,_⟩:=I.tuple h'
 rw[e]at e';cases e'
 rw[d]at d'
 injection d' with d1 _
 have:its=its':=by simpa using congrArg Array.toList d1
 subst this
 exact r.inj r'
end
abbrev Cx.wish(X:Cx)(E:Value->Shared->Prop):Cx:={ X with xe:=E }
abbrev Cx.nox(X:Cx):Cx:=X.wish fun _ _=>False
theorem Cx.Ok.wish{X:Cx}(ok:X.Ok)(E:Value->Shared->Prop):(X.wish E).Ok :=
 ⟨ok.mod,ok.kind,ok.glob,ok.blt,ok.above,ok.inj,ok.has,ok.cab,ok.hd,ok.frames,ok.stk,ok.exf,ok.bs,ok.bsz,ok.noex,ok.exfs,ok.funs,ok.frf⟩
theorem Cx.Ok.unwish{X:Cx}{E:Value->Shared->Prop}(ok:(X.wish E).Ok):X.Ok :=
 ⟨ok.mod,ok.kind,ok.glob,ok.blt,ok.above,ok.inj,ok.has,ok.cab,ok.hd,ok.frames,ok.stk,ok.exf,ok.bs,ok.bsz,ok.noex,ok.exfs,ok.funs,ok.frf⟩
section
variable{X:Cx}{pins:List (Addr×Obj)}{σ:St}{H:Hp}{s:Shared}{E:Value->Shared->Prop}{st:Stmt}{rest:List Stmt}{t u:TS}{e:Expr}{te:TE}{pos:Pos}
theorem Inv.wish(I:Inv X pins σ H s)(E:Value->Shared->Prop):Inv (X.wish E) pins σ H s:=⟨I.ok.wish E,I.os,I.bare,I.base,I.loc,I.cell,I.free,I.freeC,I.pin,I.hok,I.len⟩
theorem Inv.unwish(I:Inv (X.wish E) pins σ H s):Inv X pins σ H s:=⟨I.ok.unwish,I.os,I.bare,I.base,I.loc,I.cell,I.free,I.freeC,I.pin,I.hok,I.len⟩
theorem SP.unwish{D:Ends}{f:Flow}{s':Shared}(h:SP (X.wish E) pins D f s'):SP X pins D f s':=by
 cases f with
 |next=>obtain⟨σ',H',I,q⟩:=h;exact⟨σ',H',I.unwish,q⟩
 |brk=>obtain⟨σ',H',I,q⟩:=h;exact⟨σ',H',I.unwish,q⟩
 |cont=>obtain⟨σ',H',I,q⟩:=h;exact⟨σ',H',I.unwish,q⟩
 |ret u=>obtain⟨v,σ',H',I,r,q⟩:=h;exact⟨v,σ',H',I.unwish,r,q⟩
theorem PSs.nox{st:List Stmt}{t:TS}(h:PSs X.nox st t):PSs X st t:=fun pins s σ H D I hw =>
 wpAny_mono (h pins s σ H D (I.wish _) hw) (fun _ _ q=>q.unwish) fun _ _ z=>False.elim z
def tNext:TS:=fun D σ H=>D.nx σ H
def tSeq(t u:TS):TS:=fun D σ H=>t { D with nx:=u D } σ H
theorem pss_nil:PSs X [] tNext:=fun _ _ σ H _ I h=>wpAny_execs_nil ⟨σ,H,I,h⟩
theorem pss_cons(h1:PS X st t)(h2:PSs X rest u):PSs X (st::rest) (tSeq t u):=by
 intro pins s σ H D I h
 refine wpAny_execs_cons (thn (h1 pins s σ H { D with nx:=u D } I h) fun f s1 q=>?_)
 cases f with
 |next =>
  obtain⟨σ',H',I',q⟩:=q
  exact h2 pins s1 σ' H' D I' q
 |ret v=>exact q
 |brk=>exact q
 |cont=>exact q
theorem pss_one(h1:PS X st t):PSs X [st] t:=by
 intro pins s σ H D I h
 refine wpAny_execs_cons (thn (h1 pins s σ H D I h) fun f s1 q=>?_)
 cases f with
 |next=>exact wpAny_execs_nil q
 |ret v=>exact q
 |brk=>exact q
 |cont=>exact q
theorem Inv.quiet{pins:List (Addr×Obj)}{σ:St}{H:Hp}{s:Shared}(I:Inv X pins σ H s):interactive X.env=false:=by simp[interactive,I.ok.kind]
def tDrop(te:TE):TS:=fun D σ H=>te σ H fun _ H1=>D.nx σ H1
theorem ps_expr(he:PE X e te)(hs:swapsWith e none pos.line X.env=pure false:=by rfl):PS X (.Expr e pos) (tDrop te):=by
 intro pins s σ H D I h
 exact wpAny_Expr_any (thn (he pins s σ H _ I h) fun v s1 ⟨x,H1,I1,r1,q1⟩=>⟨σ,H1,I1,q1⟩) I.quiet hs
def tRet(te:TE):TS:=fun D σ H=>te σ H D.rt
theorem ps_ret(he:PE X e te):PS X (.Return (some e) pos) (tRet te):=by
 intro pins s σ H D I h
 exact wpAny_Return_some (thn (he pins s σ H _ I h) fun v s1 ⟨x,H1,I1,r1,q1⟩=>⟨x,σ,H1,I1,r1,q1⟩)
def tIfS(c:TT)(t u:TS):TS:=fun D σ H=>c σ H fun b H1=>if b=true then t D σ H1 else u D σ H1
theorem ps_if{c:Expr}{a b:List Stmt}{tc:TT}(hc:PT X c tc)(ha:PSs X a t)(hb:PSs X b u):PS X (.If c a b pos) (tIfS tc t u):=by
 intro pins s σ H D I h
 refine wpAny_If (thn (hc pins s σ H _ I h) fun d s1 ⟨H1,I1,q1⟩=>?_)
 cases d with
 |true=>exact ha pins s1 σ H1 D I1 q1
 |false=>exact hb pins s1 σ H1 D I1 q1
end
abbrev TG:=V->St->Hp->(St->Hp->Prop)->Prop
abbrev TGs:=List V->St->Hp->(St->Hp->Prop)->Prop
def PG(X:Cx)(target:Expr)(t:TG):Prop :=
 ∀(pins:List (Addr×Obj)) (s:Shared) (σ:St) (H:Hp) (v:V) (u:Value) (Q:St->Hp->Prop),Inv X pins σ H s->RelV v u->t v σ H Q ->
  wpAny (model X.prog X.w) X.A (assign target X.env u) (fun _ s'=>∃σ' H',Inv X pins σ' H' s'/\Q σ' H') X.xe s
def PGs(X:Cx)(ts:List Expr)(t:TGs):Prop :=
 ∀(pins:List (Addr×Obj)) (s:Shared) (σ:St) (H:Hp) (vs:List V) (us:List Value) (Q:St->Hp->Prop),Inv X pins σ H s->Vals vs us->t vs σ H Q ->
  wpAny (model X.prog X.w) X.A (assignInOrder ((assignEach ts X.env).map (·.2)) us) (fun _ s'=>∃σ' H',Inv X pins σ' H' s'/\Q σ' H') X.xe s
abbrev TSet:=V->V->V->Hp->(Hp->Prop)->Prop
def PSet(X:Cx)(t:TSet):Prop :=
 ∀(pins:List (Addr×Obj)) (s:Shared) (σ:St) (H:Hp) (o i v:V) (ov iv u:Value) (Q:Hp->Prop),Inv X pins σ H s->RelV o ov->RelV i iv->RelV v u->t o i v H Q ->
  wpAny (model X.prog X.w) X.A (setItem ov iv u) (fun _ s'=>∃H',Inv X pins σ H' s'/\Q H') X.xe s
section
variable{X:Cx}{pos:Pos}
def gName(i:Nat):TG:=fun v σ H Q=>Q (σ.set i (some v)) H
theorem pg_name{i:Nat}{x:Str}(hN:X.N.Nodup)(hi:X.N[i]? = some x)(hx:Loc X.env.scope x)(hf:X.fn x=true∨X.env.scope.names.lookup x=some .local:=by first | exact .inl rfl | exact .inr rfl | assumption):PG X (.Name x pos) (gName i):=by
 intro pins s σ H v u Q I r h
 exact wpAny_assign_Name (store_ok I hN hi hx r (fun s' I'=>⟨_,H,I',h⟩) hf)
def gNil:TGs:=fun vs σ H Q=>vs=[]/\Q σ H
def gCons(t:TG)(u:TGs):TGs:=fun vs σ H Q=>∃v r,vs=v::r/\t v σ H fun σ' H'=>u r σ' H' Q
theorem pgs_nil:PGs X [] gNil:=by
 intro pins s σ H vs us Q I r h
 obtain⟨e,h⟩:=h
 subst e
 cases r
 exact assignInOrder_nil ⟨σ,H,I,h⟩
theorem pgs_cons{e:Expr}{es:List Expr}{t:TG}{u:TGs}(h1:PG X e t)(h2:PGs X es u)
  (hs:(assignEach (e::es) X.env).map (·.2)=assign e X.env::(assignEach es X.env).map (·.2):=by rfl):PGs X (e::es) (gCons t u):=by
 intro pins s σ H vs us Q I r h
 obtain⟨v,vr,e1,h⟩:=h
 subst e1
 cases r with
 |cons r rr =>
  rw[hs]
  refine assignInOrder_cons (thn (h1 pins s σ H _ _ _ I r h) fun _ s1 ⟨σ1,H1,I1,q1⟩=>?_)
  exact h2 pins s1 σ1 H1 _ _ Q I1 rr q1
def gTup(K:W.Frag)(n:Nat)(t:TGs):TG:=fun v σ H Q=>∃a xs,v=.ref a/\SqT K H a xs/\xs.length=n/\t xs σ H Q
theorem pg_tup{es:List Expr}{k:Nat}{t:TGs}{n:Nat}(hc:X.calm=true)(h:PGs X es t)
  (hn:(assignEach es X.env).length=n:=by rfl) (hst:(assignEach es X.env).findIdx? (·.1)=none:=by rfl):PG X (.Tuple es k pos) (gTup X.K n t):=by
 intro pins s σ H v u Q I r hw
 obtain⟨a,xs,e1,hq,hl,hw⟩:=hw
 subst e1
 cases r
 obtain⟨its,rv,ht,hz⟩:=I.tuple hq
 refine assign_Tuple_tuple (I.ok.hd hc) ht (by simp[hn,← hl,rv.length]) hst fun h' hx=>?_
 have I1:Inv X pins σ H { s with heap:=h' }:=I.kept (t':=s.toks) fun b o e=>hx b o (Nat.ne_of_lt (Heap.lt_size e)) e
 exact h pins _ σ H xs _ Q I1 (by simpa using rv) hw
def gSub(to ti:TE)(t:TSet):TG:=fun v σ H Q=>to σ H fun o H1=>ti σ H1 fun i H2=>t o i v H2 fun H3=>Q σ H3
theorem pg_sub{o i:Expr}{to ti:TE}{t:TSet}(ho:PE X o to)(hi:PE X i ti)(hs:PSet X t)
  (ha:∀v,assign (.Subscript o i pos) X.env v=(do
   let ov ← holding [v] (eval o X.env)
   let iv ← holding [v,ov] (eval i X.env)
   standAt pos
   holding [v,ov,iv] (setItem ov iv v)
   release [v,ov,iv] []):=by intro _;rfl):PG X (.Subscript o i pos) (gSub to ti t):=by
 intro pins s σ H v u Q I r h
 rw[ha]
 refine wpAny_bind (wpAny_holding (thn (ho pins s σ H _ I h) fun ov s1 ⟨x,H1,I1,r1,q1⟩=>?_))
 refine wpAny_bind (wpAny_holding (thn (hi pins s1 σ H1 _ I1 q1) fun iv s2 ⟨y,H2,I2,r2,q2⟩=>?_))
 refine wpAny_bind (wpAny_standAt (wpAny_bind (wpAny_holding (thn (hs pins s2 σ H2 x y v ov iv u _ I2 r1 r2 r q2) fun _ s3 ⟨H3,I3,q3⟩=>?_))))
 exact wpAny_release ⟨σ,H3,I3,q3⟩
def tAsg(te:TE)(g:TG):TS:=fun D σ H=>te σ H fun x H1=>g x σ H1 D.nx
theorem ps_asg{tg e:Expr}{te:TE}{g:TG}(he:PE X e te)(hg:PG X tg g)(hs:swapsWithSole [tg] e pos.line X.env=pure false:=by rfl)(hw:swappedStores [tg] e X.env=pure none:=by rfl)
  (h1:(assignEach [tg] X.env).map (·.2)=[assign tg X.env]:=by rfl):PS X (.Assign [tg] e pos) (tAsg te g):=by
 intro pins s σ H D I h
 refine wpAny_Assign_stores (thn (he pins s σ H _ I h) fun v s1 ⟨x,H1,I1,r1,q1⟩=>?_) hs hw
 rw[h1]
 exact thn (hg pins s1 σ H1 x v _ I1 r1 q1) fun _ s2 q=>q
theorem ps_set{i:Nat}{x:Str}{e:Expr}{te:TE}{pos':Pos}(hN:X.N.Nodup)(hi:X.N[i]? = some x)(hx:Loc X.env.scope x)(he:PE X e te)(hs:swapsWith e (some (.Name x pos')) pos.line X.env=pure false:=by rfl)(hf:X.fn x=true∨X.env.scope.names.lookup x=some .local:=by first | exact .inl rfl | exact .inr rfl | assumption) :
  PS X (.Assign [.Name x pos'] e pos) (tAsg te (gName i)):=by
 intro pins s σ H D I h
 refine wpAny_Assign_Name (thn (he pins s σ H _ I h) fun v s1 ⟨y,H1,I1,r1,q1⟩=>?_) hs
 exact store_ok I1 hN hi hx r1 (fun s2 I2=>⟨_,H1,I2,q1⟩) hf
def tWhile(c:TT)(tb:TS):TS:=fun D σ H=>∃W:Nat->St->Hp->Prop,(∃m,W m σ H)/\∀m σ H,W m σ H ->
 c σ H fun b H1=>if b=true then ∃N:St->Hp->Prop,(∀σ' H',N σ' H'->∃m',m'<m/\W m' σ' H')/\tb { D with nx:=N,ct:=N,bk:=D.nx } σ H1 else D.nx σ H1
theorem ps_while{c:Expr}{body:List Stmt}{tc:TT}{tb:TS}(hp:PassesOwn (model X.prog X.w) X.A X.env X.xe)(hc:PT X c tc)(hb:PSs X body tb):PS X (.While c body [] pos) (tWhile tc tb):=by
 intro pins s σ H D I h
 obtain⟨W,⟨m0,w0⟩,turn⟩:=h
 refine wpAny_While (codeAny_whileLoop (fun n s'=>∃σ' H',Inv X pins σ' H' s'/\W n σ' H') ?_ m0 ⟨σ,H,I,w0⟩)
 rintro n s1 ⟨σ1,H1,I1,w1⟩
 refine wpAny_passesOwn hp (thn (hc pins s1 σ1 H1 _ I1 (turn n σ1 H1 w1)) fun b s2 ⟨H2,I2,q2⟩=>?_)
 cases b with
 |true =>
  obtain⟨N,hN,q2⟩:=q2
  rw[if_pos rfl]
  refine wpAny_passesOwn hp (thn (hb pins s2 σ1 H2 _ I2 q2) fun f s3 q3=>?_)
  cases f with
  |next =>
   obtain⟨σ3,H3,I3,n3⟩:=q3
   obtain⟨m',hm,w3⟩:=hN σ3 H3 n3
   exact⟨m',hm,σ3,H3,I3,w3⟩
  |cont =>
   obtain⟨σ3,H3,I3,n3⟩:=q3
   obtain⟨m',hm,w3⟩:=hN σ3 H3 n3
   exact⟨m',hm,σ3,H3,I3,w3⟩
  |brk=>exact q3
  |ret v=>exact q3
 |false =>
  rw[if_neg Bool.false_ne_true]
  exact wpAny_execs_nil ⟨σ1,H2,I2,q2⟩
end
structure It where
 go:Nat->Hp->Prop
 yld:Nat->Hp->V->Hp->Prop
 stop:Nat->Hp->Prop
def FpOk(X:Cx)(pins:List (Addr×Obj))(H:Hp)(b:Addr):Prop :=
 H b=none/\b≠X.env.locals/\b∉X.fs/\(b∈X.ex∨X.s₀.heap.objs.size<=b)/\(∀x c,X.env.cells.lookup x=some c->c≠b)/\∀p∈X.pn++pins,p.1≠b
theorem Inv.fpOk{X:Cx}{pins:List (Addr×Obj)}{σ:St}{H H':Hp}{s:Shared}{b:Addr}(I:Inv X pins σ H s)(hb:s.heap.objs.size<=b)(hn:H' b=none):FpOk X pins H' b:=by
 refine⟨hn,Nat.ne_of_gt (Nat.lt_of_lt_of_le I.lt hb),I.nofs hb,.inr (Nat.le_trans I.sz hb),fun x c e z=>?_,fun p hp z=>?_⟩
 ·obtain⟨v,q⟩:=I.cell x c e
  exact absurd (Nat.lt_of_lt_of_le q.lt (by rw[z];exact hb)) (Nat.lt_irrefl _)
 ·exact absurd (Nat.lt_of_lt_of_le (Heap.lt_size (I.pin p hp).1) (by rw[z];exact hb)) (Nat.lt_irrefl _)
structure Turn(P:Program)(w:World)(K:W.Frag)(tg:Expr)(J:It)(fp:List Addr)(it:Addr)(tn:Nat->Heap->Prop):Prop where
 mem:it∈fp
 obj:∀i h,tn i h->∀b∈fp,∃o,h.get? b=some o/\∀v,o.data≠.cell v
 keep:∀i h h',tn i h->(∀b∈fp,∀o,h.get? b=some o->h'.get? b=some o)->tn i h'
 item:∀(X:Cx),X.prog=P->X.w=w->X.K=K->X.calm=true->∀(i:Nat) (pins:List (Addr×Obj)) (s:Shared) (σ:St) (H:Hp) (E:Value->Shared->Prop),Inv X pins σ H s->(∀b∈fp,FpOk X pins H b)->tn i s.heap->J.go i H ->
  wpAny (model P w) X.A (pyNext (.ref it)) (fun r s1=>∃u,r=some u /\
   wpAny (model P w) X.A (letOwnedTupleGo tg (.ref it) u) (fun _ s2=>∃x H',Inv X pins σ H' s2/\RelV x u/\J.yld i H x H'/\tn (i+1) s2.heap/\∀b∈fp,H' b=none) E s1) E s
 done:∀(X:Cx),X.prog=P->X.w=w->X.K=K->X.calm=true->∀(i:Nat) (pins:List (Addr×Obj)) (s:Shared) (σ:St) (H:Hp) (E:Value->Shared->Prop),Inv X pins σ H s->(∀b∈fp,FpOk X pins H b)->tn i s.heap->J.stop i H ->
  wpAny (model P w) X.A (pyNext (.ref it)) (fun r s1=>r=none/\Inv X pins σ H s1) E s
 self:∀(A:Around) (i:Nat) (s:Shared) (Q:Value->Shared->Prop) (E:Value->Shared->Prop),tn i s.heap->Q (.ref it) s->wpAny (model P w) A (pyIter (.ref it)) Q E s
abbrev TI:=St->Hp->(It->Hp->Prop)->Prop
def PIE(X:Cx)(pins:List (Addr×Obj))(σ:St)(tg:Expr)(R:It->Hp->Prop)(itv:Value)(s2:Shared):Prop :=
 ∃(it:Addr) (fp:List Addr) (tn:Nat->Heap->Prop) (J:It) (H':Hp),itv=.ref it/\Inv X pins σ H' s2/\Turn X.prog X.w X.K tg J fp it tn/\tn 0 s2.heap/\(∀b∈fp,FpOk X pins H' b)/\R J H'
def PI(X:Cx)(tg iter:Expr)(wi:TI):Prop :=
 ∀(pins:List (Addr×Obj)) (s:Shared) (σ:St) (H:Hp) (R:It->Hp->Prop),Inv X pins σ H s->wi σ H R ->
  wpAny (model X.prog X.w) X.A (eval iter X.env) (fun v s1=>wpAny (model X.prog X.w) X.A (pyIter v) (PIE X pins σ tg R) X.xe s1) X.xe s
theorem go_of {M : Model} {A : Around} {E : Value → Shared → Prop} {s : Shared} {tg : Expr} {it : Addr} {u : Value} {o : Obj} {n : String} {vs : Array Value} {Q : Unit → Shared → Prop} (ho : s.heap.get? it = some o) (hc : o.cls = .type n) (hd : o.data = .fields vs)
    (hn : ["enumerate", "zip", "dict_itemiterator", "dict_reverseitemiterator", "odict_iterator", "itertools.zip_longest", "itertools.pairwise"].contains n = false) (hQ : Q () s) : wpAny M A (letOwnedTupleGo tg (.ref it) u) Q E s := by
  unfold letOwnedTupleGo
  cases tg <;> first
    | exact wpAny_pure hQ
    | (cases u <;> first
        | exact wpAny_pure hQ
        | (refine wpAny_bind (wpAny_load ho ?_)
           rw [hc, hd]
           show wpAny M A (if (["enumerate", "zip", "dict_itemiterator", "dict_reverseitemiterator", "odict_iterator", "itertools.zip_longest", "itertools.pairwise"].contains n && vs[0]? == some (rawInt _)) = true then _ else _) Q E s
           rw [if_neg (by intro h; rw [hn, Bool.false_and] at h; cases h)]
           exact wpAny_pure hQ))
def Itl(K:W.Frag)(a:Addr):It :=
 ⟨fun i H=>∃xs x,SqL K H a xs/\xs[i]? = some x,fun i H x H'=>H'=H/\∀xs,SqL K H a xs->xs[i]? = some x,fun i H=>∃xs,SqL K H a xs/\xs.length<=i⟩
def Itt(K:W.Frag)(a:Addr):It :=
 ⟨fun i H=>∃xs x,SqT K H a xs/\xs[i]? = some x,fun i H x H'=>H'=H/\∀xs,SqT K H a xs->xs[i]? = some x,fun i H=>∃xs,SqT K H a xs/\xs.length<=i⟩
def Itr(lo:Int)(n:Nat):It:=⟨fun i _=>i<n,fun i H x H'=>H'=H/\x=.int (lo+i),fun i _=>n<=i⟩
theorem turn_list{P:Program}{w:World}{K:W.Frag}{tg:Expr}(a it:Addr):Turn P w K tg (Itl K a) [it] it (fun i h=>h.IsListIter it a i) where
 mem:=by simp
 obj:=fun i h st b hb=>by
  have e:b=it:=by simpa using hb
  subst e
  obtain⟨o,e,c,d⟩:=st
  exact⟨o,e,fun v z=>by rw[d]at z;cases z⟩
 keep:=fun i h h' st k=>st.at fun o e=>k it (by simp) o e
 item:=by
  intro X hP hw hK hc i pins s σ H E I hf st hg
  subst hP hw hK
  obtain⟨xs,x,hq,hx⟩:=hg
  obtain⟨its,rv,p,hz⟩:=I.list hq
  obtain⟨u,hu,ru⟩:=rv.get hx
  obtain⟨f0,f1,f2,f3,f4,f5⟩:=hf it (by simp)
  refine wpAny_pyNext_list_item st p.isList (x:=u) (by simpa using hu) fun h' st' sb=>?_
  have I1:Inv X pins σ H { s with heap:=h' }:=I.turned (t':=s.toks) (fun b o hb e=>(sb.2 b hb).trans e) f0 f1 f3 f4 f5
  obtain⟨o,e,c,d⟩:=id st'
  exact⟨u,rfl,go_of (s:={ s with heap:=h' }) e c d (by decide) ⟨x,H,I1,ru,⟨rfl,fun ys hy=>by rw[I.list_inj hy hq];exact hx⟩,st',fun b hb=>(hf b hb).1⟩⟩
 done:=by
  intro X hP hw hK hc i pins s σ H E I hf st hg
  subst hP hw hK
  obtain⟨xs,hq,hx⟩:=hg
  obtain⟨its,rv,p,hz⟩:=I.list hq
  obtain⟨f0,f1,f2,f3,f4,f5⟩:=hf it (by simp)
  have hl:=rv.length
  exact wpAny_pyNext_list_end (I.ok.hd hc) st p.isList (by simp;omega) fun h' eb=>⟨rfl,I.turned (t':=s.toks) (fun b o hb e=>eb b o hb e) f0 f1 f3 f4 f5⟩
 self:=fun _ _ _ _ _ st h=>wpAny_pyIter_listiter st h
theorem turn_tuple{P:Program}{w:World}{K:W.Frag}{tg:Expr}(a it:Addr):Turn P w K tg (Itt K a) [it] it (fun i h=>h.IsTupleIter it a i) where
 mem:=by simp
 obj:=fun i h st b hb=>by
  have e:b=it:=by simpa using hb
  subst e
  obtain⟨o,e,c,d⟩:=st
  exact⟨o,e,fun v z=>by rw[d]at z;cases z⟩
 keep:=fun i h h' st k=>st.at fun o e=>k it (by simp) o e
 item:=by
  intro X hP hw hK hc i pins s σ H E I hf st hg
  subst hP hw hK
  obtain⟨xs,x,hq,hx⟩:=hg
  obtain⟨its,rv,p,hz⟩:=I.tuple hq
  obtain⟨u,hu,ru⟩:=rv.get hx
  obtain⟨f0,f1,f2,f3,f4,f5⟩:=hf it (by simp)
  refine wpAny_pyNext_tuple_item st (show s.heap.IsTuple a its.toArray from p) (x:=u) (by simpa using hu) fun h' st' sb=>?_
  have I1:Inv X pins σ H { s with heap:=h' }:=I.turned (t':=s.toks) (fun b o hb e=>(sb.2 b hb).trans e) f0 f1 f3 f4 f5
  obtain⟨o,e,c,d⟩:=id st'
  exact⟨u,rfl,go_of (s:={ s with heap:=h' }) e c d (by decide) ⟨x,H,I1,ru,⟨rfl,fun ys hy=>by rw[I.tuple_inj hy hq];exact hx⟩,st',fun b hb=>(hf b hb).1⟩⟩
 done:=by
  intro X hP hw hK hc i pins s σ H E I hf st hg
  subst hP hw hK
  obtain⟨xs,hq,hx⟩:=hg
  obtain⟨its,rv,p,hz⟩:=I.tuple hq
  obtain⟨f0,f1,f2,f3,f4,f5⟩:=hf it (by simp)
  have hl:=rv.length
  exact wpAny_pyNext_tuple_end (I.ok.hd hc) st (show s.heap.IsTuple a its.toArray from p) (by simp;omega) fun h' eb=>⟨rfl,I.turned (t':=s.toks) (fun b o hb e=>eb b o hb e) f0 f1 f3 f4 f5⟩
 self:=fun _ _ _ _ _ st h=>wpAny_pyIter_tupleiter st h
theorem turn_range{P:Program}{w:World}{K:W.Frag}{tg:Expr}(it:Addr)(lo:Int)(n:Nat):Turn P w K tg (Itr lo n) [it] it (fun i h=>IsRangeIter h it (lo+(i:Nat)*1) ((n:Int)-(i:Nat)) 1) where
 mem:=by simp
 obj:=fun i h st b hb=>by
  have e:b=it:=by simpa using hb
  subst e
  exact⟨_,st,fun v z=>by
   have z':Data.fields _=Data.cell v:=z
   cases z'⟩
 keep:=fun i h h' st k=>k it (by simp) _ st
 item:=by
  intro X hP hw hK hc i pins s σ H E I hf st hg
  subst hP hw hK
  obtain⟨f0,f1,f2,f3,f4,f5⟩:=hf it (by simp)
  have W:=Walks.range (prog:=X.prog) (w:=X.w) (I.ok.hd hc) it lo 1 n
  refine W.item i s _ _ hg st fun v h' tk hv st' kk=>?_
  obtain⟨t,rfl⟩:=hv
  have I1:Inv X pins σ H { s with heap:=h',toks:=tk }:=I.turned (fun b o hb e=>kk b o (by simpa using hb) e) f0 f1 f3 f4 f5
  refine⟨_,rfl,go_of (s:={ s with heap:=h',toks:=tk }) (n:="range_iterator") st' rfl rfl (by decide) ⟨.int (lo+i),H,I1,⟨t,?_⟩,⟨rfl,rfl⟩,st',fun b hb=>(hf b hb).1⟩⟩
  rw[Int.mul_one]
 done:=by
  intro X hP hw hK hc i pins s σ H E I hf st hg
  subst hP hw hK
  obtain⟨f0,f1,f2,f3,f4,f5⟩:=hf it (by simp)
  exact wpAny_pyNext_range_end (I.ok.hd hc) st (by have:n<=i:=hg;omega) fun h' eb=>⟨rfl,I.turned (t':=s.toks) (fun b o hb e=>eb b o hb e) f0 f1 f3 f4 f5⟩
 self:=fun _ _ _ _ _ st h=>wpAny_pyIter_rangeiter st h
section
variable{X:Cx}{tg:Expr}
def iList(K:W.Frag)(tl:TE):TI:=fun σ H R=>tl σ H fun x H1=>∃a,x=.ref a/\(∃xs,SqL K H1 a xs)/\R (Itl K a) H1
def iTup(K:W.Frag)(tl:TE):TI:=fun σ H R=>tl σ H fun x H1=>∃a,x=.ref a/\(∃xs,SqT K H1 a xs)/\R (Itt K a) H1
theorem pi_list{l:Expr}{tl:TE}(hl:PE X l tl):PI X tg l (iList X.K tl):=by
 intro pins s σ H R I h
 refine thn (hl pins s σ H _ I h) fun v s1 ⟨x,H1,I1,r1,q1⟩=>?_
 obtain⟨a,e,⟨xs,hq⟩,q⟩:=q1
 subst e
 cases r1
 obtain⟨its,rv,p,hz⟩:=I1.list hq
 refine wpAny_pyIter_list p.isList ?_
 refine⟨s1.heap.objs.size,[s1.heap.objs.size],_,_,H1,rfl,I1.kept (t':=s1.toks) fun b o e=>Heap.get?_push_of_some _ e,turn_list a _,⟨_,Heap.get?_push_size _ rfl,rfl,rfl⟩,fun b hb=>?_,q⟩
 have e:b=s1.heap.objs.size:=by simpa using hb
 subst e
 exact I1.fpOk (Nat.le_refl _) (I1.hok.fresh (Nat.le_refl _))
theorem pi_tup{l:Expr}{tl:TE}(hl:PE X l tl):PI X tg l (iTup X.K tl):=by
 intro pins s σ H R I h
 refine thn (hl pins s σ H _ I h) fun v s1 ⟨x,H1,I1,r1,q1⟩=>?_
 obtain⟨a,e,⟨xs,hq⟩,q⟩:=q1
 subst e
 cases r1
 obtain⟨its,rv,p,hz⟩:=I1.tuple hq
 refine wpAny_pyIter_tuple (show s1.heap.IsTuple a its.toArray from p) ?_
 refine⟨s1.heap.objs.size,[s1.heap.objs.size],_,_,H1,rfl,I1.kept (t':=s1.toks) fun b o e=>Heap.get?_push_of_some _ e,turn_tuple a _,⟨_,Heap.get?_push_size _ rfl,rfl,rfl⟩,fun b hb=>?_,q⟩
 have e:b=s1.heap.objs.size:=by simpa using hb
 subst e
 exact I1.fpOk (Nat.le_refl _) (I1.hok.fresh (Nat.le_refl _))
theorem range_it{pins:List (Addr×Obj)}{σ:St}{H:Hp}{s:Shared}{R:It->Hp->Prop}{E:Value->Shared->Prop}{lo hi:Int}{t u v:Tok}{tk:Nat}(I:Inv X pins σ H s)(h1:-(2 ^ 62)<=lo)(h2:lo<2 ^ 62)(h3:-(2 ^ 62)<=hi)(h4:hi<2 ^ 62)
  (q:R (Itr lo (hi-lo).toNat) H):wpAny (model X.prog X.w) X.A (pyIter (.ref s.heap.objs.size)) (PIE X pins σ tg R) E { s with heap:=s.heap.push { cls:=.type "range",data:=.fields #[.int lo t,.int hi u,.int 1 v] },toks:=tk }:=by
 refine wpAny_pyIter_range (IsRange.new ..) (small_one h1 h2 h3 h4) ?_
 have I1:Inv X pins σ H { s with heap:=s.heap.push { cls:=.type "range",data:=.fields #[.int lo t,.int hi u,.int 1 v] },toks:=tk }:=I.kept fun b o e=>Heap.get?_push_of_some _ e
 refine⟨(s.heap.push { cls:=.type "range",data:=.fields #[.int lo t,.int hi u,.int 1 v] }).objs.size,[(s.heap.push { cls:=.type "range",data:=.fields #[.int lo t,.int hi u,.int 1 v] }).objs.size],_,_,H,rfl,
  I1.kept (t':=tk) fun b o e=>Heap.get?_push_of_some _ e,turn_range _ lo (hi-lo).toNat,?_,fun b hb=>?_,q⟩
 ·have e1:lo+((0:Nat):Int)*1=lo:=by simp
  have e2:(((hi-lo).toNat:Nat):Int)-((0:Nat):Int)=Builtin.Range.rangeSize lo hi 1:=by rw[rangeSize_one];split <;> omega
  show IsRangeIter _ _ (lo+((0:Nat):Int)*1) ((((hi-lo).toNat:Nat):Int)-((0:Nat):Int)) 1
  rw[e1,e2]
  exact Heap.get?_push_size _ rfl
 ·have e:b=(s.heap.push { cls:=.type "range",data:=.fields #[.int lo t,.int hi u,.int 1 v] }).objs.size:=by simpa using hb
  subst e
  exact I1.fpOk (Nat.le_refl _) (I1.hok.fresh (Nat.le_refl _))
def iRng1(ta:TA):TI:=fun σ H R=>ta σ H fun vs H1=>∃j:Int,vs=[.int j]/\-(2 ^ 62)<=j/\j<2 ^ 62/\R (Itr 0 j.toNat) H1
theorem pi_range1{a:Expr}{ta:TA}{p pos:Pos}(hg:Gl X "range")(hm:X.mg "range" = none)(ha:PA X [a] ta)(hs:starEach [a] X.env=[(false,eval a X.env)]:=by rfl):PI X tg (.Call (.Name "range" p) [a] [] pos) (iRng1 ta):=by
 intro pins s σ H R I h
 refine Call_ (ld_blt I hg hm boot_range (PyProof.Rows.callWith_type1 (thn (ha pos pins s σ H _ I h) fun us s1 ⟨vs,H1,I1,r1,q1⟩=>?_) hs rfl))
 obtain⟨j,e,q1,q2,q⟩:=q1
 subst e
 cases r1 with
 |cons r rr =>
  cases rr
  obtain⟨t,rfl⟩:=r
  exact call_range_1 (range_it I1 (by omega) (by omega) q1 q2 (by simpa using q))
def tFor(wi:TI)(g:TG)(tb:TS):TS:=fun D σ H=>wi σ H fun J H1=>∃W:Nat->Nat->St->Hp->Prop,(∃m,W 0 m σ H1)/\∀i m σ H,W i m σ H ->
 (J.stop i H/\D.nx σ H)∨(J.go i H/\∃N:St->Hp->Prop,(∀σ' H',N σ' H'->∃m',m'<m/\W (i+1) m' σ' H')/\∀x H',J.yld i H x H'->g x σ H' fun σ2 H2=>tb { D with nx:=N,ct:=N,bk:=D.nx } σ2 H2)
def pinsAt(fp:List Addr)(h:Heap):List (Addr×Obj):=fp.filterMap fun b=>(h.get? b).map fun o=>(b,o)
theorem mem_pinsAt{fp:List Addr}{h:Heap}{b:Addr}{o:Obj}(hb:b∈fp)(e:h.get? b=some o):(b,o)∈pinsAt fp h:=List.mem_filterMap.mpr ⟨b,hb,by rw[e];rfl⟩
theorem of_pinsAt{fp:List Addr}{h:Heap}{p:Addr×Obj}(hp:p∈pinsAt fp h):p.1∈fp/\h.get? p.1=some p.2:=by
 obtain⟨b,hb,e⟩:=List.mem_filterMap.mp hp
 cases q:h.get? b with
 |none=>rw[q]at e;cases e
 |some o =>
  rw[q]at e
  have e':(b,o)=p:=Option.some.inj e
  subst e'
  exact⟨hb,q⟩
theorem Inv.pinned{pins:List (Addr×Obj)}{σ:St}{H:Hp}{s:Shared}{fp:List Addr}(I:Inv X pins σ H s)(hf:∀b∈fp,FpOk X pins H b)(ho:∀b∈fp,∃o,s.heap.get? b=some o/\∀v,o.data≠.cell v):Inv X (pins++pinsAt fp s.heap) σ H s :=
 I.pins_of fun p hp=>(List.mem_append.mp hp).elim (fun z=>I.pin p (List.mem_append_right _ z)) fun z=>by
  obtain⟨hb,e⟩:=of_pinsAt z
  obtain⟨f0,f1,f2,_⟩:=hf p.1 hb
  obtain⟨o,e',d⟩:=ho p.1 hb
  rw[e]at e';cases e'
  exact⟨e,f0,f1,f2,d⟩
theorem Inv.unpinned{pins pl:List (Addr×Obj)}{σ:St}{H:Hp}{s:Shared}(I:Inv X (pins++pl) σ H s):Inv X pins σ H s:=I.pins_of fun p hp=>I.pin p (List.mem_append_right _ (List.mem_append_left _ hp))
theorem ps_for{iter:Expr}{body:List Stmt}{wi:TI}{g:TG}{tb:TS}{pos:Pos}(hp:PassesOwn (model X.prog X.w) X.A X.env X.xe)(hc:X.calm=true)(hi:PI X tg iter wi)(hg:PG X tg g)(hb:PSs X body tb)
  (hs:∀x,foldedSetIterable iter X.env x=pure x:=by intro _;rfl):PS X (.For tg iter body [] pos) (tFor wi g tb):=by
 intro pins s σ H D I h
 refine wpAny_For (thn (hi pins s σ H _ I h) fun v s1 h1=>thn h1 fun itv s2 h2=>?_) hs
 obtain⟨it,fp,tn,J,H2,e,I2,T,st2,f2,W,⟨m0,w0⟩,turn⟩:=h2
 subst e
 have stat:∀ {H':Hp},(∀b∈fp,H' b=none)->∀b∈fp,FpOk X pins H' b:=fun hn b hb=>⟨hn b hb,(f2 b hb).2⟩
 refine codeAny_forLoop_any (fun n s'=>∃i σ' H',Inv X pins σ' H' s'/\tn i s'.heap/\(∀b∈fp,H' b=none)/\W i n σ' H') ?_ m0 ⟨0,σ,H2,I2,st2,fun b hb=>(f2 b hb).1,w0⟩
 rintro n s3 ⟨i,σ3,H3,I3,st3,fr3,w3⟩
 rcases turn i n σ3 H3 w3 with⟨stop,qn⟩ | ⟨go,N,hN,step⟩
 ·refine wpAny_passesOwn hp (thn (T.done X rfl rfl rfl hc i pins s3 σ3 H3 X.xe I3 (stat fr3) st3 stop) fun r s4 ⟨hr,I4⟩=>?_)
  subst hr
  exact wpAny_execs_nil ⟨σ3,H3,I4,qn⟩
 ·refine wpAny_passesOwn hp (thn (T.item X rfl rfl rfl hc i pins s3 σ3 H3 X.xe I3 (stat fr3) st3 go) fun r s4 ⟨u,hr,h4⟩=>?_)
  subst hr
  refine wpAny_passesOwn hp (thn h4 fun _ s5 ⟨x,H5,I5,r5,y5,st5,fr5⟩=>?_)
  have I5':=I5.pinned (stat fr5) (T.obj _ _ st5)
  refine wpAny_passesOwn hp (thn (hg _ s5 σ3 H5 x u _ I5' r5 (step x H5 y5)) fun _ s6 ⟨σ6,H6,I6,q6⟩=>?_)
  refine wpAny_passesOwn hp (thn (hb _ s6 σ6 H6 _ I6 q6) fun f s7 q7=>?_)
  have again:∀ {σ7:St} {H7:Hp},Inv X (pins++pinsAt fp s5.heap) σ7 H7 s7->N σ7 H7->∃m,m<n/\∃i σ' H',Inv X pins σ' H' s7/\tn i s7.heap/\(∀b∈fp,H' b=none)/\W i m σ' H':=fun{σ7 H7} I7 n7=>by
   obtain⟨m',hm,w7⟩:=hN σ7 H7 n7
   refine⟨m',hm,i+1,σ7,H7,I7.unpinned,T.keep _ _ _ st5 fun b hb o e=>(I7.pin (b,o) (List.mem_append_right _ (List.mem_append_right _ (mem_pinsAt hb e)))).1,fun b hb=>?_,w7⟩
   obtain⟨o,e,d⟩:=T.obj _ _ st5 b hb
   exact(I7.pin (b,o) (List.mem_append_right _ (List.mem_append_right _ (mem_pinsAt hb e)))).2.1
  cases f with
  |next=>obtain⟨σ7,H7,I7,n7⟩:=q7;exact again I7 n7
  |cont=>obtain⟨σ7,H7,I7,n7⟩:=q7;exact again I7 n7
  |brk=>obtain⟨σ7,H7,I7,q7⟩:=q7;exact⟨σ7,H7,I7.unpinned,q7⟩
  |ret v=>obtain⟨x7,σ7,H7,I7,r7,q7⟩:=q7;exact⟨x7,σ7,H7,I7.unpinned,r7,q7⟩
end
theorem for_list{K:W.Frag}{a:Addr}{xs:List V}{g:TG}{tb:TS}{D:Ends}{σ:St}{H:Hp}(Pv:Nat->St->Hp->Prop)(h0:Pv 0 σ H)(hl:∀i σ H,i<=xs.length->Pv i σ H->SqL K H a xs)
  (hs:∀i x σ H,xs[i]? = some x->Pv i σ H->g x σ H fun σ2 H2=>tb { D with nx:=Pv (i+1),ct:=Pv (i+1),bk:=D.nx } σ2 H2) (hd:∀σ H,Pv xs.length σ H->D.nx σ H) :
  ∃W:Nat->Nat->St->Hp->Prop,(∃m,W 0 m σ H)/\∀i m σ H,W i m σ H ->
   ((Itl K a).stop i H/\D.nx σ H)∨((Itl K a).go i H/\∃N:St->Hp->Prop,(∀σ' H',N σ' H'->∃m',m'<m/\W (i+1) m' σ' H')/\∀x H',(Itl K a).yld i H x H'->g x σ H' fun σ2 H2=>tb { D with nx:=N,ct:=N,bk:=D.nx } σ2 H2):=by
 refine⟨fun i m σ H=>m=xs.length-i/\i<=xs.length/\Pv i σ H,⟨xs.length,by simp,Nat.zero_le _,h0⟩,?_⟩
 rintro i m σ H ⟨rfl,hi,p⟩
 have q:=hl i σ H hi p
 by_cases hlt:i<xs.length
 ·refine .inr ⟨⟨xs,xs[i],q,by simp[hlt]⟩,Pv (i+1),fun σ' H' p'=>⟨xs.length-(i+1),by omega,rfl,hlt,p'⟩,fun x H' y=>?_⟩
  obtain⟨e,y⟩:=y
  subst e
  exact hs i x σ _ (y xs q) p
 ·have e:i=xs.length:=by omega
  subst e
  exact .inl ⟨⟨xs,q,Nat.le_refl _⟩,hd σ H p⟩
theorem for_tup{K:W.Frag}{a:Addr}{xs:List V}{g:TG}{tb:TS}{D:Ends}{σ:St}{H:Hp}(Pv:Nat->St->Hp->Prop)(h0:Pv 0 σ H)(hl:∀i σ H,i<=xs.length->Pv i σ H->SqT K H a xs)
  (hs:∀i x σ H,xs[i]? = some x->Pv i σ H->g x σ H fun σ2 H2=>tb { D with nx:=Pv (i+1),ct:=Pv (i+1),bk:=D.nx } σ2 H2) (hd:∀σ H,Pv xs.length σ H->D.nx σ H) :
  ∃W:Nat->Nat->St->Hp->Prop,(∃m,W 0 m σ H)/\∀i m σ H,W i m σ H ->
   ((Itt K a).stop i H/\D.nx σ H)∨((Itt K a).go i H/\∃N:St->Hp->Prop,(∀σ' H',N σ' H'->∃m',m'<m/\W (i+1) m' σ' H')/\∀x H',(Itt K a).yld i H x H'->g x σ H' fun σ2 H2=>tb { D with nx:=N,ct:=N,bk:=D.nx } σ2 H2):=by
 refine⟨fun i m σ H=>m=xs.length-i/\i<=xs.length/\Pv i σ H,⟨xs.length,by simp,Nat.zero_le _,h0⟩,?_⟩
 rintro i m σ H ⟨rfl,hi,p⟩
 have q:=hl i σ H hi p
 by_cases hlt:i<xs.length
 ·refine .inr ⟨⟨xs,xs[i],q,by simp[hlt]⟩,Pv (i+1),fun σ' H' p'=>⟨xs.length-(i+1),by omega,rfl,hlt,p'⟩,fun x H' y=>?_⟩
  obtain⟨e,y⟩:=y
  subst e
  exact hs i x σ _ (y xs q) p
 ·have e:i=xs.length:=by omega
  subst e
  exact .inl ⟨⟨xs,q,Nat.le_refl _⟩,hd σ H p⟩
theorem for_range{lo:Int}{n:Nat}{g:TG}{tb:TS}{D:Ends}{σ:St}{H:Hp}(Pv:Nat->St->Hp->Prop)(h0:Pv 0 σ H)
  (hs:∀i σ H,i<n->Pv i σ H->g (.int (lo+i)) σ H fun σ2 H2=>tb { D with nx:=Pv (i+1),ct:=Pv (i+1),bk:=D.nx } σ2 H2) (hd:∀σ H,Pv n σ H->D.nx σ H) :
  ∃W:Nat->Nat->St->Hp->Prop,(∃m,W 0 m σ H)/\∀i m σ H,W i m σ H ->
   ((Itr lo n).stop i H/\D.nx σ H)∨((Itr lo n).go i H/\∃N:St->Hp->Prop,(∀σ' H',N σ' H'->∃m',m'<m/\W (i+1) m' σ' H')/\∀x H',(Itr lo n).yld i H x H'->g x σ H' fun σ2 H2=>tb { D with nx:=N,ct:=N,bk:=D.nx } σ2 H2):=by
 refine⟨fun i m σ H=>m=n-i/\i<=n/\Pv i σ H,⟨n,by simp,Nat.zero_le _,h0⟩,?_⟩
 rintro i m σ H ⟨rfl,hi,p⟩
 by_cases hlt:i<n
 ·refine .inr ⟨hlt,Pv (i+1),fun σ' H' p'=>⟨n-(i+1),by omega,rfl,hlt,p'⟩,fun x H' y=>?_⟩
  obtain⟨e,y⟩:=y
  subst e y
  exact hs i σ _ hlt p
 ·have e:i=n:=by omega
  subst e
  exact .inl ⟨Nat.le_refl _,hd σ H p⟩
abbrev R2:=V->V->Hp->VK->Prop
def OpR(X:Cx)(f:Value->Value->Sem Value)(r:R2):Prop :=
 ∀(pins:List (Addr×Obj)) (s:Shared) (σ:St) (H:Hp) (x y:V) (v u:Value) (Q:VK),Inv X pins σ H s->RelV x v->RelV y u->r x y H Q ->
  wpAny (model X.prog X.w) X.A (f v u) (EP X pins σ Q) X.xe s
def UnR(X:Cx)(f:Value->Sem Value)(r:V->Hp->VK->Prop):Prop :=
 ∀(pins:List (Addr×Obj)) (s:Shared) (σ:St) (H:Hp) (x:V) (v:Value) (Q:VK),Inv X pins σ H s->RelV x v->r x H Q ->
  wpAny (model X.prog X.w) X.A (f v) (EP X pins σ Q) X.xe s
def CallR(X:Cx)(f:Value)(r:List V->Hp->VK->Prop):Prop :=
 ∀(pins:List (Addr×Obj)) (s:Shared) (σ:St) (H:Hp) (xs:List V) (us:List Value) (Q:VK),Inv X pins σ H s->Vals xs us->r xs H Q ->
  wpAny (model X.prog X.w) X.A (call f us) (EP X pins σ Q) X.xe s
def tOp(r:R2)(ta tb:TE):TE:=fun σ H Q=>ta σ H fun x H1=>tb σ H1 fun y H2=>r x y H2 Q
def tUn(r:V->Hp->VK->Prop)(ta:TE):TE:=fun σ H Q=>ta σ H fun x H1=>r x H1 Q
def rI(C:Int->Int->Prop)(g:Int->Int->V):R2:=fun x y H Q=>∃i j,x=.int i/\y=.int j/\C i j/\Q (g i j) H
def rI0(g:Int->Int->V):R2:=fun x y H Q=>∃i j,x=.int i/\y=.int j/\Q (g i j) H
def rU(g:Int->V):V->Hp->VK->Prop:=fun x H Q=>∃i,x=.int i/\Q (g i) H
section
variable{X:Cx}{a b c:Expr}{ta tb tc:TE}{pos:Pos}
theorem binT(ha:PE X a ta)(hb:PE X b tb){pins:List (Addr×Obj)}{s:Shared}{σ:St}{H:Hp}{R:V->V->Hp->Prop}(I:Inv X pins σ H s)
  (h:ta σ H fun x H1=>tb σ H1 fun y H2=>R x y H2) {Q:Value->Shared->Prop} {f:Value->Value->Sem Value}
  (hf:∀v u s2 x y H2,Inv X pins σ H2 s2->RelV x v->RelV y u->R x y H2->wpAny (model X.prog X.w) X.A (f v u) Q X.xe s2) :
  wpAny (model X.prog X.w) X.A (eval a X.env) (fun v s₁=>wpAny (model X.prog X.w) X.A (eval b X.env) (fun u s₂=>wpAny (model X.prog X.w) X.A (f v u) Q X.xe s₂) X.xe s₁) X.xe s:=by
 refine thn (ha pins s σ H _ I h) fun v s1 ⟨x,H1,I1,r1,q1⟩=>?_
 refine thn (hb pins s1 σ H1 _ I1 q1) fun u s2 ⟨y,H2,I2,r2,q2⟩=>?_
 exact hf v u s2 x y H2 I2 r1 r2 q2
theorem pe_op{op:Operator}{r:R2}(ho:OpR X (binaryOp op) r)(ha:PE X a ta)(hb:PE X b tb):PE X (.BinOp a op b pos) (tOp r ta tb):=by
 intro pins s σ H Q I h
 exact wpAny_BinOp (binT ha hb I h fun v u s2 x y H2 I2 rx ry q=>ho pins s2 σ H2 x y v u Q I2 rx ry q)
theorem pe_un{op:UnaryOp}{r:V->Hp->VK->Prop}(ho:UnR X (unaryOp op) r)(ha:PE X a ta):PE X (.UnaryOp op a pos) (tUn r ta):=by
 intro pins s σ H Q I h
 exact UnaryOp_ (thn (ha pins s σ H _ I h) fun v s1 ⟨x,H1,I1,r1,q1⟩=>ho pins s1 σ H1 x v Q I1 r1 q1)
theorem opI{f:Value->Value->Sem Value}{C:Int->Int->Prop}{g:Int->Int->Int}
  (rule:∀(i j:Int) (t u:Tok) (s:Shared) (Q:Value->Shared->Prop) (E:Value->Shared->Prop),C i j->Q (.int (g i j) s.toks) { s with toks:=s.toks+1 }->wpAny (model X.prog X.w) X.A (f (.int i t) (.int j u)) Q E s) :
  OpR X f (rI C fun i j=>.int (g i j)):=by
 intro pins s σ H x y v u Q I rx ry h
 obtain⟨i,j,rfl,rfl,hc,q⟩:=h
 obtain⟨t,rfl⟩:=rx
 obtain⟨t',rfl⟩:=ry
 exact rule i j t t' s _ _ hc ⟨.int (g i j),H,I.tok _,⟨_,rfl⟩,q⟩
theorem opI0{f:Value->Value->Sem Value}{g:Int->Int->Int}
  (rule:∀(i j:Int) (t u:Tok) (s:Shared) (Q:Value->Shared->Prop) (E:Value->Shared->Prop),Q (.int (g i j) s.toks) { s with toks:=s.toks+1 }->wpAny (model X.prog X.w) X.A (f (.int i t) (.int j u)) Q E s) :
  OpR X f (rI0 fun i j=>.int (g i j)):=by
 intro pins s σ H x y v u Q I rx ry h
 obtain⟨i,j,rfl,rfl,q⟩:=h
 obtain⟨t,rfl⟩:=rx
 obtain⟨t',rfl⟩:=ry
 exact rule i j t t' s _ _ ⟨.int (g i j),H,I.tok _,⟨_,rfl⟩,q⟩
theorem opB0{f:Value->Value->Sem Value}{g:Int->Int->Bool}
  (rule:∀(i j:Int) (t u:Tok) (s:Shared) (Q:Value->Shared->Prop) (E:Value->Shared->Prop),Q (.bool (g i j)) s->wpAny (model X.prog X.w) X.A (f (.int i t) (.int j u)) Q E s) :
  OpR X f (rI0 fun i j=>.bl (g i j)):=by
 intro pins s σ H x y v u Q I rx ry h
 obtain⟨i,j,rfl,rfl,q⟩:=h
 obtain⟨t,rfl⟩:=rx
 obtain⟨t',rfl⟩:=ry
 exact rule i j t t' s _ _ ⟨.bl (g i j),H,I,rfl,q⟩
def CDiv(i j:Int):Prop:=0<j/\j<1073741824
def CMul(i j:Int):Prop:=(-(2 ^ 64)<i/\i<2 ^ 64)∨(-(2 ^ 64)<j/\j<2 ^ 64)
theorem CMul.ok{i j:Int}(h:CMul i j):IntMulOk i j:=by
 rcases h with⟨h1,h2⟩ | ⟨h1,h2⟩
 ·exact .of_left (intBits_le_64 h1 h2)
 ·exact .of_right (intBits_le_64 h1 h2)
theorem op_add:OpR X (binaryOp .Add) (rI0 fun i j=>.int (i+j)):=opI0 fun _ _ _ _ _ _ _ q=>add_int q
theorem op_sub:OpR X (binaryOp .Sub) (rI0 fun i j=>.int (i-j)):=opI0 fun _ _ _ _ _ _ _ q=>sub_int q
theorem op_mul:OpR X (binaryOp .Mult) (rI CMul fun i j=>.int (i*j)):=opI fun _ _ _ _ _ _ _ hc q=>mul_int q hc.ok
theorem op_fdiv:OpR X (binaryOp .FloorDiv) (rI CDiv fun i j=>.int (i / j)):=opI fun i j _ _ _ _ _ hc q=>by
 have h1:(0:Int)<j:=hc.1
 have h2:j<1073741824:=hc.2
 exact floordiv_int (by omega) (by rw[Int.fdiv_eq_ediv_of_nonneg i (by omega)];exact q) (.inl (PyProof.noPylong_small (by omega)))
theorem op_mod:OpR X (binaryOp .Mod) (rI (fun _ j=>0<j) fun i j=>.int (i % j)):=opI fun i j _ _ _ _ _ hc q=>by
 have h1:(0:Int)<j:=hc
 exact mod_int' (by omega) (by rw[Int.fmod_eq_emod_of_nonneg i (by omega)];exact q)
theorem unI{f:Value->Sem Value}{g:Int->Int}
  (rule:∀(i:Int) (t:Tok) (s:Shared) (Q:Value->Shared->Prop) (E:Value->Shared->Prop),Q (.int (g i) s.toks) { s with toks:=s.toks+1 }->wpAny (model X.prog X.w) X.A (f (.int i t)) Q E s) :
  UnR X f (rU fun i=>.int (g i)):=by
 intro pins s σ H x v Q I rx h
 obtain⟨i,rfl,q⟩:=h
 obtain⟨t,rfl⟩:=rx
 exact rule i t s _ _ ⟨.int (g i),H,I.tok _,⟨_,rfl⟩,q⟩
theorem un_neg:UnR X (unaryOp .USub) (rU fun i=>.int (-i)):=unI fun _ _ _ _ _ q=>neg_int q
end
def scal:V->V->Bool
 |.non,.non=>true | .non,.int _=>true | .int _,.non=>true | .non,.bl _=>true | .bl _,.non=>true | .non,.str _=>true | .str _,.non=>true
 |.int _,.int _=>true | .bl _,.bl _=>true | .str _,.str _=>true | .byt _,.byt _=>true
 |.int _,.str _=>true | .str _,.int _=>true | .bl _,.str _=>true | .str _,.bl _=>true
 |_,_=>false
def rEq:R2:=fun x y H Q=>scal x y=true/\Q (.bl (decide (x=y))) H
def rNe:R2:=fun x y H Q=>scal x y=true/\Q (.bl (!decide (x=y))) H
theorem dec_int{i j:Int}:decide (V.int i=V.int j)=(i==j):=by
 rw[Bool.eq_iff_iff]
 simp
theorem dec_bl{i j:Bool}:decide (V.bl i=V.bl j)=(i==j):=by
 rw[Bool.eq_iff_iff]
 simp
theorem dec_str{i j:Str}:decide (V.str i=V.str j)=(i==j):=by
 rw[Bool.eq_iff_iff]
 simp
theorem dec_byt{i j:Array UInt8}:decide (V.byt i=V.byt j)=(i.toList==j.toList):=by
 rw[Bool.eq_iff_iff]
 cases i
 cases j
 simp
section
variable{X:Cx}{a b c:Expr}{ta tb tc:TE}{pos:Pos}
theorem fin_bl{pins:List (Addr×Obj)}{σ:St}{H:Hp}{s:Shared}{Q:VK}{k k':Bool}(I:Inv X pins σ H s)(q:Q (.bl k) H)(e:k=k'):EP X pins σ Q (.bool k') s:=by
 subst e
 exact⟨.bl k,H,I,rfl,q⟩
theorem op_eq:OpR X (compareOp .Eq) rEq:=by
 intro pins s σ H x y v u Q I rx ry h
 obtain⟨hs,q⟩:=h
 cases x with
 |non =>
  cases rx
  cases y with
  |non=>cases ry;exact PySem.EqNone.eq_none_none (fin_bl I q (by simp))
  |bl j=>cases ry;exact PySem.EqNone.eq_none_bool (fin_bl I q (by simp))
  |int j=>obtain⟨t',rfl⟩:=ry;exact PySem.EqNone.eq_none_int (fin_bl I q (by simp))
  |str j=>obtain⟨t',rfl⟩:=ry;exact PySem.EqNone.eq_none_str (fin_bl I q (by simp))
  |_=>exact absurd (show false=true from hs) Bool.false_ne_true
 |bl i =>
  cases rx
  cases y with
  |non=>cases ry;exact PySem.EqNone.eq_bool_none (fin_bl I q (by simp))
  |bl j=>cases ry;exact eq_bool (fin_bl I q dec_bl)
  |str j=>obtain⟨t',rfl⟩:=ry;exact PySem.EqMixed.eq_bool_str (fin_bl I q (by simp))
  |_=>exact absurd (show false=true from hs) Bool.false_ne_true
 |int i =>
  obtain⟨t,rfl⟩:=rx
  cases y with
  |non=>cases ry;exact PySem.EqNone.eq_int_none (fin_bl I q (by simp))
  |int j=>obtain⟨t',rfl⟩:=ry;exact eq_int (fin_bl I q dec_int)
  |str j=>obtain⟨t',rfl⟩:=ry;exact PySem.EqMixed.eq_int_str (fin_bl I q (by simp))
  |_=>exact absurd (show false=true from hs) Bool.false_ne_true
 |str i =>
  obtain⟨t,rfl⟩:=rx
  cases y with
  |non=>cases ry;exact PySem.EqNone.eq_str_none (fin_bl I q (by simp))
  |bl j=>cases ry;exact PySem.EqMixed.eq_str_bool (fin_bl I q (by simp))
  |int j=>obtain⟨t',rfl⟩:=ry;exact PySem.EqMixed.eq_str_int (fin_bl I q (by simp))
  |str j=>obtain⟨t',rfl⟩:=ry;exact eq_str (fin_bl I q dec_str)
  |_=>exact absurd (show false=true from hs) Bool.false_ne_true
 |byt i =>
  obtain⟨t,rfl⟩:=rx
  cases y with
  |byt j=>obtain⟨t',rfl⟩:=ry;exact W.eq_bytes (fin_bl I q dec_byt)
  |_=>exact absurd (show false=true from hs) Bool.false_ne_true
 |_=>cases y <;> exact absurd (show false=true from hs) Bool.false_ne_true
theorem op_ne:OpR X (compareOp .NotEq) rNe:=by
 intro pins s σ H x y v u Q I rx ry h
 obtain⟨hs,q⟩:=h
 cases x with
 |non =>
  cases rx
  cases y with
  |non=>cases ry;exact PySem.EqNone.ne_none_none (fin_bl I q (by simp))
  |bl j=>cases ry;exact PySem.EqNone.ne_none_bool (fin_bl I q (by simp))
  |int j=>obtain⟨t',rfl⟩:=ry;exact PySem.EqNone.ne_none_int (fin_bl I q (by simp))
  |str j=>obtain⟨t',rfl⟩:=ry;exact PySem.EqNone.ne_none_str (fin_bl I q (by simp))
  |_=>exact absurd (show false=true from hs) Bool.false_ne_true
 |bl i =>
  cases rx
  cases y with
  |non=>cases ry;exact PySem.EqNone.ne_bool_none (fin_bl I q (by simp))
  |bl j=>cases ry;exact ne_bool (fin_bl I q (congrArg not dec_bl))
  |str j=>obtain⟨t',rfl⟩:=ry;exact PySem.EqMixed.ne_bool_str (fin_bl I q (by simp))
  |_=>exact absurd (show false=true from hs) Bool.false_ne_true
 |int i =>
  obtain⟨t,rfl⟩:=rx
  cases y with
  |non=>cases ry;exact PySem.EqNone.ne_int_none (fin_bl I q (by simp))
  |int j=>obtain⟨t',rfl⟩:=ry;exact ne_int (fin_bl I q (congrArg not dec_int))
  |str j=>obtain⟨t',rfl⟩:=ry;exact PySem.EqMixed.ne_int_str (fin_bl I q (by simp))
  |_=>exact absurd (show false=true from hs) Bool.false_ne_true
 |str i =>
  obtain⟨t,rfl⟩:=rx
  cases y with
  |non=>cases ry;exact PySem.EqNone.ne_str_none (fin_bl I q (by simp))
  |bl j=>cases ry;exact PySem.EqMixed.ne_str_bool (fin_bl I q (by simp))
  |int j=>obtain⟨t',rfl⟩:=ry;exact PySem.EqMixed.ne_str_int (fin_bl I q (by simp))
  |str j=>obtain⟨t',rfl⟩:=ry;exact ne_str (fin_bl I q (congrArg not dec_str))
  |_=>exact absurd (show false=true from hs) Bool.false_ne_true
 |byt i =>
  obtain⟨t,rfl⟩:=rx
  cases y with
  |byt j=>obtain⟨t',rfl⟩:=ry;exact W.ne_bytes (fin_bl I q (congrArg not dec_byt))
  |_=>exact absurd (show false=true from hs) Bool.false_ne_true
 |_=>cases y <;> exact absurd (show false=true from hs) Bool.false_ne_true
theorem op_lt:OpR X (compareOp .Lt) (rI0 fun i j=>.bl (decide (i<j))):=opB0 fun _ _ _ _ _ _ _ q=>lt_int q
theorem op_le:OpR X (compareOp .LtE) (rI0 fun i j=>.bl (decide (i<=j))):=opB0 fun _ _ _ _ _ _ _ q=>le_int q
theorem op_gt:OpR X (compareOp .Gt) (rI0 fun i j=>.bl (decide (j<i))):=opB0 fun _ _ _ _ _ _ _ q=>gt_int q
theorem op_in_str:OpR X (compareOp .In) (fun x y H Q=>∃i j,x=.str i/\y=.str j/\Q (.bl (!(Builtin.Str.occurrences j i 0 j.length 1).isEmpty)) H):=by
 intro pins s σ H x y v u Q I rx ry h
 obtain⟨i,j,rfl,rfl,q⟩:=h
 obtain⟨t,rfl⟩:=rx
 obtain⟨t',rfl⟩:=ry
 exact in_str (fin_bl I q rfl)
theorem op_notin_str:OpR X (compareOp .NotIn) (fun x y H Q=>∃i j,x=.str i/\y=.str j/\Q (.bl (!(!(Builtin.Str.occurrences j i 0 j.length 1).isEmpty))) H):=by
 intro pins s σ H x y v u Q I rx ry h
 obtain⟨i,j,rfl,rfl,q⟩:=h
 obtain⟨t,rfl⟩:=rx
 obtain⟨t',rfl⟩:=ry
 exact notIn_str (fin_bl I q rfl)
theorem nomark(b:Expr){op:CmpOp}(h:op≠.In:=by decide)(h2:op≠.NotIn:=by decide):behindInMarks op b=false:=by
 have e1:(op==CmpOp.In)=false:=by cases op <;> first | rfl | exact absurd rfl h
 have e2:(op==CmpOp.NotIn)=false:=by cases op <;> first | rfl | exact absurd rfl h2
 cases b <;> simp[behindInMarks,e1,e2]
theorem pe_cmpR{op:CmpOp}{r:R2}(ho:OpR X (compareOp op) r)(ha:PE X a ta)(hb:PE X b tb)(hm:behindInMarks op b=false):PE X (.Compare a [op] [b] pos) (tOp r ta tb):=by
 intro pins s σ H Q I h
 exact wpAny_Compare1 (binT ha hb I h fun v u s2 x y H2 I2 rx ry q=>ho pins s2 σ H2 x y v u Q I2 rx ry q) hm
def tTest(t:TE):TT:=fun σ H Q=>t σ H fun x H'=>∃k,x=.bl k/\Q k H'
theorem pt_cmpR{op:CmpOp}{r:R2}(ho:OpR X (compareOp op) r)(ha:PE X a ta)(hb:PE X b tb)(hm:behindInMarks op b=false):PT X (.Compare a [op] [b] pos) (tTest (tOp r ta tb)):=by
 intro pins s σ H Q I h
 refine wpAny_isTrue_Compare1 (thn (ha pins s σ H _ I h) fun v s1 ⟨x,H1,I1,r1,q1⟩=>thn (hb pins s1 σ H1 _ I1 q1) fun u s2 ⟨y,H2,I2,r2,q2⟩ =>
  thn (ho pins s2 σ H2 x y v u _ I2 r1 r2 q2) fun c s3 ⟨z,H3,I3,r3,k,e,q3⟩=>?_) hm
 subst e
 cases r3
 exact wpAny_truthy_bool ⟨H3,I3,q3⟩
theorem line63:(sizeLine:Nat)<2 ^ 63:=by rw[sizeLine_eq];decide
theorem op_add_str:OpR X (binaryOp .Add) (fun x y H Q=>∃i j,x=.str i/\y=.str j/\i.length+j.length<=sizeLine/\Q (.str (i++j)) H):=by
 intro pins s σ H x y v u Q I rx ry h
 obtain⟨i,j,rfl,rfl,hz,q⟩:=h
 obtain⟨t,rfl⟩:=rx
 obtain⟨t',rfl⟩:=ry
 exact add_str (fun t' tk=>⟨.str (i++j),H,I.tok _,⟨_,rfl⟩,q⟩) hz
theorem vals1{x:V}{us:List Value}(r:Vals [x] us):∃u,us=[u]/\RelV x u:=by
 cases r with
 |cons r1 r2=>cases r2;exact⟨_,rfl,r1⟩
theorem vals2{x y:V}{us:List Value}(r:Vals [x,y] us):∃u w',us=[u,w']/\RelV x u/\RelV y w':=by
 cases r with
 |cons r1 r2 =>
  cases r2 with
  |cons r3 r4=>cases r4;exact⟨_,_,rfl,r1,r3⟩
theorem call_max2(hc:X.calm=true):CallR X (.builtin "max") (fun xs H Q=>∃i j,xs=[.int i,.int j]/\Q (.int (if j>i then j else i)) H):=by
 intro pins s σ H xs us Q I r h
 obtain⟨i,j,rfl,q⟩:=h
 obtain⟨u,w',rfl,⟨t,rfl⟩,⟨t',rfl⟩⟩:=vals2 r
 refine max_two_ints (I.ok.hd hc) fun h' tk k=>⟨_,H,I.kept k,?_,q⟩
 by_cases hj:j>i
 ·rw[if_pos hj,if_pos hj];exact⟨_,rfl⟩
 ·rw[if_neg hj,if_neg hj];exact⟨_,rfl⟩
theorem call_int1:CallR X (.type "int") (fun xs H Q=>(∃i,xs=[.int i]/\Q (.int i) H)∨∃k,xs=[.bl k]/\Q (.int (if k then 1 else 0)) H):=by
 intro pins s σ H xs us Q I r h
 rcases h with⟨i,rfl,q⟩ | ⟨k,rfl,q⟩
 ·obtain⟨u,rfl,t,rfl⟩:=vals1 r
  exact call_int_int ⟨.int i,H,I,⟨_,rfl⟩,q⟩
 ·obtain⟨u,rfl,r1⟩:=vals1 r
  cases r1
  exact call_int_bool ⟨.int (if k then 1 else 0),H,I.tok _,⟨_,rfl⟩,q⟩
theorem call_str_int:CallR X (.type "str") (fun xs H Q=>∃i,xs=[.int i]/\i.natAbs.log2<1920/\Q (.str (toString i)) H):=by
 intro pins s σ H xs us Q I r h
 obtain⟨i,rfl,hz,q⟩:=h
 obtain⟨u,rfl,t,rfl⟩:=vals1 r
 exact PySem.P.str_of_int hz ⟨.str _,H,I.tok _,⟨_,rfl⟩,q⟩
theorem call_ord:CallR X (.builtin "ord") (fun xs H Q=>∃x,xs=[.str x]/\x.length=1/\Q (.int (x.cps.getD 0 0:Nat)) H):=by
 intro pins s σ H xs us Q I r h
 obtain⟨x,rfl,hz,q⟩:=h
 obtain⟨u,rfl,t,rfl⟩:=vals1 r
 exact ord_of_one hz ⟨.int _,H,I.tok _,⟨_,rfl⟩,q⟩
end
structure ObjM(h:Heap)(x dx C:Addr)(mA:Str->Option Value):Prop where
 obj:h.get? x=some (W.instObj C dx)
 ns:h.Ns1 dx mA
 ne:dx≠x
theorem lookIn_ns{h:Heap}{dx:Addr}{mA:Str->Option Value}(n:h.Ns1 dx mA):∃od,h.get? dx=some od/\∀name,W.lookIn name od=some (mA name):=by
 obtain⟨o,es,ep,ho,hd,hk,_,hm⟩:=n
 refine⟨o,ho,fun name=>?_⟩
 have e:=hm name
 unfold nsFind findBy at e
 rw[← Array.find?_toList]at e
 unfold W.lookIn
 rw[hd]
 dsimp only
 split
 ·rename_i y q
  rw[q]at e
  exact congrArg some e
 ·rename_i q
  rw[q]at e
  have a:es.toList.any (·.refKey)=false:=by
   rw[List.any_eq_false]
   intro y hy
   obtain⟨z,t,hkey⟩:=hk y (Array.mem_toList_iff.mp hy)
   simp[DictEntry.refKey,hkey]
  have a':¬es.toList.any (·.refKey)=true:=by rw[a];exact Bool.false_ne_true
  rw[if_neg a']
  exact congrArg some e
theorem ObjM.look{h:Heap}{x dx C:Addr}{mA:Str->Option Value}(I:ObjM h x dx C mA):∃od,W.InstAt h x (W.instObj C dx) C (some od)/\∀name,W.lookIn name od=some (mA name) :=
 let⟨od,ho,hl⟩:=lookIn_ns I.ns
 ⟨od,⟨I.obj,rfl,rfl,ho⟩,hl⟩
section
variable{prog:Program}{w:World}{A:Around}{E:Value->Shared->Prop}{s:Shared}{K:W.Frag}{x dx C f:Addr}{mA:Str->Option Value}{name:Str}{v:Value}
theorem get_map{expr:Bool}{Q:Value->Shared->Prop}(X:K.In s.heap)(I:ObjM s.heap x dx C mA)(hg:W.plainGet K C name=true)(hh:W.hasDictIn K C=true)
  (ha:W.findIn K (.ref C) name=some none) (hv:mA name=some v) (hv':W.handedIn v=true) (h:Q v { s with toks:=s.toks+1 }) :
  wpAny (model prog w) A (getAttr (.ref x) name expr) Q E s:=by
 obtain⟨od,J,hl⟩:=I.look
 exact W.get_value X J (W.plainGet_of hg).1 (W.findObj_own hh ha rfl (by rw[hl,hv])) hv' h
theorem get_meth{pl:Sem Bool}{Q:Value×List Value->Shared->Prop}(X:K.In s.heap)(I:ObjM s.heap x dx C mA)(hg:W.plainGet K C name=true)
  (hf:W.findIn K (.ref C) name=some (some (.ref f))) (ht:W.isFn K (.ref f)=true) (hv:mA name=none) (h:Q (.ref f,[.ref x]) s) :
  wpAny (model prog w) A (getMethod (.ref x) name pl) Q E s:=by
 obtain⟨od,J,hl⟩:=I.look
 exact W.method_fn X J (W.plainGet_of hg).1 (W.plainGet_of hg).2 hf (beq_iff_eq.mp ht) (by show(W.lookIn name od).map (·.isSome)=some false;rw[hl,hv];rfl) h
theorem set_map{ns:List Str}{Q:Unit->Shared->Prop}(X:K.In s.heap)(I:ObjM s.heap x dx C mA)
  (hs:W.findIn K (.ref C) "__setattr__" = some (some (.builtin "object.__setattr__"))) (hp:W.plainOver K C=true) (ht:W.takerIn K C name=some none) (hh:W.hasDictIn K C=true)
  (hw:PySem.Within mA ns) (hsz:ns.length<=sizeLine)
  (h:∀h',ObjM h' x dx C (fun y=>if y=name then some v else mA y)->Heap.SameBut dx s.heap h'->Q () { s with heap:=h',toks:=s.toks+2 }) :
  wpAny (model prog w) A (setAttr (.ref x) name v) Q E s:=by
 obtain⟨od,J,hl⟩:=I.look
 refine W.set_plain X J hs (W.osa_open (s:={ s with toks:=s.toks+1 }) (r:=none) X J hp ht fun b=>?_)
 obtain⟨cd,hc,hd'⟩:=W.any_some hh
 have hx:s.heap.get? x=some ⟨.ref C,some dx,.plain,#[]⟩:=I.obj
 refine wpAny_bind (wpAny_pure (wpAny_bind (wpAny_bind (wpAny_loadPart hx (wpAny_bind (W.Looks.here (s:={ s with toks:=s.toks+1 }) (W.looks_clsIn X hc) ?_))))))
 rw[hd']
 refine wpAny_pure (a:=some dx) (wpAny_bind (wpAny_pure (wpAny_bind ?_)))
 refine wpAny_nsSet1 (s:={ s with toks:=s.toks+1 }) I.ns fun h' hn2 hs2=>?_
 obtain⟨oD,esD,epD,hoD,hdD,hcD⟩:=hn2.count (PySem.Within.cons name v hw)
 refine wpAny_bind (wpAny_lookBehind hoD (by rw[hdD];exact pastItsLine_dict (Nat.le_trans hcD (by rw[List.length_cons];omega))) ?_)
 exact wpAny_pure (h _ ⟨(hs2.2 _ (Ne.symm I.ne)).trans I.obj,hn2,I.ne⟩ hs2)
theorem make_map{R:Result->Shared->Prop}{vs:List Value}{kw:List (Str×Value)}(X:K.In s.heap)(hm:W.makesIn K C=true)
  (hi:W.findIn K (.ref C) "__init__" = some (some (.ref f))) (hf:W.typeIn K (.ref f)=some (.type "function"))
  (h:codeAny (model prog w) (A.under (.builtin "type.__call__" ⟨.ref C::vs,kw⟩)) (.call (.ref f) ⟨.ref (s.heap.objs.size+1)::vs,kw⟩) (W.InitBack (s.heap.objs.size+1) R)
   { s with heap:=(s.heap.push W.emptyDict).push (W.instObj C s.heap.objs.size) }) :
  codeAny (model prog w) A (.call (.ref C) ⟨vs,kw⟩) R s:=by
 obtain⟨hh,g,d,t,os⟩:=s
 exact W.make_core (W.makes_of X hm) (W.looks_findIn X hi) (fun self=>W.bind_fn X self hf) (.inl rfl) h
end
def putF(f:Str)(v:V):List (Str×V)->List (Str×V)
 | []=>[(f,v)]
 |(g,x)::r=>if g=f then(g,v)::r else(g,x)::putF f v r
theorem lookup_putF(f g:Str)(v:V):∀fs:List (Str×V),(putF f v fs).lookup g=if g=f then some v else fs.lookup g
 | []=>by
  show List.lookup g [(f,v)]=_
  by_cases h:g=f
  ·have hb:(g==f)=true:=beq_iff_eq.mpr h
   simp only[List.lookup,hb,if_pos h]
  ·have hb:(g==f)=false:=beq_eq_false_iff_ne.mpr h
   simp only[List.lookup,hb,if_neg h]
 |(k,x)::r=>by
  have ih:=lookup_putF f g v r
  rw[show putF f v ((k,x)::r)=(if k=f then(k,v)::r else(k,x)::putF f v r) from rfl]
  by_cases hk:k=f
  ·rw[if_pos hk]
   by_cases h:g=k
   ·have hb:(g==k)=true:=beq_iff_eq.mpr h
    simp only[List.lookup,hb,if_pos (h.trans hk)]
   ·have hb:(g==k)=false:=beq_eq_false_iff_ne.mpr h
    simp only[List.lookup,hb,if_neg (fun e:g=f=>h (e.trans hk.symm))]
  ·rw[if_neg hk]
   by_cases h:g=k
   ·have hb:(g==k)=true:=beq_iff_eq.mpr h
    simp only[List.lookup,hb,if_neg (fun e:g=f=>hk (h.symm.trans e))]
   ·have hb:(g==k)=false:=beq_eq_false_iff_ne.mpr h
    simp only[List.lookup,hb]
    exact ih
theorem keys_putF(f:Str)(v:V):∀fs:List (Str×V),f∈(putF f v fs).map (·.1)/\∀g,g∈fs.map (·.1)->g∈(putF f v fs).map (·.1)
 | []=>⟨by simp[putF],fun g h=>by simp at h⟩
 |(k,x)::r=>by
  obtain⟨i1,i2⟩:=keys_putF f v r
  rw[show putF f v ((k,x)::r)=(if k=f then(k,v)::r else(k,x)::putF f v r) from rfl]
  by_cases hk:k=f
  ·rw[if_pos hk]
   subst hk
   exact⟨by simp,fun g h=>by simpa using h⟩
  ·rw[if_neg hk]
   refine⟨?_,fun g h=>?_⟩
   ·rw[List.map_cons]
    exact List.mem_cons_of_mem _ i1
   ·rw[List.map_cons]at h ⊢
    rcases List.mem_cons.mp h with e | e
    ·exact List.mem_cons.mpr (.inl e)
    ·exact List.mem_cons_of_mem _ (i2 g e)
theorem length_putF(f:Str)(v:V):∀fs:List (Str×V),(putF f v fs).length<=fs.length+1
 | []=>by simp[putF]
 |(k,x)::r=>by
  have ih:=length_putF f v r
  rw[show putF f v ((k,x)::r)=(if k=f then(k,v)::r else(k,x)::putF f v r) from rfl]
  by_cases hk:k=f
  ·rw[if_pos hk,List.length_cons,List.length_cons];omega
  ·rw[if_neg hk,List.length_cons,List.length_cons];omega
theorem RelO.some_of{v:V}{o:Option Value}(r:RelO (some v) o):∃u,o=some u/\RelV v u:=by
 cases o with
 |none=>exact(show False from r).elim
 |some u=>exact⟨u,rfl,r⟩
theorem RelO.none_of{o:Option Value}(r:RelO none o):o=none:=by
 cases o with
 |none=>rfl
 |some u=>exact(show False from r).elim
theorem handed_of{v:V}{u:Value}(r:RelV v u):W.handedIn u=true:=by
 cases v with
 |non=>cases(show u=Value.none from r);rfl
 |bl b=>cases(show u=Value.bool b from r);rfl
 |int i=>obtain⟨t,e⟩:=(show ∃t,u=Value.int i t from r);cases e;rfl
 |str x=>obtain⟨t,e⟩:=(show ∃t,u=Value.str x t from r);cases e;rfl
 |byt b=>obtain⟨t,e⟩:=(show ∃t,u=Value.bytes b t from r);cases e;rfl
 |flt b=>obtain⟨t,e⟩:=(show ∃t,u=Value.float b t from r);cases e;rfl
 |ref a=>cases(show u=Value.ref a from r);rfl
 |ty n=>cases(show u=Value.type n from r);rfl
section
variable{P:Program}{w:World}{H H':Hp}{h h':Heap}{a C dx:Addr}{fs fs':List (Str×V)}
theorem ins_get(hok:HOk P w H h)(e:H a=some (.ins C dx fs)):∃mA,ObjM h a dx C mA/\(∀f,RelO (fs.lookup f) (mA f))/\PySem.Within mA (fs.map (·.1))/\fs.length<=1000/\H dx=some (.own a):=by
 obtain⟨d,z,ne,ob,mA,n,r,q⟩:=(show ObjOk P w H h a (.ins C dx fs) from hok a _ e)
 exact⟨mA,⟨ob,n,ne⟩,r,q,z,d⟩
end
structure Cls(K:W.Frag)(C:Addr):Prop where
 pg:W.plainGet K C Str.empty=true
 hd:W.hasDictIn K C=true
 po:W.plainOver K C=true
 sa:W.findIn K (.ref C) "__setattr__" = some (some (.builtin "object.__setattr__"))
theorem Cls.get{K:W.Frag}{C:Addr}(c:Cls K C)(f:Str):W.plainGet K C f=true:=c.pg
def NoAttr(K:W.Frag)(C:Addr)(f:Str):Prop:=W.findIn K (.ref C) f=some none
theorem NoAttr.taker{K:W.Frag}{C:Addr}{f:Str}(n:NoAttr K C f):W.takerIn K C f=some none:=by
 unfold W.takerIn
 rw[show W.findIn K (.ref C) f=some none from n]
 rfl
structure Meth(K:W.Frag)(C:Addr)(m:Str)(f:Addr):Prop where
 at_:W.findIn K (.ref C) m=some (some (.ref f))
 fn:W.isFn K (.ref f)=true
 kp:W.keepIn K (.ref f)=true
section
variable{X:Cx}{pins:List (Addr×Obj)}{σ:St}{H:Hp}{s:Shared}{a C dx:Addr}{fs:List (Str×V)}{f:Str}{v:V}{A:Around}{E:Value->Shared->Prop}
theorem getattr_ok{b:Bool}{Q:Value->Shared->Prop}(I:Inv X pins σ H s)(e:H a=some (.ins C dx fs))(c:Cls X.K C)(n:NoAttr X.K C f)(l:fs.lookup f=some v)
  (h:∀u s',Inv X pins σ H s'->RelV v u->Q u s'):wpAny (model X.prog X.w) A (getAttr (.ref a) f b) Q E s:=by
 obtain⟨mA,O,r,_,_,_⟩:=ins_get I.hok e
 obtain⟨u,hu,ru⟩:=RelO.some_of (v:=v) (o:=mA f) (by rw[← l];exact r f)
 exact get_map I.kIn O (c.get f) c.hd n hu (handed_of ru) (h u _ (I.tok _) ru)
theorem getmeth_ok{m:Str}{g:Addr}{pl:Sem Bool}{Q:Value×List Value->Shared->Prop}(I:Inv X pins σ H s)(e:H a=some (.ins C dx fs))(c:Cls X.K C)(k:Meth X.K C m g)(l:fs.lookup m=none)
  (h:Q (.ref g,[.ref a]) s):wpAny (model X.prog X.w) A (getMethod (.ref a) m pl) Q E s:=by
 obtain⟨mA,O,r,_,_,_⟩:=ins_get I.hok e
 have hn:mA m=none:=RelO.none_of (by rw[← l];exact r m)
 exact get_meth I.kIn O (c.get m) k.at_ k.fn hn h
theorem setattr_ok{y:V}{u:Value}{Q:Unit->Shared->Prop}(I:Inv X pins σ H s)(e:H a=some (.ins C dx fs))(c:Cls X.K C)(n:NoAttr X.K C f)(hl:fs.length<1000)(ry:RelV y u)
  (h:∀s',Inv X pins σ (upd H a (.ins C dx (putF f y fs))) s'->Q () s'):wpAny (model X.prog X.w) A (setAttr (.ref a) f u) Q E s:=by
 obtain⟨mA,O,r,wi,_,ho⟩:=ins_get I.hok e
 have hz:(fs.map (·.1)).length<=sizeLine:=by rw[List.length_map,sizeLine_eq];omega
 refine set_map I.kIn O c.sa c.po n.taker c.hd wi hz fun h' O' sb=>h _ ?_
 have hd:∃o,h'.get? dx=some o:=let⟨o,_,_,e',_⟩:=O'.ns;⟨o,e'⟩
 refine I.write (x:=a) (e:=dx) (by rw[e];exact True.intro) (.inr ho) (fun b q hb z=>(sb.2 b hb).trans z) hd ?_
 refine⟨by rw[upd_ne O.ne];exact ho,?_,O.ne,O'.obj,_,O'.ns,fun g=>?_,fun g hg=>?_⟩
 ·have:=length_putF f y fs;omega
 ·show RelO ((putF f y fs).lookup g) (if g=f then some u else mA g)
  rw[lookup_putF]
  by_cases q:g=f
  ·rw[if_pos q,if_pos q];exact ry
  ·rw[if_neg q,if_neg q];exact r g
 ·by_cases q:g=f
  ·rw[q];exact(keys_putF f y fs).1
  ·refine(keys_putF f y fs).2 g (wi g fun z=>hg ?_)
   show(if g=f then some u else mA g)=none
   rw[if_neg q];exact z
theorem Inv.made(I:Inv X pins σ H s):Inv X pins σ (upd (upd H s.heap.objs.size (.own (s.heap.objs.size+1))) (s.heap.objs.size+1) (.ins C s.heap.objs.size []))
  { s with heap:=(s.heap.push W.emptyDict).push (W.instObj C s.heap.objs.size) }:=by
 have e1:(s.heap.push W.emptyDict).get? s.heap.objs.size=some W.emptyDict:=Heap.get?_push_size s.heap rfl
 have e2:((s.heap.push W.emptyDict).push (W.instObj C s.heap.objs.size)).get? (s.heap.objs.size+1)=some (W.instObj C s.heap.objs.size):=by
  have:=Heap.get?_push_size (s.heap.push W.emptyDict) (o:=W.instObj C s.heap.objs.size) rfl
  rwa [Heap.size_push]at this
 have e3:(s.heap.push W.emptyDict).Ns s.heap.objs.size (fun _=>none):=⟨W.emptyDict,#[],_,e1,rfl,(fun e he=>absurd he (by simp)),fun _=>rfl⟩
 have I1:=I.laid (a:=s.heap.objs.size) (o:=.own (s.heap.objs.size+1)) (h':=s.heap.push W.emptyDict) (t':=s.toks) (fun b u q=>Heap.get?_push_of_some _ q) (Nat.le_refl _) ⟨_,e1⟩
 refine I1.laid (a:=s.heap.objs.size+1) (o:=.ins C s.heap.objs.size []) (t':=s.toks) (fun b u q=>Heap.get?_push_of_some _ q) (Nat.le_of_eq (Heap.size_push _ _)) ?_
 have ne:s.heap.objs.size≠s.heap.objs.size+1:=Nat.ne_of_lt (Nat.lt_succ_self _)
 refine⟨by rw[upd_ne ne,upd_same],Nat.zero_le _,ne,e2,fun _=>none,(Heap.Ns1.of_empty e3).at fun o q=>Heap.get?_push_of_some _ q,fun _=>True.intro,fun y hy=>absurd rfl hy⟩
theorem attr_of{prog:Program}{w:World}{env:Env}{e:Expr}{f:Str}{pos:Pos}{s:Shared}{Q:Value->Shared->Prop}(hb:attributeBase e f env (eval e env)=eval e env)
  (h:wpAny (model prog w) A (eval e env) (fun o s₁=>wpAny (model prog w) A (getAttr o f true) Q E s₁) E s):wpAny (model prog w) A (eval (.Attribute e f pos) env) Q E s :=
 Attribute_any_ h (by rw[arm_eval_Attribute,hb])
end
def tFld(K:W.Frag)(ta:TE)(f:Str):TE:=fun σ H Q=>ta σ H fun x H1=>∃a C dx fs v,x=.ref a/\H1 a=some (.ins C dx fs)/\Cls K C/\NoAttr K C f/\fs.lookup f=some v/\Q v H1
def sFld(K:W.Frag)(ta tv:TE)(f:Str):TS:=fun D σ H=>tv σ H fun y H1=>ta σ H1 fun x H2=>∃a C dx fs,x=.ref a/\H2 a=some (.ins C dx fs)/\Cls K C/\NoAttr K C f/\fs.length<1000 /\
 D.nx σ (upd H2 a (.ins C dx (putF f y fs)))
def InOp(X:Cx)(op:Operator)(rd:V->V->Hp->VK->Prop):Prop :=
 ∀(pins:List (Addr×Obj)) (s:Shared) (σ:St) (H:Hp) (x y:V) (u v:Value) (Q:VK),Inv X pins σ H s->RelV x u->RelV y v->rd x y H Q->wpAny (model X.prog X.w) X.A (inplaceOp op u v) (EP X pins σ Q) X.xe s
def sFldAug(K:W.Frag)(ta tv:TE)(rd:V->V->Hp->VK->Prop)(f:Str):TS:=fun D σ H=>ta σ H fun x H1=>∃a C dx fs v,x=.ref a/\H1 a=some (.ins C dx fs)/\Cls K C/\NoAttr K C f/\fs.lookup f=some v /\
 tv σ H1 fun y H2=>rd v y H2 fun z H3=>∃dx' fs',H3 a=some (.ins C dx' fs')/\fs'.length<1000/\D.nx σ (upd H3 a (.ins C dx' (putF f z fs')))
section
variable{X:Cx}{o e value:Expr}{f:Str}{pos pos' tpos:Pos}{ta tv:TE}{pins:List (Addr×Obj)}{σ:St}{H:Hp}{s:Shared}{A:Around}{E Q:Value->Shared->Prop}{c:Value}{b:Bool}
theorem pe_fld(he:PE X e ta)(hb:attributeBase e f X.env (eval e X.env)=eval e X.env):PE X (.Attribute e f pos) (tFld X.K ta f):=by
 intro pins s σ H Q I h
 refine attr_of hb (thn (he pins s σ H _ I h) fun u s1 ⟨x,H1,I1,rx,a,C,dx,fs,v,ex,ea,c,n,l,q⟩=>?_)
 subst ex
 obtain rfl:u=Value.ref a:=rx
 exact getattr_ok I1 ea c n l fun u' s2 I2 ru=>⟨v,H1,I2,ru,q⟩
theorem ps_fld(ha:PE X o ta)(hv:PE X value tv)(hs:swapsWith value (some (.Attribute o f pos')) pos.line X.env=pure false):PS X (.Assign [.Attribute o f pos'] value pos) (sFld X.K ta tv f):=by
 intro pins s σ H D I h
 refine plainObj_wpAny_Assign_Attribute (thn (hv pins s σ H _ I h) fun u s1 ⟨y,H1,I1,ry,q⟩=>thn (ha pins s1 σ H1 _ I1 q) fun ov s2 ⟨x,H2,I2,rx,a,C,dx,fs,ex,ea,c,n,l,q2⟩=>?_) hs
 subst ex
 obtain rfl:ov=Value.ref a:=rx
 exact setattr_ok I2 ea c n l ry fun s3 I3=>⟨σ,_,I3,q2⟩
theorem ps_fldaug{op:Operator}{rd:V->V->Hp->VK->Prop}(ha:PE X o ta)(hv:PE X value tv)(hop:InOp X op rd):PS X (.AugAssign (.Attribute o f tpos) op value pos) (sFldAug X.K ta tv rd f):=by
 intro pins s σ H D I h
 refine wpAny_AugAssign_AttributeAny (thn (ha pins s σ H _ I h) fun ov s1 ⟨x,H1,I1,rx,a,C,dx,fs,v,ex,ea,c,n,l,q⟩=>?_)
 subst ex
 obtain rfl:ov=Value.ref a:=rx
 refine getattr_ok I1 ea c n l fun u s2 I2 ru=>thn (hv pins s2 σ H1 _ I2 q) fun w3 s3 ⟨y,H2,I3,ry,q3⟩=>thn (hop pins s3 σ H2 v y u w3 _ I3 ru ry q3) fun w4 s4 ⟨z,H3,I4,rz,dx',fs',ea',l',q4⟩=>?_
 exact setattr_ok I4 ea' c n l' rz fun s5 I5=>⟨σ,_,I5,q4⟩
def rAdd:V->V->Hp->VK->Prop:=fun x y H Q=>∃i j,x=.int i/\y=.int j/\Q (.int (i+j)) H
def rSub:V->V->Hp->VK->Prop:=fun x y H Q=>∃i j,x=.int i/\y=.int j/\Q (.int (i-j)) H
theorem in_add:InOp X .Add rAdd:=by
 rintro pins s σ H x y u v Q I rx ry ⟨i,j,rfl,rfl,q⟩
 obtain⟨t,rfl⟩:=(show ∃t,u=Value.int i t from rx)
 obtain⟨t',rfl⟩:=(show ∃t',v=Value.int j t' from ry)
 exact PyProof.Rows.iadd_int ⟨.int (i+j),H,I.tok _,⟨_,rfl⟩,q⟩
theorem in_sub:InOp X .Sub rSub:=by
 rintro pins s σ H x y u v Q I rx ry ⟨i,j,rfl,rfl,q⟩
 obtain⟨t,rfl⟩:=(show ∃t,u=Value.int i t from rx)
 obtain⟨t',rfl⟩:=(show ∃t',v=Value.int j t' from ry)
 exact PyProof.Rows.isub_int ⟨.int (i-j),H,I.tok _,⟨_,rfl⟩,q⟩
theorem methcall_of{pl:Sem Bool}{m:Str}{apos:Pos}{args:List Expr}{pins:List (Addr×Obj)}{s:Shared}{σ:St}{H:Hp}{Q:Value->Shared->Prop}{te:TE}(he:PE X e te)(I:Inv X pins σ H s)
  (h:te σ H fun x H1=>∃a C dx fs g,x=.ref a/\H1 a=some (.ins C dx fs)/\Cls X.K C/\Meth X.K C m g/\fs.lookup m=none /\
   ∀s1,Inv X pins σ H1 s1->wpAny (model X.prog X.w) X.A (callWith pos (.ref g) [.ref a] (backTo pos (starEach args X.env)) (backToKw pos (keywordEach [] X.env))) Q X.xe s1)
  (ht:eval (.Call (.Attribute e m apos) args [] pos) X.env=(do
   let ov ← eval e X.env
   standAt apos.atName
   let(f,first) ← holding [ov] (getMethod ov m pl)
   callWith pos f first (backTo pos (starEach args X.env)) (backToKw pos (keywordEach [] X.env)))) :
  wpAny (model X.prog X.w) X.A (eval (.Call (.Attribute e m apos) args [] pos) X.env) Q X.xe s:=by
 refine W.methodCall_KW (pl:=pl) (thn (he pins s σ H _ I h) fun u s1 ⟨x,H1,I1,rx,a,C,dx,fs,g,ex,ea,c,k,l,q⟩=>?_) ht
 subst ex
 obtain rfl:u=Value.ref a:=rx
 exact getmeth_ok I1 ea c k l (q s1 I1)
inductive TyOf(K:W.Frag)(H:Hp):V->Value->Prop where
 |non:TyOf K H .non (.type "NoneType")
 |bl (x:Bool):TyOf K H (.bl x) (.type "bool")
 |int (i:Int):TyOf K H (.int i) (.type "int")
 |str (x:Str):TyOf K H (.str x) (.type "str")
 |flt (x:UInt64):TyOf K H (.flt x) (.type "float")
 |lst {a:Addr} {xs:List V} (e:H a=some (.lst xs)):TyOf K H (.ref a) (.type "list")
 |frz {a:Addr} {o:Obj} {xs:List V} (e:H a=some (.frz o (.lst xs))):TyOf K H (.ref a) (.type "list")
 |tup {a:Addr} {xs:List V} (e:H a=some (.tup xs)):TyOf K H (.ref a) (.type "tuple")
 |dK {a:Addr} {kvs:List (Key×V)} (e:H a=some (.dK kvs)):TyOf K H (.ref a) (.type "dict")
 |dT {a:Addr} {kvs:List (List Key×V)} (e:H a=some (.dT kvs)):TyOf K H (.ref a) (.type "dict")
 |ins {a C dx:Addr} {fs:List (Str×V)} (e:H a=some (.ins C dx fs)) (cl:Cls K C) (ha:W.findIn K (.ref C) "__class__" = some (some (.builtin "object.__class__")))
   (hn:W.specialIn K (.builtin "object.__class__") "__get__" = some (some (.builtin "getset_descriptor.__get__"))) (htk:W.takesIn K (.builtin "object.__class__")=some true)
   (hm:W.mroIn K C (.type "object")=some true):TyOf K H (.ref a) (.ref C)
theorem isinst_ok{x:V}{u t:Value}(I:Inv X pins σ H s)(rx:RelV x u)(ty:TyOf X.K H x t)(e:W.kitOne X.K t c=some b)(h:∀tk,Q (.bool b) { s with toks:=tk }) :
  wpAny (model X.prog X.w) A (call (.builtin "isinstance") [u,c]) Q E s:=by
 cases ty with
 |non=>cases(show u=Value.none from rx);exact W.kia_one W.kitx_none I.kIn True.intro e (fun z=>nomatch z) h
 |bl y=>cases(show u=Value.bool y from rx);exact W.kia_one W.kitx_bool I.kIn True.intro e (fun z=>nomatch z) h
 |int i=>obtain⟨t,q⟩:=(show ∃t,u=Value.int i t from rx);cases q;exact W.kia_one W.kitx_int I.kIn True.intro e (fun z=>nomatch z) h
 |str y=>obtain⟨t,q⟩:=(show ∃t,u=Value.str y t from rx);cases q;exact W.kia_one W.kitx_str I.kIn True.intro e (fun z=>nomatch z) h
 |flt y=>obtain⟨t,q⟩:=(show ∃t,u=Value.float y t from rx);cases q;exact W.kia_one W.kitx_float I.kIn True.intro e (fun z=>nomatch z) h
 | @lst a xs ea =>
  cases(show u=Value.ref a from rx)
  obtain⟨_,_,n,_,h1⟩:=(show ObjOk X.prog X.w H s.heap a (.lst xs) from I.hok a _ ea)
  exact W.kia_one W.kitx_list I.kIn ⟨_,h1,rfl⟩ e (fun z=>nomatch z) h
 | @frz a ob xs ea =>
  cases(show u=Value.ref a from rx)
  obtain⟨_,_,_,n,_,h1⟩:=(show ObjOk X.prog X.w H s.heap a (.frz ob (.lst xs)) from I.hok a _ ea)
  exact W.kia_one W.kitx_list I.kIn ⟨_,h1,rfl⟩ e (fun z=>nomatch z) h
 | @tup a xs ea =>
  cases(show u=Value.ref a from rx)
  obtain⟨_,_,_,p⟩:=(show ObjOk X.prog X.w H s.heap a (.tup xs) from I.hok a _ ea)
  obtain⟨o,h1,h2,_⟩:=p
  exact W.kia_one W.kitx_tuple I.kIn ⟨o,h1,h2⟩ e (fun z=>nomatch z) h
 | @dK a kvs ea =>
  cases(show u=Value.ref a from rx)
  obtain⟨_,_,vs,_,p⟩:=(show ObjOk X.prog X.w H s.heap a (.dK kvs) from I.hok a _ ea)
  obtain⟨o,es,ep,h1,h2,_⟩:=p
  exact W.kia_one W.kitx_dict I.kIn ⟨o,h1,h2.1⟩ e (fun z=>nomatch z) h
 | @dT a kvs ea =>
  cases(show u=Value.ref a from rx)
  obtain⟨_,_,xs,_,o,es,ep,h1,h2,_⟩:=(show ObjOk X.prog X.w H s.heap a (.dT kvs) from I.hok a _ ea)
  exact W.kia_one W.kitx_dict I.kIn ⟨o,h1,h2.1⟩ e (fun z=>nomatch z) h
 | @ins a C dx fs ea cl ha hn htk hm =>
  cases(show u=Value.ref a from rx)
  obtain⟨mA,O,_⟩:=ins_get I.hok ea
  obtain⟨od,J,_⟩:=O.look
  exact W.kia_one (W.kitx_own (cl.get _) cl.hd ha hn htk hm) I.kIn J e (fun z=>nomatch z) h
end
structure Room(k:Nat)(A:Around):Prop where
 hd:A.handled=none
 dp:A.depth+3*k+5<recursionLimit
 un:A.units+16*k+200<cLine
theorem Room.mono{j k:Nat}{A:Around}(r:Room k A)(h:j<=k):Room j A:=⟨r.hd,by have:=r.dp;omega,by have:=r.un;omega⟩
theorem Room.deeper{k:Nat}{A:Around}(r:Room (k+1) A)(env:Env):Room k (A.deeper env) :=
 ⟨r.hd,by have:=r.dp;show A.depth+1+3*k+5<_;omega,by have:=r.un;show A.units+3+16*k+200<_;omega⟩
theorem make_depth{A:Around}{C:Addr}{us:List Value}{kw:List (Str×Value)}:(A.under (.builtin "type.__call__" ⟨.ref C::us,kw⟩)).depth=A.depth+1:=by
 first | rfl | simp[Around.under,Code.weight,Code.isCreation,Code.isGuard,Code.isCaller,Code.frames,Code.isFrame,guardIds]
theorem make_units{A:Around}{C:Addr}{us:List Value}{kw:List (Str×Value)}:(A.under (.builtin "type.__call__" ⟨.ref C::us,kw⟩)).units=A.units+1:=by
 first | rfl | simp[Around.under,Code.cUnits,Code.frames,Code.isFrame]
theorem Room.make{k:Nat}{A:Around}(r:Room (k+1) A)(C:Addr)(us:List Value)(kw:List (Str×Value)):Room k (A.under (.builtin "type.__call__" ⟨.ref C::us,kw⟩)) :=
 ⟨r.hd,by have:=r.dp;rw[make_depth];omega,by have:=r.un;rw[make_units];omega⟩
theorem Room.depth{k:Nat}{A:Around}(r:Room k A):A.depth<recursionLimit:=by have:=r.dp;omega
theorem Room.units{k:Nat}{A:Around}(r:Room k A):A.units+64<cLine:=by have:=r.un;omega
theorem Room.units0{k:Nat}{A:Around}(r:Room k A):A.units<cLine:=by have:=r.un;omega
def tNil:TA:=fun _ H Q=>Q [] H
def tCons(ta:TE)(tr:TA):TA:=fun σ H Q=>ta σ H fun x H1=>tr σ H1 fun xs H2=>Q (x::xs) H2
section
variable{X:Cx}{e:Expr}{es:List Expr}{te:TE}{t:TA}{pos:Pos}
theorem pa_nil:PA X [] tNil:=fun _ _ _ _ H Q I h=>Calls.spliced_nil ⟨[],H,I,.nil,h⟩
theorem pa_cons(ha:PE X e te)(hr:PA X es t)(hs:starEach (e::es) X.env=(false,eval e X.env)::starEach es X.env:=by rfl):PA X (e::es) (tCons te t):=by
 intro pos pins s σ H Q I h
 rw[hs]
 show wpAny _ _ (spliced ((false,eval e X.env)::backTo pos (starEach es X.env))) _ _ s
 refine Calls.spliced_cons (thn (ha pins s σ H _ I h) fun u s1 ⟨x,H1,I1,r1,q1⟩=>?_)
 exact thn (hr pos pins s1 σ H1 _ I1 q1) fun us s2 ⟨xs,H2,I2,r2,q2⟩=>⟨x::xs,H2,I2,.cons r1 r2,q2⟩
def tTup(t:TA):TE:=fun σ H Q=>t σ H fun xs H1=>xs.length<=sizeLine/\∀p,H1 p=none->Q (.ref p) (upd H1 p (.tup xs))
def tLst(t:TA):TE:=fun σ H Q=>t σ H fun xs H1=>xs.length<=sizeLine/\∀p,H1 p=none->Q (.ref p) (upd H1 p (.lst xs))
theorem pe_tup{x1}(h:PA X es t):PE X (.Tuple es x1 pos) (tTup t):=by
 intro pins s σ H Q I hq
 refine wpAny_Tuple_spliced (thn (h pos pins s σ H _ I hq) fun us s1 ⟨xs,H1,I1,r,z,q⟩=>⟨by rw[← r.length];exact z,?_⟩)
 have hf:H1 s1.heap.objs.size=none:=I1.hok.fresh (Nat.le_refl _)
 refine⟨.ref s1.heap.objs.size,upd H1 s1.heap.objs.size (.tup xs),I1.laid (t':=s1.toks) (fun b u e=>Heap.get?_push_of_some _ e) (Nat.le_refl _) ?_,rfl,q _ hf⟩
 exact⟨z,us,r,⟨_,Heap.get?_push_size _ rfl,rfl,_,rfl⟩⟩
theorem pe_lst(h:PA X es t):PE X (.List es pos) (tLst t):=by
 intro pins s σ H Q I hq
 refine wpAny_List_spliced (thn (h pos pins s σ H _ I hq) fun us s1 ⟨xs,H1,I1,r,z,q⟩=>⟨by rw[← r.length];exact z,?_⟩)
 have hf:H1 s1.heap.objs.size=none:=I1.hok.fresh (Nat.le_refl _)
 refine⟨.ref s1.heap.objs.size,upd H1 s1.heap.objs.size (.lst xs),I1.laid (t':=s1.toks) (fun b u e=>Heap.get?_push_of_some _ e) (Nat.le_refl _) ?_,rfl,q _ hf⟩
 exact⟨z,us,0,r,Heap.get?_push_size _ rfl⟩
end
abbrev Sp:=List V->Hp->VK->XK->Prop
abbrev CXT:=List Env->Hp->Shared->XK->Value->Shared->Prop
structure Env0(P:Program)(w:World)(K:W.Frag)(mg:Str->Option Value)(base:Heap)(A:Around)(outer:List Env)(s:Shared)(H:Hp):Prop where
 frames:A.frames=some outer
 mod:Mod K mg base
 bs:∀b o,base.get? b=some o->s.heap.get? b=some o/\H b=none
 bsz:base.objs.size<=s.heap.objs.size
 funs:s.heap.FunFrames base outer
 frf:∀b∈frs outer,H b=none
 hok:HOk P w H s.heap
 bare:AllBare s.gens
def CE(outer:List Env)(P:Program)(w:World)(H:Hp)(s:Shared)(Q:VK)(u:Value)(s':Shared):Prop :=
 ∃v H',s'.os=s.os/\AllBare s'.gens/\Un (frs outer) [] H H' s.heap s'.heap/\HOk P w H' s'.heap/\RelV v u/\Q v H'
def CR(CX:CXT)(outer:List Env)(P:Program)(w:World)(H:Hp)(s:Shared)(Q:VK)(E:XK)(r:Result)(s':Shared):Prop :=
 match r with
 |.ok (.ret u)=>CE outer P w H s Q u s'
 |.ok _=>False
 |.error e=>CX outer H s E e s'
structure FnOk(P:Program)(w:World)(K:W.Frag)(mg:Str->Option Value)(base:Heap)(CX:CXT)(k:Nat)(f:Addr)(fd:FuncData)(ps:List Str)(sp:Sp):Prop where
 len:∀vs H Q E,sp vs H Q E->vs.length=ps.length
 run:∀(A:Around) (outer:List Env) (s:Shared) (H:Hp) (args:Args) (us:List Value) (vs:List V) (Q:VK) (E:XK),Room k A->Env0 P w K mg base A outer s H->BindsTo s fd args (ps.zip us)->Vals vs us->sp vs H Q E ->
  codeAny (model P w) A (.call (.ref f) args) (CR CX outer P w H s Q E) s
theorem FnOk.mono{P:Program}{w:World}{K:W.Frag}{mg:Str->Option Value}{base:Heap}{CX:CXT}{j k:Nat}{f:Addr}{fd:FuncData}{ps:List Str}{sp:Sp}(F:FnOk P w K mg base CX j f fd ps sp)(h:j<=k) :
  FnOk P w K mg base CX k f fd ps sp:=⟨F.len,fun A outer s H args us vs Q E hr=>F.run A outer s H args us vs Q E (hr.mono h)⟩
theorem Env0.make{P:Program}{w:World}{K:W.Frag}{mg:Str->Option Value}{base:Heap}{A:Around}{outer:List Env}{s:Shared}{H:Hp}(e:Env0 P w K mg base A outer s H)(C:Addr)(us:List Value)(kw:List (Str×Value)) :
  Env0 P w K mg base (A.under (.builtin "type.__call__" ⟨.ref C::us,kw⟩)) outer s H:=⟨by first | exact e.frames | (simpa[Around.under,Code.envs,Code.isFrame,pushEnvs] using e.frames),e.mod,e.bs,e.bsz,e.funs,e.frf,e.hok,e.bare⟩
section
variable{X:Cx}{pins:List (Addr×Obj)}{σ:St}{H:Hp}{s s':Shared}
theorem Inv.env0(I:Inv X pins σ H s):Env0 X.prog X.w X.K X.mg X.base X.A X.stack s H :=
 ⟨I.ok.frames,I.ok.mod,I.bs,Nat.le_trans I.ok.bsz I.sz,I.stack,I.stkFree,I.hok,I.bare⟩
theorem Inv.after{Q:VK}{u:Value}(I:Inv X pins σ H s)(h:CE X.stack X.prog X.w H s Q u s'):EP X pins σ Q u s':=by
 obtain⟨v,H',os,bare,un,hok,r,q⟩:=h
 obtain⟨hh,g,d,t,os'⟩:=s'
 obtain rfl:os'=s.os:=os
 exact⟨v,H',I.call (h':=hh) (g':=g) (d':=d) (t':=t) (ch:=[]) un hok bare (fun b z=>absurd z (by simp)),r,q⟩
end
def tCall(sp:Sp)(dvs:List V)(E:XK)(t:TA):TE:=fun σ H Q=>t σ H fun vs H1=>sp (vs++dvs) H1 Q E
def tMeth(C:Addr)(m:Str)(sp:Sp)(dvs:List V)(E:XK)(ta:TE)(t:TA):TE:=fun σ H Q=>ta σ H fun x H1=>∃a dx fs,x=.ref a/\H1 a=some (.ins C dx fs)/\fs.lookup m=none /\
 t σ H1 fun vs H2=>sp (x::(vs++dvs)) H2 Q E
def tMake(C:Addr)(sp:Sp)(dvs:List V)(E:XK)(t:TA):TE:=fun σ H Q=>t σ H fun vs H1=>∀x dx,H1 x=none->H1 dx=none->dx≠x ->
 sp (.ref x::(vs++dvs)) (upd (upd H1 dx (.own x)) x (.ins C dx [])) (fun v H2=>v=.non/\Q (.ref x) H2) E
def Binds(K:W.Frag)(fd:FuncData)(ps:List Str)(ds:List Value):Prop :=
 ∀(s:Shared) (us:List Value),K.In s.heap->(us++ds).length=ps.length->BindsTo s fd ⟨us,[]⟩ (ps.zip (us++ds))
theorem Binds.all{K:W.Frag}{fd:FuncData}{ps:List Str}(h:∀us:List Value,us.length=ps.length->bindArgs fd ⟨us,[]⟩=pure (ps.zip us)):Binds K fd ps []:=fun s us _ hl=>by
 rw[List.append_nil]at hl ⊢
 exact .of_eq (h us hl)
def Passes(CX:CXT)(X:Cx)(E:XK):Prop:=∀(pins:List (Addr×Obj)) (σ:St) (H:Hp) (s:Shared) (e:Value) (s':Shared),Inv X pins σ H s->CX X.stack H s E e s'->X.xe e s'
section
variable{X:Cx}{CX:CXT}{k:Nat}{f C:Addr}{fd:FuncData}{ps:List Str}{sp:Sp}{dvs:List V}{ds:List Value}{E:XK}{x m:Str}{p pos apos:Pos}{e o:Expr}{es:List Expr}{ta:TE}{t:TA}
theorem run_fn{pins:List (Addr×Obj)}{σ:St}{H:Hp}{s:Shared}{Q:VK}{us:List Value}{vs:List V}(F:FnOk X.prog X.w X.K X.mg X.base CX k f fd ps sp)(hr:Room k X.A)(hb:Binds X.K fd ps ds)(hd:Vals dvs ds)(hx:Passes CX X E)
  (I:Inv X pins σ H s) (r:Vals vs us) (h:sp (vs++dvs) H Q E):wpAny (model X.prog X.w) X.A (call (.ref f) us) (EP X pins σ Q) X.xe s:=by
 have r2:Vals (vs++dvs) (us++ds):=r.append hd
 have hl:(us++ds).length=ps.length:=by rw[← r2.length];exact F.len _ _ _ _ h
 refine wpAny_call (codeAny_mono (F.run X.A X.stack s H ⟨us,[]⟩ (us++ds) (vs++dvs) Q E hr I.env0 (hb s us I.kIn hl) r2 h) fun r s' hq=>?_)
 cases r with
 |error e=>exact hx pins σ H s e s' I hq
 |ok fl =>
  cases fl with
  |ret u=>exact I.after hq
  |next=>exact False.elim hq
  |brk=>exact False.elim hq
  |cont=>exact False.elim hq
theorem pe_call(F:FnOk X.prog X.w X.K X.mg X.base CX k f fd ps sp)(hr:Room k X.A)(hg:Gl X x)(hm:X.mg x=some (.ref f))(hk:W.keepIn X.K (.ref f)=true)(hb:Binds X.K fd ps ds)(hd:Vals dvs ds)(hx:Passes CX X E)
  (ha:PA X (e::es) t) (hdb:(x==("__debug__":Str))=false:=by decide) (he:starEach (e::es) X.env=(false,eval e X.env)::starEach es X.env:=by rfl) (hpl:(backTo pos (starEach es X.env)).any (·.1)=false:=by rfl) :
  PE X (.Call (.Name x p) (e::es) [] pos) (tCall sp dvs E t):=by
 intro pins s σ H Q I h
 refine wpAny_Call_Name_kw (ld_glob I hg hm ?_ hdb)
 refine W.callWith_K (h₀:=X.base) I.ok.mod.kin hk (thn (ha pos pins s σ H _ I h) fun us s1 ⟨vs,H1,I1,r,q⟩=>⟨I1.kIn,?_⟩) he hpl
 exact run_fn F hr hb hd hx I1 r q
theorem pe_meth{pl:Sem Bool}(he:PE X o ta)(c:Cls X.K C)(hm:Meth X.K C m f)(F:FnOk X.prog X.w X.K X.mg X.base CX k f fd ps sp)(hr:Room k X.A)(hb:Binds X.K fd ps ds)(hd:Vals dvs ds)(hx:Passes CX X E)(ha:PA X (e::es) t)
  (hst:starEach (e::es) X.env=(false,eval e X.env)::starEach es X.env:=by rfl) (hpl:(backTo pos (starEach es X.env)).any (·.1)=false:=by rfl)
  (ht:eval (.Call (.Attribute o m apos) (e::es) [] pos) X.env=(do
   let ov ← eval o X.env
   standAt apos.atName
   let(f,first) ← holding [ov] (getMethod ov m pl)
   callWith pos f first (backTo pos (starEach (e::es) X.env)) (backToKw pos (keywordEach [] X.env))):=by rfl) :
  PE X (.Call (.Attribute o m apos) (e::es) [] pos) (tMeth C m sp dvs E ta t):=by
 intro pins s σ H Q I h
 refine W.methodCall_KW (pl:=pl) (thn (he pins s σ H _ I h) fun u s1 ⟨x,H1,I1,rx,a,dx,fs,ex,ea,l,q⟩=>?_) ht
 subst ex
 obtain rfl:u=Value.ref a:=rx
 refine getmeth_ok I1 ea c hm l ?_
 refine W.callWith_K (first:=[.ref a]) (h₀:=X.base) I.ok.mod.kin hm.kp (thn (ha pos pins s1 σ H1 _ I1 q) fun us s2 ⟨vs,H2,I2,r,q2⟩=>⟨I2.kIn,?_⟩) hst hpl
 exact run_fn (us:=.ref a::us) (vs:=.ref a::vs) F hr hb hd hx I2 (.cons rfl r) q2
theorem pe_meth0{pl:Sem Bool}(he:PE X o ta)(c:Cls X.K C)(hm:Meth X.K C m f)(F:FnOk X.prog X.w X.K X.mg X.base CX k f fd ps sp)(hr:Room k X.A)(hb:Binds X.K fd ps ds)(hd:Vals dvs ds)(hx:Passes CX X E)
  (ht:eval (.Call (.Attribute o m apos) [] [] pos) X.env=(do
   let ov ← eval o X.env
   standAt apos.atName
   let(f,first) ← holding [ov] (getMethod ov m pl)
   callWith pos f first (backTo pos (starEach [] X.env)) (backToKw pos (keywordEach [] X.env))):=by rfl) :
  PE X (.Call (.Attribute o m apos) [] [] pos) (tMeth C m sp dvs E ta tNil):=by
 intro pins s σ H Q I h
 refine W.methodCall_KW (pl:=pl) (thn (he pins s σ H _ I h) fun u s1 ⟨x,H1,I1,rx,a,dx,fs,ex,ea,l,q⟩=>?_) ht
 subst ex
 obtain rfl:u=Value.ref a:=rx
 refine getmeth_ok I1 ea c hm l ?_
 exact W.callWith_K0 (first:=[.ref a]) I1.kIn hm.kp (run_fn (us:=[.ref a]) (vs:=[.ref a]) F hr hb hd hx I1 (.cons rfl .nil) q)
structure Mk(K:W.Frag)(C f:Addr):Prop where
 makes:W.makesIn K C=true
 init:W.findIn K (.ref C) "__init__" = some (some (.ref f))
 fn:W.isFn K (.ref f)=true
 kp:W.keepIn K (.ref C)=true
theorem run_make{pins:List (Addr×Obj)}{σ:St}{H:Hp}{s:Shared}{Q:VK}{us:List Value}{vs:List V}(M:Mk X.K C f)(F:FnOk X.prog X.w X.K X.mg X.base CX k f fd ps sp)(hr:Room (k+1) X.A)(hb:Binds X.K fd ps ds)(hd:Vals dvs ds)
  (hx:Passes CX X E) (I:Inv X pins σ H s) (r:Vals vs us)
  (h:∀x dx,H x=none->H dx=none->dx≠x->sp (.ref x::(vs++dvs)) (upd (upd H dx (.own x)) x (.ins C dx [])) (fun v H2=>v=.non/\Q (.ref x) H2) E) :
  wpAny (model X.prog X.w) X.A (call (.ref C) us) (EP X pins σ Q) X.xe s:=by
 have hq:=h (s.heap.objs.size+1) s.heap.objs.size (I.hok.fresh (Nat.le_succ _)) (I.hok.fresh (Nat.le_refl _)) (Nat.ne_of_lt (Nat.lt_succ_self _))
 have I2:=Inv.made (C:=C) I
 have r2:Vals (V.ref (s.heap.objs.size+1)::(vs++dvs)) (Value.ref (s.heap.objs.size+1)::(us++ds)):=.cons rfl (r.append hd)
 have hl:(Value.ref (s.heap.objs.size+1)::us++ds).length=ps.length:=by
  have e:=r2.length
  rw[F.len _ _ _ _ hq]at e
  exact e.symm
 refine wpAny_call (make_map (f:=f) I.kIn M.makes M.init (beq_iff_eq.mp M.fn) (codeAny_mono (F.run _ X.stack _ _ ⟨Value.ref (s.heap.objs.size+1)::us,[]⟩ (Value.ref (s.heap.objs.size+1)::(us++ds)) _ _ E (hr.make C us [])
  (I2.env0.make C us []) (hb _ (Value.ref (s.heap.objs.size+1)::us) I2.kIn hl) r2 hq) fun r s' hq'=>?_))
 cases r with
 |error e=>exact hx pins σ _ _ e s' I2 hq'
 |ok fl =>
  cases fl with
  |ret u =>
   obtain⟨v,H',I3,rv,ev,q3⟩:=I2.after hq'
   subst ev
   exact⟨rv,⟨V.ref (s.heap.objs.size+1),H',I3,rfl,q3⟩⟩
  |next=>exact False.elim hq'
  |brk=>exact False.elim hq'
  |cont=>exact False.elim hq'
theorem pe_make(M:Mk X.K C f)(F:FnOk X.prog X.w X.K X.mg X.base CX k f fd ps sp)(hr:Room (k+1) X.A)(hg:Gl X x)(hm:X.mg x=some (.ref C))(hb:Binds X.K fd ps ds)(hd:Vals dvs ds)(hx:Passes CX X E)
  (ha:PA X (e::es) t) (hdb:(x==("__debug__":Str))=false:=by decide) (he:starEach (e::es) X.env=(false,eval e X.env)::starEach es X.env:=by rfl) (hpl:(backTo pos (starEach es X.env)).any (·.1)=false:=by rfl) :
  PE X (.Call (.Name x p) (e::es) [] pos) (tMake C sp dvs E t):=by
 intro pins s σ H Q I h
 refine wpAny_Call_Name_kw (ld_glob I hg hm ?_ hdb)
 refine W.callWith_K (h₀:=X.base) I.ok.mod.kin M.kp (thn (ha pos pins s σ H _ I h) fun us s1 ⟨vs,H1,I1,r,q⟩=>⟨I1.kIn,?_⟩) he hpl
 exact run_make M F hr hb hd hx I1 r q
end
def PK(X:Cx)(kws:List Keyword)(t:TA):Prop :=
 ∀(pos:Pos) (pins:List (Addr×Obj)) (s:Shared) (σ:St) (H:Hp) (Q:List V->Hp->Prop),Inv X pins σ H s->t σ H Q->wpAny (model X.prog X.w) X.A (evalAll ((backToKw pos (keywordEach kws X.env)).map (·.2))) (AP X pins σ Q) X.xe s
section
variable{X:Cx}{CX:CXT}{k:Nat}{f C:Addr}{fd:FuncData}{ps ks:List Str}{sp:Sp}{E:XK}{x m:Str}{p pos apos kpos:Pos}{e o:Expr}{es:List Expr}{kws:List Keyword}{te ta:TE}{t tk:TA}{nm:Option Str}
theorem pk_nil:PK X [] tNil:=fun _ _ _ _ H Q I h=>wpAny_evalAll_nil ⟨[],H,I,.nil,h⟩
theorem pk_cons(ha:PE X e te)(hr:PK X kws t):PK X (⟨nm,e,kpos⟩::kws) (tCons te t):=by
 intro pos pins s σ H Q I h
 show wpAny _ _ (evalAll ((do let v ← eval e X.env;standAt pos;pure v)::(backToKw pos (keywordEach kws X.env)).map (·.2))) _ _ s
 refine wpAny_evalAll_cons (wpAny_bind (thn (ha pins s σ H _ I h) fun u s1 ⟨x,H1,I1,r1,q1⟩=>wpAny_bind (wpAny_standAt (wpAny_pure ?_))))
 exact thn (hr pos pins s1 σ H1 _ I1 q1) fun us s2 ⟨xs,H2,I2,r2,q2⟩=>⟨x::xs,H2,I2,.cons r1 r2,q2⟩
variable{g:List Value->List Value->List Value}{gV:List V->List V->List V}
end
structure FnScope(N P:List Str)(sc:Scope):Prop where
 kind:sc.kind=.function
 co:sc.isCoroutine=false
 gen:sc.isGenerator=false
 nd:N.Nodup
 pre:N.take P.length=P
 par:∀x∈P,sc.names.lookup x=some .local∨sc.names.lookup x=some .cell
 nofree:∀y∈sc.names,y.2≠.free
theorem bindL_out{kindOf:Str->Option NameKind}{x:Str}:∀ {binds:List (Str×Value)} {m:Str->Option Value},(∀v,(x,v)∉binds)->bindL kindOf binds m x=m x
 | [],_,_=>rfl
 |(n,v)::r,m,h=>by
  unfold bindL
  rw[bindL_out fun w hw=>h w (List.mem_cons_of_mem _ hw)]
  split
  ·have:x≠n:=by rintro rfl;exact h v List.mem_cons_self
   simp[this]
  ·rfl
theorem bindC_out{kindOf:Str->Option NameKind}{x:Str}:∀ {binds:List (Str×Value)} {m:Str->Option Value},(∀v,(x,v)∉binds)->bindC kindOf binds m x=m x
 | [],_,_=>rfl
 |(n,v)::r,m,h=>by
  unfold bindC
  rw[bindC_out fun w hw=>h w (List.mem_cons_of_mem _ hw)]
  split
  ·rfl
  ·have:x≠n:=by rintro rfl;exact h v List.mem_cons_self
   simp[this]
theorem bindL_get{kindOf:Str->Option NameKind}{x:Str}{v:Value}:∀ {P:List Str} {vs:List Value} {i:Nat} {m:Str->Option Value},P.Nodup->P[i]? = some x->vs[i]? = some v->kindOf x=some .local ->
  bindL kindOf (P.zip vs) m x=some v
 | [],_,_,_,_,h,_,_=>by simp at h
 |_::_,[],_,_,_,_,h,_=>by simp at h
 |p::P,w::vs,0,m,nd,h1,h2,hk=>by
  simp at h1 h2;subst h1;subst h2
  show bindL kindOf ((p,w)::P.zip vs) m p=_
  unfold bindL
  rw[bindL_out fun v hv=>(List.nodup_cons.mp nd).1 (List.of_mem_zip hv).1,if_pos hk]
  simp
 |p::P,w::vs,i+1,m,nd,h1,h2,hk=>by
  show bindL kindOf ((p,w)::P.zip vs) m x=_
  unfold bindL
  exact bindL_get (i:=i) (List.nodup_cons.mp nd).2 (by simpa using h1) (by simpa using h2) hk
theorem bindC_get{kindOf:Str->Option NameKind}{x:Str}{v:Value}:∀ {P:List Str} {vs:List Value} {i:Nat} {m:Str->Option Value},P.Nodup->P[i]? = some x->vs[i]? = some v->kindOf x≠some .local ->
  bindC kindOf (P.zip vs) m x=some v
 | [],_,_,_,_,h,_,_=>by simp at h
 |_::_,[],_,_,_,_,h,_=>by simp at h
 |p::P,w::vs,0,m,nd,h1,h2,hk=>by
  simp at h1 h2;subst h1;subst h2
  show bindC kindOf ((p,w)::P.zip vs) m p=_
  unfold bindC
  rw[bindC_out fun v hv=>(List.nodup_cons.mp nd).1 (List.of_mem_zip hv).1,if_neg hk]
  simp
 |p::P,w::vs,i+1,m,nd,h1,h2,hk=>by
  show bindC kindOf ((p,w)::P.zip vs) m x=_
  unfold bindC
  exact bindC_get (i:=i) (List.nodup_cons.mp nd).2 (by simpa using h1) (by simpa using h2) hk
def start(N:List Str)(vs:List V):St:=vs.map some++List.replicate (N.length-vs.length) none
def cxOf(CX:CXT)(P:Program)(w:World)(K:W.Frag)(mg:Str->Option Value)(base:Heap)(N:List Str)(qual:Str)(scope:Scope)(f:Addr)(cd:Value)(A:Around)(outer:List Env)(s:Shared)(H:Hp)(E:XK):Cx where
 prog:=P
 w:=w
 K:=K
 mg:=mg
 base:=base
 A:=A.deeper (envOfC qual scope s.heap.objs.size f cd)
 N:=N
 s₀:=s
 H₀:=H
 env:=envOfC qual scope s.heap.objs.size f cd
 outer:=outer
 stack:=envOfC qual scope s.heap.objs.size f cd::outer
 ex:=[]
 calm:=true
 fn:=fun _=>true
 pn:=[]
 xe:=fun e s'=>wpAny (model P w) (A.deeper (envOfC qual scope s.heap.objs.size f cd)) (leaving (envOfC qual scope s.heap.objs.size f cd) e) (fun _ s''=>CX outer H s E e s'') (fun e' s''=>CX outer H s E e' s'') s'
theorem cell_has{sc:Scope}{n:Nat}{x:Str}(h:sc.names.lookup x=some .cell):∃c,(cellsFrom n sc.names []).lookup x=some c:=by
 have q:=W.cellsFrom_some sc.names n [] (.inl h)
 exact Option.isSome_iff_exists.mp q
theorem inv_start{CX:CXT}{P:Program}{w:World}{K:W.Frag}{mg:Str->Option Value}{base:Heap}{N ps:List Str}{qual:Str}{scope:Scope}{f:Addr}{cd:Value}{A:Around}{outer:List Env}{s s1:Shared}{H:Hp}{E:XK}{us:List Value}{vs:List V}
  (S:FnScope N ps scope) (hd:A.handled=none) (e0:Env0 P w K mg base A outer s H) (hl:vs.length=ps.length) (r:Vals vs us)
  (x:InCallC s s.heap.objs.size (bindL (envOfC qual scope s.heap.objs.size f cd).kindOf (ps.zip us) fun _=>none) (cellsFrom (s.heap.objs.size+1) scope.names []) (bindC (envOfC qual scope s.heap.objs.size f cd).kindOf (ps.zip us) fun _=>none) s1) :
  Inv (cxOf CX P w K mg base N qual scope f cd A outer s H E) [] (start N vs) H s1:=by
 have hpl:ps.length<=N.length:=by have:=congrArg List.length S.pre;rw[List.length_take]at this;omega
 obtain⟨h1,tk,rfl,hk⟩:=x.done
 have noA:∀b:Addr,b∉(cxOf CX P w K mg base N qual scope f cd A outer s H E).ex:=fun b z=>absurd (show b∈([]:List Addr) from z) (by simp)
 refine⟨⟨e0.mod,S.kind,rfl,rfl,Nat.le_refl _,fun y z c h1 h2=>?_,fun y hy=>?_,fun y c _ h=>?_,fun _=>hd,Around.frames_deeper e0.frames,.inr ⟨rfl,rfl⟩,fun b z=>absurd z (noA b),e0.bs,e0.bsz,fun b _ _=>noA b,fun b z=>absurd z (noA b),e0.funs,e0.frf⟩,
  rfl,e0.bare,Un.kept hk,⟨_,x.toInCall.ns,fun i y v h1 h2 h3=>?_⟩,fun y c h=>⟨_,x.cell y c h⟩,e0.hok.fresh (Nat.le_refl _),fun y c h=>?_,fun p hp=>absurd (show p∈([]:List (Addr×Obj)) from hp) (by simp),e0.hok.kept hk,?_⟩
 ·exact name_of_addr x.apart (PySem.mem_of_lookup h1) (PySem.mem_of_lookup h2)
 ·have hy:scope.names.lookup y=some .cell∨scope.names.lookup y=some .free:=hy
  rcases hy with hy | hy
  ·exact cell_has hy
  ·exact absurd rfl (S.nofree _ (PySem.mem_of_lookup hy))
 ·exact Nat.le_of_lt (x.above y c (PySem.mem_of_lookup h))
 ·have hi:i<vs.length:=by
   unfold start at h2
   by_cases hi:i<vs.length
   ·exact hi
   ·rw[List.getElem?_append_right (by simpa using hi)]at h2
    rw[List.getElem?_replicate]at h2
    split at h2 <;> cases h2
  have ha:vs[i]? = some v:=by
   unfold start at h2
   rw[List.getElem?_append_left (by simpa using hi),List.getElem?_map]at h2
   cases e:vs[i]? with
   |none=>rw[e]at h2;cases h2
   |some a=>rw[e]at h2;cases h2;rfl
  obtain⟨u,hu,rv⟩:=r.get ha
  have hp:ps[i]? = some y:=by
   rw[← S.pre,List.getElem?_take_of_lt (by omega)];exact h1
  have ndP:ps.Nodup:=by rw[← S.pre];exact S.nd.sublist (List.take_sublist _ _)
  refine⟨u,rv,?_⟩
  rcases S.par y (List.mem_of_getElem? hp) with k | k
  ·exact .inl ⟨k,bindL_get ndP hp hu k⟩
  ·obtain⟨c,e⟩:=cell_has (n:=s.heap.objs.size+1) k
   refine .inr ⟨.inl k,c,e,?_⟩
   have q:=x.cell y c e
   rw[bindC_get ndP hp hu (by show scope.names.lookup y≠_;rw[k];decide)]at q
   exact q
 ·exact e0.hok.fresh (Nat.le_of_lt (x.above y c (PySem.mem_of_lookup h)))
 ·unfold start
  show _=N.length
  rw[List.length_append,List.length_map,List.length_replicate]
  omega
theorem fn_of{CX:CXT}{P:Program}{w:World}{K:W.Frag}{mg:Str->Option Value}{base:Heap}{k:Nat}{f:Addr}{name qual:Str}{params:Arguments}{body:List Stmt}{scope:Scope}{dV kV doc pm cdv ct oc:Value}{an od:Option Addr}
  {osl:Array (Option Value)} {N ps:List Str} {sp:Sp} (lk:K.lookup f=some ⟨oc,od,.func (W.fnOf name qual params body scope dV kV doc pm an cdv ct),osl⟩) (hcd:W.codeIn K cdv qual=true) (S:FnScope N ps scope)
  (len:∀vs H Q E,sp vs H Q E->vs.length=ps.length)
  (hbody:∀(A:Around) (outer:List Env) (s:Shared) (H:Hp) (vs:List V) (Q:VK) (E:XK),Room k (A.deeper (envOfC qual scope s.heap.objs.size f cdv))->sp vs H Q E ->
   ∃t,PSs (cxOf CX P w K mg base N qual scope f cdv A outer s H E) body t/\t { nx:=fun _ H'=>Q .non H',rt:=Q } (start N vs) H) :
  FnOk P w K mg base CX (k+1) f (W.fnOf name qual params body scope dV kV doc pm an cdv ct) ps sp:=by
 refine⟨len,fun A outer s H args us vs Q E hr e0 hb r hsp=>?_⟩
 have hl:=len _ _ _ _ hsp
 have KX:K.In s.heap:=e0.mod.kin.keeps fun b o e=>(e0.bs b o e).1
 have lim:s.heap.NoLimit:=e0.mod.nolimit.keeps fun b o e=>(e0.bs b o e).1
 have hkind:∀y∈ps.zip us,scope.names.lookup y.1=some .local∨(scope.names.lookup y.1=some .cell/\((cellsFrom (s.heap.objs.size+1) scope.names []).lookup y.1).isSome=true):=fun⟨n,v⟩ hy=>by
  rcases S.par n (List.of_mem_zip hy).1 with q | q
  ·exact .inl q
  ·exact .inr ⟨q,W.cellsFrom_some _ _ _ (.inl q)⟩
 refine codeAny_call_function hr.depth (KX _ _ lk) rfl S.co S.gen rfl (W.codeRec_of KX hcd) (hb _ _ _ _ ?_)
 refine wpAny_newFunctionEnv_cells S.kind hkind fun env he s1 x=>?_
 subst he
 refine⟨lim.keeps x.toInCall.keep,codeAny_func ?_⟩
 obtain⟨t,ht,hq⟩:=hbody A outer s H vs Q E (hr.deeper _) hsp
 have I:Inv (cxOf CX P w K mg base N qual scope f cdv A outer s H E) [] (start N vs) H s1:=inv_start S hr.hd e0 hl r x
 refine wpAny_mono (ht [] s1 (start N vs) H _ I hq) (fun fl s' hs=>?_) fun e s' hs=>hs
 have fin:∀ {σ':St} {H':Hp} {v:V} {u:Value},Inv (cxOf CX P w K mg base N qual scope f cdv A outer s H E) [] σ' H' s'->RelV v u->Q v H'->CE outer P w H s Q u s' :=
  fun{σ' H' v u} J rv q=>⟨v,H',J.os,J.bare,J.base,J.hok,rv,q⟩
 cases fl with
 |ret u =>
  obtain⟨v,σ',H',J,rv,q⟩:=hs
  exact fin J rv q
 |next =>
  obtain⟨σ',H',J,q⟩:=hs
  exact fin (v:=V.non) (u:=Value.none) J rfl q
 |brk =>
  obtain⟨_,_,_,q⟩:=hs
  exact False.elim q
 |cont =>
  obtain⟨_,_,_,q⟩:=hs
  exact False.elim q
section
variable{X:Cx}{x:Str}{p pos:Pos}{e:Expr}{es:List Expr}{t:TA}{id T:String}{r:List V->Hp->VK->Prop}
def tCB(r:List V->Hp->VK->Prop)(t:TA):TE:=fun σ H Q=>t σ H fun vs H1=>r vs H1 Q
theorem pe_callB(hc:CallR X (.builtin id) r)(hg:Gl X x)(hm:X.mg x=none)(hv:bootBuiltins x=some (.builtin id))(ha:PA X (e::es) t)(hn:x≠"__name__":=by decide)(hdb:(x==("__debug__":Str))=false:=by decide)
  (he:starEach (e::es) X.env=(false,eval e X.env)::starEach es X.env:=by rfl) (hpl:(backTo pos (starEach es X.env)).any (·.1)=false:=by rfl):PE X (.Call (.Name x p) (e::es) [] pos) (tCB r t):=by
 intro pins s σ H Q I h
 refine wpAny_Call_Name_kw (ld_blt I hg hm hv ?_ hn hdb)
 exact PyProof.Rows.callWith_builtin1 (thn (ha pos pins s σ H _ I h) fun us s1 ⟨vs,H1,I1,r1,q1⟩=>hc pins s1 σ H1 vs us Q I1 r1 q1) he hpl
theorem pe_callTy(hc:CallR X (.type T) r)(hg:Gl X x)(hm:X.mg x=none)(hv:bootBuiltins x=some (.type T))(ha:PA X (e::es) t)(hn:x≠"__name__":=by decide)(hdb:(x==("__debug__":Str))=false:=by decide)
  (he:starEach (e::es) X.env=(false,eval e X.env)::starEach es X.env:=by rfl) (hpl:(backTo pos (starEach es X.env)).any (·.1)=false:=by rfl):PE X (.Call (.Name x p) (e::es) [] pos) (tCB r t):=by
 intro pins s σ H Q I h
 refine wpAny_Call_Name_kw (ld_blt I hg hm hv ?_ hn hdb)
 exact PyProof.Rows.callWith_type1 (thn (ha pos pins s σ H _ I h) fun us s1 ⟨vs,H1,I1,r1,q1⟩=>hc pins s1 σ H1 vs us Q I1 r1 q1) he hpl
end
end L2
namespace HT
open PySem PyProof.Rows
section
open PySem.SeqAt
open PySem.AutoSeq1 (wpAny_loadPart')
open PySem.MeetsSeq PySem.MeetsSeq2 PySem.MeetsSeq3
end
section
variable{prog:Program}{w:World}{A:Around}{E:Value->Shared->Prop}{s:Shared}
def sIx(n d:Nat):Option Int->Nat
 |none=>d
 |some v=>if v<0 then(v+(n:Int)).toNat else min v.toNat n
theorem sIx_le(n d:Nat)(hd:d<=n)(o:Option Int):sIx n d o<=n:=by
 cases o with
 |none=>exact hd
 |some v =>
  show(if v<0 then(v+(n:Int)).toNat else min v.toNat n)<=n
  by_cases hv:v<0
  ·rw[if_pos hv];omega
  ·rw[if_neg hv];exact Nat.min_le_right _ _
theorem clip_eq(v:Int)(n d:Nat):(if v<0 then max (v+(n:Int)) 0 else min v (n:Int))=((sIx n d (some v):Nat):Int):=by
 show(if v<0 then max (v+(n:Int)) 0 else min v (n:Int))=(((if v<0 then(v+(n:Int)).toNat else min v.toNat n):Nat):Int)
 by_cases hv:v<0
 ·simp only[if_pos hv];omega
 ·simp only[if_neg hv];omega
theorem adjust_gen(lo hi:Option Int)(n:Nat):Builtin.Slice.sliceAdjust lo hi 1 (n:Int)=(((sIx n 0 lo:Nat):Int),((sIx n n hi:Nat):Int)):=by
 have h1:¬((1:Int)<0):=by omega
 unfold Builtin.Slice.sliceAdjust
 simp only[h1,if_false]
 refine Prod.ext ?_ ?_
 ·cases lo with
  |none=>rfl
  |some v=>exact clip_eq v n 0
 ·cases hi with
  |none=>rfl
  |some v=>exact clip_eq v n n
theorem places_gen(i j:Nat):Builtin.Slice.slicePlaces (i:Int) (j:Int) 1=j-i:=by
 unfold Builtin.Slice.slicePlaces
 have h1:(1:Int)>0:=by omega
 simp only[h1,if_true,Int.ediv_one]
 split <;> omega
theorem slicePart_{v:Value}{o:Option Int}{Q:Option Int->Shared->Prop}(p:IsPart v o)(h:Q o s):wpAny (model prog w) A (Builtin.Slice.slicePartIndex v) Q E s:=by
 cases p with
 |none=>exact slicePart_none h
 |int i t=>exact slicePart_int h
theorem sliceApplied_gen{sl:Addr}{vl vu:Value}{lo hi:Option Int}{n:Nat}{Q:Int×Int×Nat->Shared->Prop}(hs:s.heap.IsSliceOf sl vl vu .none)(pl:IsPart vl lo)(pu:IsPart vu hi)
  (h:Q (((sIx n 0 lo:Nat):Int),1,sIx n n hi-sIx n 0 lo) s):wpAny (model prog w) A (Builtin.Slice.sliceApplied (.ref sl) (pure (n:Int))) Q E s:=by
 obtain⟨os,hos,hcs,hds⟩:=id hs
 unfold Builtin.Slice.sliceApplied Builtin.Slice.sliceFields
 refine wpAny_bind (wpAny_bind (wpAny_field hos hds (x:=vl) rfl (wpAny_bind (wpAny_field hos hds (x:=vu) rfl (wpAny_bind (wpAny_field hos hds (x:=.none) rfl (wpAny_pure ?_)))))))
 refine wpAny_bind (slicePart_none ?_)
 show wpAny _ _ (if((1:Int)==0)=true then _ else _) _ _ s
 rw[if_neg (by decide)]
 refine wpAny_bind (slicePart_ pl (wpAny_bind (slicePart_ pu (wpAny_bind (wpAny_pure ?_)))))
 show wpAny _ _ (match Builtin.Slice.sliceAdjust lo hi 1 (n:Int) with | (lo,hi)=>pure (lo,(1:Int),Builtin.Slice.slicePlaces lo hi 1)) _ _ s
 rw[adjust_gen lo hi n]
 show wpAny _ _ (pure (((sIx n 0 lo:Nat):Int),(1:Int),Builtin.Slice.slicePlaces ((sIx n 0 lo:Nat):Int) ((sIx n n hi:Nat):Int) 1)) _ _ s
 rw[places_gen]
 exact wpAny_pure h
theorem pick_gen(xs:Array Value)(i k:Nat):((List.range k).filterMap fun(m:Nat)=>xs[((i:Int)+(m:Int)*1).toNat]?).toArray=((xs.toList.drop i).take k).toArray:=by
 have e:(fun(m:Nat)=>xs[((i:Int)+(m:Int)*1).toNat]?)=fun m=>xs[i+m]?:=by
  funext m
  have:((i:Int)+(m:Int)*1).toNat=i+m:=by omega
  rw[this]
 rw[e]
 have:=pick_run xs i k
 rw[List.filterMap_map]at this
 have e2:((fun x=>xs[x]?) ∘ fun x=>i+x)=fun m=>xs[i+m]?:=rfl
 rw[e2]at this
 rw[this]
theorem getItem_tuple_cut{t sl:Addr}{items:Array Value}{vl vu:Value}{lo hi:Option Int}{Q:Value->Shared->Prop}(ht:IsTup s.heap t items)(hs:s.heap.IsSliceOf sl vl vu .none)(pl:IsPart vl lo)(pu:IsPart vu hi)
  (hw:¬(sIx items.size 0 lo=0/\sIx items.size items.size hi=items.size))
  (h:Q (.ref s.heap.objs.size) { s with heap:=s.heap.push { cls:=.type "tuple",data:=.seq ((items.toList.drop (sIx items.size 0 lo)).take (sIx items.size items.size hi-sIx items.size 0 lo)).toArray } })
  (hsz:items.size<=sizeLine):wpAny (model prog w) A (getItem (.ref t) (.ref sl)) Q E s:=by
 have htake:sizeOk (.seq ((items.toList.drop (sIx items.size 0 lo)).take (sIx items.size items.size hi-sIx items.size 0 lo)).toArray):=by
  show((items.toList.drop (sIx items.size 0 lo)).take (sIx items.size items.size hi-sIx items.size 0 lo)).toArray.size<=sizeLine
  rw[List.size_toArray,List.length_take,List.length_drop,Array.length_toList]
  omega
 have hj:sIx items.size items.size hi<=items.size:=sIx_le _ _ (Nat.le_refl _) hi
 obtain⟨os,hos,hcs,hds⟩:=id hs
 have hTs:s.TypeIs (.ref sl) "slice":=⟨os,hos,hcs⟩
 unfold getItem
 try with_reducible refine wpAny_holding ?_
 first | refine wpAny_bind (wpAny_pure ?_) | skip
 refine wpAny_bind (wpAny_sequenceKey ht.typeIs (by decide) ?_)
 refine wpAny_bind (wpAny_callSpecial?_slot (name:=Str.ofString "__getitem__") ht.typeIs PyProof.Rows.slot_tuple_getitem
  (wpAny_call_entry PyProof.Rows.slot_tuple_getitem ht.typeIs entry_tuple_getitem ?_ (args_tuple_getitem _ _)))
 show wpAny _ _ (Builtin.Tuple.tupleItemsOf (.ref t) >>= _) _ _ s
 refine wpAny_bind (tupleItemsOf_ ht ?_)
 refine wpAny_bind (wpAny_typeOf hTs ?_)
 rw[if_pos (by decide)]
 refine wpAny_bind (sliceApplied_gen hs pl pu ?_)
 have hno:¬((((sIx items.size 0 lo:Nat):Int)==0&&(1:Int)==1&&(sIx items.size items.size hi-sIx items.size 0 lo)==items.size)=true):=by
  intro q
  rw[Bool.and_eq_true,Bool.and_eq_true]at q
  have q1:((sIx items.size 0 lo:Nat):Int)=0:=eq_of_beq q.1.1
  have q2:sIx items.size items.size hi-sIx items.size 0 lo=items.size:=eq_of_beq q.2
  exact hw ⟨by omega,by omega⟩
 show wpAny _ _ (if(((sIx items.size 0 lo:Nat):Int)==0&&(1:Int)==1&&(sIx items.size items.size hi-sIx items.size 0 lo)==items.size)=true then _ else _) _ _ s
 rw[if_neg hno,pick_gen]
 first
  |exact wpAny_bind (m:=Builtin.Tuple.tupleExact _) (wpAny_newObj_type (wpAny_pure ⟨_,rfl,wpAny_pure h⟩) htake)
  |exact wpAny_bind (m:=Builtin.Tuple.tupleExact _) (wpAny_newObj_type (wpAny_bind (wpAny_pure (wpAny_pure ⟨_,rfl,wpAny_pure h⟩))) htake)
  |exact wpAny_bind (wpAny_bind (m:=Builtin.Tuple.tupleExact _) (wpAny_newObj_type (wpAny_pure (wpAny_pure ⟨_,rfl,wpAny_pure h⟩)) htake))
  |exact wpAny_bind (wpAny_bind (m:=Builtin.Tuple.tupleExact _) (wpAny_newObj_type (wpAny_pure ⟨_,rfl,wpAny_pure h⟩) htake))
end
end HT
namespace L2
open PySem PySem.Spec PyProof.Rows
abbrev TO:=St->Hp->(Option Int->Hp->Prop)->Prop
def PO(X:Cx)(e:Option Expr)(t:TO):Prop :=
 ∀(pins:List (Addr×Obj)) (s:Shared) (σ:St) (H:Hp) (Q:Option Int->Hp->Prop),Inv X pins σ H s->t σ H Q ->
  wpAny (model X.prog X.w) X.A (evalPart e X.env) (fun u s'=>∃o H',Inv X pins σ H' s'/\IsPart u o/\Q o H') X.xe s
def tNoPart:TO:=fun _ H Q=>Q none H
def tPart(t:TE):TO:=fun σ H Q=>t σ H fun x H1=>∃i,x=.int i/\Q (some i) H1
section
variable{X:Cx}{e:Expr}{te:TE}{lo hi:Option Expr}{tl th:TO}{pos p2:Pos}
theorem po_none:PO X none tNoPart:=by
 intro pins s σ H Q I h
 rw[evalPart_none]
 exact wpAny_pure ⟨none,H,I,.none,h⟩
theorem po_some(h:PE X e te):PO X (some e) (tPart te):=by
 intro pins s σ H Q I hw
 rw[evalPart_some]
 refine thn (h pins s σ H _ I hw) fun u s1 ⟨x,H1,I1,r1,q1⟩=>?_
 obtain⟨i,rfl,q⟩:=q1
 obtain⟨t,rfl⟩:=r1
 exact⟨some i,H1,I1,.int i t,q⟩
def SlR(X:Cx)(r:V->Option Int->Option Int->Hp->VK->Prop):Prop :=
 ∀(pins:List (Addr×Obj)) (s:Shared) (σ:St) (H:Hp) (x:V) (v vl vu:Value) (lo hi:Option Int) (sl:Addr) (Q:VK),Inv X pins σ H s->RelV x v->s.heap.IsSliceOf sl vl vu .none->IsPart vl lo->IsPart vu hi->r x lo hi H Q ->
  ∃T id,typeLookup (.type T) "__getitem__" = pure (some (.builtin id))/\s.TypeIs v T/\wpAny (model X.prog X.w) X.A (getItem v (.ref sl)) (EP X pins σ Q) X.xe s
def tSl(r:V->Option Int->Option Int->Hp->VK->Prop)(te:TE)(tl th:TO):TE:=fun σ H Q=>te σ H fun x H1=>tl σ H1 fun l H2=>th σ H2 fun u H3=>r x l u H3 Q
theorem pe_slice{r:V->Option Int->Option Int->Hp->VK->Prop}(hr:SlR X r)(he:PE X e te)(hl:PO X lo tl)(hu:PO X hi th):PE X (.Subscript e (.Slice lo hi none p2) pos) (tSl r te tl th):=by
 intro pins s σ H Q I h
 refine Subscript_ (thn (he pins s σ H _ I h) fun v s1 ⟨x,H1,I1,r1,q1⟩=>?_)
 refine wpAny_Slice (thn (hl pins s1 σ H1 _ I1 q1) fun vl s2 ⟨l,H2,I2,pl,q2⟩=>thn (hu pins s2 σ H2 _ I2 q2) fun vu s3 ⟨u,H3,I3,pu,q3⟩=>?_)
 rw[evalPart_none]
 refine wpAny_pure ?_
 have I4:Inv X pins σ H3 { s3 with heap:=s3.heap.push { cls:=.type "slice",data:=.fields #[vl,vu,.none] } }:=I3.kept (t':=s3.toks) fun b ob q=>Heap.get?_push_of_some _ q
 obtain⟨T,id,hT,ht,hg⟩:=hr pins { s3 with heap:=s3.heap.push { cls:=.type "slice",data:=.fields #[vl,vu,.none] } } σ H3 x v vl vu l u s3.heap.objs.size Q I4 r1 (Heap.IsSliceOf.new ..) pl pu q3
 show wpAny (model X.prog X.w) X.A (subscriptTail e (.Slice lo hi none p2) v (.ref s3.heap.objs.size)) (EP X pins σ Q) X.xe { s3 with heap:=s3.heap.push { cls:=.type "slice",data:=.fields #[vl,vu,.none] } }
 exact tail_any (ops:=[.ref s3.heap.objs.size,v]) ht hT hg (by with_unfolding_all rfl)
def cutV(xs:List V)(lo hi:Option Int):List V:=(xs.drop (HT.sIx xs.length 0 lo)).take (HT.sIx xs.length xs.length hi-HT.sIx xs.length 0 lo)
theorem cutV_length(xs:List V)(lo hi:Option Int):(cutV xs lo hi).length<=xs.length:=by
 unfold cutV
 rw[List.length_take,List.length_drop]
 omega
def rSlT(K:W.Frag):V->Option Int->Option Int->Hp->VK->Prop:=fun x lo hi H Q=>∃a xs,x=.ref a/\SqT K H a xs /\
 ¬(HT.sIx xs.length 0 lo=0/\HT.sIx xs.length xs.length hi=xs.length)/\∀p,H p=none->Q (.ref p) (upd H p (.tup (cutV xs lo hi)))
theorem sl_tup:SlR X (rSlT X.K):=by
 intro pins s σ H x v vl vu lo hi sl Q I rx hs pl pu h
 obtain⟨a,xs,rfl,hx,hw,q⟩:=h
 cases rx
 obtain⟨its,r,ht,hz⟩:=I.tuple hx
 have hlen:its.toArray.size=xs.length:=by rw[List.size_toArray];exact r.length.symm
 refine⟨"tuple",_,PyProof.Rows.slot_tuple_getitem.lookup,ht.typeIs,?_⟩
 refine HT.getItem_tuple_cut ht hs pl pu (by rw[hlen];exact hw) ?_ (by rw[hlen];exact hz)
 rw[hlen]
 refine⟨.ref s.heap.objs.size,_,I.laid (t':=s.toks) (o:=.tup (cutV xs lo hi)) (fun b ob q=>Heap.get?_push_of_some _ q) (Nat.le_refl _) ?_,rfl,q _ (I.hok.fresh (Nat.le_refl _))⟩
 exact⟨Nat.le_trans (cutV_length xs lo hi) hz,_,(r.drop (HT.sIx xs.length 0 lo)).take (HT.sIx xs.length xs.length hi-HT.sIx xs.length 0 lo),IsTup.new _ _⟩
end
def ixN(n:Nat)(i:Int):Option Nat:=if 0<=i then(if i<n then some i.toNat else none) else if -(n:Int)<=i then some (i+n).toNat else none
def atI{α:Type}(xs:List α)(i:Int):Option α:=(ixN xs.length i).bind fun j=>xs[j]?
theorem ixN_seq{n:Nat}{i:Int}{j:Nat}(h:ixN n i=some j):seqIndex? i n=some j/\j<n/\-(n:Int)<=i/\i<n:=by
 unfold ixN at h
 by_cases h0:0<=i
 ·rw[if_pos h0]at h
  by_cases h1:i<n
  ·rw[if_pos h1]at h
   have e:i.toNat=j:=Option.some.inj h
   exact⟨by rw[seqIndex_of h0 h1,e],by omega,by omega,h1⟩
  ·rw[if_neg h1]at h;cases h
 ·rw[if_neg h0]at h
  by_cases h1:-(n:Int)<=i
  ·rw[if_pos h1]at h
   have e:(i+n).toNat=j:=Option.some.inj h
   exact⟨by rw[seqIndex_neg (by omega) h1,e],by omega,h1,by omega⟩
  ·rw[if_neg h1]at h;cases h
theorem atI_get{α:Type}{xs:List α}{i:Int}{v:α}(h:atI xs i=some v):∃j,seqIndex? i xs.length=some j/\xs[j]? = some v/\j<xs.length/\-(xs.length:Int)<=i/\i<xs.length:=by
 unfold atI at h
 cases e:ixN xs.length i with
 |none=>rw[e]at h;cases h
 |some j =>
  rw[e]at h
  obtain⟨h1,h2,h3,h4⟩:=ixN_seq e
  exact⟨j,h1,h,h2,h3,h4⟩
theorem atI_nat{α:Type}{xs:List α}{j:Nat}{v:α}(h:xs[j]? = some v):atI xs (j:Int)=some v:=by
 have hj:j<xs.length:=(List.getElem?_eq_some_iff.mp h).1
 have e:ixN xs.length (j:Int)=some j:=by
  unfold ixN
  rw[if_pos (by omega),if_pos (by omega)];simp
 unfold atI;rw[e];exact h
def PlainIx(b:Expr):Prop:=∀o i,subscripted b false o i=operate [o,i] (getItem o i)
def IxR(X:Cx)(r:R2):Prop :=
 ∀(value slice:Expr) (pins:List (Addr×Obj)) (s:Shared) (σ:St) (H:Hp) (x y:V) (v u:Value) (Q:VK),Inv X pins σ H s->RelV x v->RelV y u->r x y H Q ->
  subscripted slice false v u=operate [v,u] (getItem v u)->wpAny (model X.prog X.w) X.A (subscriptTail value slice v u) (EP X pins σ Q) X.xe s
def MtR(X:Cx)(id:String)(r:V->List V->Hp->VK->Prop):Prop :=
 ∀(pins:List (Addr×Obj)) (s:Shared) (σ:St) (H:Hp) (x:V) (xs:List V) (v:Value) (us:List Value) (Q:VK),Inv X pins σ H s->RelV x v->Vals xs us->r x xs H Q ->
  wpAny (model X.prog X.w) X.A (call (.builtin id) (v::us)) (EP X pins σ Q) X.xe s
section
variable{X:Cx}{a b:Expr}{ta tb:TE}{pos:Pos}
theorem pe_ix{r:R2}(hr:IxR X r)(ha:PE X a ta)(hb:PE X b tb)(hs:PlainIx b):PE X (.Subscript a b pos) (tOp r ta tb):=by
 intro pins s σ H Q I h
 exact Subscript_ (binT ha hb I h fun v u s2 x y H2 I2 rx ry q=>hr a b pins s2 σ H2 x y v u Q I2 rx ry q (hs _ _))
def rIxL(K:W.Frag):R2:=fun x y H Q=>∃p xs i v,x=.ref p/\y=.int i/\SqL K H p xs/\atI xs i=some v/\Q v H
def rIxT(K:W.Frag):R2:=fun x y H Q=>∃p xs i v,x=.ref p/\y=.int i/\SqT K H p xs/\atI xs i=some v/\Q v H
def rIxS:R2:=fun x y H Q=>∃z i c,x=.str z/\y=.int i/\z.length<=sizeLine/\atI z.cps.toList i=some c/\Q (.str ⟨#[c]⟩) H
theorem ix_list:IxR X (rIxL X.K):=by
 intro value slice pins s σ H x y v u Q I rx ry h hs
 obtain⟨p,xs,i,z,rfl,rfl,hq,he,q⟩:=h
 cases rx
 obtain⟨t,rfl⟩:=ry
 obtain⟨its,r,pl,hz⟩:=I.list hq
 obtain⟨j,h1,h2,h3,h4,h5⟩:=atI_get he
 obtain⟨w,ew,rw'⟩:=r.get h2
 have hl:=r.length
 have hn:=line63
 have fin:EP X pins σ Q w s:=⟨z,H,I,rw',q⟩
 by_cases h0:0<=i
 ·have hj:i.toNat=j:=by
   rw[seqIndex_of h0 h5]at h1
   exact Option.some.inj h1
  exact item_listR pl.isList h0 (by omega) (by rw[hj];simpa using ew) fin hs
 ·have hj:(i+(its.toArray.size:Int)).toNat=j:=by
   rw[seqIndex_neg (by omega) h4]at h1
   rw[List.size_toArray,← hl]
   exact Option.some.inj h1
  exact subscriptTail_builtinR (x:=w) pl.isList.typeIs slot_list_getitem.lookup
   (wpAny_getItem_list_neg (Q:=fun r s'=>r=w/\EP X pins σ Q r s') pl.isList (by omega) (by rw[List.size_toArray] <;> omega) (by omega) (by rw[hj];simpa using ew) ⟨rfl,fin⟩) hs
theorem ix_tup:IxR X (rIxT X.K):=by
 intro value slice pins s σ H x y v u Q I rx ry h hs
 obtain⟨p,xs,i,z,rfl,rfl,hq,he,q⟩:=h
 cases rx
 obtain⟨t,rfl⟩:=ry
 obtain⟨its,r,pl,hz⟩:=I.tuple hq
 obtain⟨j,h1,h2,h3,h4,h5⟩:=atI_get he
 obtain⟨w,ew,rw'⟩:=r.get h2
 have hl:=r.length
 have hn:=line63
 have fin:EP X pins σ Q w s:=⟨z,H,I,rw',q⟩
 exact subscriptTail_builtinR (x:=w) pl.typeIs slot_tuple_getitem.lookup
  (getItem_tuple (j:=j) (Q:=fun r s'=>r=w/\EP X pins σ Q r s') pl (by omega) (by omega) (by rw[List.size_toArray,← hl];exact h1) (by simpa using ew) ⟨rfl,fin⟩) hs
theorem ix_str:IxR X rIxS:=by
 intro value slice pins s σ H x y v u Q I rx ry h hs
 obtain⟨z,i,c,rfl,rfl,hz,he,q⟩:=h
 obtain⟨t,rfl⟩:=rx
 obtain⟨t',rfl⟩:=ry
 obtain⟨j,h1,h2,h3,h4,h5⟩:=atI_get he
 have hl:z.cps.toList.length=z.length:=by simp[Str.length]
 rw[hl]at h1 h4 h5
 have hn:=line63
 exact tail_any (typeIs_str s z t) slot_str_getitem.lookup (getItem_str (c:=c) (by
  have e1:decide (i < -(2 ^ 63:Int))=false:=decide_eq_false (by omega)
  have e2:decide (i≥2 ^ 63)=false:=decide_eq_false (by omega)
  rw[e1,e2,Bool.or_false]) (by rw[h1];simpa using h2) ⟨.str ⟨#[c]⟩,H,I.tok _,⟨_,rfl⟩,q⟩) hs
theorem mapSeq_set(its:List Value)(n j:Nat)(u:Value):Obj.mapSeq (·.setIfInBounds j u) { cls:=.type "list",data:=.seq its.toArray n } = { cls:=.type "list",data:=.seq (its.set j u).toArray n }:=by
 simp[Obj.mapSeq]
theorem Inv.lst{pins:List (Addr×Obj)}{σ:St}{H:Hp}{s:Shared}{p:Addr}{xs:List V}(I:Inv X pins σ H s)(h:H p=some (.lst xs)) :
  ∃(its:List Value) (n:Nat),Vals xs its/\s.heap.get? p=some { cls:=.type "list",data:=.seq its.toArray n }/\xs.length<=sizeLine:=by
 obtain⟨z,its,n,r,e⟩:=I.hok p _ h
 exact⟨its,n,r,e,z⟩
theorem Inv.lstUpd{pins:List (Addr×Obj)}{σ:St}{H:Hp}{s:Shared}{p:Addr}{xs ys:List V}{its its':List Value}{n n':Nat}{f:Obj->Obj}(I:Inv X pins σ H s)(h:H p=some (.lst xs))
  (ho:s.heap.get? p=some { cls:=.type "list",data:=.seq its.toArray n }) (hf:f { cls:=.type "list",data:=.seq its.toArray n } = { cls:=.type "list",data:=.seq its'.toArray n' }) (r:Vals ys its') (hz:ys.length<=sizeLine) (t:Nat) :
  Inv X pins σ (upd H p (.lst ys)) { s with heap:=s.heap.update p f,toks:=t }:=by
 have e:(s.heap.update p f).get? p=some { cls:=.type "list",data:=.seq its'.toArray n' }:=by
  rw[Heap.get?_update_self f ho (by rw[hf] <;> rfl),hf]
 refine I.write (x:=p) (e:=p) (by rw[h];trivial) (.inl rfl) (fun b u hb q=>(Heap.get?_update_other _ _ (Ne.symm hb)).trans q) ⟨_,e⟩ ?_
 exact⟨hz,its',n',r,e⟩
def rSetL:V->V->V->Hp->(Hp->Prop)->Prop:=fun o i v H Q=>∃p xs k j,o=.ref p/\i=.int k/\H p=some (.lst xs)/\ixN xs.length k=some j/\Q (upd H p (.lst (xs.set j v)))
theorem set_list:PSet X rSetL:=by
 intro pins s σ H o i v ov iv u Q I ro ri rv h
 obtain⟨p,xs,k,j,rfl,rfl,hp,hj,q⟩:=h
 cases ro
 obtain⟨t,rfl⟩:=ri
 obtain⟨its,n,r,ho,hz⟩:=I.lst hp
 obtain⟨h1,h2,h3,h4⟩:=ixN_seq hj
 have hl:=r.length
 have hn:=line63
 have I':Inv X pins σ (upd H p (.lst (xs.set j v))) { s with heap:=s.heap.update p (Obj.mapSeq (·.setIfInBounds j u)) } :=
  I.lstUpd hp ho (mapSeq_set its n j u) (r.set rv j) (by rw[List.length_set];exact hz) s.toks
 by_cases h0:0<=k
 ·have hk:k.toNat=j:=by
   rw[seqIndex_of h0 h4]at h1
   exact Option.some.inj h1
  exact W.ki_setAt ho h0 (by omega) (by rw[List.size_toArray,← hl];exact h4) (by rw[hk];exact⟨_,I',q⟩)
 ·have hk:(k+(its.toArray.size:Int)).toNat=j:=by
   rw[seqIndex_neg (by omega) h3]at h1
   rw[List.size_toArray,← hl]
   exact Option.some.inj h1
  exact W.ki_setBack ho (by omega) (by rw[List.size_toArray,← hl];exact h3) (by omega) (by rw[hk];exact⟨_,I',q⟩)
theorem slice_bounds(lo hi:Option Int)(n:Nat):(sliceBounds lo hi none n).1=((HT.sIx n 0 lo:Nat):Int)/\(sliceBounds lo hi none n).2.1=((HT.sIx n n hi:Nat):Int)/\(sliceBounds lo hi none n).2.2=1:=by
 refine⟨?_,?_,rfl⟩
 ·cases lo with
  |none=>simp[sliceBounds,HT.sIx]
  |some i =>
   simp only[sliceBounds,HT.sIx,Option.getD_none,show(1:Int)>0 by decide,if_true]
   by_cases h:i<0
   ·simp only[h,if_true] <;> omega
   ·simp only[h,if_false] <;> omega
 ·cases hi with
  |none=>simp[sliceBounds,HT.sIx]
  |some i =>
   simp only[sliceBounds,HT.sIx,Option.getD_none,show(1:Int)>0 by decide,if_true]
   by_cases h:i<0
   ·simp only[h,if_true] <;> omega
   ·simp only[h,if_false] <;> omega
theorem slicePick_cut(its:List Value)(lo hi:Option Int):slicePick its.toArray lo hi none=((its.drop (HT.sIx its.length 0 lo)).take (HT.sIx its.length its.length hi-HT.sIx its.length 0 lo)).toArray:=by
 obtain⟨h1,h2,h3⟩:=slice_bounds lo hi its.toArray.size
 unfold slicePick
 rw[h1,h2,h3]
 simp only[sliceRange_one,pick_run,List.size_toArray] <;> rfl
def rSlL(K:W.Frag):V->Option Int->Option Int->Hp->VK->Prop:=fun x lo hi H Q=>∃a xs,x=.ref a/\SqL K H a xs/\∀p,H p=none->Q (.ref p) (upd H p (.lst (cutV xs lo hi)))
theorem sl_list:SlR X (rSlL X.K):=by
 intro pins s σ H x v vl vu lo hi sl Q I rx hs pl pu h
 obtain⟨a,xs,rfl,hx,q⟩:=h
 cases rx
 obtain⟨its,r,ht,hz⟩:=I.list hx
 have hlen:=r.length
 refine⟨"list",_,slot_list_getitem.lookup,ht.isList.typeIs,?_⟩
 refine wpAny_getItem_list_slice ht.isList hs pl pu .none (by simp) ?_ (by rw[List.size_toArray] <;> omega)
 rw[slicePick_cut,← hlen]
 refine⟨.ref s.heap.objs.size,_,I.laid (t':=s.toks) (o:=.lst (cutV xs lo hi)) (fun b ob q=>Heap.get?_push_of_some _ q) (Nat.le_refl _) ?_,rfl,q _ (I.hok.fresh (Nat.le_refl _))⟩
 exact⟨Nat.le_trans (cutV_length xs lo hi) hz,_,0,(r.drop (HT.sIx xs.length 0 lo)).take (HT.sIx xs.length xs.length hi-HT.sIx xs.length 0 lo),Heap.get?_push_size _ rfl⟩
def flatV:V->Bool
 |.non=>true
 |.bl _=>true
 |.int _=>true
 |.str _=>true
 |_=>false
def eqV:V->V->Bool
 |.non,.non=>true
 |.bl a,.bl b=>a==b
 |.bl a,.int b=>(if a then 1 else 0)==b
 |.int a,.bl b=>a==(if b then 1 else 0)
 |.int a,.int b=>a==b
 |.str a,.str b=>a==b
 |_,_=>false
theorem eqAt_V{A:Around}{s:Shared}{y x:V}{u v:Value}(ry:RelV y u)(rx:RelV x v)(fy:flatV y=true)(fx:flatV x=true):SeqAt.EqAt A s u v (eqV y x):=by
 cases y with
 |non =>
  cases ry
  cases x with
  |non=>cases rx;exact SeqAt.EqAt.same _
  |bl b=>cases rx;exact SeqAt.EqAt.none_bool b
  |int b=>obtain⟨t,rfl⟩:=rx;exact SeqAt.EqAt.none_int b t
  |str b=>obtain⟨t,rfl⟩:=rx;exact SeqAt.EqAt.none_str b t
  |_=>exact absurd (show false=true from fx) Bool.false_ne_true
 |bl a =>
  cases ry
  cases x with
  |non=>cases rx;exact SeqAt.EqAt.bool_none a
  |bl b=>cases rx;exact SeqAt.EqAt.bool_bool a b
  |int b=>obtain⟨t,rfl⟩:=rx;exact SeqAt.EqAt.bool_int a b t
  |str b=>obtain⟨t,rfl⟩:=rx;exact SeqAt.EqAt.bool_str a b t
  |_=>exact absurd (show false=true from fx) Bool.false_ne_true
 |int a =>
  obtain⟨t',rfl⟩:=ry
  cases x with
  |non=>cases rx;exact SeqAt.EqAt.int_none a t'
  |bl b=>cases rx;exact SeqAt.EqAt.int_bool a t' b
  |int b=>obtain⟨t,rfl⟩:=rx;exact SeqAt.EqAt.int_int a t' b t
  |str b=>obtain⟨t,rfl⟩:=rx;exact SeqAt.EqAt.int_str a t' b t
  |_=>exact absurd (show false=true from fx) Bool.false_ne_true
 |str a =>
  obtain⟨t',rfl⟩:=ry
  cases x with
  |non=>cases rx;exact SeqAt.EqAt.str_none a t'
  |bl b=>cases rx;exact SeqAt.EqAt.str_bool a t' b
  |int b=>obtain⟨t,rfl⟩:=rx;exact SeqAt.EqAt.str_int a t' b t
  |str b=>obtain⟨t,rfl⟩:=rx;exact SeqAt.EqAt.str_str a t' b t
  |_=>exact absurd (show false=true from fx) Bool.false_ne_true
 |_=>exact absurd (show false=true from fy) Bool.false_ne_true
def eqU(x:V)(u:Value):Bool:=match u with
 |.none=>eqV .non x
 |.bool b=>eqV (.bl b) x
 |.int i _=>eqV (.int i) x
 |.str z _=>eqV (.str z) x
 |_=>false
theorem eqU_of{x y:V}{u:Value}(r:RelV y u)(f:flatV y=true):eqU x u=eqV y x:=by
 cases y with
 |non=>cases r;rfl
 |bl b=>cases r;rfl
 |int i=>obtain⟨t,rfl⟩:=r;rfl
 |str z=>obtain⟨t,rfl⟩:=r;rfl
 |_=>exact absurd (show false=true from f) Bool.false_ne_true
theorem any_eqU{x:V}:∀ {xs:List V} {us:List Value},Vals xs us->xs.all flatV=true->us.any (eqU x)=xs.any fun y=>eqV y x
 |_,_,.nil,_=>rfl
 |y::xs,u::us,.cons r t,f=>by
  rw[List.all_cons,Bool.and_eq_true]at f
  rw[List.any_cons,List.any_cons,eqU_of r f.1,any_eqU t f.2]
theorem mem_eqAt{A:Around}{s:Shared}{x:V}{v:Value}(rx:RelV x v)(fx:flatV x=true):∀ {xs:List V} {us:List Value},Vals xs us->xs.all flatV=true->∀u∈us,SeqAt.EqAt A s u v (eqU x u)
 |_,_,.nil,_=>fun u hu=>by cases hu
 |y::xs,u::us,.cons r t,f=>fun u' hu=>by
  rw[List.all_cons,Bool.and_eq_true]at f
  rcases List.mem_cons.mp hu with rfl | hu
  ·rw[eqU_of r f.1];exact eqAt_V r rx f.1 fx
  ·exact mem_eqAt rx fx t f.2 u' hu
def inV(x:V)(xs:List V):Bool:=xs.any fun y=>eqV y x
def rIn(K:W.Frag)(neg:Bool):R2:=fun x y H Q=>∃p xs,y=.ref p/\(SqL K H p xs∨SqT K H p xs)/\flatV x=true/\xs.all flatV=true/\Q (.bl (if neg then !inV x xs else inV x xs)) H
theorem op_in_seq:OpR X (compareOp .In) (rIn X.K false):=by
 intro pins s σ H x y v u Q I rx ry h
 obtain⟨p,xs,rfl,hq,fx,fs,q⟩:=h
 cases ry
 rcases hq with hq | hq
 ·obtain⟨its,r,pl,hz⟩:=I.list hq
  refine SeqAt.in_listAt (eqU x) pl.isList (fun w hw=>mem_eqAt rx fx r fs w (by simpa using hw)) ⟨.bl _,H,I,rfl,?_⟩
  rw[show its.toArray.any (eqU x)=its.any (eqU x) by simp,any_eqU r fs]
  exact q
 ·obtain⟨its,r,pl,hz⟩:=I.tuple hq
  refine SeqAt.in_tupleAt (eqU x) pl (fun w hw=>mem_eqAt rx fx r fs w (by simpa using hw)) ⟨.bl _,H,I,rfl,?_⟩
  rw[show its.toArray.any (eqU x)=its.any (eqU x) by simp,any_eqU r fs]
  exact q
theorem op_notIn_seq:OpR X (compareOp .NotIn) (rIn X.K true):=by
 intro pins s σ H x y v u Q I rx ry h
 obtain⟨p,xs,rfl,hq,fx,fs,q⟩:=h
 cases ry
 rcases hq with hq | hq
 ·obtain⟨its,r,pl,hz⟩:=I.list hq
  refine SeqAt.notIn_listAt (eqU x) pl.isList (fun w hw=>mem_eqAt rx fx r fs w (by simpa using hw)) ⟨.bl _,H,I,rfl,?_⟩
  rw[show its.toArray.any (eqU x)=its.any (eqU x) by simp,any_eqU r fs]
  exact q
 ·obtain⟨its,r,pl,hz⟩:=I.tuple hq
  refine SeqAt.notIn_tupleAt (eqU x) pl (fun w hw=>mem_eqAt rx fx r fs w (by simpa using hw)) ⟨.bl _,H,I,rfl,?_⟩
  rw[show its.toArray.any (eqU x)=its.any (eqU x) by simp,any_eqU r fs]
  exact q
theorem call_len_seq:CallR X (.builtin "len") (fun xs H Q=>∃p ys,xs=[.ref p]/\(SqL X.K H p ys∨SqT X.K H p ys)/\Q (.int ys.length) H):=by
 intro pins s σ H xs us Q I r h
 obtain⟨p,ys,rfl,hq,q⟩:=h
 obtain⟨u,rfl,rx⟩:=vals1 r
 cases rx
 have hn:=line63
 rcases hq with hq | hq
 ·obtain⟨its,r',pl,hz⟩:=I.list hq
  have hlen:=r'.length
  exact Calls.call_len_list pl.isList (by simp only[List.size_toArray] <;> omega) ⟨.int ys.length,H,I.tok _,⟨s.toks+1,by rw[List.size_toArray,hlen]⟩,q⟩
 ·obtain⟨its,r',pl,hz⟩:=I.tuple hq
  have hlen:=r'.length
  exact len_tuple pl (by simp only[List.size_toArray] <;> omega) ⟨.int ys.length,H,I.tok _,⟨s.toks+1,by rw[List.size_toArray,hlen]⟩,q⟩
theorem call_len_str:CallR X (.builtin "len") (fun xs H Q=>∃z,xs=[.str z]/\z.length<=sizeLine/\Q (.int z.length) H):=by
 intro pins s σ H xs us Q I r h
 obtain⟨z,rfl,hz,q⟩:=h
 obtain⟨u,rfl,t,rfl⟩:=vals1 r
 have hn:=line63
 exact len_str (by omega) ⟨.int z.length,H,I.tok _,⟨_,rfl⟩,q⟩
theorem call_list_of:CallR X (.type "list") (fun xs H Q=>∃p ys,xs=[.ref p]/\(SqL X.K H p ys∨SqT X.K H p ys)/\∀l,H l=none->Q (.ref l) (upd H l (.lst ys))):=by
 intro pins s σ H xs us Q I r h
 obtain⟨p,ys,rfl,hq,q⟩:=h
 obtain⟨u,rfl,rx⟩:=vals1 r
 cases rx
 have fin:∀(its:List Value),Vals ys its->ys.length<=sizeLine->∀(h':Heap) (c':Nat),(∀b o',s.heap.get? b=some o'->h'.get? b=some o') ->
   h'.get? s.heap.objs.size=some { cls:=.type "list",dict:=none,data:=.seq its.toArray c',slots:=#[] }->EP X pins σ Q (.ref s.heap.objs.size) { s with heap:=h' }:=fun its r' hz h' c' kp e =>
  ⟨.ref s.heap.objs.size,_,I.laid (t':=s.toks) kp (Nat.le_refl _) (show ObjOk X.prog X.w _ h' _ (.lst ys) from⟨hz,its,c',r',e⟩),rfl,q _ (I.hok.fresh (Nat.le_refl _))⟩
 rcases hq with hq | hq
 ·obtain⟨its,r',pl,hz⟩:=I.list hq
  have hlen:=r'.length
  obtain⟨o,ho,hc,n,hd⟩:=pl.isList
  exact call_list_seq p (.inl rfl) ho hc hd (fun h' c' kp e=>fin its r' hz h' c' kp e) (by simp only[List.size_toArray] <;> omega)
 ·obtain⟨its,r',pl,hz⟩:=I.tuple hq
  have hlen:=r'.length
  obtain⟨o,ho,hc,n,hd⟩:=pl
  exact call_list_seq p (.inr rfl) ho hc hd (fun h' c' kp e=>fin its r' hz h' c' kp e) (by simp only[List.size_toArray] <;> omega)
theorem call_tuple_of:CallR X (.type "tuple") (fun xs H Q=>∃p ys,xs=[.ref p]/\((SqL X.K H p ys/\∀l,H l=none->Q (.ref l) (upd H l (.tup ys)))∨(SqT X.K H p ys/\Q (.ref p) H))):=by
 intro pins s σ H xs us Q I r h
 obtain⟨p,ys,rfl,h⟩:=h
 obtain⟨u,rfl,rx⟩:=vals1 r
 cases rx
 rcases h with⟨hq,q⟩ | ⟨hq,q⟩
 ·obtain⟨its,r',pl,hz⟩:=I.list hq
  have hlen:=r'.length
  refine call_tuple_list pl.isList (fun h' kp=>?_) (by simp only[List.size_toArray] <;> omega)
  have I1:Inv X pins σ H { s with heap:=h' }:=I.kept (t':=s.toks) kp
  have I2:Inv X pins σ (upd H h'.objs.size (.tup ys)) { s with heap:=h'.push { cls:=.type "tuple",data:=.seq its.toArray } } :=
   I1.laid (t':=s.toks) (fun b o e=>Heap.get?_push_of_some _ e) (Nat.le_refl _) (show ObjOk X.prog X.w _ _ _ (.tup ys) from⟨hz,its,r',IsTup.new _ _⟩)
  exact⟨.ref h'.objs.size,_,I2,rfl,q _ (I1.hok.fresh (Nat.le_refl _))⟩
 ·obtain⟨its,r',pl,hz⟩:=I.tuple hq
  exact call_tuple_same pl ⟨.ref p,H,I,rfl,q⟩
def tyV(K:W.Frag)(T:String)(x:V)(H:Hp):Prop:=match x with
 |.str _=>T="str"
 |.int _=>T="int"
 |.ref p=>(T="list"/\∃xs,SqL K H p xs)∨(T="tuple"/\∃o,K.lookup p=some o/\o.cls=.type "tuple"/\o.dict=none) ∨
   (T="dict"/\((∃kvs,H p=some (.dK kvs))∨∃kvs,H p=some (.dT kvs)))∨(T="set"/\∃S n,H p=some (.set S n))
 |_=>False
theorem tyV_is{pins:List (Addr×Obj)}{σ:St}{H:Hp}{s:Shared}{T:String}{x:V}{v:Value}(I:Inv X pins σ H s)(r:RelV x v)(ty:tyV X.K T x H) :
  s.TypeIs v T/\∀a,v=.ref a->∃ob,s.heap.get? a=some ob/\ob.dict=none:=by
 cases x with
 |str z =>
  obtain⟨t,rfl⟩:=r
  cases(show T="str" from ty)
  exact⟨typeIs_str s z t,fun _ e=>nomatch e⟩
 |int i =>
  obtain⟨t,rfl⟩:=r
  cases(show T="int" from ty)
  exact⟨typeIs_int s i t,fun _ e=>nomatch e⟩
 |ref p =>
  cases r
  rcases ty with⟨rfl,xs,hq⟩ | ⟨rfl,o,hk,hc,hd⟩ | ⟨rfl,hk⟩ | ⟨rfl,S,n,hk⟩
  ·obtain⟨its,_,pl,_⟩:=I.list hq
   refine⟨pl.isList.typeIs,fun a e=>?_⟩
   cases e
   obtain⟨o,n,e,c,hd,_⟩:=pl
   exact⟨o,e,hd⟩
  ·refine⟨⟨o,I.kIn p o hk,hc⟩,fun a e=>?_⟩
   cases e
   exact⟨o,I.kIn _ o hk,hd⟩
  ·have z:∃o,s.heap.get? p=some o/\o.ExactDict:=by
    rcases hk with⟨kvs,hk⟩ | ⟨kvs,hk⟩
    ·obtain⟨_,_,_,_,o,_,_,e,ex,_⟩:=I.hok p _ hk
     exact⟨o,e,ex⟩
    ·obtain⟨_,_,_,_,o,_,_,e,ex,_⟩:=I.hok p _ hk
     exact⟨o,e,ex⟩
   obtain⟨o,e,ex⟩:=z
   refine⟨⟨o,e,ex.1⟩,fun a e2=>?_⟩
   cases e2
   exact⟨o,e,ex.2.1⟩
  ·obtain⟨o,_,_,_,e,ex,_⟩:=I.hok p _ hk
   refine⟨⟨o,e,ex.1⟩,fun a e2=>?_⟩
   cases e2
   exact⟨o,e,ex.2.1⟩
 |_=>exact False.elim ty
def tBM(K:W.Frag)(T:String)(r:V->List V->Hp->VK->Prop)(to:TE)(t:TA):TE:=fun σ H Q=>to σ H fun x H1=>tyV K T x H1/\t σ H1 fun xs H2=>r x xs H2 Q
variable{o e:Expr}{es:List Expr}{to:TE}{t:TA}{name:Str}{apos cpos:Pos}{T id:String}{r:V->List V->Hp->VK->Prop}
theorem pe_bm(pa:PlainAttrs T)(slot:Slot T name id)(hty:typeOf (.builtin id)=pure (.type "method_descriptor"))(hm:MtR X id r)(ho:PE X o to)(ha:PA X (e::es) t)
  (hbase:attributeBase o name X.env (eval o X.env)=eval o X.env:=by rfl)
  (hfew:((backTo cpos (starEach (e::es) X.env)).all (fun x=>!x.1)&&(backToKw cpos (keywordEach [] X.env)).all (fun x=>x.1.isSome)
   && decide ((e::es).length+([]:List Keyword).length+(if([]:List Keyword).isEmpty then 0 else 1)<30))=true:=by rfl)
  (hline:(apos.endLine==cpos.line)=true:=by rfl) (hs:starEach (e::es) X.env=(false,eval e X.env)::starEach es X.env:=by rfl) (hplain:(backTo cpos (starEach es X.env)).any (·.1)=false:=by rfl) :
  PE X (.Call (.Attribute o name apos) (e::es) [] cpos) (tBM X.K T r to t):=by
 intro pins s σ H Q I h
 refine wpAny_Call_method_late hbase hfew hline rfl (thn (ho pins s σ H _ I h) fun v s1 ⟨x,H1,I1,r1,ty,q1⟩=>?_)
 obtain⟨h1,h2⟩:=tyV_is I1 r1 ty
 refine⟨T,id,pa,slot,hty,h1,h2,?_⟩
 have hA:=ha cpos pins s1 σ H1 _ I1 q1
 rw[hs]at hA ⊢
 refine Calls.callWith_builtin (by show(false||(backTo cpos (starEach es X.env)).any (·.1))=false;rw[hplain] <;> rfl) (Calls.evalArgs_plain ?_)
 exact thn hA fun us s2 ⟨vs,H2,I2,r2,q2⟩=>hm pins s2 σ H2 x vs v us Q I2 r1 r2 q2
end
def MtM(X:Cx)(id:String)(r:V->List V->Hp->VK->Prop):Prop :=
 ∀(pins:List (Addr×Obj)) (s:Shared) (σ:St) (H:Hp) (x:V) (xs:List V) (v:Value) (us:List Value) (Q:VK),Inv X pins σ H s->RelV x v->Vals xs us->r x xs H Q ->
  wpAny (model X.prog X.w) X.A (call (.builtin id) (v::us)) (EP X pins σ Q) X.xe s
theorem Vals.one:∀ {x:V} {us:List Value},Vals [x] us->∃u,us=[u]/\RelV x u
 |_,_,.cons r .nil=>⟨_,rfl,r⟩
theorem Vals.eraseIdx:∀ {xs:List V} {us:List Value} (i:Nat),Vals xs us->Vals (xs.eraseIdx i) (us.eraseIdx i)
 |_,_,_,.nil=>.nil
 |_,_,0,.cons _ t=>t
 |_,_,i+1,.cons r t=>.cons r (Vals.eraseIdx i t)
theorem len_erase{α:Type}:∀(l:List α) (i:Nat),(l.eraseIdx i).length<=l.length
 | [],_=>Nat.le_refl _
 |_::_,0=>Nat.le_succ _
 |_::r,i+1=>Nat.succ_le_succ (len_erase r i)
section
variable{X:Cx}{pins:List (Addr×Obj)}{σ:St}{H:Hp}{s:Shared}{l b:Addr}{xs ys zs:List V}{prog:Program}{w:World}{A:Around}{E:Value->Shared->Prop}
theorem Inv.lset{its its':List Value}{n:Nat}{f:Array Value->Array Value}{t':Nat}(I:Inv X pins σ H s)(hH:H l=some (.lst xs))
  (e:s.heap.get? l=some { cls:=.type "list",data:=.seq its.toArray n }) (hf:f its.toArray=its'.toArray) (hv:Vals ys its') (hz:ys.length<=sizeLine) :
  Inv X pins σ (upd H l (.lst ys)) { s with heap:=s.heap.update l (Obj.mapSeq f),toks:=t' }:=by
 have q:=PySem.IsL.update e f
 rw[hf]at q
 refine I.write (x:=l) (e:=l) (by rw[hH];exact trivial) (.inl rfl) (fun b' u hb hu=>(Heap.get?_update_other s.heap (Obj.mapSeq f) (Ne.symm hb)).trans hu) ⟨_,q⟩ ?_
 exact⟨hz,its',_,hv,q⟩
theorem Inv.lstM(I:Inv X pins σ H s)(hH:H l=some (.lst xs)):xs.length<=sizeLine/\∃(its:List Value) (n:Nat),Vals xs its/\xs.length=its.length/\s.heap.get? l=some { cls:=.type "list",data:=.seq its.toArray n }:=by
 obtain⟨z,its,n,r,e⟩:=I.hok l _ hH
 exact⟨z,its,n,r,r.length,e⟩
def rAppend:V->List V->Hp->VK->Prop:=fun x vs H Q=>∃l xs y,x=.ref l/\vs=[y]/\H l=some (.lst xs)/\xs.length<sizeLine/\Q .non (upd H l (.lst (xs++[y])))
theorem mt_append:MtM X "list.append" rAppend:=by
 intro pins s σ H x vs v us Q I rx rv h
 obtain⟨l,xs,y,rfl,rfl,hH,hz,q⟩:=h
 cases rx
 obtain⟨u,rfl,ru⟩:=rv.one
 obtain⟨z,its,n,r,hl,e⟩:=I.lstM hH
 refine call_meets F.slot_list_append ⟨_,e,rfl⟩ F.entry_list_append (F.args_list_append_2 _ _) (PySem.list_append l its.toArray n u (by rw[List.size_toArray];omega)) ⟨e,?_⟩
 refine⟨.non,_,I.lset (its':=its++[u]) hH e (by simp) (r.append (.cons ru .nil)) ?_,rfl,q⟩
 rw[List.length_append,List.length_singleton]
 omega
def rPopAt:V->List V->Hp->VK->Prop:=fun x vs H Q=>∃l xs i k y,x=.ref l/\vs=[.int i]/\H l=some (.lst xs)/\-(2 ^ 63)<=i/\i<2 ^ 63/\seqIndex? i xs.length=some k/\xs[k]? = some y/\Q y (upd H l (.lst (xs.eraseIdx k)))
theorem mt_popAt:MtM X "list.pop" rPopAt:=by
 intro pins s σ H x vs v us Q I rx rv h
 obtain⟨l,xs,i,k,y,rfl,rfl,hH,h1,h2,hk,hy,q⟩:=h
 cases rx
 obtain⟨u,rfl,ru⟩:=rv.one
 obtain⟨t,rfl⟩:=ru
 obtain⟨z,its,n,r,hl,e⟩:=I.lstM hH
 obtain⟨w,hw,rw'⟩:=r.get hy
 refine call_meets F.slot_list_pop ⟨_,e,rfl⟩ F.entry_list_pop (F.args_list_pop_2 _ _)
  (MeetsSeq.list_pop_at l its.toArray n i t k w (fitsIndex_both h1 h2) (by rw[List.size_toArray,← hl];exact hk) (by rw[← Array.getElem?_toList];exact hw) (by rw[List.size_toArray];omega)) ⟨e,?_⟩
 refine⟨y,_,I.lset (its':=its.eraseIdx k) hH e ?_ (r.eraseIdx k) ?_,rw',q⟩
 ·show its.toArray.eraseIdxIfInBounds k=(its.eraseIdx k).toArray
  rw[List.eraseIdxIfInBounds_toArray]
 ·have:=len_erase xs k
  omega
end
end L2
namespace Att
open PySem PySem.W PySem.Calls PyProof.Rows
theorem ints_of_wellAll{P:Params}{h:Heap}:∀(ns:List Int) (vs:List Value),WellAll P h vs (ns.map WData.int)->IntsAre vs ns:=by
 intro ns
 induction ns with
 |nil =>
  intro vs w
  rw[List.map_nil]at w
  cases w
  exact .nil
 |cons n ns ih =>
  intro vs w
  rw[List.map_cons]at w
  cases w with
  |cons a b =>
   cases a
   exact .cons _ _ (ih _ b)
theorem script_of{l:OpenLaw}{n:Nat}(hn:l.most=some n){P:Params}{h:Heap}{args:List WData}{vals:List Value}
  (hpre:l.row.toRowW.claim.pre args=true) (hwl:WellAll P h vals args) :
  ∃a vs ns,vals=[Value.ref a]/\args=[WData.list (ns.map WData.int)]/\h.get? a=some { cls:=.type "list",data:=.seq vs.toArray }/\IntsAre vs ns/\ns.length<=n:=by
 have hsh:WShape.hasAll [] args [.list .int]=true:=(pre_splitW hpre).1
 have hc:l.pre.holds [] { args:=args }=true:=(pre_splitW hpre).2
 obtain⟨d,r,rfl,h1,h2⟩:=hasAllW_cons hsh
 obtain rfl:=hasAllW_nil h2
 obtain⟨xs,rfl,h3⟩:=hasW_list h1
 obtain⟨ns,rfl⟩:=items_int h3
 have hlen:ns.length<=n:=by
  unfold OpenLaw.pre at hc
  have h4:(WTm.not (.lt (.lit (.int (n:Int))) (.len (.arg 0)))).holds [] { args:=[.list (ns.map .int)] }=true:=by
   have h4:=(holds_andW hc).1
   rw[hn]at h4
   exact h4
  have h5:=condW_of h4 (w_not (w_lt w_lit (w_len_list (w_arg rfl))))
  rw[List.length_map]at h5
  refine Nat.le_of_not_lt fun q=>?_
  have q':(n:Int)<((ns.length:Nat):Int):=by omega
  first
   |(rw[decide_eq_true q']at h5;exact absurd h5 (by decide))
   |(simp at h5;omega)
 cases hwl with
 |cons w1 w2 =>
  cases w2
  cases w1 with
  |list ho hall=>exact⟨_,_,ns,rfl,rfl,ho,ints_of_wellAll ns _ hall,hlen⟩
theorem post_true(l:OpenLaw)(args:List WData):l.row.toRowW.claim.post args (.bool true) args=true :=
 postW_of (r:=l.row.toRowW) (X:=(true==true))
  (show WShape.has [] (.bool true) .bool=true by first | rfl | decide | simp[WShape.has,WShape.arms,WShape.armsAll])
  (show(WTm.eq .res (.lit (.bool true))).value [] { args:=args,res:=some (.bool true),after:=args }=some (.bool (true==true)) from w_eq_bool (w_res rfl) w_lit) rfl
theorem attach_call{l:OpenLaw}{n:Nat}{q:Program}{loose:List Str}{XP:(Str->Option Value)->Heap->Prop}{YP:World->Heap->Prop}{d:DefRec}
  (hn:l.most=some n) (hdf:d.params.defaults=[])
  (call:∀(w:World) (s₀ s₁:Shared) (mg mb:Str->Option Value) (fa:Addr) (o:Obj) (pm cd doc:Value) (a:Addr) (vs:List Value) (ns:List Int),
   Ground q loose [] XP w s₀ mg mb s₁.heap->YP w s₁.heap ->
   s₁.heap.get? fa=some o->o.data=.func (docDef d.name d.params d.body d.scope pm cd doc)->s₁.heap.CodeRec cd d.name->mg d.name=some (.ref fa) ->
   s₁.heap.get? a=some { cls:=.type "list",data:=.seq vs.toArray }->IntsAre vs ns->ns.length<=n->s₁.gens = #[] ->
   codeAny (model l.prog w) callerA (.call (.ref fa) ⟨[.ref a],[]⟩) (fun r s'=>r=.ok (.ret (.bool true))/\OldK s₁.heap s'.heap/\s'.os=s₁.os/\AllBare s'.gens) s₁) :
  WalkO q loose XP YP l.row.toRowW d [] (fun f vs=>PySem.call f vs):=by
 intro w s₀ s₁ mg mb G Y fa o pm cd doc dV kV ho hd hcd hD hmg hg args vals as hpre hlay hrd hwl hlo
 obtain rfl:dV=.none:=Dflts.none hD hdf
 obtain rfl:kV=.none:=Dflts.noKw hD
 obtain⟨a,vs,ns,rfl,rfl,hobj,hints,hlen⟩:=script_of hn hpre hwl
 refine enter_call (codeAny_mono (call w s₀ s₁ mg mb fa o pm cd doc a vs ns G Y ho (fd_plain hd) hcd hmg hobj hints hlen hg) fun r s' hq=>?_)
 obtain⟨rfl,h2,h3,h4⟩:=hq
 exact⟨.inl ⟨.bool true,.bool true,[],rfl,fun _=>rfl,.bool true,post_true l _,fun _=>⟨List.Pairwise.nil,fun _ hm=>(nomatch hm)⟩⟩,h2,h3,h4⟩
section
variable{prog:Program}{w:World}{A:Around}{E:Value->Shared->Prop}{s:Shared}{K:Frag}
def ledger(h:Heap)(L d:Addr):List (Addr×Obj):=(List.range h.objs.size).filterMap fun a=>if a=L∨a=d then none else(h.get? a).map fun o=>(a,o)
end
end Att
namespace L2
open PySem PySem.Spec PyProof.Rows
theorem vals_ints:∀ {vs:List Value} {ns:List Int},IntsAre vs ns->Vals (ns.map V.int) vs
 |_,_,.nil=>.nil
 |_,_,.cons n t h=>.cons ⟨t,rfl⟩ (vals_ints h)
def Only(H:Hp):Prop:=∀b,H b=none∨∃o xs,H b=some (.frz o (.lst xs))
theorem law_call{P:Program}{w:World}{K:W.Frag}{mg mb:Str->Option Value}{CX:CXT}{k:Nat}{fa a:Addr}{fd:FuncData}{x:Str}{sp:Sp}{s₁:Shared}{vs:List Value}{ns:List Int}
  (KX:K.In s₁.heap) (hns:s₁.heap.Ns mainGlobals mg) (hb:s₁.heap.Ns builtinsNs mb) (hbb:∀x:Str,x≠"__name__"->mb x=bootBuiltins x) (hlim:s₁.heap.NoLimit) (hg:s₁.gens = #[])
  (ha:s₁.heap.get? a=some { cls:=.type "list",data:=.seq vs.toArray }) (hi:IntsAre vs ns) (hl:ns.length<=sizeLine) (hr:Room k callerA)
  (F:∀base:Heap,K.In base->base.Ns mainGlobals mg->FnOk P w K mg base CX k fa fd [x] sp) (hbind:∀(s:Shared) (u:Value),BindsTo s fd ⟨[u],[]⟩ [(x,u)])
  (hsp:∀H:Hp,Only H->SqL K H a (ns.map V.int)->sp [.ref a] H (fun v _=>v=.bl true) fun _ _ _=>False)
  (hCX:∀H e s',CX [] H s₁ (fun _ _ _=>False) e s'->False) :
  codeAny (model P w) callerA (.call (.ref fa) ⟨[.ref a],[]⟩) (fun r s'=>r=.ok (.ret (.bool true))/\OldK s₁.heap s'.heap/\s'.os=s₁.os/\AllBare s'.gens) s₁:=by
 have rv:=vals_ints hi
 have lenV:=hi.length
 have core:∀H:Hp,Only H->SqL K H a (ns.map V.int)->HOk P w H s₁.heap->(∀b,H b≠none->b=a)->(H a≠none->K.lookup a=none) ->
   codeAny (model P w) callerA (.call (.ref fa) ⟨[.ref a],[]⟩) (fun r s'=>r=.ok (.ret (.bool true))/\OldK s₁.heap s'.heap/\s'.os=s₁.os/\AllBare s'.gens) s₁:=by
  intro H hO hS hok hA hK
  have base_of:∀ {b:Addr} {o:Obj},s₁.heap.get? b=some o->H b=none->(hidT s₁.heap H).get? b=some o:=fun e n=>hidT_get e n
  have noA:∀ {b:Addr} {o:Obj} {es:Array DictEntry} {ep:Nat},s₁.heap.get? b=some o->o.data=.dict es ep->H b=none:=fun{b o es ep} e d=>by
   cases q:H b with
   |none=>rfl
   |some u =>
    have e':b=a:=hA b (by rw[q];simp)
    subst e'
    rw[ha]at e;cases e
    have d':Data.seq vs.toArray _=Data.dict es ep:=d
    cases d'
  have nsK:∀ {b:Addr} {m:Str->Option Value},s₁.heap.Ns b m->(hidT s₁.heap H).Ns b m:=fun{b m} ⟨o,es,ep,e,d,r⟩=>⟨o,es,ep,base_of e (noA e d),d,r⟩
  have hKb:K.In (hidT s₁.heap H):=fun b o e=>base_of (KX b o e) (by
   cases q:H b with
   |none=>rfl
   |some u =>
    have e':b=a:=hA b (by rw[q];simp)
    subst e'
    rw[hK (by rw[q];simp)]at e;cases e)
  have hM:Mod K mg (hidT s₁.heap H):=⟨hKb,nsK hns,⟨mb,nsK hb,hbb⟩,let⟨mc,h1,h2⟩:=hlim;⟨mc,nsK h1,h2⟩⟩
  have e0:Env0 P w K mg (hidT s₁.heap H) callerA [] s₁ H:=⟨rfl,hM,fun b o e=>of_hidT e,Nat.le_of_eq (hidT_size _ _),trivial,fun b hb=>absurd (show b∈([]:List Addr) from hb) (by simp),hok,.of_eq hg⟩
  refine codeAny_mono ((F _ hKb (nsK hns)).run callerA [] s₁ H ⟨[.ref a],[]⟩ [.ref a] [.ref a] _ _ hr e0 (hbind s₁ (.ref a)) (.cons rfl .nil) (hsp H hO hS)) fun r s' h=>?_
  cases r with
  |error e=>exact(hCX H e s' h).elim
  |ok fl =>
   cases fl with
   |next=>exact False.elim h
   |brk=>exact False.elim h
   |cont=>exact False.elim h
   |ret u =>
    obtain⟨v,H',os,bare,un,hok',r',q⟩:=h
    have q':v=.bl true:=q
    subst q'
    obtain rfl:u=Value.bool true:=r'
    refine⟨rfl,OldK.of_keep fun b o e=>?_,os,bare⟩
    cases q:H b with
    |none=>exact un.keep b o e q (by intro z;exact absurd (show b∈([]:List Addr) from z) (by simp)) (by simp)
    |some u =>
     rcases hO b with z | ⟨ob,xs,z⟩
     ·rw[q]at z;cases z
     ·have z2:=un.frzs b ob _ z
      obtain⟨e1,_⟩:=hok b _ z
      obtain⟨e2,_⟩:=hok' b _ z2
      rw[e]at e1;cases e1
      exact e2
 cases hk:K.lookup a with
 |some o =>
  have e:=KX a o hk
  rw[ha]at e
  cases e
  refine core (fun _=>none) (fun _=>.inl rfl) (.inr ⟨_,vs.toArray,_,hk,rfl,rfl,rfl,by rw[List.size_toArray,lenV];exact hl,by simpa using rv⟩) (fun b u z=>by have z':(none:Option HO)=some u:=z;cases z') (fun b z=>absurd rfl z) fun z=>absurd rfl z
 |none =>
  refine core (fun b=>if b=a then some (.frz { cls:=.type "list",data:=.seq vs.toArray } (.lst (ns.map V.int))) else none) (fun b=>?_) (.inl (.inr ⟨{ cls:=.type "list",data:=.seq vs.toArray },if_pos rfl⟩)) (fun b u z=>?_) (fun b z=>?_) fun _=>hk
  ·by_cases hb:b=a
   ·exact .inr ⟨_,_,if_pos hb⟩
   ·exact .inl (if_neg hb)
  ·by_cases hb:b=a
   ·have z':=(if_pos hb).symm.trans z
    cases z'
    subst hb
    exact⟨ha,by rw[List.length_map];exact hl,vs,_,rv,ha⟩
   ·have z':=(if_neg hb).symm.trans z
    cases z'
  ·by_cases hb:b=a
   ·exact hb
   ·exact absurd (if_neg hb) z
abbrev KOf{K:W.Frag}{h:Heap}(_:K.In h):W.Frag:=K
theorem walk_of{l:W.OpenLaw}{n k:Nat}{q:Program}{loose:List Str}{XP:(Str->Option Value)->Heap->Prop}{YP:World->Heap->Prop}{d:DefRec}{K:Params->W.Frag}{CX:World->CXT}{sp:World->Sp}{x:Str}
  (hn:l.most=some n) (hn2:n<=sizeLine) (hdf:d.params.defaults=[]) (hr:Room k callerA)
  (hY:∀(w:World) (h:Heap),YP w h->(K w.params).In h)
  (F:∀(w:World) (mg:Str->Option Value) (fa:Addr) (h:Heap),(K w.params).In h->h.Ns mainGlobals mg->mg d.name=some (.ref fa) ->
   ∃fd:FuncData,(∀(s:Shared) (u:Value),BindsTo s fd ⟨[u],[]⟩ [(x,u)]) /\
    ∀base:Heap,(K w.params).In base->base.Ns mainGlobals mg->FnOk l.prog w (K w.params) mg base (CX w) k fa fd [x] (sp w))
  (hsp:∀(w:World) (H:Hp) (a:Addr) (ns:List Int),ns.length<=n->Only H->SqL (K w.params) H a (ns.map V.int)->sp w [.ref a] H (fun v _=>v=.bl true) fun _ _ _=>False)
  (hCX:∀(w:World) (H:Hp) (s:Shared) (e:Value) (s':Shared),CX w [] H s (fun _ _ _=>False) e s'->False) :
  W.WalkO q loose XP YP l.row.toRowW d [] (fun f vs=>PySem.call f vs):=by
 refine Att.attach_call hn hdf fun w s₀ s₁ mg mb fa o pm cd doc a vs ns G Y ho hd hcd hmg hobj hints hlen hg=>?_
 have KX:=hY w _ Y
 obtain⟨fd,hb,hF⟩:=F w mg fa _ KX G.T.g hmg
 exact law_call KX G.T.g G.T.b G.T.builtins G.T.nolimit hg hobj hints (Nat.le_trans hlen hn2) hr hF hb (fun H hO hS=>hsp w H a ns hlen hO hS) fun H e s'=>hCX w H s₁ e s'
def inClass(s:Stmt)(j:Nat):Stmt:=match s with
 |.ClassDef _ _ _ body _ _ _ _ _ _ _=>body.getD j (.Pass ⟨0,0,0,0⟩)
 |_=>.Pass ⟨0,0,0,0⟩
def defArgs(s:Stmt):Arguments:=match s with
 |.FunctionDef _ a _ _ _ _ _ _ _ _=>a
 |_=>{ posonlyargs:=[],args:=[],vararg:=none,kwonlyargs:=[],kw_defaults:=[],kwarg:=none,defaults:=[] }
def defBody(s:Stmt):List Stmt:=match s with
 |.FunctionDef _ _ b _ _ _ _ _ _ _=>b
 |_=>[]
def defScope(s:Stmt):Scope:=match s with
 |.FunctionDef _ _ _ _ _ _ sc _ _ _=>sc
 |_=>{ kind:=.function,names:=[],isGenerator:=false,isCoroutine:=false }
abbrev CX0:CXT:=fun _ _ _ _ _ _=>False
abbrev E0:XK:=fun _ _ _=>False
theorem pass0{X:Cx}:Passes CX0 X E0:=fun _ _ _ _ _ _ _ h=>h.elim
structure Fun(K:W.Frag)(x qual:Str)(st:Stmt)(f:Addr)(fd:FuncData):Prop where
 ex:∃(oc:Value) (od:Option Addr) (kV doc pm:Value) (an:Option Addr) (cdv ct:Value) (osl:Array (Option Value)),
  fd=W.fnOf x qual (defArgs st) (defBody st) (defScope st) .none kV doc pm an cdv ct/\K.lookup f=some ⟨oc,od,.func fd,osl⟩/\W.codeIn K cdv qual=true
 kp:W.keepIn K (.ref f)=true
section
variable{P:Program}{w:World}{K:W.Frag}{mg:Str->Option Value}{base:Heap}
theorem Fun.ok{x qual:Str}{st:Stmt}{f:Addr}{fd:FuncData}{N ps:List Str}{k:Nat}{sp:Sp}(F:Fun K x qual st f fd)(S:FnScope N ps (defScope st))(len:∀vs H Q E,sp vs H Q E->vs.length=ps.length)
  (hbody:∀(cdv:Value) (A:Around) (outer:List Env) (s:Shared) (H:Hp) (vs:List V) (Q:VK) (E:XK),Room k (A.deeper (envOfC qual (defScope st) s.heap.objs.size f cdv))->sp vs H Q E ->
   ∃t,PSs (cxOf CX0 P w K mg base N qual (defScope st) f cdv A outer s H E).nox (defBody st) t/\t { nx:=fun _ H'=>Q .non H',rt:=Q } (start N vs) H):FnOk P w K mg base CX0 (k+1) f fd ps sp:=by
 obtain⟨oc,od,kV,doc,pm,an,cdv,ct,osl,rfl,lk,hcd⟩:=F.ex
 refine fn_of lk hcd S len fun A outer s H vs Q E hr hsp=>?_
 obtain⟨t,h,q⟩:=hbody cdv A outer s H vs Q E hr hsp
 exact⟨t,h.nox,q⟩
theorem Fun.binds{x qual:Str}{st:Stmt}{f:Addr}{fd:FuncData}{ps:List Str}(F:Fun K x qual st f fd)
  (h:∀(kV doc pm:Value) (an:Option Addr) (cdv ct:Value) (us:List Value),us.length=ps.length->bindArgs (W.fnOf x qual (defArgs st) (defBody st) (defScope st) .none kV doc pm an cdv ct) ⟨us,[]⟩=pure (ps.zip us)):Binds K fd ps []:=by
 obtain⟨oc,od,kV,doc,pm,an,cdv,ct,osl,rfl,lk,hcd⟩:=F.ex
 exact .all (h kV doc pm an cdv ct)
theorem fun_mk{x qual:Str}{st:Stmt}{f:Addr}{oc:Value}{od an:Option Addr}{osl:Array (Option Value)}{kV doc pm cdv ct:Value}(l:K.lookup f=some ⟨oc,od,.func (W.fnOf x qual (defArgs st) (defBody st) (defScope st) .none kV doc pm an cdv ct),osl⟩)
  (c:W.codeIn K cdv qual=true) (k:W.keepIn K (.ref f)=true):Fun K x qual st f (W.fnOf x qual (defArgs st) (defBody st) (defScope st) .none kV doc pm an cdv ct):=⟨⟨oc,od,kV,doc,pm,an,cdv,ct,osl,rfl,l,c⟩,k⟩
end
theorem hu_of{A:Around}{k:Nat}(hr:Room k A):A.units+1<cLine:=Nat.lt_of_le_of_lt (Nat.add_le_add_left (by decide:1<=64) _) hr.units
theorem small1000{n:Nat}(h:n<=1000):n<sizeLine:=Nat.lt_of_le_of_lt h (by decide)
section
variable{X:Cx}
theorem pv(i:Nat){x:Str}{pos:Pos}(hN:X.N[i]? = some x:=by rfl)(hv:Vis X.env.scope x:=by first | exact Or.inl rfl | exact Or.inr (Or.inl rfl) | exact Or.inr (Or.inr rfl))(hd:(x==("__debug__":Str))=false:=by decide)
  (hcd:(x==("__classdict__":Str))=false:=by decide):PE X (.Name x pos) (tVar i):=pe_var hN hv hd hcd
end
theorem iteF{A B:Prop}(h:B):if false=true then A else B:=by
 rw[if_neg Bool.false_ne_true]
 exact h
theorem iteT{A B:Prop}(h:A):if true=true then A else B:=by
 rw[if_pos rfl]
 exact h
theorem ite2{c A B:Prop}[Decidable c](h1:c->A)(h2:¬c->B):if c then A else B:=by
 by_cases h:c
 ·rw[if_pos h]
  exact h1 h
 ·rw[if_neg h]
  exact h2 h
def Same(H H':Hp):Prop:=∀b o,H b=some o->H' b=some o
theorem Same.trans{H H1 H2:Hp}(a:Same H H1)(b:Same H1 H2):Same H H2:=fun c o h=>b c o (a c o h)
theorem Same.free{H H':Hp}(e:Same H H'){l:Addr}(h:H' l=Option.none):H l=Option.none:=by
 cases q:H l with
 |none=>rfl
 |some o =>
  rw[e l o q]at h
  cases h
def clStep(cells:List (Str×Addr))(cs:List (Str×Addr))(p:Str×NameKind):List (Str×Addr) :=
 if(p.2==.free)=true then(match cells.lookup p.1 with | some c=>(p.1,c)::cs | none=>cs) else cs
def clOf(names:List (Str×NameKind))(cells:List (Str×Addr)):List (Str×Addr):=names.foldl (clStep cells) []
theorem forIn_fold{α β:Type}{l:List α}{f:α->β->Sem (ForInStep β)}(g:β->α->β):∀(c:β),(∀x∈l,∀c,f x c=pure (.yield (g c x)))->forIn l c f=pure (l.foldl g c):=by
 induction l with
 |nil=>intro c _;rfl
 |cons x l ih =>
  intro c h
  rw[List.forIn_cons,h x List.mem_cons_self,pure_bind]
  exact ih _ fun y hy=>h y (List.mem_cons_of_mem _ hy)
theorem closureFor_of{scope:Scope}{env:Env}(h:∀p∈scope.names,p.2=.free->∃c,env.cells.lookup p.1=some c):closureFor scope env=pure (clOf scope.names env.cells):=by
 simp only[closureFor]
 rw[forIn_fold (clStep env.cells) [] (fun p hp c=>by
  obtain⟨n,k⟩:=p
  by_cases hk:k=.free
  ·subst hk
   obtain⟨a,e⟩:=h _ hp rfl
   have e':env.cells.lookup n=some a:=e
   simp[clStep,cellOf,e']
  ·have hb:(k==NameKind.free)=false:=by simpa using hk
   simp[clStep,hb])]
 rfl
theorem clStep_sub{cells:List (Str×Addr)}{cs:List (Str×Addr)}{p:Str×NameKind}(h:∀y c,cs.lookup y=some c->cells.lookup y=some c):∀y c,(clStep cells cs p).lookup y=some c->cells.lookup y=some c:=by
 intro y c e
 unfold clStep at e
 split at e
 ·split at e
  ·rename_i c' hc'
   rw[List.lookup_cons]at e
   split at e
   ·rename_i hy
    have:y=p.1:=by simpa using hy
    rw[this,hc']
    exact e
   ·exact h y c e
  ·exact h y c e
 ·exact h y c e
theorem clOf_sub(names:List (Str×NameKind))(cells:List (Str×Addr)):∀y c,(clOf names cells).lookup y=some c->cells.lookup y=some c:=by
 have all:∀(names:List (Str×NameKind)) (cs:List (Str×Addr)),(∀y c,cs.lookup y=some c->cells.lookup y=some c)->∀y c,(names.foldl (clStep cells) cs).lookup y=some c->cells.lookup y=some c:=by
  intro names
  induction names with
  |nil=>intro cs h;exact h
  |cons p r ih=>intro cs h;exact ih _ (clStep_sub h)
 exact all names [] (fun y c e=>by simp at e)
theorem clStep_keep{cells cs:List (Str×Addr)}{p:Str×NameKind}{y:Str}(h:(cs.lookup y).isSome=true):((clStep cells cs p).lookup y).isSome=true:=by
 unfold clStep
 split
 ·split
  ·rw[List.lookup_cons]
   split
   ·rfl
   ·exact h
  ·exact h
 ·exact h
theorem clOf_has{names:List (Str×NameKind)}{cells:List (Str×Addr)}{y:Str}{c:Addr}(hm:(y,NameKind.free)∈names)(hc:cells.lookup y=some c):∃c,(clOf names cells).lookup y=some c:=by
 have kp:∀(names:List (Str×NameKind)) (cs:List (Str×Addr)),(cs.lookup y).isSome=true->((names.foldl (clStep cells) cs).lookup y).isSome=true:=by
  intro names
  induction names with
  |nil=>intro cs h;exact h
  |cons p r ih=>intro cs h;exact ih _ (clStep_keep h)
 have all:∀(names:List (Str×NameKind)) (cs:List (Str×Addr)),(y,NameKind.free)∈names->((names.foldl (clStep cells) cs).lookup y).isSome=true:=by
  intro names
  induction names with
  |nil=>intro cs h;cases h
  |cons p r ih =>
   intro cs h
   rcases List.mem_cons.mp h with e | h
   ·subst e
    refine kp r _ ?_
    unfold clStep
    simp[hc]
   ·exact ih _ h
 exact Option.isSome_iff_exists.mp (all names [] hm)
theorem lookup_relabel(env:Env):∀(names:List (Str×NameKind)) (y:Str),
  (names.map fun(n,k)=>if(k==NameKind.free&&env.scope.kind==.function&&env.kindOf n==some .cell) then(n,NameKind.cell) else(n,k)).lookup y =
   (names.lookup y).map fun k=>if(k==NameKind.free&&env.scope.kind==.function&&env.kindOf y==some .cell) then NameKind.cell else k
 | [],_=>rfl
 |(n,k)::r,y=>by
  have ih:=lookup_relabel env r y
  show List.lookup y ((if(k==NameKind.free&&env.scope.kind==.function&&env.kindOf n==some .cell)=true then(n,NameKind.cell) else(n,k))::_)=_
  cases hx:y==n with
  |true =>
   have e:y=n:=by simpa using hx
   subst e
   by_cases hc:(k==NameKind.free&&env.scope.kind==.function&&env.kindOf y==some .cell)=true
   ·rw[if_pos hc];simp only[List.lookup_cons,hx,Option.map_some];rw[if_pos hc]
   ·rw[if_neg hc];simp only[List.lookup_cons,hx,Option.map_some];rw[if_neg hc]
  |false =>
   by_cases hc:(k==NameKind.free&&env.scope.kind==.function&&env.kindOf n==some .cell)=true
   ·rw[if_pos hc];simp only[List.lookup_cons,hx];exact ih
   ·rw[if_neg hc];simp only[List.lookup_cons,hx];exact ih
def blk3(X:Cx)(N':List Str)(scope:Scope)(x:Str)(C:Addr)(s:Shared)(H:Hp)(ex:List Addr):Cx :=
 { X with N:=x::N',s₀:=s,H₀:=H,env:=compEnvC scope (clOf scope.names X.env.cells) C X.env,outer:=X.stack,ex:=ex,fn:=fun _=>false,pn:=[],xe:=fun _ _=>False }
structure CScope3(x:Str)(N N':List Str)(osc scope:Scope):Prop where
 kind:scope.kind=.function
 nd:(x::N').Nodup
 own:scope.names.lookup x=some .local
 nocell:∀y∈scope.names,y.2≠.cell
 names:∀y∈scope.names,y.2=.local->scope.names.lookup y.1=some .local
 free:∀y∈scope.names,y.2=.free->osc.names.lookup y.1=some .cell
 nol:∀y∈N',scope.names.lookup y≠some .local
 len:N'.length=N.length
 hid:∀p∈N'.zip N,p.1=p.2∨scope.names.lookup p.1=none
section
variable{X:Cx}{N':List Str}{pins:List (Addr×Obj)}{σ:St}{H:Hp}{s:Shared}
theorem CScope3.has{x:Str}{scope:Scope}(S:CScope3 x X.N N' X.env.scope scope)(ok:X.Ok):∀p∈scope.names,p.2=.free->∃c,X.env.cells.lookup p.1=some c:=fun p hp hk =>
 ok.has p.1 (.inl (S.free p hp hk))
theorem blk3_vis{x y:Str}{scope:Scope}{C:Addr}{H₀:Hp}{ex:List Addr}(S:CScope3 x X.N N' X.env.scope scope)(ok:X.Ok)(hk:(blk3 X N' scope x C s H₀ ex).env.kindOf y=some .cell∨(blk3 X N' scope x C s H₀ ex).env.kindOf y=some .free) :
  X.env.kindOf y=some .cell/\∃c,(clOf scope.names X.env.cells).lookup y=some c:=by
 have e:(blk3 X N' scope x C s H₀ ex).env.kindOf y=(scope.names.lookup y).map fun k=>if(k==NameKind.free&&X.env.scope.kind==.function&&X.env.kindOf y==some .cell) then NameKind.cell else k:=lookup_relabel X.env scope.names y
 rw[e]at hk
 cases q:scope.names.lookup y with
 |none=>rw[q]at hk;simp at hk
 |some k =>
  rw[q]at hk
  have hm:=PySem.mem_of_lookup q
  have hfree:k=.free:=by
   cases k with
   |free=>rfl
   |cell=>exact absurd rfl (S.nocell _ hm)
   |_=>simp at hk
  subst hfree
  have h1:=S.free _ hm rfl
  obtain⟨c,hc⟩:=ok.has y (.inl h1)
  exact⟨h1,clOf_has hm hc⟩
theorem blk3_start{x:Str}{scope:Scope}{C acc:Addr}{fp:List Addr}{h':Heap}{t':Nat}{m:Str->Option Value}(S:CScope3 x X.N N' X.env.scope scope)(I:Inv X pins σ H s)(hf:∀b∈fp,FpOk X pins H b)(ho:∀b∈fp,∃o,s.heap.get? b=some o)
  (hC:s.heap.objs.size<=C) (hn:h'.Ns C m) (old:∀b o,s.heap.get? b=some o->h'.get? b=some o):Inv (blk3 X N' scope x C s H fp) [] (none::σ) H { s with heap:=h',toks:=t' }:=by
 have sub:=clOf_sub scope.names X.env.cells
 refine⟨⟨I.ok.mod,S.kind,I.ok.glob,I.ok.blt,hC,fun y z c h1 h2=>I.ok.inj y z c (sub _ _ h1) (sub _ _ h2),fun y hy=>(blk3_vis S I.ok hy).2,fun y c z _=>absurd (show false=true from z) Bool.false_ne_true,I.ok.hd,I.ok.frames,.inl rfl,fun b hb=>⟨?_,fun y c e=>?_⟩,I.bs,Nat.le_trans I.ok.bsz I.sz,fun b o e hb=>?_,fun b hb z=>?_,I.stack,I.stkFree⟩,
  rfl,I.bare,Un.kept old,⟨m,hn,fun i y v h1 h2 h3=>?_⟩,fun y c e=>?_,I.hok.fresh hC,fun y c e=>I.freeC y c (sub _ _ e),fun p hp=>absurd (show p∈([]:List (Addr×Obj)) from hp) (by simp),I.hok.kept old,?_⟩
 ·obtain⟨o,e⟩:=ho b hb
  exact Nat.ne_of_lt (Nat.lt_of_lt_of_le (Heap.lt_size e) hC)
 ·exact(hf b hb).2.2.2.2.1 y c (sub _ _ e)
 ·rcases(hf b hb).2.2.2.1 with z | z
  ·exact I.ok.noex b o e z
  ·exact absurd (Nat.lt_of_lt_of_le (Heap.lt_size e) (Nat.le_trans I.ok.bsz z)) (Nat.lt_irrefl _)
 ·rcases List.mem_cons.mp (I.stkSub b z) with e | e
  ·exact(hf b hb).2.1 e
  ·exact(hf b hb).2.2.1 e
 ·cases i with
  |zero=>simp at h2
  |succ i =>
   have h0':N'[i]? = some y:=h1
   have h2':σ[i]? = some (some v):=by simpa using h2
   have hk:(blk3 X N' scope x C s H fp).env.kindOf y=some .cell∨(blk3 X N' scope x C s H fp).env.kindOf y=some .free:=by
    rcases h3 with h3 | h3
    ·exfalso
     have e:(blk3 X N' scope x C s H fp).env.kindOf y=(scope.names.lookup y).map fun k=>if(k==NameKind.free&&X.env.scope.kind==.function&&X.env.kindOf y==some .cell) then NameKind.cell else k:=lookup_relabel X.env scope.names y
     have h3':(blk3 X N' scope x C s H fp).env.kindOf y=some .local:=h3
     rw[e]at h3'
     cases q:scope.names.lookup y with
     |none=>rw[q]at h3';cases h3'
     |some k =>
      rw[q]at h3'
      rw[Option.map_some]at h3'
      split at h3'
      ·cases h3'
      ·cases h3'
       exact S.nol y (List.mem_of_getElem? h0') q
    ·exact h3
   obtain⟨hk1,c,hc⟩:=blk3_vis S I.ok hk
   have h1':X.N[i]? = some y:=by
    have hlt:i<N'.length:=(List.getElem?_eq_some_iff.mp h0').1
    have hlt2:i<X.N.length:=by rw[← S.len];exact hlt
    have hz:(y,X.N[i])∈N'.zip X.N:=by
     refine List.mem_iff_getElem?.mpr ⟨i,?_⟩
     rw[List.getElem?_zip_eq_some]
     exact⟨h0',List.getElem?_eq_getElem hlt2⟩
    rcases S.hid _ hz with e | e
    ·have e':y=X.N[i]:=e
     rw[List.getElem?_eq_getElem hlt2,← e']
    ·exfalso
     have e':scope.names.lookup y=none:=e
     have e2:(blk3 X N' scope x C s H fp).env.kindOf y=(scope.names.lookup y).map fun k=>if(k==NameKind.free&&X.env.scope.kind==.function&&X.env.kindOf y==some .cell) then NameKind.cell else k:=lookup_relabel X.env scope.names y
     rw[e2,e']at hk
     rcases hk with hk | hk <;> cases hk
   obtain⟨m1,hn1,hl⟩:=I.loc
   obtain⟨u,r,l⟩:=hl i y v h1' h2' (.inr (.inl hk1))
   refine⟨u,r,.inr ⟨hk,c,hc,?_⟩⟩
   rcases l with⟨l,_⟩ | ⟨_,c',hc',z⟩
   ·rw[hk1]at l;cases l
   ·have:=sub _ _ hc
    rw[hc']at this
    cases this
    obtain⟨o,e,d⟩:=z
    exact⟨o,old _ _ e,d⟩
 ·obtain⟨v,o,e1,d⟩:=I.cell y c (sub _ _ e)
  exact⟨v,o,old _ _ e1,d⟩
 ·show(none::σ).length=(x::N').length
  simp[I.len,S.len]
def PTs(X:Cx)(ifs:List Expr)(t:TT):Prop :=
 ∀(pins:List (Addr×Obj)) (s:Shared) (σ:St) (H:Hp) (Q:Bool->Hp->Prop),Inv X pins σ H s->t σ H Q ->
  wpAny (model X.prog X.w) X.A (forIn ifs true fun c r=>if r=true then do let ok ← isTrue c X.env (eval c X.env);pure (ForInStep.yield ok) else pure (ForInStep.yield r)) (TP X pins σ Q) X.xe s
def tYes:TT:=fun _ H Q=>Q true H
theorem pts_nil:PTs X [] tYes:=fun _ _ _ H _ I h=>wpAny_tests_nil ⟨H,I,h⟩
theorem pts_one{c:Expr}{t:TT}(h:PT X c t):PTs X [c] t:=fun pins s σ H Q I hq=>wpAny_tests_one (h pins s σ H Q I hq)
def LCW(J:It)(σ:St)(tt:TT)(te:TE)(Fin:List V->Hp->Prop)(H1:Hp):Prop:=∃W:Nat->Nat->List V->Hp->Prop,(∃m,W 0 m [] H1)/\∀i m ys H,W i m ys H ->
 (J.stop i H/\Fin ys H)∨(J.go i H/\ys.length<sizeLine/\∃N:List V->Hp->Prop,(∀ys' H',N ys' H'->∃m',m'<m/\W (i+1) m' ys' H')/\∀x H',J.yld i H x H'->tt (some x::σ) H' fun b H2 =>
  if b=true then te (some x::σ) H2 fun y H3=>N (ys++[y]) H3 else N ys H2)
def tLC(wi:TI)(tt:TT)(te:TE):TE:=fun σ H Q=>wi σ H fun J H1=>LCW J σ tt te (fun ys H=>∀l,H l=none->Q (.ref l) (upd H l (.lst ys))) H1
theorem comp_core3{elt iter:Expr}{x:Str}{px pos:Pos}{scope:Scope}{ifs:List Expr}{tt:TT}{te:TE}{s2:Shared}{it:Addr}{fp:List Addr}{tn:Nat->Heap->Prop}{J:It}{H2:Hp}{E:Value->Shared->Prop}{Fin:List V->Hp->Prop}{RR:Value->Addr->Result->Shared->Prop}
  (hc:X.calm=true) (S:CScope3 x X.N N' X.env.scope scope) (I2:Inv X pins σ H2 s2) (T:Turn X.prog X.w X.K (.Name x px) J fp it tn) (st2:tn 0 s2.heap) (f2:∀b∈fp,FpOk X pins H2 b) (hw:LCW J σ tt te Fin H2)
  (ht:∀C s H ex,PTs (blk3 X N' scope x C s H ex) ifs tt) (he:∀C s H ex,PE (blk3 X N' scope x C s H ex) elt te)
  (hRR:∀D C s4 ys H3 m5,Inv X pins σ (upd H3 D (.lst ys)) s4->s4.heap.Ns C m5->FpOk X pins (upd H3 D (.lst ys)) C->H3 D=none->Fin ys H3->RR (.ref D) C (.ok .next) s4) :
  wpAny (model X.prog X.w) X.A (newList []) (fun acc s₃=>wpAny (model X.prog X.w) X.A (newFunctionEnv scope X.env.globals (clOf scope.names X.env.cells) [] X.env.qual none .none (some X.env)) (fun cenv s₄ =>
   codeAny (model X.prog X.w) X.A (.compStart (.ListComp elt [⟨.Name x px,iter,ifs,0⟩] scope pos) 0 (.ref it) acc { cenv with scope:=relabel scope X.env }) (RR acc cenv.locals) s₄) E s₃) E s2:=by
 obtain⟨W,⟨m0,w0⟩,turn⟩:=hw
 have hob:=T.obj 0 s2.heap st2
 refine wpAny_newObj_type (wpAny_newFunctionEnv S.nocell (by intro y hy;simp at hy) (fun h₁ hns₁ hsb₁=>?_) S.kind)
 dsimp only at hns₁ hsb₁ ⊢
 generalize hG2:s2.heap.push { cls:=.type "list",dict:=none,data:=.seq ([]:List Value).toArray }=G2 at hns₁ hsb₁ ⊢
 have hC:G2.objs.size=s2.heap.objs.size+1:=by rw[← hG2,Heap.size_push]
 have hDC:s2.heap.objs.size≠G2.objs.size:=by rw[hC];exact Nat.ne_of_lt (Nat.lt_succ_self _)
 have hCle:s2.heap.objs.size<=G2.objs.size:=by rw[hC];exact Nat.le_succ _
 have below:∀b,b<s2.heap.objs.size->b≠G2.objs.size/\b≠s2.heap.objs.size:=fun b hb=>⟨by rw[hC];exact Nat.ne_of_lt (Nat.lt_succ_of_lt hb),Nat.ne_of_lt hb⟩
 have old:∀b o,s2.heap.get? b=some o->h₁.get? b=some o:=fun b o e=>hsb₁.extBut b o (below b (Heap.lt_size e)).1 (Heap.get?_push_of_some _ (hG2 ▸ Heap.get?_push_of_some _ e))
 have hacc:h₁.get? s2.heap.objs.size=some { cls:=.type "list",data:=.seq ([]:List Value).toArray 0 }:=hsb₁.extBut _ _ hDC (Heap.get?_push_of_some _ (hG2 ▸ Heap.get?_push_size _ rfl))
 generalize hD:s2.heap.objs.size=D at *
 generalize hCC:G2.objs.size=C at *
 have hDf:D∉fp:=fun hm=>by
  obtain⟨o,e,_⟩:=hob D hm
  exact absurd (Heap.lt_size e) (by rw[hD];exact Nat.lt_irrefl _)
 have I4:Inv (blk3 X N' scope x C s2 H2 fp) [] (none::σ) H2 { s2 with heap:=h₁,toks:=s2.toks+([]:List (Str×Value)).length } :=
  blk3_start (acc:=D) S I2 f2 (fun b hb=>let⟨o,e,_⟩:=hob b hb;⟨o,e⟩) (by omega) hns₁ old
 have hDn:∀ {σ':St} {H':Hp} {s':Shared},Inv (blk3 X N' scope x C s2 H2 fp) [] σ' H' s'->(∀b∈fp,H' b=none)->∀b∈fp,FpOk (blk3 X N' scope x C s2 H2 fp) [] H' b:=fun{σ' H' s'} I' hn b hb=>by
  refine⟨hn b hb,(I'.ok.exf b hb).1,I'.ok.exfs b hb,.inl hb,fun y c e=>(I'.ok.exf b hb).2 y c e,fun p hp=>absurd (show p∈([]:List (Addr×Obj)) from hp) (by simp)⟩
 have hDfp:∀ {σ':St} {H':Hp} {s':Shared},Inv (blk3 X N' scope x C s2 H2 fp) [] σ' H' s'->H' D=none->FpOk (blk3 X N' scope x C s2 H2 fp) [] H' D:=fun{σ' H' s'} I' hn=>by
  refine⟨hn,hDC,fun z=>?_,.inr (by show s2.heap.objs.size<=D;omega),fun y c e=>?_,fun p hp=>absurd (show p∈([]:List (Addr×Obj)) from hp) (by simp)⟩
  ·obtain⟨_,o,e,_⟩:=I'.ok.funs.mem z
   exact absurd (show D<s2.heap.objs.size from Heap.lt_size e) (by rw[hD];exact Nat.lt_irrefl _)
  ·obtain⟨v,z⟩:=I2.cell y c (clOf_sub _ _ _ _ e)
   intro e2
   exact absurd z.lt (by rw[hD,e2];exact Nat.lt_irrefl _)
 have hgt:∀b o,s2.heap.get? b=some o->b≠C/\b≠D:=fun b o e=>by
  have z:=below b (by rw[← hD];exact Heap.lt_size e)
  exact z
 let LI:Nat->Shared->Prop:=fun n s'=>∃i ys its k σ0 H',Inv (blk3 X N' scope x C s2 H2 fp) [] (σ0::σ) H' s'/\tn i s'.heap/\(∀b∈fp,H' b=none)/\H' D=none/\Vals ys its/\ys.length<=sizeLine/\s'.heap.get? D=some { cls:=.type "list",data:=.seq its.toArray k }/\W i n ys H'
 have loop:∀s₃:Shared,s₃ = { s2 with heap:=h₁,toks:=s2.toks+([]:List (Str×Value)).length } ->
   codeAny (model X.prog X.w) X.A (.compLoop (.ListComp elt [⟨.Name x px,iter,ifs,0⟩] scope pos) 0 (.ref it) (.ref D) (compEnvC scope (clOf scope.names X.env.cells) C X.env))
    (RR (.ref D) C) s₃:=by
  rintro s₃ rfl
  refine codeAny_compLoop_tests LI ?_ m0 ⟨0,[],[],0,none,H2,I4,T.keep _ _ _ st2 (fun b _ o e=>old b o e),fun b hb=>(f2 b hb).1,I2.hok.fresh (by rw[hD];exact Nat.le_refl _),.nil,Nat.zero_le _,hacc,w0⟩
  rintro n s3 ⟨i,ys,its,k,σ0,H3,I3,st3,fr3,frD,rv,hysz,ha3,w3⟩
  have IP:Inv (blk3 X N' scope x C s2 H2 fp) [(D,{ cls:=.type "list",data:=.seq its.toArray k })] (σ0::σ) H3 s3:=I3.pins_of fun p hp=>by
   have e:p=(D,{ cls:=.type "list",data:=.seq its.toArray k }):=by simpa using hp
   subst e
   obtain⟨f0,f1,f3,_⟩:=hDfp I3 frD
   exact⟨ha3,f0,f1,f3,fun v z=>by cases z⟩
  have fpP:∀ {H':Hp},(∀b∈fp,H' b=none)->∀b∈fp,FpOk (blk3 X N' scope x C s2 H2 fp) [(D,{ cls:=.type "list",data:=.seq its.toArray k })] H' b:=fun{H'} hn b hb=>by
   refine⟨hn b hb,(I3.ok.exf b hb).1,I3.ok.exfs b hb,.inl hb,fun y c e=>(I3.ok.exf b hb).2 y c e,fun p hp=>?_⟩
   have e:p=(D,{ cls:=.type "list",data:=.seq its.toArray k }):=by
    have hp':p∈[(D,({ cls:=.type "list",data:=.seq its.toArray k }:Obj))]:=hp
    simpa using hp'
   subst e
   exact fun z=>hDf (by rw[show D=b from z];exact hb)
  rcases turn i n ys H3 w3 with⟨stop,qn⟩ | ⟨go,hlen,N,hN,step⟩
  ·refine wpAny_mono (T.done (blk3 X N' scope x C s2 H2 fp) rfl rfl rfl hc i _ s3 (σ0::σ) H3 (fun _ _=>False) IP (fpP fr3) st3 stop) (fun r s4 ⟨hr,I5⟩=>?_) fun _ _ z=>z.elim
   subst hr
   obtain⟨m5,hn5,_⟩:=I5.loc
   have hD4:=(I5.pin _ (List.mem_append_right _ (List.mem_singleton.mpr rfl))).1
   have hcn:H3 C=none:=I5.free
   have hok':HOk X.prog X.w (upd H3 D (.lst ys)) s4.heap:=fun b u e=>by
    by_cases hb:b=D
    ·subst hb
     rw[upd_same]at e
     cases e
     exact⟨hysz,its,k,rv,hD4⟩
    ·rw[upd_ne hb]at e
     exact(I5.hok b u e).stay (fun c v hc q=>q) (fun c q=>by rw[upd_ne (ne_of_none q frD)];exact q) fun c xs q=>by rw[upd_ne (ne_of_none q frD)];exact q
   have un':Un (frs X.stack) fp H2 (upd H3 D (.lst ys)) s2.heap s4.heap:=by
    have u:=I5.base
    refine⟨u.keep,u.slot,fun b o q n hx=>?_,u.there,fun b xs q=>?_,fun b o xs q=>?_,fun b ps q=>?_⟩
    ·rw[upd_ne (hgt b o q).2]
     exact u.free b o q n hx
    ·have e:=u.tups b xs q
     rw[upd_ne (ne_of_none e frD)]
     exact e
    ·have e:=u.frzs b o xs q
     rw[upd_ne (ne_of_none e frD)]
     exact e
    ·obtain⟨more,e⟩:=u.tbls b ps q
     exact⟨more,by rw[upd_ne (ne_of_none e frD)];exact e⟩
   have I6:Inv X pins σ (upd H3 D (.lst ys)) s4:=I2.call' (ch:=fp) I5.os un' hok' I5.bare (fun b hb=>⟨(f2 b hb).2.2.2.1,(f2 b hb).2.1,(f2 b hb).2.2.2.2.1,(f2 b hb).2.2.2.2.2⟩)
   exact hRR D C s4 ys H3 m5 I6 hn5 (I2.fpOk (by rw[hD];exact hCle) (by rw[upd_ne (Ne.symm hDC)];exact hcn)) frD qn
  ·refine wpAny_mono (T.item (blk3 X N' scope x C s2 H2 fp) rfl rfl rfl hc i _ s3 (σ0::σ) H3 (fun _ _=>False) IP (fpP fr3) st3 go) (fun r s4 ⟨u,hr,h4⟩=>?_) fun _ _ z=>z.elim
   subst hr
   show wpAny (model X.prog X.w) X.A (letOwnedTupleGo (.Name x px) (.ref it) u >>= fun _=>assign (.Name x px) (compEnvC scope (clOf scope.names X.env.cells) C X.env) u) _ _ s4
   refine wpAny_bind (wpAny_mono h4 (fun _ s5 ⟨xv,H5,I5,r5,y5,st5,fr5⟩=>?_) fun _ _ z=>z.elim)
   have I5':=I5.pinned (fpP fr5) (T.obj _ _ st5)
   have hloc:Loc (blk3 X N' scope x C s2 H2 fp).env.scope x:=.inl (lookup_relabel_local S.own)
   refine wpAny_mono (pg_name (X:=blk3 X N' scope x C s2 H2 fp) (i:=0) S.nd rfl hloc (.inr (lookup_relabel_local S.own)) _ s5 (σ0::σ) H5 xv u (fun σ' H'=>σ'=some xv::σ/\H'=H5) I5' r5 ⟨rfl,rfl⟩) (fun _ s6 ⟨σ6,H6,I6,e1,e2⟩=>?_) fun _ _ z=>z.elim
   subst e1 e2
   refine wpAny_mono (ht C s2 H2 fp _ s6 (some xv::σ) H6 _ I6 (step xv H6 y5)) (fun b s7 ⟨H7,I7,q7⟩=>?_) fun _ _ z=>z.elim
   have hpD:∀ {σ':St} {H':Hp} {s':Shared},Inv (blk3 X N' scope x C s2 H2 fp) ([(D,{ cls:=.type "list",data:=.seq its.toArray k })]++pinsAt fp s5.heap) σ' H' s'->s'.heap.get? D=some { cls:=.type "list",data:=.seq its.toArray k }/\H' D=none:=fun{σ' H' s'} I'=>by
    have z:=I'.pin (D,{ cls:=.type "list",data:=.seq its.toArray k }) (List.mem_append_right _ (List.mem_append_left _ (List.mem_singleton.mpr rfl)))
    exact⟨z.1,z.2.1⟩
   have hpF:∀ {σ':St} {H':Hp} {s':Shared},Inv (blk3 X N' scope x C s2 H2 fp) ([(D,{ cls:=.type "list",data:=.seq its.toArray k })]++pinsAt fp s5.heap) σ' H' s'->(∀b∈fp,∀o,s5.heap.get? b=some o->s'.heap.get? b=some o)/\∀b∈fp,H' b=none:=fun{σ' H' s'} I'=>by
    refine⟨fun b hb o e=>(I'.pin (b,o) (List.mem_append_right _ (List.mem_append_right _ (mem_pinsAt hb e)))).1,fun b hb=>?_⟩
    obtain⟨o,e,d⟩:=T.obj _ _ st5 b hb
    exact(I'.pin (b,o) (List.mem_append_right _ (List.mem_append_right _ (mem_pinsAt hb e)))).2.1
   cases b with
   |false =>
    rw[if_neg Bool.false_ne_true]at q7 ⊢
    obtain⟨m',hm,w7⟩:=hN _ _ q7
    exact⟨m',hm,i+1,ys,its,k,some xv,H7,I7.pins_of (pins':=[]) (fun p hp=>absurd hp (by simp)),T.keep _ _ _ st5 (hpF I7).1,(hpF I7).2,(hpD I7).2,rv,hysz,(hpD I7).1,w7⟩
   |true =>
    rw[if_pos rfl]at q7 ⊢
    refine wpAny_mono (he C s2 H2 fp _ s7 (some xv::σ) H7 _ I7 q7) (fun u8 s8 ⟨y,H8,I8,r8,q8⟩=>?_) fun _ _ z=>z.elim
    obtain⟨m',hm,w8⟩:=hN _ _ q8
    obtain⟨hd1,hd2⟩:=hpD I8
    have hl:=rv.length
    refine append_at hd1 (fun h' hs' e'=>?_) (by rw[List.size_toArray];omega)
    have I9:Inv (blk3 X N' scope x C s2 H2 fp) [] (some xv::σ) H8 s8:=I8.pins_of (pins':=[]) (fun p hp=>absurd hp (by simp))
    obtain⟨f0,f1,f3,f4,f5,f6⟩:=hDfp I9 hd2
    refine⟨m',hm,i+1,ys++[y],its++[u8],k+1,some xv,H8,I9.turned (it:=D) (t':=s8.toks) (fun b o hb e=>(hs'.2 b hb).trans e) f0 f1 f4 f5 f6,
     T.keep _ _ _ st5 (fun b hb o e=>(hs'.2 b (fun z=>hDf (by rw[← z];exact hb))).trans ((hpF I8).1 b hb o e)),(hpF I8).2,hd2,rv.append (.cons r8 .nil),by rw[List.length_append,List.length_singleton];omega,?_,w8⟩
    rw[e',List.push_toArray]
 exact codeAny_compStart_list (loop _ rfl) (T.self _ 0 _ _ _ (T.keep _ _ _ st2 (fun b _ o e=>old b o e)) (loop _ rfl))
theorem pe_lcomp3{elt iter:Expr}{x:Str}{px pos:Pos}{scope:Scope}{ifs:List Expr}{wi:TI}{tt:TT}{te:TE}(hc:X.calm=true)(S:CScope3 x X.N N' X.env.scope scope)(hi:PI X (.Name x px) iter wi)
  (ht:∀C s H ex,PTs (blk3 X N' scope x C s H ex) ifs tt) (he:∀C s H ex,PE (blk3 X N' scope x C s H ex) elt te) (hs:∀v,foldedSetIterable iter X.env v=pure v:=by intro _;rfl) :
  PE X (.ListComp elt [⟨.Name x px,iter,ifs,0⟩] scope pos) (tLC wi tt te):=by
 intro pins s σ H Q I h
 rw[eval_ListComp]
 refine wpAny_comprehension_free (use:=none) rfl hs (closureFor_of (S.has I.ok)) S.kind S.names (thn (hi pins s σ H _ I h) fun v s1 h1=>thn h1 fun itv s2 h2=>?_)
 obtain⟨it,fp,tn,J,H2,e,I2,T,st2,f2,hw⟩:=h2
 subst e
 refine comp_core3 (RR:=fun acc C=>compPost (model X.prog X.w) X.A X.xe none (EP X pins σ Q) acc C) hc S I2 T st2 f2 hw ht he fun D C s4 ys H3 m5 I5 hn5 fC frD qn=>⟨m5,hn5,fun h' hs'=>?_⟩
 obtain⟨f0,f1,f3,f4,f5,f6⟩:=fC
 exact⟨.ref D,_,I5.turned (it:=C) (t':=s4.toks) (fun b o hb e=>(hs'.2 b hb).trans e) f0 f1 f4 f5 f6,rfl,qn D frD⟩
theorem ps_setLC3{i:Nat}{y:Str}{elt iter:Expr}{x:Str}{px py pos spos:Pos}{scope:Scope}{ifs:List Expr}{wi:TI}{tt:TT}{te:TE}(hN:X.N.Nodup)(hi':X.N[i]? = some y)(hy:X.env.scope.names.lookup y=some .local)(hc:X.calm=true)(S:CScope3 x X.N N' X.env.scope scope)(hi:PI X (.Name x px) iter wi)
  (ht:∀C s H ex,PTs (blk3 X N' scope x C s H ex) ifs tt) (he:∀C s H ex,PE (blk3 X N' scope x C s H ex) elt te)
  (hsw:swapsWith (.ListComp elt [⟨.Name x px,iter,ifs,0⟩] scope pos) (some (.Name y py)) spos.line X.env=pure true) (hs:∀v,foldedSetIterable iter X.env v=pure v:=by intro _;rfl) :
  PS X (.Assign [.Name y py] (.ListComp elt [⟨.Name x px,iter,ifs,0⟩] scope pos) spos) (tAsg (tLC wi tt te) (gName i)):=by
 intro pins s σ H D0 I h
 rw[exec_Assign_Name_used _ _ _ _ hsw]
 refine wpAny_bind (wpAny_standAt (wpAny_bind ?_))
 show wpAny _ X.A (do let _ ← comprehension (.ListComp elt [⟨.Name x px,iter,ifs,0⟩] scope pos) scope X.env _ (newList []) false (eval iter X.env) (some (assign (.Name y py) X.env))) _ _ s
 refine wpAny_bind (wpAny_mono (wpAny_comprehension_free (use:=some (assign (.Name y py) X.env)) (Q:=fun _ s'=>SP X pins D0 .next s') rfl hs (closureFor_of (S.has I.ok)) S.kind S.names
  (thn (hi pins s σ H _ I h) fun v s1 h1=>thn h1 fun itv s2 h2=>?_)) (fun _ s' hq=>wpAny_pure (wpAny_pure hq)) fun _ _ e=>e)
 obtain⟨it,fp,tn,J,H2,e,I2,T,st2,f2,hw⟩:=h2
 subst e
 refine comp_core3 (RR:=fun acc C=>compPost (model X.prog X.w) X.A X.xe (some (assign (.Name y py) X.env)) (fun _ s'=>SP X pins D0 .next s') acc C) hc S I2 T st2 f2 hw ht he fun D C s4 ys H3 m5 I5 hn5 fC frD qn=>?_
 show wpAny _ X.A (assign (.Name y py) X.env (.ref D)) _ _ _
 obtain⟨f0,f1,f3,f4,f5,f6⟩:=fC
 refine wpAny_assign_Name (store_ok2 I5 hN hi' (.inl hy) (v:=.ref D) rfl (fun s' I' ⟨a,sb,ha⟩=>?_) (.inr hy))
 have hCa:C≠a:=by
  rcases ha with e | e
  ·rw[e];exact f1
  ·exact Ne.symm (f5 _ _ e)
 refine⟨m5,hn5.sameBut sb hCa,fun h' hs'=>?_⟩
 exact⟨_,_,I'.turned (it:=C) (t':=s'.toks) (fun b o hb e=>(hs'.2 b hb).trans e) f0 f1 f4 f5 f6,qn D frD⟩
abbrev blk(X:Cx)(scope:Scope)(x:Str)(C:Addr)(s:Shared)(H:Hp)(ex:List Addr):Cx:=blk3 X X.N scope x C s H ex
structure CScope(x:Str)(N:List Str)(osc scope:Scope):Prop where
 kind:scope.kind=.function
 nd:(x::N).Nodup
 own:scope.names.lookup x=some .local
 nocell:∀y∈scope.names,y.2≠.cell
 names:∀y∈scope.names,y.2=.local->scope.names.lookup y.1=some .local
 free:∀y∈scope.names,y.2=.free->osc.names.lookup y.1=some .cell
 nol:∀y∈N,scope.names.lookup y≠some .local
theorem zip_self{α:Type}:∀(l:List α),∀p∈l.zip l,p.1=p.2
 | [],p,h=>by simp at h
 |a::l,p,h=>by
  rw[List.zip_cons_cons]at h
  rcases List.mem_cons.mp h with rfl | h
  ·rfl
  ·exact zip_self l p h
theorem CScope.to3{x:Str}{N:List Str}{osc scope:Scope}(S:CScope x N osc scope):CScope3 x N N osc scope:=⟨S.kind,S.nd,S.own,S.nocell,S.names,S.free,S.nol,rfl,fun p hp=>.inl (zip_self N p hp)⟩
theorem pe_lcomp{elt iter:Expr}{x:Str}{px pos:Pos}{scope:Scope}{ifs:List Expr}{wi:TI}{tt:TT}{te:TE}(hc:X.calm=true)(S:CScope x X.N X.env.scope scope)(hi:PI X (.Name x px) iter wi)
  (ht:∀C s H ex,PTs (blk X scope x C s H ex) ifs tt) (he:∀C s H ex,PE (blk X scope x C s H ex) elt te) (hs:∀v,foldedSetIterable iter X.env v=pure v:=by intro _;rfl) :
  PE X (.ListComp elt [⟨.Name x px,iter,ifs,0⟩] scope pos) (tLC wi tt te):=pe_lcomp3 hc S.to3 hi ht he hs
theorem ps_setLC{i:Nat}{y:Str}{elt iter:Expr}{x:Str}{px py pos spos:Pos}{scope:Scope}{ifs:List Expr}{wi:TI}{tt:TT}{te:TE}(hN:X.N.Nodup)(hi':X.N[i]? = some y)(hy:X.env.scope.names.lookup y=some .local)(hc:X.calm=true)(S:CScope x X.N X.env.scope scope)(hi:PI X (.Name x px) iter wi)
  (ht:∀C s H ex,PTs (blk X scope x C s H ex) ifs tt) (he:∀C s H ex,PE (blk X scope x C s H ex) elt te)
  (hsw:swapsWith (.ListComp elt [⟨.Name x px,iter,ifs,0⟩] scope pos) (some (.Name y py)) spos.line X.env=pure true) (hs:∀v,foldedSetIterable iter X.env v=pure v:=by intro _;rfl) :
  PS X (.Assign [.Name y py] (.ListComp elt [⟨.Name x px,iter,ifs,0⟩] scope pos) spos) (tAsg (tLC wi tt te) (gName i)):=ps_setLC3 hN hi' hy hc S.to3 hi ht he hsw hs
theorem lc_gen{J:It}{n:Nat}{σ:St}{tt:TT}{te:TE}{Fin:List V->Hp->Prop}{H1:Hp}(Pv:Nat->List V->Hp->Prop)(h0:Pv 0 [] H1)(hz:n<sizeLine)(hlen:∀i ys H,Pv i ys H->ys.length<=i)
  (hgo:∀i ys H,i<n->Pv i ys H->J.go i H) (hst:∀ys H,Pv n ys H->J.stop n H)
  (hs:∀i ys H x H',i<n->Pv i ys H->J.yld i H x H'->tt (some x::σ) H' fun b H2=>if b=true then te (some x::σ) H2 fun y H3=>Pv (i+1) (ys++[y]) H3 else Pv (i+1) ys H2)
  (hd:∀ys H,Pv n ys H->Fin ys H):LCW J σ tt te Fin H1:=by
 refine⟨fun i m ys H=>m=n-i/\i<=n/\Pv i ys H,⟨n,by simp,Nat.zero_le _,h0⟩,?_⟩
 rintro i m ys H ⟨rfl,hi,p⟩
 by_cases hlt:i<n
 ·have hl:=hlen i ys H p
  exact .inr ⟨hgo i ys H hlt p,by omega,fun ys' H'=>Pv (i+1) ys' H',fun ys' H' p'=>⟨n-(i+1),by omega,rfl,hlt,p'⟩,fun x H' y=>hs i ys H x H' hlt p y⟩
 ·have e:i=n:=by omega
  subst e
  exact .inl ⟨hst ys H p,hd ys H p⟩
theorem lc_tup{K:W.Frag}{a:Addr}{xs:List V}{σ:St}{te:TE}{Fin:List V->Hp->Prop}{H1:Hp}(Pv:Nat->List V->Hp->Prop)(h0:Pv 0 [] H1)(hz:xs.length<sizeLine)(hlen:∀i ys H,Pv i ys H->ys.length<=i)
  (hl:∀i ys H,Pv i ys H->SqT K H a xs) (hs:∀i ys H x,xs[i]? = some x->Pv i ys H->te (some x::σ) H fun y H3=>Pv (i+1) (ys++[y]) H3) (hd:∀ys H,Pv xs.length ys H->Fin ys H) :
  LCW (Itt K a) σ tYes te Fin H1:=by
 refine lc_gen (n:=xs.length) Pv h0 hz hlen (fun i ys H hi p=>⟨xs,xs[i],hl i ys H p,by simp[hi]⟩) (fun ys H p=>⟨xs,hl _ ys H p,Nat.le_refl _⟩) (fun i ys H x H' hi p y=>?_) hd
 obtain⟨e,y⟩:=y
 subst e
 exact hs i ys _ x (y xs (hl i ys _ p)) p
theorem lc_range{lo:Int}{n:Nat}{σ:St}{te:TE}{Fin:List V->Hp->Prop}{H1:Hp}(Pv:Nat->List V->Hp->Prop)(h0:Pv 0 [] H1)(hz:n<sizeLine)(hlen:∀i ys H,Pv i ys H->ys.length<=i)
  (hs:∀i ys H,i<n->Pv i ys H->te (some (.int (lo+i))::σ) H fun y H3=>Pv (i+1) (ys++[y]) H3) (hd:∀ys H,Pv n ys H->Fin ys H) :
  LCW (Itr lo n) σ tYes te Fin H1:=by
 refine lc_gen (n:=n) Pv h0 hz hlen (fun i ys H hi p=>hi) (fun ys H p=>Nat.le_refl n) (fun i ys H x H' hi p y=>?_) hd
 obtain⟨e,y⟩:=y
 subst e y
 exact hs i ys _ hi p
theorem toks_of:∀ {ns:List Int} {us:List Value},Vals (ns.map V.int) us->∃ps:List (Int×Tok),us=ps.map (fun p=>Value.int p.1 p.2)/\ps.map (·.1)=ns
 | [],us,r=>by rw[List.map_nil]at r;cases r;exact⟨[],rfl,rfl⟩
 |n::ns,us,r=>by
  rw[List.map_cons]at r
  cases r with
  |cons r1 r2 =>
   obtain⟨t,e⟩:=r1
   obtain⟨ps,e1,e2⟩:=toks_of r2
   exact⟨(n,t)::ps,by rw[e,e1];rfl,by rw[List.map_cons,e2]⟩
theorem call_sum(hc:X.calm=true):CallR X (.builtin "sum") (fun xs H Q=>∃(p:Addr) (ns:List Int),xs=[.ref p]/\SqL X.K H p (ns.map V.int)/\Q (.int ns.sum) H):=by
 intro pins s σ H xs us Q I r h
 obtain⟨p,ns,rfl,hq,q⟩:=h
 obtain⟨u,rfl,rx⟩:=vals1 r
 cases rx
 obtain⟨its,rv,pl,hz⟩:=I.list hq
 obtain⟨ps,e1,e2⟩:=toks_of rv
 have hl:s.heap.IsList p (intItems ps.toArray):=by
  have e:intItems ps.toArray=its.toArray:=by rw[e1];simp[intItems]
  rw[e];exact pl.isList
 refine sum_intListG (I.ok.hd hc) hl fun h' tk t' hk=>⟨.int ns.sum,H,I.kept hk,⟨t',?_⟩,q⟩
 rw[preSum_eq,List.take_of_length_le (by simp),e2]
theorem bools_at:∀ {bs:List Bool} {us:List Value},Vals (bs.map V.bl) us->us=bs.map Value.bool
 | [],us,r=>by rw[List.map_nil]at r;cases r;rfl
 |b::bs,us,r=>by
  rw[List.map_cons]at r
  cases r with
  |cons r1 r2=>rw[show _=Value.bool b from r1,bools_at r2];rfl
theorem all_range(bs:List Bool):(List.range bs.length).all (fun i=>bs.getD i false)=bs.all id:=by
 rw[Bool.eq_iff_iff]
 simp only[List.all_eq_true,List.mem_range,id]
 constructor
 ·intro h b hb
  obtain⟨i,hi,e⟩:=List.mem_iff_getElem.mp hb
  have:=h i hi
  rw[List.getD_eq_getElem?_getD,List.getElem?_eq_getElem hi]at this
  rw[← e];exact this
 ·intro h i hi
  rw[List.getD_eq_getElem?_getD,List.getElem?_eq_getElem hi]
  exact h _ (List.getElem_mem hi)
theorem call_all(hc:X.calm=true):CallR X (.builtin "all") (fun xs H Q=>∃(p:Addr) (bs:List Bool),xs=[.ref p]/\SqL X.K H p (bs.map V.bl)/\Q (.bl (bs.all id)) H):=by
 intro pins s σ H xs us Q I r h
 obtain⟨p,bs,rfl,hq,q⟩:=h
 obtain⟨u,rfl,rx⟩:=vals1 r
 cases rx
 obtain⟨its,rv,pl,hz⟩:=I.list hq
 have e1:=bools_at rv
 have hl:=pl.isList
 have hlt:p<s.heap.objs.size:=by obtain⟨_,e,_⟩:=hl;exact Heap.lt_size e
 refine call_all_walk (wpAny_pyIter_list hl ?_)
 refine⟨_,_,_,_,_,_,fun i=>bs.getD i false,rfl,Walks.list (A:=X.A.in1) (I.ok.hd hc) _ p (Nat.ne_of_lt hlt) its.toArray,⟨⟨_,Heap.get?_push_size _ rfl,rfl,rfl⟩,hl.push _⟩,fun i v s' Q' E' hP hQ'=>?_,fun h' tk hk=>?_⟩
 ·have e:its[i]? = some v:=by simpa using hP
  rw[e1,List.getElem?_map]at e
  cases e2:bs[i]? with
  |none=>rw[e2]at e;cases e
  |some b =>
   rw[e2]at e
   cases e
   refine wpAny_truthy_bool ?_
   have e3:bs.getD i false=b:=by rw[List.getD_eq_getElem?_getD,e2];rfl
   have hQ2:Q' (bs.getD i false) s':=hQ'
   rw[e3]at hQ2
   exact hQ2
 ·refine⟨.bl (bs.all id),H,?_,?_,q⟩
  ·refine I.kept (t':=tk) fun b o e=>hk b o ?_ (Heap.get?_push_of_some _ e)
   intro z
   have:b=s.heap.objs.size:=by simpa using z
   subst this
   exact absurd (Heap.lt_size e) (Nat.lt_irrefl _)
  ·have e2:its.toArray.size=bs.length:=by rw[List.size_toArray,e1,List.length_map]
   show Value.bool _=Value.bool _
   rw[e2,all_range]
theorem op_eqNil(hu:X.A.units<cLine):OpR X (compareOp .Eq) (fun x y H Q=>∃(p r:Addr) (xs:List V),x=.ref p/\y=.ref r/\SqL X.K H p xs/\SqL X.K H r []/\Q (.bl xs.isEmpty) H):=by
 intro pins s σ H x y v u Q I rx ry h
 obtain⟨p,r,xs,rfl,rfl,hp,hr,q⟩:=h
 cases rx
 cases ry
 obtain⟨its,rv,pl,hz⟩:=I.list hp
 obtain⟨its2,rv2,pl2,hz2⟩:=I.list hr
 cases rv2
 cases rv with
 |nil=>exact SeqAt.eq_listAt (e:=fun _=>true) pl.isList pl2.isList (by simp) hu (fun j h1 h2=>absurd h1 (by simp)) ⟨.bl true,H,I,rfl,q⟩
 |cons r1 r2=>exact SeqAt.eq_list_lengthsAt pl.isList pl2.isList (by simp) hu ⟨.bl false,H,I,rfl,q⟩
theorem call_isinst{T:String}{f:V->Hp->Bool->Prop}(hf:∀x H b,f x H b->∃t,TyOf X.K H x t/\W.kitOne X.K t (.type T)=some b) :
  CallR X (.builtin "isinstance") (fun xs H Q=>∃x b,xs=[x,.ty T]/\f x H b/\Q (.bl b) H):=by
 intro pins s σ H xs us Q I r h
 obtain⟨x,b,rfl,hx,q⟩:=h
 obtain⟨u,w',rfl,r1,r2⟩:=vals2 r
 cases(show w'=Value.type T from r2)
 obtain⟨t,ty,e⟩:=hf x H b hx
 exact isinst_ok I r1 ty e fun tk=>⟨.bl b,H,I.tok _,rfl,q⟩
def isT(T:String):V->Hp->Bool->Prop:=fun x H b=>match x with
 |.non=>b=(T=="NoneType")
 |.bl _=>b=(T=="bool" || T=="int")
 |.int _=>b=(T=="int")
 |.str _=>b=(T=="str")
 |.ref a=>(∃xs,H a=some (.tup xs)/\b=(T=="tuple"))∨(∃xs,H a=some (.lst xs)/\b=(T=="list"))
 |_=>False
theorem isT_ok{K:W.Frag}{T:String}(hT:T="bool" ∨ T="int" ∨ T="str" ∨ T="tuple" ∨ T="list"):∀x H b,isT T x H b->∃t,TyOf K H x t/\W.kitOne K t (.type T)=some b:=by
 intro x H b h
 cases x with
 |non=>refine⟨_,.non,?_⟩;rcases hT with rfl | rfl | rfl | rfl | rfl <;> cases h <;> rfl
 |bl y=>refine⟨_,.bl y,?_⟩;rcases hT with rfl | rfl | rfl | rfl | rfl <;> cases h <;> rfl
 |int i=>refine⟨_,.int i,?_⟩;rcases hT with rfl | rfl | rfl | rfl | rfl <;> cases h <;> rfl
 |str z=>refine⟨_,.str z,?_⟩;rcases hT with rfl | rfl | rfl | rfl | rfl <;> cases h <;> rfl
 |ref a =>
  rcases h with⟨xs,e,h⟩ | ⟨xs,e,h⟩
  ·refine⟨_,.tup e,?_⟩;rcases hT with rfl | rfl | rfl | rfl | rfl <;> cases h <;> rfl
  ·refine⟨_,.lst e,?_⟩;rcases hT with rfl | rfl | rfl | rfl | rfl <;> cases h <;> rfl
 |_=>exact(show False from h).elim
end
end L2
namespace Seek
open PySem PySem.Spec PyProof.Rows L2
structure Own(P:Program)(w:World)(K:W.Frag)(mg:Str->Option Value)(base:Heap)(k:Nat)(x:Str)(ps:List Str)(sp:Sp):Prop where
 ex:∃f fd,FnOk P w K mg base CX0 k f fd ps sp/\mg x=some (.ref f)/\W.keepIn K (.ref f)=true/\Binds K fd ps []
theorem Own.mono{P:Program}{w:World}{K:W.Frag}{mg:Str->Option Value}{base:Heap}{j k:Nat}{x:Str}{ps:List Str}{sp:Sp}(O:Own P w K mg base j x ps sp)(h:j<=k):Own P w K mg base k x ps sp:=by
 obtain⟨f,fd,F,r⟩:=O.ex
 exact⟨f,fd,F.mono h,r⟩
theorem pe_own{X:Cx}{k:Nat}{x:Str}{ps:List Str}{sp:Sp}{p pos:Pos}{e:Expr}{es:List Expr}{t:TA}(O:Own X.prog X.w X.K X.mg X.base k x ps sp)(hr:Room k X.A)(hg:Gl X x)(ha:PA X (e::es) t)
  (hdb:(x==("__debug__":Str))=false:=by decide) (he:starEach (e::es) X.env=(false,eval e X.env)::starEach es X.env:=by rfl) (hpl:(backTo pos (starEach es X.env)).any (·.1)=false:=by rfl) :
  PE X (.Call (.Name x p) (e::es) [] pos) (tCall sp [] E0 t):=by
 obtain⟨f,fd,F,hm,hk,hb⟩:=O.ex
 exact pe_call F hr hg hm hk hb .nil pass0 ha hdb he hpl
structure Blt(mg:Str->Option Value):Prop where
 b_len:mg "len" = none
 b_range:mg "range" = none
 b_sum:mg "sum" = none
 b_all:mg "all" = none
 b_ord:mg "ord" = none
 b_max:mg "max" = none
 b_min:mg "min" = none
 b_int:mg "int" = none
 b_list:mg "list" = none
 b_tuple:mg "tuple" = none
 b_str:mg "str" = none
 b_bool:mg "bool" = none
 b_isinstance:mg "isinstance" = none
structure Gro(S:List Addr)(H H':Hp):Prop where
 keep:∀b o,H b=some o->b∉S->H' b=some o
 tups:∀b xs,H b=some (.tup xs)->H' b=some (.tup xs)
theorem Gro.refl{S:List Addr}{H:Hp}:Gro S H H:=⟨fun _ _ h _=>h,fun _ _ h=>h⟩
theorem Gro.trans{S:List Addr}{H H1 H2:Hp}(a:Gro S H H1)(b:Gro S H1 H2):Gro S H H2:=⟨fun c o h hc=>b.keep c o (a.keep c o h hc) hc,fun c xs h=>b.tups c xs (a.tups c xs h)⟩
theorem Gro.mono{S S':List Addr}{H H':Hp}(a:Gro S H H')(h:∀b∈S,b∈S'):Gro S' H H':=⟨fun c o q hc=>a.keep c o q fun z=>hc (h c z),a.tups⟩
theorem Gro.new{S:List Addr}{H:Hp}{p:Addr}(h:H p=none)(o:HO):Gro S H (upd H p o):=⟨fun b u q _=>by rw[upd_ne (ne_of_none q h)];exact q,fun b xs q=>by rw[upd_ne (ne_of_none q h)];exact q⟩
theorem Gro.set{S:List Addr}{H:Hp}{p:Addr}{xs:List V}(hp:p∈S)(h:H p=some (.lst xs))(o:HO):Gro S H (upd H p o) :=
 ⟨fun b u q hb=>by rw[upd_ne (fun z=>hb (by rw[z];exact hp))];exact q,fun b ys q=>by rw[upd_ne (ne_of q h (by intro z;cases z))];exact q⟩
def BoxAt(H:Hp)(b:Addr):Prop:=∃ns:List Int,H b=some (.lst (ns.map V.int))/\ns.length<=63
def LetAt(H:Hp)(l:Addr):Prop:=∃x y z:Str,H l=some (.lst [.str x,.str y,.str z])/\x.length=1/\y.length=1/\z.length=1
def CntAt(H:Hp)(c:Addr):Prop:=∃n p:Int,H c=some (.lst [.int n,.int p])/\0<=n/\n<=9
theorem BoxAt.ne_let{H:Hp}{b l:Addr}(h:BoxAt H b)(h':LetAt H l):b≠l:=by
 obtain⟨ns,e,_⟩:=h
 obtain⟨x,y,z,e',_⟩:=h'
 refine ne_of e e' fun q=>?_
 have q':ns.map V.int=[.str x,.str y,.str z]:=by injection q
 cases ns with
 |nil=>cases q'
 |cons n r=>rw[List.map_cons]at q';injection q' with q1 _;cases q1
theorem CntAt.ne_let{H:Hp}{b l:Addr}(h:CntAt H b)(h':LetAt H l):b≠l:=by
 obtain⟨n,p,e,_⟩:=h
 obtain⟨x,y,z,e',_⟩:=h'
 refine ne_of e e' fun q=>?_
 injection q with q'
 injection q' with q1 _
 cases q1
theorem LetAt.gro{S:List Addr}{H H':Hp}{l:Addr}(h:LetAt H l)(g:Gro S H H')(hl:l∉S):LetAt H' l:=by
 obtain⟨x,y,z,e,r⟩:=h
 exact⟨x,y,z,g.keep _ _ e hl,r⟩
theorem CntAt.gro{S:List Addr}{H H':Hp}{l:Addr}(h:CntAt H l)(g:Gro S H H')(hl:l∉S):CntAt H' l:=by
 obtain⟨x,y,e,r⟩:=h
 exact⟨x,y,g.keep _ _ e hl,r⟩
theorem BoxAt.gro{S:List Addr}{H H':Hp}{l:Addr}(h:BoxAt H l)(g:Gro S H H')(hl:l∉S):BoxAt H' l:=by
 obtain⟨x,e,r⟩:=h
 exact⟨x,g.keep _ _ e hl,r⟩
theorem LetAt.new{H:Hp}{l p:Addr}{o:HO}(h:LetAt H l)(hp:H p=none):LetAt (upd H p o) l:=h.gro (S:=[]) (Gro.new hp o) (by simp)
theorem BoxAt.new{H:Hp}{l p:Addr}{o:HO}(h:BoxAt H l)(hp:H p=none):BoxAt (upd H p o) l:=h.gro (S:=[]) (Gro.new hp o) (by simp)
theorem CntAt.new{H:Hp}{l p:Addr}{o:HO}(h:CntAt H l)(hp:H p=none):CntAt (upd H p o) l:=h.gro (S:=[]) (Gro.new hp o) (by simp)
theorem let_at{x y z:Str}{i:Int}(h0:0<=i)(h1:i<3)(hx:x.length=1)(hy:y.length=1)(hz:z.length=1):∃s:Str,s.length=1/\atI [V.str x,V.str y,V.str z] i=some (.str s):=by
 have:i=0∨i=1∨i=2:=by omega
 rcases this with rfl | rfl | rfl
 ·exact⟨x,hx,rfl⟩
 ·exact⟨y,hy,rfl⟩
 ·exact⟨z,hz,rfl⟩
theorem small{n:Nat}(h:n<=1000):n<=sizeLine:=Nat.le_of_lt (small1000 h)
inductive How where | much | little | keep
 deriving DecidableEq
def How.text:How->Str
 |.much=>"much" |.little=>"little" |.keep=>"keep"
inductive Lk where | once | ahead | notahead | behind | notbehind
 deriving DecidableEq
def Lk.text:Lk->Str
 |.once=>"once" |.ahead=>"ahead" |.notahead=>"notahead" |.behind=>"behind" |.notbehind=>"notbehind"
inductive Hd where
 |sign (s:Str) | any | inn (rs:List (Str×Str)) | out (rs:List (Str×Str)) | beg | fin | row | alt
 |times (lo:Int) (hi:Option Int) (how:How) | grp (k:Int) | again (k:Int) | hav (k:Int) | look (w:Lk)
inductive Pat where
 |node (h:Hd) (ks:List Pat)
def Hd.word:Hd->Str
 |.sign _=>"sign" |.any=>"any" |.inn _=>"in" |.out _=>"out" |.beg=>"begin" |.fin=>"end" |.row=>"row" |.alt=>"or"
 |.times _ _ _=>"times" |.grp _=>"group" |.again _=>"again" |.hav _=>"have" |.look w=>w.text
def optV:Option Int->V
 |some i=>.int i
 |none=>.non
def RunsAt(H:Hp)(r:Addr)(rs:List (Str×Str)):Prop:=∃vs:List V,H r=some (.tup vs)/\Paired (fun(v:V) (p:Str×Str)=>p.1.length=1/\p.2.length=1/\∃a,v=.ref a/\H a=some (.tup [.str p.1,.str p.2])) vs rs/\rs.length<=20
def Lay(H:Hp)(a:Addr):Hd->List V->Prop
 |.sign s,kv=>kv=[]/\s.length=1/\H a=some (.tup [.str "sign",.str s])
 |.any,kv=>kv=[]/\H a=some (.tup [.str "any"])
 |.inn rs,kv=>kv=[]/\∃r,H a=some (.tup [.str "in",.ref r])/\RunsAt H r rs
 |.out rs,kv=>kv=[]/\∃r,H a=some (.tup [.str "out",.ref r])/\RunsAt H r rs
 |.beg,kv=>kv=[]/\H a=some (.tup [.str "begin"])
 |.fin,kv=>kv=[]/\H a=some (.tup [.str "end"])
 |.row,kv=>kv.length<=10/\∃r,H a=some (.tup [.str "row",.ref r])/\H r=some (.tup kv)
 |.alt,kv=>1<=kv.length/\kv.length<=10/\∃r,H a=some (.tup [.str "or",.ref r])/\H r=some (.tup kv)
 |.times lo hi how,kv=>(0<=lo/\lo<=20/\∀h,hi=some h->0<=h/\h<=20)/\∃k,kv=[k]/\H a=some (.tup [.str "times",.int lo,optV hi,.str how.text,k])
 |.grp n,kv=>(0<=n/\n<=20)/\∃k,kv=[k]/\H a=some (.tup [.str "group",.int n,k])
 |.again n,kv=>(0<=n/\n<=20)/\kv=[]/\H a=some (.tup [.str "again",.int n])
 |.hav n,kv=>(0<=n/\n<=20)/\∃y z,kv=[y,z]/\H a=some (.tup [.str "have",.int n,y,z])
 |.look w,kv=>∃k,kv=[k]/\H a=some (.tup [.str w.text,k])
def PatAt(H:Hp):Nat->V->Pat->Prop
 |0,_,_=>False
 |d+1,v,.node h ks=>∃a kv,v=.ref a/\Lay H a h kv/\Paired (PatAt H d) kv ks
theorem RunsAt.mono{H H':Hp}(t:∀b xs,H b=some (.tup xs)->H' b=some (.tup xs)){r:Addr}{rs:List (Str×Str)}(h:RunsAt H r rs):RunsAt H' r rs:=by
 obtain⟨vs,e,p,z⟩:=h
 exact⟨vs,t _ _ e,Paired.mapP p fun v q ⟨h1,h2,a,e1,e2⟩=>⟨h1,h2,a,e1,t _ _ e2⟩,z⟩
theorem Lay.mono{H H':Hp}(t:∀b xs,H b=some (.tup xs)->H' b=some (.tup xs)){a:Addr}{kv:List V}:∀ {h:Hd},Lay H a h kv->Lay H' a h kv
 |.sign _,⟨x,y,z⟩=>⟨x,y,t _ _ z⟩
 |.any,⟨x,z⟩=>⟨x,t _ _ z⟩
 |.inn _,⟨x,r,z,q⟩=>⟨x,r,t _ _ z,q.mono t⟩
 |.out _,⟨x,r,z,q⟩=>⟨x,r,t _ _ z,q.mono t⟩
 |.beg,⟨x,z⟩=>⟨x,t _ _ z⟩
 |.fin,⟨x,z⟩=>⟨x,t _ _ z⟩
 |.row,⟨x,r,z,q⟩=>⟨x,r,t _ _ z,t _ _ q⟩
 |.alt,⟨x,y,r,z,q⟩=>⟨x,y,r,t _ _ z,t _ _ q⟩
 |.times _ _ _,⟨x,k,y,z⟩=>⟨x,k,y,t _ _ z⟩
 |.grp _,⟨x,k,y,z⟩=>⟨x,k,y,t _ _ z⟩
 |.again _,⟨x,y,z⟩=>⟨x,y,t _ _ z⟩
 |.hav _,⟨x,k,l,y,z⟩=>⟨x,k,l,y,t _ _ z⟩
 |.look _,⟨k,y,z⟩=>⟨k,y,t _ _ z⟩
theorem PatAt.mono{H H':Hp}(t:∀b xs,H b=some (.tup xs)->H' b=some (.tup xs)):∀ {d:Nat} {v:V} {p:Pat},PatAt H d v p->PatAt H' d v p
 |0,_,_,h=>h.elim
 |d+1,v,.node h ks,⟨a,kv,e,l,p⟩=>⟨a,kv,e,l.mono t,Paired.mapP p fun _ _ q=>PatAt.mono t q⟩
theorem PatAt.deep{H:Hp}:∀ {d d':Nat} {v:V} {p:Pat},PatAt H d v p->d<=d'->PatAt H d' v p
 |0,_,_,_,h,_=>h.elim
 |d+1,0,_,_,_,hd=>absurd hd (by omega)
 |d+1,d'+1,v,.node h ks,⟨a,kv,e,l,p⟩,hd=>⟨a,kv,e,l,Paired.mapP p fun _ _ q=>PatAt.deep q (by omega)⟩
theorem Lay.head{H:Hp}{a:Addr}{kv:List V}:∀ {h:Hd},Lay H a h kv->∃r,H a=some (.tup (.str h.word::r))
 |.sign _,⟨x,y,z⟩=>⟨_,z⟩
 |.any,⟨x,z⟩=>⟨_,z⟩
 |.inn _,⟨x,r,z,q⟩=>⟨_,z⟩
 |.out _,⟨x,r,z,q⟩=>⟨_,z⟩
 |.beg,⟨x,z⟩=>⟨_,z⟩
 |.fin,⟨x,z⟩=>⟨_,z⟩
 |.row,⟨x,r,z,q⟩=>⟨_,z⟩
 |.alt,⟨x,y,r,z,q⟩=>⟨_,z⟩
 |.times _ _ _,⟨x,k,y,z⟩=>⟨_,z⟩
 |.grp _,⟨x,k,y,z⟩=>⟨_,z⟩
 |.again _,⟨x,y,z⟩=>⟨_,z⟩
 |.hav _,⟨x,k,l,y,z⟩=>⟨_,z⟩
 |.look _,⟨k,y,z⟩=>⟨_,z⟩
mutual
def Pat.groups:Pat->Int
 |.node h ks=>(match h with | .grp _=>1 | _=>0)+groupsL ks
def groupsL:List Pat->Int
 | []=>0
 |k::ks=>k.groups+groupsL ks
end
theorem groupsL_append(xs ys:List Pat):groupsL (xs++ys)=groupsL xs+groupsL ys:=by
 induction xs with
 |nil=>simp[groupsL]
 |cons k ks ih=>rw[List.cons_append,groupsL,groupsL,ih];omega
mutual
def Pat.size:Pat->Nat
 |.node _ ks=>1+sizeL ks
def sizeL:List Pat->Nat
 | []=>0
 |k::ks=>k.size+sizeL ks
end
theorem size_node(h:Hd)(ks:List Pat):(Pat.node h ks).size=1+sizeL ks:=by rw[Pat.size]
theorem sizeL_append(xs ys:List Pat):sizeL (xs++ys)=sizeL xs+sizeL ys:=by
 induction xs with
 |nil=>simp[sizeL]
 |cons k ks ih=>rw[List.cons_append,sizeL,sizeL,ih];omega
theorem sizeL_one(p:Pat):sizeL [p]=p.size:=by simp[sizeL]
theorem sizeL_le{n:Nat}:∀ {ks:List Pat},(∀k∈ks,k.size<=n)->sizeL ks<=ks.length*n
 | [],_=>by simp[sizeL]
 |k::ks,h=>by
  have h1:=h k (by simp)
  have h2:=sizeL_le (ks:=ks) fun z hz=>h z (by simp[hz])
  rw[sizeL,List.length_cons,Nat.add_mul]
  omega
theorem paired_mem{α β:Type}{F:α->β->Prop}:∀ {xs:List α} {ys:List β},Paired F xs ys->∀y∈ys,∃x∈xs,F x y
 |_,_,.nil,y,hy=>by simp at hy
 |_,_,.cons r t,y,hy=>by
  rcases List.mem_cons.mp hy with rfl | hy
  ·exact⟨_,by simp,r⟩
  ·obtain⟨x,hx,h⟩:=paired_mem t y hy
   exact⟨x,by simp[hx],h⟩
theorem Lay.few{H:Hp}{a:Addr}{kv:List V}:∀ {h:Hd},Lay H a h kv->kv.length<=10
 |.sign _,⟨x,y,z⟩=>by rw[x];decide
 |.any,⟨x,z⟩=>by rw[x];decide
 |.inn _,⟨x,r,z,q⟩=>by rw[x];decide
 |.out _,⟨x,r,z,q⟩=>by rw[x];decide
 |.beg,⟨x,z⟩=>by rw[x];decide
 |.fin,⟨x,z⟩=>by rw[x];decide
 |.row,⟨x,r,z,q⟩=>x
 |.alt,⟨x,y,r,z,q⟩=>y
 |.times _ _ _,⟨x,k,y,z⟩=>by rw[y];simp
 |.grp _,⟨x,k,y,z⟩=>by rw[y];simp
 |.again _,⟨x,y,z⟩=>by rw[y];decide
 |.hav _,⟨x,k,l,y,z⟩=>by rw[y];simp
 |.look _,⟨k,y,z⟩=>by rw[y];simp
def tens:Nat->Nat
 |0=>0
 |d+1=>1+10*tens d
theorem PatAt.size_le{H:Hp}:∀ {d:Nat} {v:V} {p:Pat},PatAt H d v p->p.size<=tens d
 |0,_,_,h=>h.elim
 |d+1,v,.node h ks,⟨a,kv,e,l,p⟩=>by
  have h1:=l.few
  have h2:=Paired.length p
  have h3:sizeL ks<=ks.length*tens d:=sizeL_le fun k hk=>by
   obtain⟨x,_,q⟩:=paired_mem p k hk
   exact PatAt.size_le q
  have h4:ks.length*tens d<=10*tens d:=Nat.mul_le_mul_right _ (by omega)
  rw[size_node,tens]
  omega
def B(n:Nat):Nat:=3 ^ (n+1)
theorem B_succ(n:Nat):B (n+1)=3*B n:=by unfold B;rw[Nat.pow_succ];omega
theorem B_pos(n:Nat):3<=B n:=by
 induction n with
 |zero=>decide
 |succ n ih=>rw[B_succ];omega
theorem B_mono{n:Nat}:∀ {m:Nat},n<=m->B n<=B m
 |0,h=>by rw[show n=0 by omega];exact Nat.le_refl _
 |m+1,h=>by
  by_cases e:n=m+1
  ·rw[e];exact Nat.le_refl _
  ·have:=B_mono (n:=n) (m:=m) (by omega)
   rw[B_succ];omega
def PatS(H:Hp)(d:Nat)(v:V)(p:Pat):Prop:=PatAt H d v p/\p.size<=B d
theorem PatS.mono{H H':Hp}(t:∀b xs,H b=some (.tup xs)->H' b=some (.tup xs)){d:Nat}{v:V}{p:Pat}(h:PatS H d v p):PatS H' d v p:=⟨h.1.mono t,h.2⟩
theorem PatS.deep{H:Hp}{d d':Nat}{v:V}{p:Pat}(h:PatS H d v p)(hd:d<=d'):PatS H d' v p:=⟨h.1.deep hd,Nat.le_trans h.2 (B_mono hd)⟩
theorem PatAt.leafS{H:Hp}{v:V}{p:Pat}(h:PatAt H 1 v p):PatS H 1 v p:=⟨h,Nat.le_trans h.size_le (by decide)⟩
theorem one_size{h:Hd}{p:Pat}{d d':Nat}(s:p.size<=B d)(hd:d<d'):(Pat.node h [p]).size<=B d':=by
 have h1:=B_mono (show d+1<=d' from hd)
 have h2:=B_pos d
 rw[B_succ]at h1
 rw[size_node,sizeL_one]
 omega
theorem two_size{h:Hd}{p q:Pat}{d d':Nat}(s:p.size<=B d)(s':q.size<=B d)(hd:d<d'):(Pat.node h [p,q]).size<=B d':=by
 have h1:=B_mono (show d+1<=d' from hd)
 have h2:=B_pos d
 rw[B_succ]at h1
 rw[size_node,sizeL,sizeL_one]
 omega
theorem nil_size{h:Hd}{d:Nat}:(Pat.node h []).size<=B d:=by
 have h2:=B_pos d
 rw[size_node,sizeL]
 omega
theorem sz{n:Nat}(h:Nat.ble n 1000=true:=by rfl):n<=sizeLine:=small (Nat.le_of_ble_eq_true h)
theorem at0{x:V}{r:List V}:atI (x::r) 0=some x:=atI_nat (j:=0) rfl
theorem ix0{x:V}{r:List V}:ixN (x::r).length 0=some 0:=by
 unfold ixN
 rw[if_pos (Int.le_refl 0),if_pos (by rw[List.length_cons];omega)]
 rfl
theorem Gro.fresh{S:List Addr}{H H':Hp}{a:Addr}(g:Gro S H H')(ha:H a=none)(o:HO):Gro S H (upd H' a o) :=
 ⟨fun b u q hb=>by rw[upd_ne (ne_of_none q ha)];exact g.keep b u q hb,fun b xs q=>by rw[upd_ne (ne_of_none q ha)];exact g.tups b xs q⟩
theorem Gro.tup{S:List Addr}{H H':Hp}{p:Addr}{o:HO}(g:Gro S H H')(hp:H' p=none):Gro S H (upd H' p o):=g.trans (Gro.new hp o)
def RunP(H:Hp)(v:V)(p:Str×Str):Prop:=p.1.length=1/\p.2.length=1/\∃a,v=.ref a/\H a=some (.tup [.str p.1,.str p.2])
theorem RunP.mono{H H':Hp}(t:∀b xs,H b=some (.tup xs)->H' b=some (.tup xs)){v:V}{p:Str×Str}(h:RunP H v p):RunP H' v p:=by
 obtain⟨h1,h2,a,e1,e2⟩:=h
 exact⟨h1,h2,a,e1,t _ _ e2⟩
theorem paired_mono{H H':Hp}(t:∀b xs,H b=some (.tup xs)->H' b=some (.tup xs)){vs:List V}{rs:List (Str×Str)}(h:Paired (RunP H) vs rs):Paired (RunP H') vs rs:=Paired.mapP h fun _ _ q=>q.mono t
theorem Paired.snoc1{α β:Type}{F:α->β->Prop}{a:α}{b:β}{l₁:List α}{l₂:List β}(h:Paired F l₁ l₂)(q:F a b):Paired F (l₁++[a]) (l₂++[b]):=h.snoc q
section
variable{K:W.Frag}
theorem letS{H:Hp}{l:Addr}{r:Int}{Q:V->Hp->Prop}(h:LetAt H l)(h0:0<=r)(h1:r<3)(q:∀s:Str,s.length=1->Q (.str s) H):rIxL K (.ref l) (.int r) H Q:=by
 obtain⟨x,y,z,hl,hx,hy,hz⟩:=h
 obtain⟨s,hs,e⟩:=let_at h0 h1 hx hy hz
 exact⟨l,_,_,_,rfl,rfl,SqL.of hl,e,q s hs⟩
end
theorem pss_cut{X:Cx}{sts:List Stmt}{t:TS}(t2:TS)(h:PSs X sts t)(imp:∀D σ H,t2 D σ H->t D σ H):PSs X sts t2:=fun pins s σ H D I q=>h pins s σ H D I (imp D σ H q)
theorem bool2{R:Bool->Hp->Prop}{H:Hp}{c:Bool}(h1:R true H)(h2:R false H):R c H:=by
 cases c
 ·exact h2
 ·exact h1
theorem or_any{A B:TT}{σ:L2.St}{H:Hp}{Q:Bool->Hp->Prop}(hA:∀R:Bool->Hp->Prop,R true H->R false H->A σ H R)(hB:∀R:Bool->Hp->Prop,R true H->R false H->B σ H R)(hT:Q true H)(hF:Q false H):tOr A B σ H Q :=
 hA _ (by show if true=true then Q true H else B σ H Q;exact iteT hT) (by show if false=true then Q true H else B σ H Q;exact iteF (hB Q hT hF))
theorem PatAt.head{H:Hp}:∀ {d:Nat} {v:V} {p:Pat},PatAt H d v p->∃a x r,v=.ref a/\H a=some (.tup (.str x::r))
 |0,_,_,h=>h.elim
 |d+1,v,.node h ks,⟨a,kv,e,l,_⟩=>by
  obtain⟨r,q⟩:=l.head
  exact⟨a,_,r,e,q⟩
theorem pats_mono{H H':Hp}{d:Nat}(t:∀b xs,H b=some (.tup xs)->H' b=some (.tup xs)){vs:List V}{ps:List Pat}(h:Paired (PatAt H d) vs ps):Paired (PatAt H' d) vs ps:=Paired.mapP h fun _ _ q=>q.mono t
section
variable{P:Program}{w:World}{K:W.Frag}{mg:Str->Option Value}{base:Heap}{f:Addr}{fd:FuncData}
structure Def(K:W.Frag)(mg:Str->Option Value)(x:Str)(st:Stmt)(ps:List Str):Prop where
 ex:∃f fd,Fun K x x st f fd/\mg x=some (.ref f)/\Binds K fd ps []
theorem Def.own{x:Str}{st:Stmt}{ps:List Str}{k:Nat}{sp:Sp}(D:Def K mg x st ps)(h:∀f fd,Fun K x x st f fd->FnOk P w K mg base CX0 k f fd ps sp):Own P w K mg base k x ps sp:=by
 obtain⟨f,fd,F,m,b⟩:=D.ex
 exact⟨f,fd,h f fd F,m,F.kp,b⟩
theorem FnOk.never{ps:List Str}{k:Nat}{sp:Sp}(no:∀vs H Q E,¬sp vs H Q E):FnOk P w K mg base CX0 k f fd ps sp :=
 ⟨fun vs H Q E h=>absurd h (no vs H Q E),fun A outer s H args us vs Q E _ _ _ _ h=>absurd h (no vs H Q E)⟩
end
theorem Gro.drop{b c:Addr}{H H2:Hp}{o:HO}(g:Gro [b,c] (upd H c o) H2)(hc:H c=none):Gro [b] H H2 :=
 ⟨fun x u q hx=>g.keep x u (by rw[upd_ne (ne_of_none q hc)];exact q) (by
   have hxc:x≠c:=ne_of_none q hc
   have hxb:x≠b:=by simpa using hx
   simp[hxb,hxc]),fun x xs q=>g.tups x xs (by rw[upd_ne (ne_of_none q hc)];exact q)⟩
theorem ixT{K:W.Frag}{σ:L2.St}{H:Hp}{Q:VK}{i:Nat}{p:Addr}{xs:List V}{j:Int}{v:V}(h:H p=some (.tup xs))(e:atI xs j=some v)(q:Q v H)(hs:σ[i]? = some (some (V.ref p)):=by rfl):tOp (rIxT K) (tVar i) (tC (.int j)) σ H Q:=⟨_,hs,p,xs,j,v,rfl,rfl,SqT.of h,e,q⟩
theorem ixL{K:W.Frag}{σ:L2.St}{H:Hp}{Q:VK}{i:Nat}{p:Addr}{xs:List V}{j:Int}{v:V}(h:H p=some (.lst xs))(e:atI xs j=some v)(q:Q v H)(hs:σ[i]? = some (some (V.ref p)):=by rfl):tOp (rIxL K) (tVar i) (tC (.int j)) σ H Q:=⟨_,hs,p,xs,j,v,rfl,rfl,SqL.of h,e,q⟩
theorem exA{α:Type}{A R:α->Prop}{v:α}(e:A v)(h:R v):∃x,A x/\R x:=⟨v,e,h⟩
theorem exB{α β:Type}{A:α->Prop}{B:β->Prop}{R:α->β->Prop}{a:α}{b:β}(e:A a)(e':B b)(h:R a b):∃x y,A x/\B y/\R x y:=⟨a,b,e,e',h⟩
theorem genD{t:TS}{D':Ends}{σ:L2.St}{H:Hp}{Q:VK}(h:∀D:Ends,D.rt=Q->t D σ H)(e:D'.rt=Q:=by rfl):t D' σ H:=h D' e
theorem pS{X:Cx}(i:Nat){x:Str}{e:PySem.Expr}{te:TE}{pos pos':Pos}(hN:X.N.Nodup)(he:PE X e te)(hi:X.N[i]? = some x:=by rfl)(hx:Loc X.env.scope x:=by first | exact .inl rfl | exact .inr rfl)(hs:swapsWith e (some (.Name x pos')) pos.line X.env=pure false:=by rfl)(hf:X.fn x=true∨X.env.scope.names.lookup x=some .local:=by first | exact .inl rfl | exact .inr rfl | assumption):PS X (.Assign [.Name x pos'] e pos) (tAsg te (gName i)):=ps_set hN hi hx he hs hf
theorem pN{X:Cx}(i:Nat){x:Str}{pos:Pos}(hN:X.N.Nodup)(hi:X.N[i]? = some x:=by rfl)(hx:Loc X.env.scope x:=by first | exact .inl rfl | exact .inr rfl)(hf:X.fn x=true∨X.env.scope.names.lookup x=some .local:=by first | exact .inl rfl | exact .inr rfl | assumption):PG X (.Name x pos) (gName i):=pg_name hN hi hx hf
theorem fsc{N P:List Str}{sc:Scope}(a:sc.kind=.function:=by rfl)(b:sc.isCoroutine=false:=by rfl)(c:sc.isGenerator=false:=by rfl)(d:N.Nodup:=by decide +kernel)(e:N.take P.length=P:=by rfl)(f:∀x∈P,sc.names.lookup x=some .local∨sc.names.lookup x=some .cell:=by decide +kernel)(g:∀y∈sc.names,y.2≠.free:=by decide +kernel):FnScope N P sc:=⟨a,b,c,d,e,f,g⟩
theorem ltX{Y:Cx}{b:List Stmt}{D:Ends}{σ:L2.St}{H:Hp}(h:let X:=Y;∃t,PSs X b t/\t D σ H):∃t,PSs Y b t/\t D σ H:=h
inductive Wd where
 |sign | any | inn | out | beg | fin | row | alt | times | grp | again | hav | once | ahead | notahead | behind | notbehind
def Wd.text:Wd->Str
 |.sign=>"sign" |.any=>"any" |.inn=>"in" |.out=>"out" |.beg=>"begin" |.fin=>"end" |.row=>"row" |.alt=>"or" |.times=>"times" |.grp=>"group" |.again=>"again" |.hav=>"have"
 |.once=>"once" |.ahead=>"ahead" |.notahead=>"notahead" |.behind=>"behind" |.notbehind=>"notbehind"
def Hd.wd:Hd->Wd
 |.sign _=>.sign | .any=>.any | .inn _=>.inn | .out _=>.out | .beg=>.beg | .fin=>.fin | .row=>.row | .alt=>.alt
 |.times _ _ _=>.times | .grp _=>.grp | .again _=>.again | .hav _=>.hav | .look .once=>.once | .look .ahead=>.ahead | .look .notahead=>.notahead | .look .behind=>.behind | .look .notbehind=>.notbehind
theorem Hd.word_wd(h:Hd):h.word=h.wd.text:=by
 cases h with
 |look lk=>cases lk <;> rfl
 |_=>rfl
def isw(x y:Str):Bool:=decide (V.str x=V.str y)
theorem ite_no{c A B:Prop}[Decidable c](h:¬c)(b:B):if c then A else B:=by rw[if_neg h];exact b
theorem ite_yes{c A B:Prop}[Decidable c](h:c)(a:A):if c then A else B:=by rw[if_pos h];exact a
theorem paired_get{α β:Type}{F:α->β->Prop}:∀ {xs:List α} {ys:List β} {i:Nat} {x:α},Paired F xs ys->xs[i]? = some x->∃y,ys[i]? = some y/\F x y
 |_,_,_,_,.nil,e=>by simp at e
 |_,_,0,_,.cons r _,e=>by simp at e;subst e;exact⟨_,rfl,r⟩
 |_,_,i+1,x,.cons _ t,e=>by
  obtain⟨y,h1,h2⟩:=paired_get (i:=i) (x:=x) t (by simpa using e)
  exact⟨y,by simpa using h1,h2⟩
theorem take_snoc{α:Type}{l:List α}{i:Nat}{x:α}(h:l[i]? = some x):l.take (i+1)=l.take i++[x]:=by rw[List.take_add_one,h];rfl
theorem lift_map{α β:Type}{f:α->β}{l:List α}{i:Nat}{x:α}(h:l[i]? = some x):(l.take (i+1)).map f=(l.take i).map f++[f x]:=by rw[take_snoc h,List.map_append];rfl
def mxL(ns:List Int):Int:=ns.getD (argBest (fun i j=>decide (ns.getD i 0>ns.getD j 0)) (ns.length-1)) 0
theorem numAt_of{ps:List (Int×Tok)}{ns:List Int}(e:ps.map (·.1)=ns):numAt ps.toArray=fun i=>ns.getD i 0:=by
 funext i
 subst e
 simp[numAt,List.getD_eq_getElem?_getD,List.getElem?_map]
theorem item_of{ps:List (Int×Tok)}{ns:List Int}(e:ps.map (·.1)=ns){k:Nat}{v:Value}(h:(intItems ps.toArray)[k]? = some v):∃t,v=.int (ns.getD k 0) t:=by
 obtain⟨t,q⟩:=intItems_at h
 rw[numAt_of e]at q
 exact⟨t,q⟩
section
variable{X:Cx}
end
end Seek
namespace L2
open PySem PySem.Spec PyProof.Rows
section
variable{κ:Type}[DecidableEq κ]
def valV(kvs:List (κ×V))(k:κ):Option V:=(kvs.find? fun kv=>decide (kv.1=k)).map (·.2)
def putK(kvs:List (κ×V))(k:κ)(v:V):List (κ×V) :=
 if(kvs.any fun kv=>decide (kv.1=k))=true then kvs.map (fun kv=>if kv.1=k then(kv.1,v) else kv) else kvs++[(k,v)]
def dropK(kvs:List (κ×V))(k:κ):List (κ×V):=kvs.filter fun kv=>decide (kv.1≠k)
theorem valV_pos{p:κ×V}{r:List (κ×V)}{k:κ}(e:p.1=k):valV (p::r) k=some p.2:=by simp[valV,List.find?_cons,e]
theorem valV_neg{p:κ×V}{r:List (κ×V)}{k:κ}(e:¬p.1=k):valV (p::r) k=valV r k:=by simp[valV,List.find?_cons,e]
theorem length_putK(kvs:List (κ×V))(k:κ)(v:V):(putK kvs k v).length<=kvs.length+1:=by
 unfold putK
 split
 ·rw[List.length_map];omega
 ·rw[List.length_append,List.length_cons,List.length_nil];omega
theorem RelO.isSome_eq{o:Option V}{u:Option Value}(r:RelO o u):o.isSome=u.isSome:=by
 cases o with
 |none=>cases u with
  |none=>rfl
  |some _=>exact(show False from r).elim
 |some _=>cases u with
  |none=>exact(show False from r).elim
  |some _=>rfl
theorem KV.val{kvs:List (κ×V)}{vs:List (κ×Value)}(r:KV kvs vs)(k:κ):RelO (valV kvs k) (valueAt vs k):=by
 unfold KV at r
 induction r with
 |nil=>exact True.intro
 | @cons p q ps qs h t ih =>
  obtain⟨h1,h2⟩:=h
  by_cases e:p.1=k
  ·have e':q.1=k:=h1.symm.trans e
   have b:valueAt (q::qs) k=some q.2:=by simp[valueAt,List.find?_cons,e']
   rw[valV_pos e,b];exact h2
  ·have e':¬q.1=k:=fun z=>e (h1.trans z)
   have b:valueAt (q::qs) k=valueAt qs k:=by simp[valueAt,List.find?_cons,e']
   rw[valV_neg e,b];exact ih
theorem KV.any{kvs:List (κ×V)}{vs:List (κ×Value)}(r:KV kvs vs)(k:κ):(kvs.any fun kv=>decide (kv.1=k))=vs.any fun kv=>decide (kv.1=k):=by
 unfold KV at r
 induction r with
 |nil=>rfl
 |cons h t ih=>rw[List.any_cons,List.any_cons,ih,h.1]
theorem KV.repl{kvs:List (κ×V)}{vs:List (κ×Value)}(r:KV kvs vs)(k:κ){y:V}{u:Value}(ry:RelV y u) :
  KV (kvs.map fun kv=>if kv.1=k then(kv.1,y) else kv) (vs.map fun kv=>if kv.1=k then(kv.1,u) else kv):=by
 unfold KV at r ⊢
 induction r with
 |nil=>exact .nil
 | @cons p q ps qs h t ih =>
  rw[List.map_cons,List.map_cons]
  refine .cons ?_ ih
  obtain⟨h1,h2⟩:=h
  by_cases e:p.1=k
  ·rw[if_pos e,if_pos (h1.symm.trans e)];exact⟨h1,ry⟩
  ·rw[if_neg e,if_neg (fun z=>e (h1.trans z))];exact⟨h1,h2⟩
theorem KV.put{kvs:List (κ×V)}{vs:List (κ×Value)}(r:KV kvs vs)(k:κ){y:V}{u:Value}(ry:RelV y u):KV (putK kvs k y) (stored vs k u):=by
 unfold putK stored
 rw[r.any k]
 by_cases e:(vs.any fun kv=>decide (kv.1=k))=true
 ·rw[if_pos e,if_pos e];exact r.repl k ry
 ·rw[if_neg e,if_neg e];exact Paired.snoc r ⟨rfl,ry⟩
theorem KV.drop{kvs:List (κ×V)}{vs:List (κ×Value)}(r:KV kvs vs)(k:κ):KV (dropK kvs k) (without vs k):=by
 unfold KV at r ⊢
 unfold dropK without
 induction r with
 |nil=>exact .nil
 | @cons p q ps qs h t ih =>
  obtain⟨h1,h2⟩:=h
  rw[List.filter_cons,List.filter_cons]
  by_cases e:p.1=k
  ·have a:¬decide (p.1≠k)=true:=by simp[e]
   have b:¬decide (q.1≠k)=true:=by simp[h1.symm.trans e]
   rw[if_neg a,if_neg b];exact ih
  ·have e':¬q.1=k:=fun z=>e (h1.trans z)
   have a:decide (p.1≠k)=true:=by simp[e]
   have b:decide (q.1≠k)=true:=by simp[e']
   rw[if_pos a,if_pos b];exact .cons ⟨h1,h2⟩ ih
theorem KV.length{kvs:List (κ×V)}{vs:List (κ×Value)}(r:KV kvs vs):kvs.length=vs.length:=Paired.length r
end
theorem kV_is{P:Program}{w:World}{k:Key}{u:Value}(r:RelV (kV k) u):(mixKind P w).is k u=true:=by
 cases k with
 |inl i=>obtain⟨t,e⟩:=(show ∃t,u=Value.int i t from r);subst e;exact mixKind_int P w i t
 |inr x=>obtain⟨t,e⟩:=(show ∃t,u=Value.str x t from r);subst e;exact mixKind_str P w x t
theorem items_are{P:Program}{w:World}:∀ {ks:List Key} {us:List Value},Vals (ks.map kV) us->ItemsAre (mixKind P w) ks us
 | [],_,r=>by rw[List.map_nil]at r;cases r;exact .nil
 |k::ks,_,r=>by
  rw[List.map_cons]at r
  cases r with
  |cons h t=>exact .cons (kV_is h) (items_are t)
abbrev KT(H:Hp):List (List Key×V)->List (List Key×Addr×Value)->Prop:=Paired fun p q=>p.1=q.1/\H q.2.1=some (.tup (p.1.map kV))/\RelV p.2 q.2.2
theorem KT.val{H:Hp}{kvs:List (List Key×V)}{xs:List (List Key×Addr×Value)}(r:KT H kvs xs)(k:List Key):RelO (valV kvs k) ((atKey xs k).map (·.2)):=by
 induction r with
 |nil=>exact True.intro
 | @cons p q ps qs h t ih =>
  obtain⟨h1,_,h2⟩:=h
  by_cases e:p.1=k
  ·have e':q.1=k:=h1.symm.trans e
   have b:atKey (q::qs) k=some q.2:=by simp[atKey,List.find?_cons,e']
   rw[valV_pos e,b];exact h2
  ·have e':¬q.1=k:=fun z=>e (h1.trans z)
   have b:atKey (q::qs) k=atKey qs k:=by simp[atKey,List.find?_cons,e']
   rw[valV_neg e,b];exact ih
section
variable{P:Program}{w:World}{H:Hp}{h:Heap}{a:Addr}
theorem rd_of{u:HO}(ok:HOk P w H h)(e:Rd H a u):ObjOk P w H h a u:=e.ok ok
theorem dk_rd{kvs:List (Key×V)}(ok:HOk P w H h)(e:Rd H a (.dK kvs)):kvs.length<=sizeLine/\(a==sysModules)=false/\∃vs,KV kvs vs/\h.DictOf (mixKind P w) a vs :=
 show ObjOk P w H h a (.dK kvs) from rd_of ok e
theorem dk_of{kvs:List (Key×V)}(ok:HOk P w H h)(e:H a=some (.dK kvs)):kvs.length<=sizeLine/\(a==sysModules)=false/\∃vs,KV kvs vs/\h.DictOf (mixKind P w) a vs:=dk_rd ok (.inl e)
theorem key_of{ks:List Key}(ok:HOk P w H h)(e:H a=some (.tup (ks.map kV))):(tupleKind (mixKind P w)).is h ks a:=by
 obtain⟨_,its,r,o,h1,h2,n,h3⟩:=(show ObjOk P w H h a (.tup (ks.map kV)) from ok a _ e)
 exact⟨o,its.toArray,n,h1,h2,h3,by simpa using items_are r⟩
theorem dt_rd{kvs:List (List Key×V)}(ok:HOk P w H h)(e:Rd H a (.dT kvs)):kvs.length<=sizeLine/\(a==sysModules)=false /\
  ∃xs,KT H kvs xs/\h.DictOfH (tupleKind (mixKind P w)) a xs:=by
 obtain⟨z,y,xs,r,o,es,ep,h1,h2,h3,h4,h5⟩:=(show ObjOk P w H h a (.dT kvs) from rd_of ok e)
 refine⟨z,y,xs,r,o,es,ep,h1,h2,h3,h4,fun x hx=>?_,h5⟩
 have all:∀ {l:List (List Key×V)} {m:List (List Key×Addr×Value)},KT H l m->∀x∈m,(tupleKind (mixKind P w)).is h x.1 x.2.1:=by
  intro l m q
  induction q with
  |nil=>intro x hx;exact nomatch hx
  | @cons p q ps qs hq t ih =>
   intro x hx
   rcases List.mem_cons.mp hx with e | hx
   ·subst e
    exact key_of ok (by rw[← hq.1];exact hq.2.1)
   ·exact ih x hx
 exact all r x hx
end
def DGet(H:Hp)(a:Addr)(y:V)(r:Option V):Prop :=
 (∃kvs k,Rd H a (.dK kvs)/\y=kV k/\r=valV kvs k)∨∃kvs k b,Rd H a (.dT kvs)/\y=.ref b/\H b=some (.tup (k.map kV))/\r=valV kvs k
theorem DGet.k{H:Hp}{a:Addr}{kvs:List (Key×V)}{k:Key}(e:H a=some (.dK kvs)):DGet H a (kV k) (valV kvs k):=.inl ⟨kvs,k,.inl e,rfl,rfl⟩
section
variable{X:Cx}{pins:List (Addr×Obj)}{σ:St}{H:Hp}{s:Shared}{a:Addr}{y v:V}{u r:Value}{o:Option V}{A:Around}{E:Value->Shared->Prop}{kvs:List (Key×V)}{k:Key}
theorem Inv.big(I:Inv X pins σ H s):sysModules<s.heap.objs.size:=by
 have h:mainGlobals<s.heap.objs.size:=(I.mod.glob.keeps I.bk).lt
 exact Nat.lt_trans (by decide) h
theorem d_getItem{Q:Value->Shared->Prop}(hu:A.units+1<cLine)(I:Inv X pins σ H s)(g:DGet H a y (some v))(ry:RelV y u)(h:∀w' s',Inv X pins σ H s'->RelV v w'->Q w' s') :
  wpAny (model X.prog X.w) A (getItem (.ref a) u) Q E s:=by
 rcases g with⟨kvs,k,e,ey,l⟩ | ⟨kvs,k,b,e,ey,eb,l⟩
 ·subst ey
  obtain⟨z,hd,vs,rel,dd⟩:=dk_rd I.hok e
  obtain⟨w',hw,rw'⟩:=RelO.some_of (v:=v) (o:=valueAt vs k) (by rw[l];exact rel.val k)
  exact wpAny_getItem_of (kV_is ry) dd.mapOf hw (h w' _ (I.tok _) rw')
 ·subst ey
  cases(show u=Value.ref b from ry)
  obtain⟨z,hd,xs,rel,dd⟩:=dt_rd I.hok e
  obtain⟨w',hw,rw'⟩:=RelO.some_of (v:=v) (o:=(atKey xs k).map (·.2)) (by rw[l];exact rel.val k)
  obtain⟨p,hp,hp2⟩:=Option.map_eq_some_iff.mp hw
  refine wpAny_getItem_heap (tupleKind_room_in1 hu) (key_of I.hok eb) dd hp ?_
  rw[hp2]
  exact h w' _ (I.tok _) rw'
theorem d_in{Q:Value->Shared->Prop}(hu:A.units+1<cLine)(I:Inv X pins σ H s)(g:DGet H a y o)(ry:RelV y u)(h:∀s',Inv X pins σ H s'->Q (.bool o.isSome) s') :
  wpAny (model X.prog X.w) A (compareOp .In u (.ref a)) Q E s:=by
 rcases g with⟨kvs,k,e,ey,l⟩ | ⟨kvs,k,b,e,ey,eb,l⟩
 ·subst ey
  obtain⟨z,hd,vs,rel,dd⟩:=dk_rd I.hok e
  refine wpAny_in_of (kV_is ry) hd dd.mapOf ?_
  rw[← (rel.val k).isSome_eq,← l]
  exact h _ (I.tok _)
 ·subst ey
  cases(show u=Value.ref b from ry)
  obtain⟨z,hd,xs,rel,dd⟩:=dt_rd I.hok e
  refine wpAny_in_heap (tupleKind_room_in1 hu) (key_of I.hok eb) hd dd ?_
  have q:=(rel.val k).isSome_eq
  rw[Option.isSome_map]at q
  rw[← q,← l]
  exact h _ (I.tok _)
theorem d_write{h':Heap}{t':Nat}{ob:HO}(I:Inv X pins σ H s)(mu:Mut (H a))(hs:Heap.SameBut a s.heap h')(he:∃q,h'.get? a=some q)(new:ObjOk X.prog X.w (upd H a ob) h' a ob) :
  Inv X pins σ (upd H a ob) { s with heap:=h',toks:=t' } :=
 I.write (x:=a) (e:=a) mu (.inl rfl) (fun b q hb z=>(hs.2 b hb).trans z) he new
theorem dk_new{P:Program}{w:World}{H':Hp}{h':Heap}{kvs:List (Key×V)}{vs:List (Key×Value)}(z:kvs.length<=sizeLine)(hd:(a==sysModules)=false)(rel:KV kvs vs)(dd:h'.DictOf (mixKind P w) a vs) :
  ObjOk P w H' h' a (.dK kvs):=⟨z,hd,vs,rel,dd⟩
end
def NoSl(i:Expr):Prop:=∀ov iv,subscripted i false ov iv=operate [ov,iv] (getItem ov iv)
theorem subD_of{prog:Program}{w:World}{A:Around}{E:Value->Shared->Prop}{s:Shared}{env:Env}{value slice:Expr}{pos:Pos}{T id:String}{Q:Value->Shared->Prop}
  (hl:typeLookup (.type T) "__getitem__" = pure (some (.builtin id))) (hs:NoSl slice)
  (h:wpAny (model prog w) A (eval value env) (fun o s₁=>wpAny (model prog w) A (eval slice env) (fun i s₂=>s₂.TypeIs o T/\wpAny (model prog w) A (getItem o i) Q E s₂) E s₁) E s) :
  wpAny (model prog w) A (eval (.Subscript value slice pos) env) Q E s:=by
 refine Subscript_ (wpAny_mono h (fun o s₁ h₁=>wpAny_mono h₁ (fun i s₂ h₂=>?_) fun _ _ x=>x) fun _ _ x=>x)
 obtain⟨hT,h₂⟩:=h₂
 unfold subscriptTail
 refine wpAny_bind ?_
 rw[getitemInPython_of_ne hT.not_modules]
 refine wpAny_bind (wpAny_specialOf hT hl ?_)
 have fin:wpAny (model prog w) A (subscripted slice false o i) (fun r s₃=>wpAny (model prog w) A (letTemporaryGo value o r >>= fun _=>pure r) Q E s₃) E s₂:=by
  rw[hs o i]
  exact wpAny_operating (wpAny_mono h₂ (fun r s₃ h₃=>wpAny_bind (wpAny_letTemporaryGo (wpAny_pure h₃))) fun _ _ x=>x)
 first
  |exact wpAny_pure (wpAny_bind fin)
  |exact wpAny_bind (wpAny_pure (wpAny_bind fin))
  |exact wpAny_bind fin
theorem dict_typeIs{X:Cx}{pins:List (Addr×Obj)}{σ:St}{H:Hp}{s:Shared}{a:Addr}{y:V}{o:Option V}(I:Inv X pins σ H s)(g:DGet H a y o):s.TypeIs (.ref a) "dict":=by
 rcases g with⟨kvs,k,e,_,_⟩ | ⟨kvs,k,b,e,_,_,_⟩
 ·obtain⟨_,_,vs,_,dd⟩:=dk_rd I.hok e
  exact dd.typeIs
 ·obtain⟨_,_,xs,_,dd⟩:=dt_rd I.hok e
  exact dd.typeIs
def tDGet(td ty:TE):TE:=fun σ H Q=>td σ H fun x H1=>ty σ H1 fun y H2=>∃a v,x=.ref a/\DGet H2 a y (some v)/\Q v H2
def tDIn(ty td:TE):TE:=fun σ H Q=>ty σ H fun y H1=>td σ H1 fun x H2=>∃a o,x=.ref a/\DGet H2 a y o/\Q (.bl o.isSome) H2
section
variable{X:Cx}{o i e value:Expr}{pos pos' tpos:Pos}{td ty tv:TE}
theorem pe_dget(hu:X.A.units+1<cLine)(ho:PE X o td)(hi:PE X i ty)(hs:NoSl i):PE X (.Subscript o i pos) (tDGet td ty):=by
 intro pins s σ H Q I h
 refine subD_of PySem.F.slot_dict_getitem.lookup hs (thn (ho pins s σ H _ I h) fun u s1 ⟨x,H1,I1,rx,q1⟩=>thn (hi pins s1 σ H1 _ I1 q1) fun iv s2 ⟨y,H2,I2,ry,a,v,ex,g,q2⟩=>?_)
 subst ex
 obtain rfl:u=Value.ref a:=rx
 exact⟨dict_typeIs I2 g,d_getItem hu I2 g ry fun w' s3 I3 rw'=>⟨v,H2,I3,rw',q2⟩⟩
theorem pc_din(hu:X.A.units+1<cLine)(hi:PE X i ty)(ho:PE X o td):PC X .In i o (tDIn ty td):=by
 intro pins s σ H Q I h
 refine thn (hi pins s σ H _ I h) fun iv s1 ⟨y,H1,I1,ry,q1⟩=>thn (ho pins s1 σ H1 _ I1 q1) fun u s2 ⟨x,H2,I2,rx,a,ov,ex,g,q2⟩=>?_
 subst ex
 obtain rfl:u=Value.ref a:=rx
 exact d_in hu I2 g ry fun s3 I3=>⟨.bl ov.isSome,H2,I3,rfl,q2⟩
end
theorem dk_empty{P:Program}{w:World}{H:Hp}(h:Heap)(hb:sysModules<h.objs.size):ObjOk P w H (h.push { cls:=.type "dict",data:=.dict #[] }) h.objs.size (.dK []) :=
 ⟨Nat.zero_le _,beq_eq_false_iff_ne.mpr (Ne.symm (Nat.ne_of_lt hb)),[],.nil,Heap.DictOf.new h⟩
section
variable{X:Cx}{pos:Pos}
end
def tPairs:List (TE×TE)->St->Hp->(List (V×V)->Hp->Prop)->Prop
 | [],_,H,Q=>Q [] H
 |(tk,tv)::r,σ,H,Q=>tk σ H fun x H1=>tv σ H1 fun y H2=>tPairs r σ H2 fun ps H3=>Q ((x,y)::ps) H3
abbrev VV:List (V×V)->List (Value×Value)->Prop:=Paired fun p q=>RelV p.1 q.1/\RelV p.2 q.2
def PPs(X:Cx)(pos:Pos)(keys:List (Option Expr))(values:List Expr)(trs:List (TE×TE)):Prop :=
 ∀(pins:List (Addr×Obj)) (s:Shared) (σ:St) (H:Hp) (Q:List (V×V)->Hp->Prop),Inv X pins σ H s->tPairs trs σ H Q ->
  wpAny (model X.prog X.w) X.A (evalPairs (pairTrees keys values X.env pos)) (fun vs s'=>∃ps H',Inv X pins σ H' s'/\VV ps vs/\Q ps H') X.xe s
theorem pps_nil{X:Cx}{pos:Pos}:PPs X pos [] [] []:=fun pins s σ H Q I h=>pairTrees_nil_walk ⟨[],H,I,.nil,h⟩
theorem pps_cons{X:Cx}{pos:Pos}{k v:Expr}{ks:List (Option Expr)}{vs:List Expr}{tk tv:TE}{trs:List (TE×TE)}(hk:PE X k tk)(hv:PE X v tv)(hr:PPs X pos ks vs trs) :
  PPs X pos (some k::ks) (v::vs) ((tk,tv)::trs):=fun pins s σ H Q I h =>
 pairTrees_cons_walk (thn (hk pins s σ H _ I h) fun u s1 ⟨x,H1,I1,rx,q1⟩=>thn (hv pins s1 σ H1 _ I1 q1) fun w2 s2 ⟨y,H2,I2,ry,q2⟩ =>
  thn (hr pins s2 σ H2 _ I2 q2) fun ws s3 ⟨ps,H3,I3,rel,q3⟩=>⟨(x,y)::ps,H3,I3,.cons ⟨rx,ry⟩ rel,q3⟩)
def mergeK(kvs more:List (Key×V)):List (Key×V):=more.foldl (fun acc kv=>putK acc kv.1 kv.2) kvs
theorem KV.merge:∀ {more:List (Key×V)} {rs:List (Key×Value)} {kvs:List (Key×V)} {vs:List (Key×Value)},KV more rs->KV kvs vs->KV (mergeK kvs more) (merged vs rs):=by
 intro more rs kvs vs r
 unfold KV at r
 induction r generalizing kvs vs with
 |nil=>intro q;exact q
 | @cons p q ps qs h t ih =>
  intro r0
  have e:KV (putK kvs p.1 p.2) (stored vs q.1 q.2):=by
   have:=r0.put p.1 h.2
   rw[← h.1];exact this
  exact ih e
theorem length_mergeK:∀(more kvs:List (Key×V)),(mergeK kvs more).length<=kvs.length+more.length
 | [],kvs=>by show kvs.length<=kvs.length+0;omega
 |p::r,kvs=>by
  have h1:=length_mergeK r (putK kvs p.1 p.2)
  have h2:=length_putK kvs p.1 p.2
  show(mergeK (putK kvs p.1 p.2) r).length<=_
  rw[List.length_cons];omega
theorem carries_of{P:Program}{w:World}:∀ {kvs:List (Key×V)} {ws:List (Value×Value)},VV (kvs.map fun kv=>(kV kv.1,kv.2)) ws->∃rs,Carries (mixKind P w) ws rs/\KV kvs rs
 | [],_,r=>by rw[List.map_nil]at r;cases r;exact⟨[],True.intro,.nil⟩
 |p::kvs,_,r=>by
  rw[List.map_cons]at r
  cases r with
  | @cons a b as bs h t =>
   obtain⟨rs,c,q⟩:=carries_of (P:=P) (w:=w) t
   obtain⟨b1,b2⟩:=b
   exact⟨(p.1,b2)::rs,⟨kV_is h.1,rfl,c⟩,.cons ⟨rfl,h.2⟩ q⟩
def tDisp(trs:List (TE×TE)):TE:=fun σ H Q=>∀p,H p=none->tPairs trs σ (upd H p (.dK [])) fun ps H2=>H2 p=some (.dK [])/\∃kvs:List (Key×V),ps=kvs.map (fun kv=>(kV kv.1,kv.2))/\kvs.length<=15/\Q (.ref p) (upd H2 p (.dK (mergeK [] kvs)))
theorem pe_disp{X:Cx}{pos:Pos}{keys:List (Option Expr)}{values:List Expr}{trs:List (TE×TE)}(h:PPs X pos keys values trs)(hall:keys.all (·.isSome)=true)(hl:keys.length=values.length)(h0:keys≠[])
  (h15:keys.length<=15):PE X (.Dict keys values pos) (tDisp trs):=by
 intro pins s σ H Q I q
 have hn:=I.hok.fresh (Nat.le_refl s.heap.objs.size)
 have I1:=I.laid (a:=s.heap.objs.size) (o:=.dK []) (h':=s.heap.push { cls:=.type "dict",data:=.dict #[] }) (t':=s.toks) (fun _ _ q=>Heap.get?_push_of_some _ q) (Nat.le_refl _) (dk_empty s.heap I.big)
 refine wpAny_Dict_walk (knd:=mixKind X.prog X.w) hall hl h0 h15 (thn (h pins _ σ _ _ I1 (q _ hn)) fun ws s2 ⟨ps,H2,I2,rel,e,kvs,ep,lk,q2⟩=>?_)
 subst ep
 obtain⟨rs,c,rk⟩:=carries_of (P:=X.prog) (w:=X.w) rel
 obtain⟨z,hd,vs0,r0,dd⟩:=dk_of I2.hok e
 cases r0
 refine⟨rs,c,dd,fun h' dd' hs=>⟨.ref s.heap.objs.size,_,?_,rfl,q2⟩⟩
 have hz:(mergeK [] kvs).length<=sizeLine:=by
  have h1:=length_mergeK kvs []
  rw[List.length_nil]at h1
  rw[sizeLine_eq];omega
 have he:∃q,h'.get? s.heap.objs.size=some q:=let⟨q,_,_,hq,_⟩:=dd';⟨q,hq⟩
 exact d_write I2 (by rw[e];exact True.intro) hs he (dk_new hz hd (rk.merge .nil) dd')
def DEnt(w:World)(e:DictEntry)(kv:Key×V):Prop:=keyIs kv.1 e.key=true/\e.hash=keyH w kv.1/\RelV kv.2 e.val
def DcK(K:W.Frag)(w:World)(a:Addr)(kvs:List (Key×V)):Prop:=(a==sysModules)=false/\∃(o:Obj) (es:Array DictEntry) (ep:Nat),K.lookup a=some o/\o.ExactDict/\o.data=.dict es ep/\Paired (DEnt w) es.toList kvs/\(kvs.map (·.1)).Nodup
theorem dent_pairs{P:Program}{w:World}:∀ {es:List DictEntry} {kvs:List (Key×V)},Paired (DEnt w) es kvs->∃vs:List (Key×Value),KV kvs vs/\PySem.Pairs (mixKind P w) es vs/\vs.map (·.1)=kvs.map (·.1)/\∀e∈es,∃k,(mixKind P w).is k e.key=true/\e.hash=(mixKind P w).hash k
 |_,_,.nil=>⟨[],.nil,.nil,rfl,fun e he=>by simp at he⟩
 |e::es,kv::kvs,.cons ⟨h1,h2,h3⟩ t=>by
  obtain⟨vs,r,p,m,k⟩:=dent_pairs (P:=P) t
  refine⟨(kv.1,e.val)::vs,.cons ⟨rfl,h3⟩ r,.cons h1 rfl p,by simp[m],fun e' he'=>?_⟩
  rcases List.mem_cons.mp he' with rfl | he'
  ·exact⟨kv.1,h1,h2⟩
  ·exact k e' he'
section
variable{X:Cx}{pins:List (Addr×Obj)}{σ:St}{H:Hp}{s:Shared}{a:Addr}{kvs:List (Key×V)}
theorem Inv.dcK(I:Inv X pins σ H s)(h:DcK X.K X.w a kvs):∃vs:List (Key×Value),KV kvs vs/\s.heap.DictOf (mixKind X.prog X.w) a vs:=by
 obtain⟨_,o,es,ep,l,x,d,p,nd⟩:=h
 obtain⟨vs,r,pr,m,k⟩:=dent_pairs (P:=X.prog) p
 exact⟨vs,r,o,es,ep,I.kIn a o l,x,d,fun e he=>k e (by simpa using he),pr,by rw[m];exact nd⟩
end
def rCG(K:W.Frag)(w:World):R2:=fun x y H Q=>∃a kvs k v,x=.ref a/\DcK K w a kvs/\y=kV k/\valV kvs k=some v/\Q v H
def tCGet(K:W.Frag)(w:World)(td ty:TE):TE:=tOp (rCG K w) td ty
def rCIn(K:W.Frag)(w:World):R2:=fun y x H Q=>∃a kvs k,x=.ref a/\DcK K w a kvs/\y=kV k/\Q (.bl (valV kvs k).isSome) H
section
variable{X:Cx}{o i:Expr}{pos:Pos}{td ty:TE}
theorem pe_cget(ho:PE X o td)(hi:PE X i ty)(hs:NoSl i):PE X (.Subscript o i pos) (tCGet X.K X.w td ty):=by
 intro pins s σ H Q I h
 refine subD_of PySem.F.slot_dict_getitem.lookup hs (thn (ho pins s σ H _ I h) fun u s1 ⟨x,H1,I1,rx,q1⟩=>thn (hi pins s1 σ H1 _ I1 q1) fun iv s2 ⟨y,H2,I2,ry,a,kvs,k,v,ex,dc,ey,hv,q2⟩=>?_)
 subst ex ey
 obtain rfl:u=Value.ref a:=rx
 obtain⟨vs,rel,dd⟩:=I2.dcK dc
 obtain⟨w',hw,rw'⟩:=RelO.some_of (v:=v) (o:=valueAt vs k) (by rw[← hv];exact rel.val k)
 exact⟨dd.typeIs,wpAny_getItem_of (kV_is ry) dd.mapOf hw ⟨v,H2,I2.tok _,rw',q2⟩⟩
theorem op_cin:OpR X (compareOp .In) (rCIn X.K X.w):=by
 intro pins s σ H y x iv u Q I ry rx h
 obtain⟨a,kvs,k,rfl,dc,rfl,q⟩:=h
 obtain rfl:u=Value.ref a:=rx
 obtain⟨vs,rel,dd⟩:=I.dcK dc
 refine wpAny_in_of (kV_is ry) dc.1 dd.mapOf ?_
 rw[← (rel.val k).isSome_eq]
 exact⟨.bl (valV kvs k).isSome,H,I.tok _,rfl,q⟩
end
theorem dcK_of{K:W.Frag}{w:World}{a:Addr}{es:Array DictEntry}{ep:Nat}{kvs:List (Key×V)}(l:K.lookup a=some ⟨.type "dict",none,.dict es ep,#[]⟩)(hd:(a==sysModules)=false)(p:Paired (DEnt w) es.toList kvs)(nd:(kvs.map (·.1)).Nodup):DcK K w a kvs :=
 ⟨hd,_,es,ep,l,⟨rfl,rfl,rfl⟩,rfl,p,nd⟩
theorem dent_str{w:World}{h:Int}{x y:Str}{t u:Tok}(e:h=PyData.keyHash w.params x):DEnt w ⟨h,.str x t,.str y u⟩ (.inr x,.str y):=⟨keyIs_str x t,e,⟨u,rfl⟩⟩
def blkN(X:Cx)(scope:Scope)(xs:List Str)(C:Addr)(s:Shared)(H:Hp)(ex:List Addr):Cx :=
 { X with N:=xs++X.N,s₀:=s,H₀:=H,env:=compEnvC scope (clOf scope.names X.env.cells) C X.env,outer:=X.stack,ex:=ex,fn:=fun _=>false,pn:=[],xe:=fun _ _=>False }
structure CScopeN(xs:List Str)(N:List Str)(osc scope:Scope):Prop where
 kind:scope.kind=.function
 nd:(xs++N).Nodup
 own:∀x∈xs,scope.names.lookup x=some .local
 nocell:∀y∈scope.names,y.2≠.cell
 names:∀y∈scope.names,y.2=.local->scope.names.lookup y.1=some .local
 free:∀y∈scope.names,y.2=.free->osc.names.lookup y.1=some .cell
 nol:∀y∈N,scope.names.lookup y≠some .local
section
variable{X:Cx}{pins:List (Addr×Obj)}{σ:St}{H:Hp}{s:Shared}
theorem CScopeN.has{xs:List Str}{scope:Scope}(S:CScopeN xs X.N X.env.scope scope)(ok:X.Ok):∀p∈scope.names,p.2=.free->∃c,X.env.cells.lookup p.1=some c:=fun p hp hk =>
 ok.has p.1 (.inl (S.free p hp hk))
theorem blkN_vis{xs:List Str}{y:Str}{scope:Scope}{C:Addr}{H₀:Hp}{ex:List Addr}(S:CScopeN xs X.N X.env.scope scope)(ok:X.Ok)(hk:(blkN X scope xs C s H₀ ex).env.kindOf y=some .cell∨(blkN X scope xs C s H₀ ex).env.kindOf y=some .free) :
  X.env.kindOf y=some .cell/\∃c,(clOf scope.names X.env.cells).lookup y=some c:=by
 have e:(blkN X scope xs C s H₀ ex).env.kindOf y=(scope.names.lookup y).map fun k=>if(k==NameKind.free&&X.env.scope.kind==.function&&X.env.kindOf y==some .cell) then NameKind.cell else k:=lookup_relabel X.env scope.names y
 rw[e]at hk
 cases q:scope.names.lookup y with
 |none=>rw[q]at hk;simp at hk
 |some k =>
  rw[q]at hk
  have hm:=PySem.mem_of_lookup q
  have hfree:k=.free:=by
   cases k with
   |free=>rfl
   |cell=>exact absurd rfl (S.nocell _ hm)
   |_=>simp at hk
  subst hfree
  have h1:=S.free _ hm rfl
  obtain⟨c,hc⟩:=ok.has y (.inl h1)
  exact⟨h1,clOf_has hm hc⟩
theorem blkN_start{xs:List Str}{scope:Scope}{C acc:Addr}{fp:List Addr}{h':Heap}{t':Nat}{m:Str->Option Value}(S:CScopeN xs X.N X.env.scope scope)(I:Inv X pins σ H s)(hf:∀b∈fp,FpOk X pins H b)(ho:∀b∈fp,∃o,s.heap.get? b=some o)
  (hC:s.heap.objs.size<=C) (hn:h'.Ns C m) (old:∀b o,s.heap.get? b=some o->h'.get? b=some o):Inv (blkN X scope xs C s H fp) [] (List.replicate xs.length none++σ) H { s with heap:=h',toks:=t' }:=by
 have sub:=clOf_sub scope.names X.env.cells
 refine⟨⟨I.ok.mod,S.kind,I.ok.glob,I.ok.blt,hC,fun y z c h1 h2=>I.ok.inj y z c (sub _ _ h1) (sub _ _ h2),fun y hy=>(blkN_vis S I.ok hy).2,fun y c z _=>absurd (show false=true from z) Bool.false_ne_true,I.ok.hd,I.ok.frames,.inl rfl,fun b hb=>⟨?_,fun y c e=>?_⟩,I.bs,Nat.le_trans I.ok.bsz I.sz,fun b o e hb=>?_,fun b hb z=>?_,I.stack,I.stkFree⟩,
  rfl,I.bare,Un.kept old,⟨m,hn,fun i y v h1 h2 h3=>?_⟩,fun y c e=>?_,I.hok.fresh hC,fun y c e=>I.freeC y c (sub _ _ e),fun p hp=>absurd (show p∈([]:List (Addr×Obj)) from hp) (by simp),I.hok.kept old,?_⟩
 ·obtain⟨o,e⟩:=ho b hb
  exact Nat.ne_of_lt (Nat.lt_of_lt_of_le (Heap.lt_size e) hC)
 ·exact(hf b hb).2.2.2.2.1 y c (sub _ _ e)
 ·rcases(hf b hb).2.2.2.1 with z | z
  ·exact I.ok.noex b o e z
  ·exact absurd (Nat.lt_of_lt_of_le (Heap.lt_size e) (Nat.le_trans I.ok.bsz z)) (Nat.lt_irrefl _)
 ·rcases List.mem_cons.mp (I.stkSub b z) with e | e
  ·exact(hf b hb).2.1 e
  ·exact(hf b hb).2.2.1 e
 ·have hi:¬i<xs.length:=fun hi=>by
   rw[List.getElem?_append_left (by simpa using hi),List.getElem?_replicate]at h2
   split at h2 <;> cases h2
  obtain⟨j,rfl⟩:∃j,i=xs.length+j:=⟨i-xs.length,by omega⟩
  all_goals
   have h1':X.N[j]? = some y:=by
    have z:(xs++X.N)[xs.length+j]? = some y:=h1
    rw[List.getElem?_append_right (by omega)]at z
    simpa using z
   have h2':σ[j]? = some (some v):=by
    rw[List.getElem?_append_right (by simp)]at h2
    simpa using h2
   have hk:(blkN X scope xs C s H fp).env.kindOf y=some .cell∨(blkN X scope xs C s H fp).env.kindOf y=some .free:=by
    rcases h3 with h3 | h3
    ·exfalso
     have e:(blkN X scope xs C s H fp).env.kindOf y=(scope.names.lookup y).map fun k=>if(k==NameKind.free&&X.env.scope.kind==.function&&X.env.kindOf y==some .cell) then NameKind.cell else k:=lookup_relabel X.env scope.names y
     have h3':(blkN X scope xs C s H fp).env.kindOf y=some .local:=h3
     rw[e]at h3'
     cases q:scope.names.lookup y with
     |none=>rw[q]at h3';cases h3'
     |some k =>
      rw[q]at h3'
      rw[Option.map_some]at h3'
      split at h3'
      ·cases h3'
      ·cases h3'
       exact S.nol y (List.mem_of_getElem? h1') q
    ·exact h3
   obtain⟨hk1,c,hc⟩:=blkN_vis S I.ok hk
   obtain⟨m1,hn1,hl⟩:=I.loc
   obtain⟨u,r,l⟩:=hl j y v h1' h2' (.inr (.inl hk1))
   refine⟨u,r,.inr ⟨hk,c,hc,?_⟩⟩
   rcases l with⟨l,_⟩ | ⟨_,c',hc',z⟩
   ·rw[hk1]at l;cases l
   ·have:=sub _ _ hc
    rw[hc']at this
    cases this
    obtain⟨o,e,d⟩:=z
    exact⟨o,old _ _ e,d⟩
 ·obtain⟨v,o,e1,d⟩:=I.cell y c (sub _ _ e)
  exact⟨v,o,old _ _ e1,d⟩
 ·show(List.replicate xs.length none++σ).length=(xs++X.N).length
  simp[I.len]
def LCWN(n:Nat)(g:TG)(J:It)(σ:St)(tt:TT)(te:TE)(Fin:List V->Hp->Prop)(H1:Hp):Prop:=∃W:Nat->Nat->List V->Hp->Prop,(∃m,W 0 m [] H1)/\∀i m ys H,W i m ys H ->
 (J.stop i H/\Fin ys H)∨(J.go i H/\ys.length<sizeLine/\∃N:List V->Hp->Prop,(∀ys' H',N ys' H'->∃m',m'<m/\W (i+1) m' ys' H')/\∀x H',J.yld i H x H'->∀τ:St,τ.length=n->g x (τ++σ) H' fun σ' H2=>(∃τ':St,τ'.length=n/\σ'=τ'++σ)/\tt σ' H2 fun b H3 =>
  if b=true then te σ' H3 fun y H4=>N (ys++[y]) H4 else N ys H3)
def tLCN(n:Nat)(g:TG)(wi:TI)(tt:TT)(te:TE):TE:=fun σ H Q=>wi σ H fun J H1=>LCWN n g J σ tt te (fun ys H=>∀l,H l=none->Q (.ref l) (upd H l (.lst ys))) H1
theorem loop_go{prog:Program}{w:World}{A:Around}{R:Result->Shared->Prop}{s:Shared}{elt tg iter:Expr}{ifs:List Expr}{scope:Scope}{pos:Pos}{it acc:Value}{env:Env}{Er:Value->Shared->Prop}(hEr:Er=notedBy (model prog w) A env fun e s'=>R (.error e) s')(J:Nat->Shared->Prop)
  (turn:∀n s,J n s->wpAny (model prog w) A (pyNext it) (fun r s₁=>match r with
   |none=>R (.ok .next) s₁
   |some v=>wpAny (model prog w) A (letOwnedTupleGo tg it v) (fun _ s₀=>wpAny (model prog w) A (assign tg env v) (fun _ s₂ =>
     wpAny (model prog w) A (forIn ifs true fun c r=>if r=true then do let ok ← isTrue c env (eval c env);pure (ForInStep.yield ok) else pure (ForInStep.yield r)) (fun ok s₃ =>
      if ok=true then wpAny (model prog w) A (eval elt env) (fun x s₄=>wpAny (model prog w) A (call (.builtin "list.append") [acc,x]) (fun _ s₅=>∃m,m<n/\J m s₅) Er s₄) Er s₃ else ∃m,m<n/\J m s₃) Er s₂) Er s₀) Er s₁) Er s)
  (n:Nat) (h:J n s):codeAny (model prog w) A (.compLoop (.ListComp elt [⟨tg,iter,ifs,0⟩] scope pos) 0 it acc env) R s:=by
 subst hEr
 refine codeAny_loop rfl J (fun k z hz=>?_) n h
 show wpAny _ A ((compTurn (.ListComp elt [⟨tg,iter,ifs,0⟩] scope pos) 0 it acc env).onRaise (fun x=>do noteFrame x env;theTreesLotGoes x)) _ _ z
 refine wpAny_noted ?_
 rw[compTurn_list]
 refine wpAny_bind (wpAny_standAt (wpAny_bind (wpAny_mono (turn k z hz) (fun o z1 h1=>?_) fun _ _ e=>e)))
 cases o with
 |none=>exact wpAny_pure h1
 |some v =>
  refine wpAny_bind (wpAny_mono h1 (fun _ z0 h0=>?_) fun _ _ e=>e)
  refine wpAny_bind (wpAny_mono h0 (fun _ z2 h2=>wpAny_bind (wpAny_mono h2 (fun ok z3 h3=>?_) fun _ _ e=>e)) fun _ _ e=>e)
  cases ok with
  |false=>exact wpAny_pure ⟨rfl,h3⟩
  |true=>exact wpAny_bind (wpAny_bind (wpAny_mono h3 (fun x z4 h4=>wpAny_bind (wpAny_mono h4 (fun _ z5 h5=>wpAny_pure (wpAny_pure ⟨rfl,h5⟩)) fun _ _ e=>e)) fun _ _ e=>e))
theorem compN_core{elt iter tg:Expr}{g:TG}{xs:List Str}{pos:Pos}{scope:Scope}{ifs:List Expr}{tt:TT}{te:TE}{s2:Shared}{it:Addr}{fp:List Addr}{tn:Nat->Heap->Prop}{J:It}{H2:Hp}{E:Value->Shared->Prop}{Fin:List V->Hp->Prop}{RR:Value->Addr->Result->Shared->Prop}
  (hc:X.calm=true) (S:CScopeN xs X.N X.env.scope scope) (I2:Inv X pins σ H2 s2) (T:Turn X.prog X.w X.K tg J fp it tn) (st2:tn 0 s2.heap) (f2:∀b∈fp,FpOk X pins H2 b) (hw:LCWN xs.length g J σ tt te Fin H2) (hg:∀C s H ex,PG (blkN X scope xs C s H ex) tg g)
  (ht:∀C s H ex,PTs (blkN X scope xs C s H ex) ifs tt) (he:∀C s H ex,PE (blkN X scope xs C s H ex) elt te)
  (hRR:∀D C s4 ys H3 m5,Inv X pins σ (upd H3 D (.lst ys)) s4->s4.heap.Ns C m5->FpOk X pins (upd H3 D (.lst ys)) C->H3 D=none->Fin ys H3->RR (.ref D) C (.ok .next) s4) :
  wpAny (model X.prog X.w) X.A (newList []) (fun acc s₃=>wpAny (model X.prog X.w) X.A (newFunctionEnv scope X.env.globals (clOf scope.names X.env.cells) [] X.env.qual none .none (some X.env)) (fun cenv s₄ =>
   codeAny (model X.prog X.w) X.A (.compStart (.ListComp elt [⟨tg,iter,ifs,0⟩] scope pos) 0 (.ref it) acc { cenv with scope:=relabel scope X.env }) (RR acc cenv.locals) s₄) E s₃) E s2:=by
 obtain⟨W,⟨m0,w0⟩,turn⟩:=hw
 have hob:=T.obj 0 s2.heap st2
 refine wpAny_newObj_type (wpAny_newFunctionEnv S.nocell (by intro y hy;simp at hy) (fun h₁ hns₁ hsb₁=>?_) S.kind)
 dsimp only at hns₁ hsb₁ ⊢
 generalize hG2:s2.heap.push { cls:=.type "list",dict:=none,data:=.seq ([]:List Value).toArray }=G2 at hns₁ hsb₁ ⊢
 have hC:G2.objs.size=s2.heap.objs.size+1:=by rw[← hG2,Heap.size_push]
 have hDC:s2.heap.objs.size≠G2.objs.size:=by rw[hC];exact Nat.ne_of_lt (Nat.lt_succ_self _)
 have hCle:s2.heap.objs.size<=G2.objs.size:=by rw[hC];exact Nat.le_succ _
 have below:∀b,b<s2.heap.objs.size->b≠G2.objs.size/\b≠s2.heap.objs.size:=fun b hb=>⟨by rw[hC];exact Nat.ne_of_lt (Nat.lt_succ_of_lt hb),Nat.ne_of_lt hb⟩
 have old:∀b o,s2.heap.get? b=some o->h₁.get? b=some o:=fun b o e=>hsb₁.extBut b o (below b (Heap.lt_size e)).1 (Heap.get?_push_of_some _ (hG2 ▸ Heap.get?_push_of_some _ e))
 have hacc:h₁.get? s2.heap.objs.size=some { cls:=.type "list",data:=.seq ([]:List Value).toArray 0 }:=hsb₁.extBut _ _ hDC (Heap.get?_push_of_some _ (hG2 ▸ Heap.get?_push_size _ rfl))
 generalize hD:s2.heap.objs.size=D at *
 generalize hCC:G2.objs.size=C at *
 have hDf:D∉fp:=fun hm=>by
  obtain⟨o,e,_⟩:=hob D hm
  exact absurd (Heap.lt_size e) (by rw[hD];exact Nat.lt_irrefl _)
 have I4:Inv (blkN X scope xs C s2 H2 fp) [] (List.replicate xs.length none++σ) H2 { s2 with heap:=h₁,toks:=s2.toks+([]:List (Str×Value)).length } :=
  blkN_start (acc:=D) S I2 f2 (fun b hb=>let⟨o,e,_⟩:=hob b hb;⟨o,e⟩) (by omega) hns₁ old
 have hDn:∀ {σ':St} {H':Hp} {s':Shared},Inv (blkN X scope xs C s2 H2 fp) [] σ' H' s'->(∀b∈fp,H' b=none)->∀b∈fp,FpOk (blkN X scope xs C s2 H2 fp) [] H' b:=fun{σ' H' s'} I' hn b hb=>by
  refine⟨hn b hb,(I'.ok.exf b hb).1,I'.ok.exfs b hb,.inl hb,fun y c e=>(I'.ok.exf b hb).2 y c e,fun p hp=>absurd (show p∈([]:List (Addr×Obj)) from hp) (by simp)⟩
 have hDfp:∀ {σ':St} {H':Hp} {s':Shared},Inv (blkN X scope xs C s2 H2 fp) [] σ' H' s'->H' D=none->FpOk (blkN X scope xs C s2 H2 fp) [] H' D:=fun{σ' H' s'} I' hn=>by
  refine⟨hn,hDC,fun z=>?_,.inr (by show s2.heap.objs.size<=D;omega),fun y c e=>?_,fun p hp=>absurd (show p∈([]:List (Addr×Obj)) from hp) (by simp)⟩
  ·obtain⟨_,o,e,_⟩:=I'.ok.funs.mem z
   exact absurd (show D<s2.heap.objs.size from Heap.lt_size e) (by rw[hD];exact Nat.lt_irrefl _)
  ·obtain⟨v,z⟩:=I2.cell y c (clOf_sub _ _ _ _ e)
   intro e2
   exact absurd z.lt (by rw[hD,e2];exact Nat.lt_irrefl _)
 have hgt:∀b o,s2.heap.get? b=some o->b≠C/\b≠D:=fun b o e=>by
  have z:=below b (by rw[← hD];exact Heap.lt_size e)
  exact z
 let LI:Nat->Shared->Prop:=fun n s'=>∃i ys its k σ0 H',Inv (blkN X scope xs C s2 H2 fp) [] (σ0++σ) H' s'/\σ0.length=xs.length/\tn i s'.heap/\(∀b∈fp,H' b=none)/\H' D=none/\Vals ys its/\ys.length<=sizeLine/\s'.heap.get? D=some { cls:=.type "list",data:=.seq its.toArray k }/\W i n ys H'
 have loop:∀s₃:Shared,s₃ = { s2 with heap:=h₁,toks:=s2.toks+([]:List (Str×Value)).length } ->
   codeAny (model X.prog X.w) X.A (.compLoop (.ListComp elt [⟨tg,iter,ifs,0⟩] scope pos) 0 (.ref it) (.ref D) (compEnvC scope (clOf scope.names X.env.cells) C X.env))
    (RR (.ref D) C) s₃:=by
  rintro s₃ rfl
  refine loop_go rfl LI ?_ m0 ⟨0,[],[],0,_,H2,I4,by simp,T.keep _ _ _ st2 (fun b _ o e=>old b o e),fun b hb=>(f2 b hb).1,I2.hok.fresh (by rw[hD];exact Nat.le_refl _),.nil,Nat.zero_le _,hacc,w0⟩
  rintro n s3 ⟨i,ys,its,k,σ0,H3,I3,hσ0,st3,fr3,frD,rv,hysz,ha3,w3⟩
  have IP:Inv (blkN X scope xs C s2 H2 fp) [(D,{ cls:=.type "list",data:=.seq its.toArray k })] (σ0++σ) H3 s3:=I3.pins_of fun p hp=>by
   have e:p=(D,{ cls:=.type "list",data:=.seq its.toArray k }):=by simpa using hp
   subst e
   obtain⟨f0,f1,f3,_⟩:=hDfp I3 frD
   exact⟨ha3,f0,f1,f3,fun v z=>by cases z⟩
  have fpP:∀ {H':Hp},(∀b∈fp,H' b=none)->∀b∈fp,FpOk (blkN X scope xs C s2 H2 fp) [(D,{ cls:=.type "list",data:=.seq its.toArray k })] H' b:=fun{H'} hn b hb=>by
   refine⟨hn b hb,(I3.ok.exf b hb).1,I3.ok.exfs b hb,.inl hb,fun y c e=>(I3.ok.exf b hb).2 y c e,fun p hp=>?_⟩
   have e:p=(D,{ cls:=.type "list",data:=.seq its.toArray k }):=by
    have hp':p∈[(D,({ cls:=.type "list",data:=.seq its.toArray k }:Obj))]:=hp
    simpa using hp'
   subst e
   exact fun z=>hDf (by rw[show D=b from z];exact hb)
  rcases turn i n ys H3 w3 with⟨stop,qn⟩ | ⟨go,hlen,N,hN,step⟩
  ·refine wpAny_mono (T.done (blkN X scope xs C s2 H2 fp) rfl rfl rfl hc i _ s3 (σ0++σ) H3 (fun _ _=>False) IP (fpP fr3) st3 stop) (fun r s4 ⟨hr,I5⟩=>?_) fun _ _ z=>z.elim
   subst hr
   obtain⟨m5,hn5,_⟩:=I5.loc
   have hD4:=(I5.pin _ (List.mem_append_right _ (List.mem_singleton.mpr rfl))).1
   have hcn:H3 C=none:=I5.free
   have hok':HOk X.prog X.w (upd H3 D (.lst ys)) s4.heap:=fun b u e=>by
    by_cases hb:b=D
    ·subst hb
     rw[upd_same]at e
     cases e
     exact⟨hysz,its,k,rv,hD4⟩
    ·rw[upd_ne hb]at e
     exact(I5.hok b u e).stay (fun c v hc q=>q) (fun c q=>by rw[upd_ne (ne_of_none q frD)];exact q) fun c xs q=>by rw[upd_ne (ne_of_none q frD)];exact q
   have un':Un (frs X.stack) fp H2 (upd H3 D (.lst ys)) s2.heap s4.heap:=by
    have u:=I5.base
    refine⟨u.keep,u.slot,fun b o q n hx=>?_,u.there,fun b xs q=>?_,fun b o xs q=>?_,fun b ps q=>?_⟩
    ·rw[upd_ne (hgt b o q).2]
     exact u.free b o q n hx
    ·have e:=u.tups b xs q
     rw[upd_ne (ne_of_none e frD)]
     exact e
    ·have e:=u.frzs b o xs q
     rw[upd_ne (ne_of_none e frD)]
     exact e
    ·obtain⟨more,e⟩:=u.tbls b ps q
     exact⟨more,by rw[upd_ne (ne_of_none e frD)];exact e⟩
   have I6:Inv X pins σ (upd H3 D (.lst ys)) s4:=I2.call' (ch:=fp) I5.os un' hok' I5.bare (fun b hb=>⟨(f2 b hb).2.2.2.1,(f2 b hb).2.1,(f2 b hb).2.2.2.2.1,(f2 b hb).2.2.2.2.2⟩)
   exact hRR D C s4 ys H3 m5 I6 hn5 (I2.fpOk (by rw[hD];exact hCle) (by rw[upd_ne (Ne.symm hDC)];exact hcn)) frD qn
  ·refine wpAny_mono (T.item (blkN X scope xs C s2 H2 fp) rfl rfl rfl hc i _ s3 (σ0++σ) H3 (fun _ _=>False) IP (fpP fr3) st3 go) (fun r s4 ⟨u,hr,h4⟩=>?_) fun _ _ z=>z.elim
   subst hr
   refine wpAny_mono h4 (fun _ s5 ⟨xv,H5,I5,r5,y5,st5,fr5⟩=>?_) fun _ _ z=>z.elim
   have I5':=I5.pinned (fpP fr5) (T.obj _ _ st5)
   refine wpAny_mono (hg C s2 H2 fp _ s5 (σ0++σ) H5 xv u _ I5' r5 (step xv H5 y5 σ0 hσ0)) (fun _ s6 ⟨σ6,H6,I6,⟨τ,hτ,e1⟩,q6⟩=>?_) fun _ _ z=>z.elim
   subst e1
   refine wpAny_mono (ht C s2 H2 fp _ s6 (τ++σ) H6 _ I6 q6) (fun b s7 ⟨H7,I7,q7⟩=>?_) fun _ _ z=>z.elim
   have hpD:∀ {σ':St} {H':Hp} {s':Shared},Inv (blkN X scope xs C s2 H2 fp) ([(D,{ cls:=.type "list",data:=.seq its.toArray k })]++pinsAt fp s5.heap) σ' H' s'->s'.heap.get? D=some { cls:=.type "list",data:=.seq its.toArray k }/\H' D=none:=fun{σ' H' s'} I'=>by
    have z:=I'.pin (D,{ cls:=.type "list",data:=.seq its.toArray k }) (List.mem_append_right _ (List.mem_append_left _ (List.mem_singleton.mpr rfl)))
    exact⟨z.1,z.2.1⟩
   have hpF:∀ {σ':St} {H':Hp} {s':Shared},Inv (blkN X scope xs C s2 H2 fp) ([(D,{ cls:=.type "list",data:=.seq its.toArray k })]++pinsAt fp s5.heap) σ' H' s'->(∀b∈fp,∀o,s5.heap.get? b=some o->s'.heap.get? b=some o)/\∀b∈fp,H' b=none:=fun{σ' H' s'} I'=>by
    refine⟨fun b hb o e=>(I'.pin (b,o) (List.mem_append_right _ (List.mem_append_right _ (mem_pinsAt hb e)))).1,fun b hb=>?_⟩
    obtain⟨o,e,d⟩:=T.obj _ _ st5 b hb
    exact(I'.pin (b,o) (List.mem_append_right _ (List.mem_append_right _ (mem_pinsAt hb e)))).2.1
   cases b with
   |false =>
    rw[if_neg Bool.false_ne_true]at q7 ⊢
    obtain⟨m',hm,w7⟩:=hN _ _ q7
    exact⟨m',hm,i+1,ys,its,k,τ,H7,I7.pins_of (pins':=[]) (fun p hp=>absurd hp (by simp)),hτ,T.keep _ _ _ st5 (hpF I7).1,(hpF I7).2,(hpD I7).2,rv,hysz,(hpD I7).1,w7⟩
   |true =>
    rw[if_pos rfl]at q7 ⊢
    refine wpAny_mono (he C s2 H2 fp _ s7 (τ++σ) H7 _ I7 q7) (fun u8 s8 ⟨y,H8,I8,r8,q8⟩=>?_) fun _ _ z=>z.elim
    obtain⟨m',hm,w8⟩:=hN _ _ q8
    obtain⟨hd1,hd2⟩:=hpD I8
    have hl:=rv.length
    refine append_at hd1 (fun h' hs' e'=>?_) (by rw[List.size_toArray];omega)
    have I9:Inv (blkN X scope xs C s2 H2 fp) [] (τ++σ) H8 s8:=I8.pins_of (pins':=[]) (fun p hp=>absurd hp (by simp))
    obtain⟨f0,f1,f3,f4,f5,f6⟩:=hDfp I9 hd2
    refine⟨m',hm,i+1,ys++[y],its++[u8],k+1,τ,H8,I9.turned (it:=D) (t':=s8.toks) (fun b o hb e=>(hs'.2 b hb).trans e) f0 f1 f4 f5 f6,hτ,
     T.keep _ _ _ st5 (fun b hb o e=>(hs'.2 b (fun z=>hDf (by rw[← z];exact hb))).trans ((hpF I8).1 b hb o e)),(hpF I8).2,hd2,rv.append (.cons r8 .nil),by rw[List.length_append,List.length_singleton];omega,?_,w8⟩
    rw[e',List.push_toArray]
 exact codeAny_compStart_list (loop _ rfl) (T.self _ 0 _ _ _ (T.keep _ _ _ st2 (fun b _ o e=>old b o e)) (loop _ rfl))
theorem pe_lcompN{elt iter tg:Expr}{g:TG}{xs:List Str}{pos:Pos}{scope:Scope}{ifs:List Expr}{wi:TI}{tt:TT}{te:TE}(hc:X.calm=true)(S:CScopeN xs X.N X.env.scope scope)(hi:PI X tg iter wi)
  (hg:∀C s H ex,PG (blkN X scope xs C s H ex) tg g) (ht:∀C s H ex,PTs (blkN X scope xs C s H ex) ifs tt) (he:∀C s H ex,PE (blkN X scope xs C s H ex) elt te) (hs:∀v,foldedSetIterable iter X.env v=pure v:=by intro _;rfl) :
  PE X (.ListComp elt [⟨tg,iter,ifs,0⟩] scope pos) (tLCN xs.length g wi tt te):=by
 intro pins s σ H Q I h
 rw[eval_ListComp]
 refine wpAny_comprehension_free (use:=none) rfl hs (closureFor_of (S.has I.ok)) S.kind S.names (thn (hi pins s σ H _ I h) fun v s1 h1=>thn h1 fun itv s2 h2=>?_)
 obtain⟨it,fp,tn,J,H2,e,I2,T,st2,f2,hw⟩:=h2
 subst e
 refine compN_core (RR:=fun acc C=>compPost (model X.prog X.w) X.A X.xe none (EP X pins σ Q) acc C) hc S I2 T st2 f2 hw hg ht he fun D C s4 ys H3 m5 I5 hn5 fC frD qn=>⟨m5,hn5,fun h' hs'=>?_⟩
 obtain⟨f0,f1,f3,f4,f5,f6⟩:=fC
 exact⟨.ref D,_,I5.turned (it:=C) (t':=s4.toks) (fun b o hb e=>(hs'.2 b hb).trans e) f0 f1 f4 f5 f6,rfl,qn D frD⟩
theorem pgN{xs:List Str}{scope:Scope}{C:Addr}{H0:Hp}{ex:List Addr}{i:Nat}{x:Str}{px:Pos}(S:CScopeN xs X.N X.env.scope scope)(hi:xs[i]? = some x):PG (blkN X scope xs C s H0 ex) (.Name x px) (gName i):=by
 have hm:x∈xs:=List.mem_of_getElem? hi
 have hl:i<xs.length:=(List.getElem?_eq_some_iff.mp hi).1
 refine pg_name (X:=blkN X scope xs C s H0 ex) (i:=i) S.nd ?_ (.inl (lookup_relabel_local (S.own x hm))) (.inr (lookup_relabel_local (S.own x hm)))
 show(xs++X.N)[i]? = some x
 rw[List.getElem?_append_left hl]
 exact hi
theorem pe_lcomp2{elt iter:Expr}{x y:Str}{px py tp pos:Pos}{kk:Nat}{scope:Scope}{ifs:List Expr}{wi:TI}{tt:TT}{te:TE}(hc:X.calm=true)(S:CScopeN [x,y] X.N X.env.scope scope)(hi:PI X (.Tuple [.Name x px,.Name y py] kk tp) iter wi)
  (ht:∀C s H ex,PTs (blkN X scope [x,y] C s H ex) ifs tt) (he:∀C s H ex,PE (blkN X scope [x,y] C s H ex) elt te) (hs:∀v,foldedSetIterable iter X.env v=pure v:=by intro _;rfl) :
  PE X (.ListComp elt [⟨.Tuple [.Name x px,.Name y py] kk tp,iter,ifs,0⟩] scope pos) (tLCN 2 (gTup X.K 2 (gCons (gName 0) (gCons (gName 1) gNil))) wi tt te) :=
 pe_lcompN (xs:=[x,y]) (g:=gTup X.K 2 (gCons (gName 0) (gCons (gName 1) gNil))) hc S hi (fun C s H ex=>pg_tup (X:=blkN X scope [x,y] C s H ex) hc (pgs_cons (pgN S rfl) (pgs_cons (pgN S rfl) pgs_nil))) ht he hs
theorem lcN_tup{K:W.Frag}{a:Addr}{xs:List V}{σ:St}{te:TE}{Fin:List V->Hp->Prop}{H1:Hp}{n:Nat}{g:TG}(Pv:Nat->List V->Hp->Prop)(h0:Pv 0 [] H1)(hz:xs.length<sizeLine)(hlen:∀i ys H,Pv i ys H->ys.length<=i)
  (hl:∀i ys H,Pv i ys H->SqT K H a xs) (hs:∀i ys H x,xs[i]? = some x->Pv i ys H->∀τ:St,τ.length=n->g x (τ++σ) H fun σ' H2=>(∃τ':St,τ'.length=n/\σ'=τ'++σ)/\te σ' H2 fun y H3=>Pv (i+1) (ys++[y]) H3) (hd:∀ys H,Pv xs.length ys H->Fin ys H) :
  LCWN n g (Itt K a) σ tYes te Fin H1:=by
 refine⟨fun i m ys H=>m=xs.length-i/\i<=xs.length/\Pv i ys H,⟨xs.length,by simp,Nat.zero_le _,h0⟩,?_⟩
 rintro i m ys H ⟨rfl,hi,p⟩
 by_cases hlt:i<xs.length
 ·have hll:=hlen i ys H p
  refine .inr ⟨⟨xs,xs[i],hl i ys H p,by simp[hlt]⟩,by omega,fun ys' H'=>Pv (i+1) ys' H',fun ys' H' p'=>⟨xs.length-(i+1),by omega,rfl,hlt,p'⟩,fun x H' y τ hτ=>?_⟩
  obtain⟨e,y⟩:=y
  subst e
  exact hs i ys _ x (y xs (hl i ys _ p)) p τ hτ
 ·have e:i=xs.length:=by omega
  subst e
  exact .inl ⟨⟨xs,hl _ ys H p,Nat.le_refl _⟩,hd ys H p⟩
end
theorem strsAre_of:∀ {xs:List Str} {us:List Value},Vals (xs.map V.str) us->StrsAre us xs
 | [],_,r=>by cases r;exact .nil
 |x::xs,_,r=>by
  rw[List.map_cons]at r
  cases r with
  |cons q t =>
   obtain⟨k,rfl⟩:=q
   exact .cons x k (strsAre_of t)
def rJoin(K:W.Frag):V->List V->Hp->VK->Prop:=fun x vs H Q=>∃(sep:Str) (l:Addr) (xs:List Str),x=.str sep/\vs=[.ref l]/\SqL K H l (xs.map V.str)/\(xs.map (·.length)).sum+xs.length*sep.length<=16777216/\Q (.str (Txt.join sep xs)) H
section
variable{X:Cx}
theorem mt_join:MtR X "str.join" (rJoin X.K):=by
 intro pins s σ H x vs v us Q I rx rv h
 obtain⟨sep,l,xs,rfl,rfl,hl,hz,q⟩:=h
 obtain⟨t,rfl⟩:=rx
 obtain⟨u,rfl,ru⟩:=Vals.one rv
 obtain rfl:u=Value.ref l:=ru
 obtain⟨its,r,pl,_⟩:=I.list hl
 exact join_list pl.isList (by simpa using strsAre_of r) hz fun t' k=>⟨.str (Txt.join sep xs),H,I.tok _,⟨_,rfl⟩,q⟩
end
theorem len_app(a b:Str):(a++b).length=a.length+b.length:=by
 show(a.cps++b.cps).size=_
 rw[Array.size_append]
 rfl
theorem app_assoc(a b c:Str):(a++b)++c=a++(b++c):=by
 show(⟨(a.cps++b.cps)++c.cps⟩:Str)=⟨a.cps++(b.cps++c.cps)⟩
 rw[Array.append_assoc]
theorem len_join(sep:Str):∀xs:List Str,(Txt.join sep xs).length<=(xs.map (·.length)).sum+xs.length*sep.length:=by
 have fold:∀(xs:List Str) (acc:Array Nat),(xs.foldl (fun a p=>a++sep.cps++p.cps) acc).size=acc.size+(xs.map (·.length)).sum+xs.length*sep.length:=by
  intro xs
  induction xs with
  |nil=>intro acc;simp
  |cons x xs ih =>
   intro acc
   rw[List.foldl_cons,ih,Array.size_append,Array.size_append,List.map_cons,List.sum_cons,List.length_cons,Nat.add_mul]
   show acc.size+sep.length+x.length+_+_=_
   omega
 intro xs
 cases xs with
 |nil=>exact Nat.zero_le _
 |cons x xs =>
  show(xs.foldl (fun a p=>a++sep.cps++p.cps) x.cps).size<=_
  rw[fold,List.map_cons,List.sum_cons,List.length_cons,Nat.add_mul]
  show x.length+_+_<=_
  omega
open Builtin
section
variable{X:Cx}{prog:Program}{w:World}{A:Around}{R:Result->Shared->Prop}{it:Addr}{fp wr:List Addr}{m:Nat}{P:Nat->Value->Prop}{St:Nat->Heap->Prop}
theorem op_le_str:OpR X (compareOp .LtE) (fun x y H Q=>∃i j,x=.str i/\y=.str j/\Q (.bl (!decide (j.cps.toList<i.cps.toList))) H):=by
 intro pins s σ H x y v u Q I rx ry h
 obtain⟨i,j,rfl,rfl,q⟩:=h
 obtain⟨t,rfl⟩:=rx
 obtain⟨t',rfl⟩:=ry
 exact PySem.P.le_str (fin_bl I q rfl)
theorem mx_loop{kw:List (Str×Value)}(Wk:Walks prog w A.in1 it fp wr m P St)(bt:Nat->Nat->Bool)(cmp:CmpOf prog w A.in1 .Gt P bt)(B:Addr)(nB:B∉fp) :
  ∀(k j:Nat) (z:Shared) (u:Value) (c:Nat),m-(j+1)=k->j+1<=m->St (j+1) z.heap->P (argBest bt j) u->z.heap.get? B=some ⟨.type "list",none,.seq #[u,u] c,#[]⟩ ->
  (∀v h' tk,P (argBest bt (m-1)) v->(∀b o,b∉wr->b≠B->z.heap.get? b=some o->h'.get? b=some o)->R (.ok (.ret v)) { z with heap:=h',toks:=tk }) ->
  codeAny (model prog w) A (.builtin "max.loop" ⟨[.ref it,.none,.ref B],kw⟩) R z:=by
 have nW:B∉wr:=fun h=>nB (Wk.sub _ h)
 have nm:(toString "max" ++ toString ".loop":String)="max.loop":=by decide
 intro k
 induction k with
 |zero =>
  intro j z u c ek lej sj pj gB fin
  have ej:j+1=m:=by omega
  refine codeAny_builtin PySem.F.entry_max_loop ?_
  rw[Around.under_plainId PySem.F.plain_max_loop _]
  show wpAny _ A.in1 (seqItems? (.ref B) >>= _) _ _ z
  refine wpAny_bind (wpAny_seqItems gB rfl ?_)
  show wpAny _ A.in1 (tryCatch (pyNext (.ref it)) _ >>= _) _ _ z
  refine wpAny_bind (wpAny_tryCatch (Wk.done z _ _ (ej ▸ sj) fun g tk kp=>?_))
  have gB':=kp B _ nW gB
  show wpAny _ A.in1 (updateSeq B (fun _=>#[]) >>= _) _ _ _
  refine wpAny_bind ?_
  refine wpAny_updateSeq gB' rfl (wpAny_bind (wpAny_letGo (wpAny_pure ?_)))
  exact fin u _ tk (by rw[← ej];exact pj) fun b o b1 b2 e=>(Heap.get?_update_other _ _ (Ne.symm b2)).trans (kp b o b1 e)
 |succ k ih =>
  intro j z u c ek lej sj pj gB fin
  have lt:j+1<m:=by omega
  refine codeAny_builtin PySem.F.entry_max_loop ?_
  rw[Around.under_plainId PySem.F.plain_max_loop _]
  show wpAny _ A.in1 (seqItems? (.ref B) >>= _) _ _ z
  refine wpAny_bind (wpAny_seqItems gB rfl ?_)
  show wpAny _ A.in1 (tryCatch (pyNext (.ref it)) _ >>= _) _ _ z
  refine wpAny_bind (wpAny_tryCatch (Wk.item (j+1) z _ _ lt sj fun v g tk pv sv kp=>?_))
  have gB':=kp B _ nW gB
  show wpAny _ A.in1 (tryCatch (holding [v,v] (richCompare .Gt v u >>= _)) _ >>= _) _ _ _
  refine wpAny_bind (wpAny_tryCatch (wpAny_holding (wpAny_bind (cmp (j+1) (argBest bt j) v u _ _ _ pv pj ?_))))
  refine wpAny_bind (wpAny_holding (wpAny_truthy_bool ?_))
  refine wpAny_bind (wpAny_letGo (wpAny_pure ?_))
  cases eb:bt (j+1) (argBest bt j) with
  |true =>
   simp only[if_true]
   refine wpAny_bind ?_
   refine wpAny_updateSeq gB' rfl (wpAny_bind (wpAny_letGo ?_))
   rw[nm]
   refine wpAny_pure ⟨plainId_quiet PySem.F.plain_max_loop _,ih (j+1) _ v _ (by omega) lt (Wk.frame _ _ _ sv fun b bf o e=>?_) (by simp only[argBest,eb,if_true];exact pv) (Heap.get?_update_self _ gB' rfl) fun v' g' tk' p' k'=>?_⟩
   ·exact(Heap.get?_update_other _ _ (fun q:B=b=>nB (by rw[q];exact bf))).trans e
   ·exact fin v' g' tk' p' fun b o b1 b2 e=>k' b o b1 b2 ((Heap.get?_update_other _ _ (Ne.symm b2)).trans (kp b o b1 e))
  |false =>
   simp only[Bool.false_eq_true,if_false]
   refine wpAny_bind (wpAny_letGo ?_)
   rw[nm]
   refine wpAny_pure ⟨plainId_quiet PySem.F.plain_max_loop _,ih (j+1) _ u c (by omega) lt sv (by simp only[argBest,eb,Bool.false_eq_true,if_false];exact pj) gB' fun v' g' tk' p' k'=>?_⟩
   exact fin v' g' tk' p' fun b o b1 b2 e=>k' b o b1 b2 (kp b o b1 e)
theorem mx_first{kw:List (Str×Value)}{d:Value}(hkw:kw=[(("default":Str),d)])(Wk:Walks prog w A.in1 it fp wr m P St)(bt:Nat->Nat->Bool)(cmp:CmpOf prog w A.in1 .Gt P bt)(B:Addr)(nB:B∉fp){z:Shared}{c:Nat}(s0:St 0 z.heap)(gB:z.heap.get? B=some ⟨.type "list",none,.seq #[] c,#[]⟩)
  (fin:∀v h' tk,((m=0/\v=d)∨(0<m/\P (argBest bt (m-1)) v))->(∀b o,b∉wr->b≠B->z.heap.get? b=some o->h'.get? b=some o)->R (.ok (.ret v)) { z with heap:=h',toks:=tk }) :
  codeAny (model prog w) A (.builtin "max.loop" ⟨[.ref it,.none,.ref B],kw⟩) R z:=by
 subst hkw
 have nW:B∉wr:=fun h=>nB (Wk.sub _ h)
 have nm:(toString "max" ++ toString ".loop":String)="max.loop":=by decide
 refine codeAny_builtin PySem.F.entry_max_loop ?_
 rw[Around.under_plainId PySem.F.plain_max_loop _]
 show wpAny _ A.in1 (seqItems? (.ref B) >>= _) _ _ z
 refine wpAny_bind (wpAny_seqItems gB rfl ?_)
 show wpAny _ A.in1 (tryCatch (pyNext (.ref it)) _ >>= _) _ _ z
 by_cases e0:m=0
 ·refine wpAny_bind (wpAny_tryCatch (Wk.done z _ _ (e0 ▸ s0) fun g tk kp=>?_))
  show wpAny _ A.in1 (rule _ >>= _) _ _ _
  refine wpAny_bind (wpAny_rule (wpAny_pure ?_))
  exact fin d g tk (.inl ⟨e0,rfl⟩) fun b o b1 _ e=>kp b o b1 e
 ·refine wpAny_bind (wpAny_tryCatch (Wk.item 0 z _ _ (by omega) s0 fun v g tk pv sv kp=>?_))
  have gB':=kp B _ nW gB
  show wpAny _ A.in1 (updateSeq B (fun _=>#[v,v]) >>= _) _ _ _
  refine wpAny_bind ?_
  refine wpAny_updateSeq gB' rfl ?_
  rw[nm]
  refine wpAny_pure ⟨plainId_quiet PySem.F.plain_max_loop _,mx_loop Wk bt cmp B nB _ 0 _ v _ rfl (by omega) (Wk.frame _ _ _ sv fun b bf o e=>?_) pv (Heap.get?_update_self _ gB' rfl) fun v' g' tk' p' k'=>?_⟩
  ·exact(Heap.get?_update_other _ _ (fun q:B=b=>nB (by rw[q];exact bf))).trans e
  ·exact fin v' g' tk' (.inr ⟨by omega,p'⟩) fun b o b1 b2 e=>k' b o b1 b2 ((Heap.get?_update_other _ _ (Ne.symm b2)).trans (kp b o b1 e))
theorem args_mx(a d:Value):argsOk "max" ⟨[a],[(("default":Str),d)]⟩:=by unfold argsOk;kernel_rfl
theorem call_tree_kw{E:Value->Shared->Prop}{s:Shared}{id:String}{b:Builtin}{as:List Value}{kw:List (Str×Value)}{Q:Value->Shared->Prop}(hk:builtinKind id=none)(hp:plainId id=true)(hb:entryFor table id=some b)(ha:argsOk id ⟨as,kw⟩)
  (hc:wpAny (model prog w) A.in1 (b ⟨as,kw⟩) (fun fin s'=>match fin with
   |.done f=>(match(Except.ok f:Result) with | .ok (.ret v)=>Q v s' | .ok _=>False | .error e=>E e s')
   |.again c=>c.quiet=true/\codeAny (model prog w) A c (fun r s'=>match r with | .ok (.ret v)=>Q v s' | .ok _=>False | .error e=>E e s') s') E s):wpAny (model prog w) A (call (.builtin id) as kw) Q E s:=by
 refine wpAny_call (codeAny_call_builtin hp hb ?_)
 simp only[checkBuiltinCall,hk]
 cases sg:Manifest.signature? id with
 |none=>exact wpAny_pure hc
 |some sig =>
  simp only[argsOk,sg]at ha
  have h2:Bind.checkArgs id sig ⟨as,kw⟩=pure ():=ha
  show wpAny _ A.in1 (Bind.checkArgs id sig ⟨as,kw⟩) _ _ s
  rw[h2]
  exact wpAny_pure hc
theorem max_default{E:Value->Shared->Prop}{s:Shared}{l:Addr}{xs:Array (Int×Tok)}{d:Value}{Q:Value->Shared->Prop}(hh:A.handled=none)(hl:s.heap.IsList l (intItems xs))
  (h:∀v h' tk,((xs.size=0/\v=d)∨(0<xs.size/\(intItems xs)[argBest (fun i j=>decide (numAt xs i>numAt xs j)) (xs.size-1)]? = some v))->(∀b o,s.heap.get? b=some o->h'.get? b=some o)->Q v { s with heap:=h',toks:=tk }) :
  wpAny (model prog w) A (call (.builtin "max") [.ref l] [(("default":Str),d)]) Q E s:=by
 have nm:(toString "max" ++ toString ".loop":String)="max.loop":=by decide
 refine call_tree_kw PySem.F.kind_max PySem.F.plain_max PySem.F.entry_max (args_mx _ _) ?_
 show wpAny _ A.in1 (Builtin.Builtins.bindParams "max" ["key","default"] 0 ⟨[],[(("default":Str),d)]⟩ >>= _) _ _ s
 refine wpAny_bind (wpAny_of_eq (show Builtin.Builtins.bindParams "max" ["key","default"] 0 ⟨[],[(("default":Str),d)]⟩=pure [none,some d] from rfl) ?_)
 refine wpAny_bind (wpAny_pure ?_)
 refine wpAny_bind (iter_intList hl fun s₂ e st hfp hlI=>?_)
 subst e
 refine wpAny_bind (wpAny_newObj_type ?_)
 rw[nm]
 have Wk:=Walks.list (prog:=prog) (w:=w) (A:=A.in1) hh _ l hlI (intItems xs)
 refine wpAny_pure ⟨plainId_quiet PySem.F.plain_max_loop _,mx_first (d:=d) (kw:=[(("default":Str),d)]) rfl Wk (fun i j=>decide (numAt xs i>numAt xs j)) (CmpOf.ints_gt (numAt xs) (fun _ _=>intItems_at)) _ (fun hm=>Nat.lt_irrefl _ (hfp _ hm)) (Wk.frame _ _ _ st fun b _ o e=>Heap.get?_push_of_some _ e) (Heap.get?_push_size _ rfl) ?_⟩
 intro v h' tk hv hk
 refine h v h' tk (by simpa[intItems] using hv) fun b o e=>?_
 have lt:=Heap.lt_size e
 refine hk b o (by simpa using Nat.ne_of_lt lt) ?_ (Heap.get?_push_of_some _ (Heap.get?_push_of_some _ e))
 show b≠(s.heap.push _).objs.size
 rw[Heap.size_push]
 exact Nat.ne_of_lt (Nat.lt_succ_of_lt lt)
end
end L2
namespace Seek
open PySem PySem.Spec PyProof.Rows L2
section
variable{X:Cx}
def tMaxD(K:W.Frag)(t tk:TA):TE:=fun σ H Q=>t σ H fun vs H1=>tk σ H1 fun zs H2=>∃(l:Addr) (ns:List Int) (z:V),vs=[.ref l]/\zs=[z]/\SqL K H2 l (ns.map V.int)/\Q (if ns=[] then z else .int (mxL ns)) H2
theorem pe_maxD{e d:Expr}{t tk:TA}{p pos kp:Pos}(hc:X.calm=true)(hg:Gl X "max")(hm:X.mg "max" = none)(ha:PA X [e] t)(hk:PK X [⟨some "default",d,kp⟩] tk)(he:backTo pos (starEach [e] X.env)=(false,eval e X.env)::backTo pos (starEach [] X.env):=by rfl)(hpl:(backTo pos (starEach [e] X.env)).any (·.1)=false:=by rfl) :
  PE X (.Call (.Name "max" p) [e] [⟨some "default",d,kp⟩] pos) (tMaxD X.K t tk):=by
 intro pins s σ H Q I h
 refine wpAny_Call_Name_kw (ld_blt I hg hm PyProof.Rows.Boot.«max» ?_)
 refine PyProof.Rows.callWith_kw (thn (ha pos pins s σ H _ I h) fun us s1 ⟨vs,H1,I1,r,q⟩=>thn (hk pos pins s1 σ H1 _ I1 q) fun ws s2 ⟨zs,H2,I2,rz,l,ns,z,ev,ez,hl,q2⟩=>?_) he hpl
 subst ev ez
 obtain⟨u,rfl,ru⟩:=vals1 r
 obtain⟨y,rfl,ry⟩:=vals1 rz
 obtain rfl:u=Value.ref l:=ru
 obtain⟨its,rv,pl,hz⟩:=I2.list hl
 obtain⟨ps,e1,e2⟩:=toks_of rv
 have hlist:s2.heap.IsList l (intItems ps.toArray):=by
  have e:intItems ps.toArray=its.toArray:=by rw[e1];simp[intItems]
  rw[e];exact pl.isList
 have hlen:ps.length=ns.length:=by rw[← e2,List.length_map]
 refine max_default (d:=y) (I2.ok.hd hc) hlist fun v h' tk hv hk=>?_
 rcases hv with⟨h0,rfl⟩ | ⟨h0,hv⟩
 ·have hn:ns=[]:=List.length_eq_zero_iff.mp (by rw[← hlen];simpa using h0)
  rw[if_pos hn]at q2
  exact⟨z,H2,I2.kept hk,ry,q2⟩
 ·have hn:ns≠[]:=fun e=>by rw[e]at hlen;simp[hlen]at h0
  rw[if_neg hn]at q2
  obtain⟨t,e⟩:=item_of e2 hv
  rw[numAt_of e2,show ps.toArray.size=ns.length by simp[hlen]]at e
  exact⟨.int (mxL ns),H2,I2.kept hk,⟨t,e⟩,q2⟩
end
theorem lk_neg{x y:Str}{v:V}{l:List (Str×V)}(h:(x==y)=false):((y,v)::l).lookup x=l.lookup x:=by rw[List.lookup_cons,h]
theorem lk_pos{x:Str}{v:V}{l:List (Str×V)}:((x,v)::l).lookup x=some v:=by simp
theorem pf_neg{x y:Str}{v u:V}{l:List (Str×V)}(h:¬y=x):putF x v ((y,u)::l)=(y,u)::putF x v l:=by
 show(if y=x then(y,v)::l else(y,u)::putF x v l)=_
 rw[if_neg h]
theorem pf_pos{x:Str}{v u:V}{l:List (Str×V)}:putF x v ((x,u)::l)=(x,v)::l:=by
 show(if x=x then(x,v)::l else(x,u)::putF x v l)=_
 rw[if_pos rfl]
theorem Gro.ins{S:List Addr}{H:Hp}{p C dx:Addr}{fs:List (Str×V)}(hp:p∈S)(h:H p=some (.ins C dx fs))(o:HO):Gro S H (upd H p o) :=
 ⟨fun b u q hb=>by rw[upd_ne (fun z=>hb (by rw[z];exact hp))];exact q,fun b ys q=>by rw[upd_ne (ne_of q h (by intro z;cases z))];exact q⟩
structure OwnM(P:Program)(w:World)(K:W.Frag)(mg:Str->Option Value)(base:Heap)(k:Nat)(C:Addr)(m:Str)(ps:List Str)(sp:Sp):Prop where
 ex:∃f fd,FnOk P w K mg base CX0 k f fd ps sp/\Meth K C m f/\Binds K fd ps []
theorem OwnM.mono{P:Program}{w:World}{K:W.Frag}{mg:Str->Option Value}{base:Heap}{j k:Nat}{C:Addr}{x:Str}{ps:List Str}{sp:Sp}(O:OwnM P w K mg base j C x ps sp)(h:j<=k):OwnM P w K mg base k C x ps sp:=by
 obtain⟨f,fd,F,r⟩:=O.ex
 exact⟨f,fd,F.mono h,r⟩
theorem pe_ownm{X:Cx}{k:Nat}{C:Addr}{m:Str}{ps:List Str}{sp:Sp}{o e:Expr}{es:List Expr}{ta:TE}{t:TA}{apos pos:Pos}{pl:Sem Bool}(O:OwnM X.prog X.w X.K X.mg X.base k C m ps sp)(c:Cls X.K C)(hr:Room k X.A)(he:PE X o ta)(ha:PA X (e::es) t)
  (hst:starEach (e::es) X.env=(false,eval e X.env)::starEach es X.env:=by rfl) (hpl:(backTo pos (starEach es X.env)).any (·.1)=false:=by rfl)
  (ht:eval (.Call (.Attribute o m apos) (e::es) [] pos) X.env=(do
   let ov ← eval o X.env
   standAt apos.atName
   let(f,first) ← holding [ov] (getMethod ov m pl)
   callWith pos f first (backTo pos (starEach (e::es) X.env)) (backToKw pos (keywordEach [] X.env))):=by rfl):PE X (.Call (.Attribute o m apos) (e::es) [] pos) (tMeth C m sp [] E0 ta t):=by
 obtain⟨f,fd,F,hm,hb⟩:=O.ex
 exact pe_meth he c hm F hr hb .nil pass0 ha hst hpl ht
theorem pe_ownm0{X:Cx}{k:Nat}{C:Addr}{m:Str}{ps:List Str}{sp:Sp}{o:Expr}{ta:TE}{apos pos:Pos}{pl:Sem Bool}(O:OwnM X.prog X.w X.K X.mg X.base k C m ps sp)(c:Cls X.K C)(hr:Room k X.A)(he:PE X o ta)
  (ht:eval (.Call (.Attribute o m apos) [] [] pos) X.env=(do
   let ov ← eval o X.env
   standAt apos.atName
   let(f,first) ← holding [ov] (getMethod ov m pl)
   callWith pos f first (backTo pos (starEach [] X.env)) (backToKw pos (keywordEach [] X.env))):=by rfl):PE X (.Call (.Attribute o m apos) [] [] pos) (tMeth C m sp [] E0 ta tNil):=by
 obtain⟨f,fd,F,hm,hb⟩:=O.ex
 exact pe_meth0 he c hm F hr hb .nil pass0 ht
structure OwnC(P:Program)(w:World)(K:W.Frag)(mg:Str->Option Value)(base:Heap)(k:Nat)(C:Addr)(x:Str)(ps:List Str)(sp:Sp):Prop where
 ex:∃f fd,FnOk P w K mg base CX0 k f fd ps sp/\Mk K C f/\mg x=some (.ref C)/\Binds K fd ps []
end Seek
namespace L2
open PySem PySem.Spec PyProof.Rows
section
variable{X:Cx}
end
end L2
namespace Seek
open PySem PySem.Spec PyProof.Rows L2
theorem OwnC.mono{P:Program}{w:World}{K:W.Frag}{mg:Str->Option Value}{base:Heap}{j k:Nat}{C:Addr}{x:Str}{ps:List Str}{sp:Sp}(O:OwnC P w K mg base j C x ps sp)(h:j<=k):OwnC P w K mg base k C x ps sp:=by
 obtain⟨f,fd,F,r⟩:=O.ex
 exact⟨f,fd,F.mono h,r⟩
theorem pe_ownc{X:Cx}{k:Nat}{C:Addr}{x:Str}{ps:List Str}{sp:Sp}{p pos:Pos}{e:Expr}{es:List Expr}{t:TA}(O:OwnC X.prog X.w X.K X.mg X.base k C x ps sp)(hr:Room (k+1) X.A)(hg:Gl X x)(ha:PA X (e::es) t)
  (hdb:(x==("__debug__":Str))=false:=by decide) (he:starEach (e::es) X.env=(false,eval e X.env)::starEach es X.env:=by rfl) (hpl:(backTo pos (starEach es X.env)).any (·.1)=false:=by rfl) :
  PE X (.Call (.Name x p) (e::es) [] pos) (tMake C sp [] E0 t):=by
 obtain⟨f,fd,F,M,hm,hb⟩:=O.ex
 exact pe_make M F hr hg hm hb .nil pass0 ha hdb he hpl
end Seek
namespace L2
open PySem PySem.Spec PyProof.Rows
def sub(x:Str)(a b:Nat):Str:=⟨((x.cps.toList.drop a).take (b-a)).toArray⟩
theorem clip1{k:Int}{L:Nat}(h:0<=k):min k (L:Int)=min ((min k.toNat L:Nat):Int) (L:Int):=by
 obtain⟨a,rfl⟩:=Int.eq_ofNat_of_zero_le h
 rw[Int.toNat_natCast]
 by_cases e:a<=L
 ·rw[Nat.min_eq_left e]
 ·rw[Nat.min_eq_right (Nat.le_of_not_le e),Int.min_eq_right (Int.ofNat_le.mpr (Nat.le_of_not_le e)),Int.min_self]
theorem lt_of_min{a b L:Nat}(h:¬min a L<=min b L):b<a/\b<L:=by omega
theorem slice_sub{x:Str}{i j:Int}(h0:0<=i)(h1:0<=j):Txt.slice x (some i) (some j)=sub x i.toNat j.toNat:=by
 have hl:x.cps.toList.length=x.length:=by simp[Str.length]
 have clip:Builtin.Str.strSliceIndices (some i) (some j) 1 x.length=Builtin.Str.strSliceIndices (some ((min i.toNat x.length:Nat):Int)) (some ((min j.toNat x.length:Nat):Int)) 1 x.length:=by
  unfold Builtin.Str.strSliceIndices
  have e1:¬i<0:=by omega
  have e2:¬j<0:=by omega
  have e3:¬((min i.toNat x.length:Nat):Int)<0:=Int.not_lt.mpr (Int.natCast_nonneg _)
  have e4:¬((min j.toNat x.length:Nat):Int)<0:=Int.not_lt.mpr (Int.natCast_nonneg _)
  simp only[e1,e2,e3,e4,if_false,show(1:Int)>0 by decide,if_true]
  congr 1 <;> rw[clip1 (by assumption)]
 have ed:(x.cps.toList.drop (min i.toNat x.length)).take (min j.toNat x.length-min i.toNat x.length)=(x.cps.toList.drop i.toNat).take (j.toNat-i.toNat):=by
  by_cases hi:i.toNat<=x.length
  ·rw[Nat.min_eq_left hi]
   by_cases hj:j.toNat<=x.length
   ·rw[Nat.min_eq_left hj]
   ·rw[Nat.min_eq_right (by omega),List.take_of_length_le (by rw[List.length_drop];omega),List.take_of_length_le (by rw[List.length_drop];omega)]
  ·have e5:min i.toNat x.length=x.length:=by omega
   rw[e5,List.drop_of_length_le (show x.cps.toList.length<=x.length by omega),List.drop_of_length_le (show x.cps.toList.length<=i.toNat by omega)]
   simp
 by_cases hab:min i.toNat x.length<=min j.toNat x.length
 ·have e:Txt.slice x (some i) (some j)=StrLaws.sliceText x (some ((min i.toNat x.length:Nat):Int)) (some ((min j.toNat x.length:Nat):Int)):=by
   unfold Txt.slice StrLaws.sliceText
   rw[clip]
  rw[e,StrLaws.sliceText_nat x hab (Nat.min_le_right _ _),ed]
  rfl
 ·have em:Builtin.Str.strSliceIndices (some i) (some j) 1 x.length=[]:=by
   rw[clip]
   unfold Builtin.Str.strSliceIndices sliceRange
   have e3:¬((min i.toNat x.length:Nat):Int)<0:=Int.not_lt.mpr (Int.natCast_nonneg _)
   have e4:¬((min j.toNat x.length:Nat):Int)<0:=Int.not_lt.mpr (Int.natCast_nonneg _)
   simp only[e3,e4,if_false,show(1:Int)>0 by decide,if_true]
   rw[if_neg (by omega)]
   rfl
  have hlt:j.toNat-i.toNat=0:=Nat.sub_eq_zero_of_le (Nat.le_of_lt (lt_of_min hab).1)
  have hp:0<x.length:=Nat.lt_of_le_of_lt (Nat.zero_le _) (lt_of_min hab).2
  unfold Txt.slice sub
  rw[em,hlt,if_neg (by simp;omega)]
  simp
theorem slice_to{x:Str}{j:Int}(h1:0<=j):Txt.slice x none (some j)=sub x 0 j.toNat:=by
 have e:Txt.slice x none (some j)=Txt.slice x (some 0) (some j):=by unfold Txt.slice;rw[StrLaws.sliceIdx_none_lo]
 rw[e,slice_sub (Int.le_refl 0) h1]
 rfl
theorem slice_from{x:Str}{i:Int}(h0:0<=i):Txt.slice x (some i) none=sub x i.toNat x.length:=by
 have e:Txt.slice x (some i) none=Txt.slice x (some i) (some (x.length:Int)):=by unfold Txt.slice;rw[StrLaws.sliceIdx_none_hi]
 rw[e,slice_sub h0 (by omega)]
 rfl
def rSlS:V->Option Int->Option Int->Hp->VK->Prop:=fun x lo hi H Q=>∃z:Str,x=.str z/\z.length<=sizeLine/\Q (.str (Txt.slice z lo hi)) H
section
variable{X:Cx}
theorem sl_str:SlR X rSlS:=by
 intro pins s σ H x v vl vu lo hi sl Q I rx hs pl pu h
 obtain⟨z,rfl,hz,q⟩:=h
 obtain⟨t,rfl⟩:=rx
 have part:∀ {v:Value} {o:Option Int},IsPart v o->∃p:Option (Int×Tok),v=partValue p/\p.map (·.1)=o:=by
  intro v o h
  cases h with
  |none=>exact⟨none,rfl,rfl⟩
  |int i t=>exact⟨some (i,t),rfl,rfl⟩
 obtain⟨l,rfl,rfl⟩:=part pl
 obtain⟨u,rfl,rfl⟩:=part pu
 exact⟨"str",_,F.slot_str_getitem.lookup,typeIs_str _ _ _,wpAny_getItem_str_slice (l:=l) (u:=u) (st:=none) hs rfl (post_val_or_str ⟨Nat.le_trans (Txt.slice_le z _ _) hz,fun t' k=>⟨.str _,H,I.tok _,⟨_,rfl⟩,q⟩⟩)⟩
end
end L2
namespace HT
open PySem PySem.Spec PyProof.Rows
section
variable{prog:Program}{w:World}{A:Around}{E:Value->Shared->Prop}{s:Shared}
end
end HT
namespace L2
open PySem PySem.Spec PyProof.Rows
section
variable{X:Cx}
end
end L2
namespace Seek
open PySem PySem.Spec PyProof.Rows L2
inductive Rw where
 |pat (h:Hd) | tup (xs:List V)
abbrev Cd:=Nat->List Rw
def goes:List Cd->Nat->Nat->List Nat
 | [],_,_=>[]
 | [_],_,_=>[]
 |c::d::cs,b,s=>(s+1+(c (b+1)).length)::goes (d::cs) (b+(c (b+1)).length+2) (s+(c (b+1)).length+2)
abbrev itself:List V:=[.str "sign",.str "any",.str "in",.str "out",.str "begin",.str "end",.str "again"]
theorem chr_at{t:Str}{i:Int}(h0:0<=i)(h1:i<t.length):atI t.cps.toList i=some (t.cps.toList.getD i.toNat 0):=by
 have hl:i.toNat<t.cps.toList.length:=by
  have:t.cps.toList.length=t.length:=by simp[Str.length]
  omega
 have:=atI_nat (xs:=t.cps.toList) (j:=i.toNat) (v:=t.cps.toList.getD i.toNat 0) (by rw[List.getD_eq_getElem?_getD,List.getElem?_eq_getElem hl];rfl)
 rw[Int.toNat_of_nonneg h0]at this
 exact this
abbrev En:=Option (Nat×Nat)
inductive Op where
 |pat (h:Hd) | try_ (z:Nat) | go (z:Nat) | have_ (k:Int) (z:Nat) | turns | open_ | close (k:Int) | turn (lo:Int) (hi:Option Int) (how:How) (z:Nat) | next (lo:Int) (z:Nat)
 |once | kept | peeked | bar (z:Nat) | barred | lean | here | found
section
variable{es:List Op}{t:Str}{n:Nat}
variable{e:Nat}{h:Hl}{cs:List Ch}
end
abbrev stroked:Str:="\\.[](){}<>|^$&~"
abbrev strokedR:Str:="\\[]^-"
def within(i j:Str):Bool:=!(Builtin.Str.occurrences j i 0 j.length 1).isEmpty
def sg(s st:Str):Str:=if within s st=true then "\\" ++ s else s
def runT(r:Str×Str):Str:=if decide (V.str r.1=V.str r.2)=true then sg r.1 strokedR else(sg r.1 strokedR++"-")++sg r.2 strokedR
def num(i:Int):Str:=toString i
def How.sign:How->Str
 |.much=>"" |.little=>"?" |.keep=>"!"
def hiT:Option Int->Str
 |some h=>num h
 |none=>""
def turnsT(lo:Int)(hi:Option Int)(how:How):Str:=(((("{" ++ num lo)++",")++hiT hi)++how.sign)++"}"
abbrev wrapRow:List V:=[.str "or"]
abbrev wrapTimes:List V:=[.str "row",.str "or",.str "times"]
def wrT(ws:List V)(q:Str×Str):Str:=if inV (.str q.1) ws=true then("<:" ++ q.2)++">" else q.2
def Lk.sign:Lk->Str
 |.once=>"!" |.ahead=>"+" |.notahead=>"-" |.behind=>"*" |.notbehind=>"/"
def q0(qs:List (Str×Str)):Str×Str:=qs.headD ("","")
def Hd.txt(h:Hd)(qs:List (Str×Str)):Str:=match h with
 |.sign s=>sg s stroked | .any=>"." |.beg=>"^" |.fin=>"$"
 |.inn rs=>("[" ++ Txt.join "" (rs.map runT))++"]" |.out rs=>("[^" ++ Txt.join "" (rs.map runT))++"]"
 |.row=>Txt.join "" (qs.map (wrT wrapRow)) | .alt=>Txt.join "|" (qs.map (·.2))
 |.times lo hi how=>wrT wrapTimes (q0 qs)++turnsT lo hi how
 |.grp _=>("(" ++ (q0 qs).2)++")" |.again k=>"&" ++ num k
 |.hav k=>(((("<" ++ num k)++(q0 qs).2)++"~")++(q0 qs.tail).2)++">"
 |.look l=>(("<" ++ l.sign)++(q0 qs).2)++">"
def Pat.word:Pat->Str
 |.node h _=>h.word
mutual
def Pat.txt:Pat->Str
 |.node h ks=>h.txt (txtL ks)
def txtL:List Pat->List (Str×Str)
 | []=>[]
 |k::ks=>(k.word,k.txt)::txtL ks
end
def Pat.wt(p:Pat):Str×Str:=(p.word,p.txt)
theorem txtL_map(ks:List Pat):txtL ks=ks.map Pat.wt:=by
 induction ks with
 |nil=>rfl
 |cons k ks ih=>rw[txtL,ih];rfl
theorem txt_node(h:Hd)(ks:List Pat):(Pat.node h ks).txt=h.txt (ks.map Pat.wt):=by rw[Pat.txt,txtL_map]
theorem l_bs:("\\":Str).length=1:=by decide +kernel
theorem l_dash:("-":Str).length=1:=by decide +kernel
theorem l_lb:("{":Str).length=1:=by decide +kernel
theorem l_rb:("}":Str).length=1:=by decide +kernel
theorem l_comma:(",":Str).length=1:=by decide +kernel
theorem l_e:("":Str).length=0:=by decide +kernel
theorem l_q:("?":Str).length=1:=by decide +kernel
theorem l_x:("!":Str).length=1:=by decide +kernel
theorem l_lc:("<:":Str).length=2:=by decide +kernel
theorem l_gt:(">":Str).length=1:=by decide +kernel
theorem l_lt:("<":Str).length=1:=by decide +kernel
theorem l_dot:(".":Str).length=1:=by decide +kernel
theorem l_hat:("^":Str).length=1:=by decide +kernel
theorem l_dol:("$":Str).length=1:=by decide +kernel
theorem l_ls:("[":Str).length=1:=by decide +kernel
theorem l_lsh:("[^":Str).length=2:=by decide +kernel
theorem l_rs:("]":Str).length=1:=by decide +kernel
theorem l_bar:("|":Str).length=1:=by decide +kernel
theorem l_lp:("(":Str).length=1:=by decide +kernel
theorem l_rp:(")":Str).length=1:=by decide +kernel
theorem l_amp:("&":Str).length=1:=by decide +kernel
theorem l_til:("~":Str).length=1:=by decide +kernel
theorem num_len{i:Int}(h0:0<=i)(h1:i<=20):(num i).length<=2:=by
 have:i=0∨i=1∨i=2∨i=3∨i=4∨i=5∨i=6∨i=7∨i=8∨i=9∨i=10∨i=11∨i=12∨i=13∨i=14∨i=15∨i=16∨i=17∨i=18∨i=19∨i=20:=by omega
 rcases this with rfl | rfl | rfl | rfl | rfl | rfl | rfl | rfl | rfl | rfl | rfl | rfl | rfl | rfl | rfl | rfl | rfl | rfl | rfl | rfl | rfl <;> decide +kernel
theorem lg{i:Int}(h0:0<=i)(h1:i<=20):i.natAbs.log2<1920:=Nat.lt_of_le_of_lt (Nat.log2_le_self _) (by omega)
theorem hi_len{hi:Option Int}(h:∀x,hi=some x->0<=x/\x<=20):(hiT hi).length<=2:=by
 cases hi with
 |none=>decide +kernel
 |some x=>exact num_len (h x rfl).1 (h x rfl).2
theorem how_len(how:How):how.sign.length<=1:=by cases how <;> decide +kernel
theorem lk_len(l:Lk):l.sign.length=1:=by cases l <;> decide +kernel
theorem sg_len{s st:Str}(h:s.length=1):(sg s st).length<=2:=by
 unfold sg
 split
 ·rw[len_app,l_bs,h];omega
 ·omega
theorem run_len{r:Str×Str}(h1:r.1.length=1)(h2:r.2.length=1):(runT r).length<=5:=by
 have a:=sg_len (st:=strokedR) h1
 have b:=sg_len (st:=strokedR) h2
 unfold runT
 split
 ·omega
 ·rw[len_app,len_app,l_dash];omega
theorem wr_len(ws:List V)(q:Str×Str):(wrT ws q).length<=q.2.length+3:=by
 unfold wrT
 split
 ·rw[len_app,len_app,l_lc,l_gt];omega
 ·omega
def Hd.tame:Hd->Prop
 |.sign s=>s.length=1
 |.inn rs=>rs.length<=20/\∀r∈rs,r.1.length=1/\r.2.length=1
 |.out rs=>rs.length<=20/\∀r∈rs,r.1.length=1/\r.2.length=1
 |.times lo hi _=>0<=lo/\lo<=20/\∀h,hi=some h->0<=h/\h<=20
 |.again k=>0<=k/\k<=20
 |.hav k=>0<=k/\k<=20
 |_=>True
theorem RunsAt.tame{H:Hp}{r:Addr}{rs:List (Str×Str)}(h:RunsAt H r rs):rs.length<=20/\∀q∈rs,q.1.length=1/\q.2.length=1:=by
 obtain⟨vs,_,p,z⟩:=h
 refine⟨z,fun q hq=>?_⟩
 obtain⟨v,_,h1,h2,_⟩:=paired_mem p q hq
 exact⟨h1,h2⟩
theorem Lay.tame{H:Hp}{a:Addr}{kv:List V}:∀ {h:Hd},Lay H a h kv->h.tame
 |.sign _,⟨_,y,_⟩=>y
 |.any,_=>trivial
 |.inn _,⟨_,_,_,q⟩=>q.tame
 |.out _,⟨_,_,_,q⟩=>q.tame
 |.beg,_=>trivial
 |.fin,_=>trivial
 |.row,_=>trivial
 |.alt,_=>trivial
 |.times _ _ _,⟨x,_⟩=>x
 |.grp _,_=>trivial
 |.again _,⟨x,_⟩=>x
 |.hav _,⟨x,_⟩=>x
 |.look _,_=>trivial
theorem sum_le{α:Type}(f:α->Nat)(c:Nat):∀ {xs:List α},(∀x∈xs,f x<=c)->(xs.map f).sum<=xs.length*c
 | [],_=>by simp
 |x::xs,h=>by
  have h1:=h x (by simp)
  have h2:=sum_le f c (xs:=xs) fun y hy=>h y (by simp[hy])
  rw[List.map_cons,List.sum_cons,List.length_cons,Nat.add_mul]
  omega
theorem runs_sum{rs:List (Str×Str)}(h:rs.length<=20/\∀r∈rs,r.1.length=1/\r.2.length=1):((rs.map runT).map (·.length)).sum<=100:=by
 have:=sum_le (fun r=>(runT r).length) 5 (xs:=rs) fun r hr=>run_len (h.2 r hr).1 (h.2 r hr).2
 rw[List.map_map]
 show(rs.map fun r=>(runT r).length).sum<=100
 omega
theorem runs_join{rs:List (Str×Str)}(h:rs.length<=20/\∀r∈rs,r.1.length=1/\r.2.length=1):(Txt.join "" (rs.map runT)).length<=100:=by
 have h1:=len_join "" (rs.map runT)
 have h2:=runs_sum h
 rw[l_e]at h1
 omega
def Short(p:Pat):Prop:=p.txt.length+10<=150*p.size
theorem wr_sum(ws:List V):∀ {ks:List Pat},(∀k∈ks,Short k)->(((ks.map Pat.wt).map (wrT ws)).map (·.length)).sum+ks.length<=150*sizeL ks
 | [],_=>by simp[sizeL]
 |k::ks,h=>by
  have h1:=h k (by simp)
  have h2:=wr_sum ws (ks:=ks) fun y hy=>h y (by simp[hy])
  have h3:=wr_len ws k.wt
  simp only[List.map_cons,List.sum_cons,List.length_cons,sizeL]
  unfold Short at h1
  simp only[Pat.wt]at h2 h3 ⊢
  omega
theorem tx_sum:∀ {ks:List Pat},(∀k∈ks,Short k)->(((ks.map Pat.wt).map (·.2)).map (·.length)).sum+ks.length<=150*sizeL ks
 | [],_=>by simp[sizeL]
 |k::ks,h=>by
  have h1:=h k (by simp)
  have h2:=tx_sum (ks:=ks) fun y hy=>h y (by simp[hy])
  simp only[List.map_cons,List.sum_cons,List.length_cons,sizeL]
  unfold Short at h1
  simp only[Pat.wt]at h2 ⊢
  omega
theorem q0_len{ks:List Pat}(h:∀k∈ks,Short k):(q0 (ks.map Pat.wt)).2.length<=150*sizeL ks:=by
 cases ks with
 |nil=>exact Nat.le_trans (by decide +kernel) (Nat.zero_le _)
 |cons k ks =>
  have h1:=h k (by simp)
  unfold Short at h1
  show k.txt.length<=_
  rw[sizeL]
  omega
theorem short_node{h:Hd}{ks:List Pat}(ht:h.tame)(ih:∀k∈ks,Short k):Short (.node h ks):=by
 unfold Short
 rw[txt_node,size_node]
 have hq:=q0_len ih
 cases h with
 |sign s=>have:=sg_len (st:=stroked) ht;show(sg s stroked).length+10<=_;omega
 |any=>show(".":Str).length+10<=_;rw[l_dot];omega
 |beg=>show("^":Str).length+10<=_;rw[l_hat];omega
 |fin=>show("$":Str).length+10<=_;rw[l_dol];omega
 |inn rs=>have:=runs_join ht;simp only[Hd.txt,len_app,l_ls,l_rs];omega
 |out rs=>have:=runs_join ht;simp only[Hd.txt,len_app,l_lsh,l_rs];omega
 |row =>
  have h1:=len_join "" ((ks.map Pat.wt).map (wrT wrapRow))
  have h2:=wr_sum wrapRow ih
  rw[l_e]at h1
  show(Txt.join "" ((ks.map Pat.wt).map (wrT wrapRow))).length+10<=_
  omega
 |alt =>
  have h1:=len_join "|" ((ks.map Pat.wt).map (·.2))
  have h2:=tx_sum ih
  rw[l_bar]at h1
  simp only[List.length_map,Nat.mul_one]at h1
  show(Txt.join "|" ((ks.map Pat.wt).map (·.2))).length+10<=_
  omega
 |times lo hi how =>
  have h1:=wr_len wrapTimes (q0 (ks.map Pat.wt))
  have h2:=num_len ht.1 ht.2.1
  have h3:=hi_len ht.2.2
  have h4:=how_len how
  simp only[Hd.txt,turnsT,len_app,l_lb,l_rb,l_comma]
  omega
 |grp n=>simp only[Hd.txt,len_app,l_lp,l_rp];omega
 |again n=>have:=num_len ht.1 ht.2;simp only[Hd.txt,len_app,l_amp];omega
 |hav n =>
  have h2:=num_len ht.1 ht.2
  cases ks with
  |nil=>simp only[Hd.txt,q0,List.map_nil,List.headD_nil,List.tail_nil,len_app,l_lt,l_gt,l_til,l_e];omega
  |cons k r =>
   have h1:=ih k (by simp)
   have h3:=q0_len (ks:=r) fun z hz=>ih z (by simp[hz])
   unfold Short at h1
   simp only[Hd.txt,List.map_cons,List.tail_cons,len_app,l_lt,l_gt,l_til,sizeL]at h3 ⊢
   show 1+(num n).length+k.txt.length+1+_+1+10<=_
   omega
 |look l=>have:=lk_len l;simp only[Hd.txt,len_app,l_lt,l_gt];omega
theorem PatAt.short{H:Hp}:∀ {d:Nat} {v:V} {p:Pat},PatAt H d v p->Short p
 |0,_,_,h=>h.elim
 |d+1,v,.node h ks,⟨a,kv,e,l,p⟩=>short_node l.tame fun k hk=>by
  obtain⟨x,_,q⟩:=paired_mem p k hk
  exact PatAt.short q
theorem big2{n:Nat}(h:n<=16000000):n<=sizeLine:=by rw[sizeLine_eq];omega
abbrev bareT:List (Key×V):=[(.inr "any",.str "."),(.inr "begin",.str "^"),(.inr "end",.str "$")]
abbrev listsT:List (Key×V):=[(.inr "in",.str "["),(.inr "out",.str "[^")]
abbrev howsT:List (Key×V):=[(.inr "much",.str ""),(.inr "little",.str "?"),(.inr "keep",.str "!")]
abbrev bracketsT:List (Key×V):=[(.inr "once",.str "!"),(.inr "ahead",.str "+"),(.inr "notahead",.str "-"),(.inr "behind",.str "*"),(.inr "notbehind",.str "/")]
theorem hows_at(how:How):valV howsT (Sum.inr how.text)=some (.str how.sign):=by cases how <;> decide +kernel
theorem brackets_at(l:Lk):valV bracketsT (Sum.inr l.text)=some (.str l.sign):=by cases l <;> decide +kernel
end Seek
namespace L2
open PySem PySem.Spec PyProof.Rows
section
variable{X:Cx}{pins:List (Addr×Obj)}{σ:List (Option V)}{H H':Hp}{s:Shared}{h':Heap}
theorem call_int_txt:CallR X (.type "int") (fun xs H Q=>∃(x:Str) (n:Int),xs=[.str x]/\PySem.intText? x=some n/\x.length<=640/\Q (.int n) H):=by
 intro pins s σ H xs us Q I r h
 obtain⟨x,n,rfl,hi,hz,q⟩:=h
 obtain⟨u,rfl,t,rfl⟩:=vals1 r
 exact W.KIN.call_text hi hz ⟨.int n,H,I.tok _,⟨_,rfl⟩,q⟩
end
end L2
namespace Seek
open PySem PySem.Spec PyProof.Rows L2
def dgt(s:Str):Option Nat:=match s.cps.toList with
 | [c]=>if 48<=c/\c<=57 then some (c-48) else none
 |_=>none
abbrev digS:Str:="0123456789"
theorem one_of{s:Str}(h:s.length=1):∃c,s=⟨#[c]⟩:=by
 have hl:s.cps.toList.length=s.length:=by simp[Str.length]
 rw[h]at hl
 match hc:s.cps.toList,hl with
 | [c],_ =>
  refine⟨c,?_⟩
  obtain⟨⟨x⟩⟩:=s
  have:x=[c]:=hc
  rw[this]
theorem dgt_in{s:Str}(h:s.length=1):(!(Builtin.Str.occurrences digS s 0 digS.length 1).isEmpty)=(dgt s).isSome:=by
 obtain⟨c,rfl⟩:=one_of h
 rw[PySem.StrLaws.found_one]
 have e:digS.cps.toList=[48,49,50,51,52,53,54,55,56,57]:=by decide +kernel
 rw[e]
 show _=(if 48<=c/\c<=57 then some (c-48) else none).isSome
 by_cases hc:48<=c/\c<=57
 ·rw[if_pos hc]
  refine decide_eq_true ?_
  simp
  omega
 ·rw[if_neg hc]
  refine decide_eq_false ?_
  simp
  omega
theorem dgt_int{s:Str}{k:Nat}(h:dgt s=some k):PySem.intText? s=some (k:Int)/\s.length=1/\k<=9:=by
 unfold dgt at h
 split at h
 ·rename_i c hc
  split at h
  ·rename_i hr
   cases h
   have hs:s=⟨#[c]⟩:=by
    obtain⟨⟨x⟩⟩:=s
    have:x=[c]:=hc
    rw[this]
   have:c=48∨c=49∨c=50∨c=51∨c=52∨c=53∨c=54∨c=55∨c=56∨c=57:=by omega
   rcases this with rfl | rfl | rfl | rfl | rfl | rfl | rfl | rfl | rfl | rfl <;> (rw[hs];exact⟨by decide +kernel,rfl,by decide⟩)
  ·cases h
 ·cases h
def cs(x:Str):List Nat:=x.cps.toList
theorem cs_inj{x y:Str}(h:cs x=cs y):x=y:=by
 obtain⟨⟨a⟩⟩:=x
 obtain⟨⟨b⟩⟩:=y
 have:a=b:=h
 rw[this]
theorem cs_len(x:Str):(cs x).length=x.length:=by simp[cs,Str.length]
theorem cs_app(x y:Str):cs (x++y)=cs x++cs y:=by
 show(x.cps++y.cps).toList=_
 simp[cs]
theorem cs_sub(t:Str)(a b:Nat):cs (sub t a b)=((cs t).drop a).take (b-a):=rfl
def sgT(t:Str)(i:Nat):Str:=sub t i (i+1)
theorem sgT_end{t:Str}{i:Nat}(h:t.length<=i):sgT t i="":=by
 refine cs_inj ?_
 unfold sgT
 rw[cs_sub,List.drop_of_length_le (by rw[cs_len];exact h),List.take_nil]
 rfl
theorem sgT_len(t:Str)(i:Nat):(sgT t i).length<=1:=by
 rw[← cs_len,sgT,cs_sub,List.length_take]
 omega
end Seek
namespace L2
open PySem PySem.Spec PyProof.Rows
def Itk(ks:List V):It:=⟨fun i _=>i<ks.length,fun i H x H'=>H'=H/\ks[i]? = some x,fun i _=>ks.length<=i⟩
theorem relK{k:Key}{v:Value}(h:keyIs k v=true):RelV (kV k) v:=by
 cases k with
 |inl i =>
  cases v with
  |int j t =>
   have e:j=i:=by simpa[keyIs,Value.isInt] using h
   exact⟨t,by rw[e]⟩
  |_=>exact absurd h (by simp[keyIs,Value.isInt])
 |inr x =>
  cases v with
  |str y t =>
   have e:y=x:=by simpa[keyIs,Value.isStrOf] using h
   exact⟨t,by rw[e]⟩
  |_=>exact absurd h (by simp[keyIs,Value.isStrOf])
structure DcE(K:W.Frag)(w:World)(a:Addr)(kvs:List (Key×V))(ep:Nat):Prop where
 nsm:(a==sysModules)=false
 ex:∃(o:Obj) (es:Array DictEntry),K.lookup a=some o/\o.ExactDict/\o.data=.dict es ep/\Paired (DEnt w) es.toList kvs/\(kvs.map (·.1)).Nodup
theorem DcK.e{K:W.Frag}{w:World}{a:Addr}{kvs:List (Key×V)}(h:DcK K w a kvs):∃ep,DcE K w a kvs ep:=by
 obtain⟨n,o,es,ep,l,x,d,p,nd⟩:=h
 exact⟨ep,n,o,es,l,x,d,p,nd⟩
theorem Inv.dcE{X:Cx}{pins:List (Addr×Obj)}{σ:St}{H:Hp}{s:Shared}{a:Addr}{kvs:List (Key×V)}{ep:Nat}(I:Inv X pins σ H s)(h:DcE X.K X.w a kvs ep):∃vs:List (Key×Value),vs.map (·.1)=kvs.map (·.1)/\s.heap.DictAt (mixKind X.prog X.w) a vs ep:=by
 obtain⟨_,o,es,l,x,d,p,nd⟩:=h
 obtain⟨vs,r,pr,m,k⟩:=dent_pairs (P:=X.prog) p
 exact⟨vs,m,o,es,I.kIn a o l,x,d,fun e he=>k e (by simpa using he),pr,by rw[m];exact nd⟩
theorem turn_keys{P:Program}{w:World}{K:W.Frag}{tg:Expr}{a:Addr}(it:Addr){kvs:List (Key×V)}{ep:Nat}(h:DcE K w a kvs ep):Turn P w K tg (Itk (kvs.map fun p=>kV p.1)) [it] it (fun i h=>h.IsKeyIter it a i kvs.length ep) where
 mem:=by simp
 obj:=fun i h st b hb=>by
  have e:b=it:=by simpa using hb
  subst e
  obtain⟨o,e,c,d⟩:=st
  exact⟨o,e,fun v z=>by rw[d]at z;cases z⟩
 keep:=fun i h h' st k=>st.at fun o e=>k it (by simp) o e
 item:=by
  intro X hP hw hK hc i pins s σ H E I hf st hg
  subst hP hw hK
  obtain⟨vs,m,dd⟩:=I.dcE h
  obtain⟨f0,f1,f2,f3,f4,f5⟩:=hf it (by simp)
  have hl:vs.length=kvs.length:=by have:=congrArg List.length m;simpa using this
  have hi:i<kvs.length:=by simpa[Itk] using hg
  have hx:vs[i]? = some vs[i]:=List.getElem?_eq_getElem (by omega)
  rw[← hl]at st
  refine wpAny_pyNext_dict_item st dd (k:=(vs[i]).1) (v:=(vs[i]).2) hx fun key h' hkey hit' hs'=>?_
  have I1:Inv X pins σ H { s with heap:=h' }:=I.turned (t':=s.toks) (fun b o hb e=>hs'.extBut b o hb e) f0 f1 f3 f4 f5
  obtain⟨o,e,c,d⟩:=id hit'
  rw[hl]at hit'
  refine⟨key,rfl,go_of (s:={ s with heap:=h' }) e c d (by decide) ⟨kV (vs[i]).1,H,I1,relK hkey,⟨rfl,?_⟩,hit',fun b hb=>(hf b hb).1⟩⟩
  have:(vs.map (·.1))[i]? = (kvs.map (·.1))[i]?:=by rw[m]
  rw[List.getElem?_map,List.getElem?_map,hx,List.getElem?_eq_getElem hi]at this
  rw[List.getElem?_map,List.getElem?_eq_getElem hi]
  simp only[Option.map_some,Option.some.injEq]at this ⊢
  rw[this]
 done:=by
  intro X hP hw hK hc i pins s σ H E I hf st hg
  subst hP hw hK
  obtain⟨vs,m,dd⟩:=I.dcE h
  obtain⟨f0,f1,f2,f3,f4,f5⟩:=hf it (by simp)
  have hl:vs.length=kvs.length:=by have:=congrArg List.length m;simpa using this
  have hi:kvs.length<=i:=by simpa[Itk] using hg
  rw[← hl]at st
  exact wpAny_pyNext_dict_end (I.ok.hd hc) st dd (by simp;omega) fun h' eb=>⟨rfl,I.turned (t':=s.toks) (fun b o hb e=>eb b o hb e) f0 f1 f3 f4 f5⟩
 self:=fun _ _ _ _ _ st h=>wpAny_pyIter_keyiter st h
section
variable{X:Cx}{tg:Expr}
def iKeys(K:W.Frag)(w:World)(tl:TE):TI:=fun σ H R=>tl σ H fun x H1=>∃a kvs,x=.ref a/\DcK K w a kvs/\R (Itk (kvs.map fun p=>kV p.1)) H1
theorem pi_keys{l:Expr}{tl:TE}(hl:PE X l tl):PI X tg l (iKeys X.K X.w tl):=by
 intro pins s σ H R I h
 refine thn (hl pins s σ H _ I h) fun v s1 ⟨x,H1,I1,r1,q1⟩=>?_
 obtain⟨a,kvs,e,dc,q⟩:=q1
 subst e
 cases r1
 obtain⟨ep,de⟩:=dc.e
 obtain⟨vs,m,dd⟩:=I1.dcE de
 have hl:vs.length=kvs.length:=by have:=congrArg List.length m;simpa using this
 refine wpAny_pyIter_dict dc.1 dd ?_
 refine⟨s1.heap.objs.size,[s1.heap.objs.size],_,_,H1,rfl,I1.kept (t':=s1.toks) fun b o e=>Heap.get?_push_of_some _ e,turn_keys _ de,⟨_,Heap.get?_push_size _ rfl,rfl,by rw[hl];rfl⟩,fun b hb=>?_,q⟩
 have e:b=s1.heap.objs.size:=by simpa using hb
 subst e
 exact I1.fpOk (Nat.le_refl _) (I1.hok.fresh (Nat.le_refl _))
theorem for_keys{ks:List V}{g:TG}{tb:TS}{D:Ends}{σ:St}{H:Hp}(Pv:Nat->St->Hp->Prop)(h0:Pv 0 σ H)
  (hs:∀i x σ H,ks[i]? = some x->Pv i σ H->g x σ H fun σ2 H2=>tb { D with nx:=Pv (i+1),ct:=Pv (i+1),bk:=D.nx } σ2 H2) (hd:∀σ H,Pv ks.length σ H->D.nx σ H) :
  ∃W:Nat->Nat->St->Hp->Prop,(∃m,W 0 m σ H)/\∀i m σ H,W i m σ H ->
   ((Itk ks).stop i H/\D.nx σ H)∨((Itk ks).go i H/\∃N:St->Hp->Prop,(∀σ' H',N σ' H'->∃m',m'<m/\W (i+1) m' σ' H')/\∀x H',(Itk ks).yld i H x H'->g x σ H' fun σ2 H2=>tb { D with nx:=N,ct:=N,bk:=D.nx } σ2 H2):=by
 refine⟨fun i m σ H=>m=ks.length-i/\i<=ks.length/\Pv i σ H,⟨ks.length,by simp,Nat.zero_le _,h0⟩,?_⟩
 rintro i m σ H ⟨rfl,hi,p⟩
 by_cases hlt:i<ks.length
 ·refine .inr ⟨hlt,Pv (i+1),fun σ' H' q=>⟨ks.length-(i+1),by omega,rfl,by omega,q⟩,fun x H' y=>?_⟩
  obtain⟨e,y⟩:=y
  subst e
  exact hs i x σ H' y p
 ·have e:i=ks.length:=by omega
  subst e
  exact .inl ⟨Nat.le_refl _,hd σ H p⟩
end
def Its(x:Str):It:=⟨fun i _=>i<x.cps.size,fun i H v H'=>H'=H/\∃c,x.cps[i]? = some c/\v=.str ⟨#[c]⟩,fun i _=>x.cps.size<=i⟩
theorem turn_str{P:Program}{w:World}{K:W.Frag}{tg:Expr}(it:Addr)(x:Str)(t:Tok)(ty:String)(W:∀A':Around,A'.handled=none->Walks P w A' it [it] [it] x.cps.size (SignAt x) (fun i h=>h.IsStrIter it ty x t i))
  (slf:∀(A:Around) (i:Nat) (s:Shared) (Q:Value->Shared->Prop) (E:Value->Shared->Prop),s.heap.IsStrIter it ty x t i->Q (.ref it) s->wpAny (model P w) A (pyIter (.ref it)) Q E s)
  (hn:["enumerate","zip","dict_itemiterator","dict_reverseitemiterator","odict_iterator","itertools.zip_longest","itertools.pairwise"].contains ty=false):Turn P w K tg (Its x) [it] it (fun i h=>i<=x.cps.size/\h.IsStrIter it ty x t i) where
 mem:=by simp
 obj:=fun i h st b hb=>by
  have e:b=it:=by simpa using hb
  subst e
  obtain⟨o,e,c,d⟩:=st.2
  exact⟨o,e,fun v z=>by rw[d]at z;cases z⟩
 keep:=fun i h h' st k=>⟨st.1,let⟨o,ho,r⟩:=st.2;⟨o,k it (by simp) o ho,r⟩⟩
 item:=by
  intro X hP hw hK hc i pins s σ H E I hf st hg
  subst hP hw hK
  obtain⟨f0,f1,f2,f3,f4,f5⟩:=hf it (by simp)
  refine(W X.A (I.ok.hd hc)).item i s _ _ hg st.2 fun v h' tk hv st' kk=>?_
  obtain⟨c,u,hc,rfl⟩:=hv
  have I1:Inv X pins σ H { s with heap:=h',toks:=tk }:=I.turned (fun b o hb e=>kk b o (by simpa using hb) e) f0 f1 f3 f4 f5
  obtain⟨o,e,cl,d⟩:=id st'
  exact⟨_,rfl,go_of (s:={ s with heap:=h',toks:=tk }) e cl d hn ⟨.str ⟨#[c]⟩,H,I1,⟨u,rfl⟩,⟨rfl,c,hc,rfl⟩,⟨hg,st'⟩,fun b hb=>(hf b hb).1⟩⟩
 done:=by
  intro X hP hw hK hc i pins s σ H E I hf st hg
  subst hP hw hK
  obtain⟨f0,f1,f2,f3,f4,f5⟩:=hf it (by simp)
  have e:i=x.cps.size:=Nat.le_antisymm st.1 hg
  subst e
  exact(W X.A (I.ok.hd hc)).done s _ _ st.2 fun h' tk kk=>⟨rfl,I.turned (fun b o hb e=>kk b o (by simpa using hb) e) f0 f1 f3 f4 f5⟩
 self:=fun A i s Q E st h=>slf A i s Q E st.2 h
section
variable{X:Cx}{tg:Expr}
def iStr(tl:TE):TI:=fun σ H R=>tl σ H fun v H1=>∃x,v=.str x/\R (Its x) H1
theorem pi_str{l:Expr}{tl:TE}(hl:PE X l tl):PI X tg l (iStr tl):=by
 intro pins s σ H R I h
 refine thn (hl pins s σ H _ I h) fun v s1 ⟨x,H1,I1,r1,q1⟩=>?_
 obtain⟨x,e,q⟩:=q1
 subst e
 obtain⟨t,rfl⟩:=r1
 cases ha:x.cps.all (· < 128)
 ·refine wpAny_pyIter_wide ha ⟨s1.heap.objs.size,[s1.heap.objs.size],_,_,H1,rfl,I1.kept (t':=s1.toks) fun b o e=>Heap.get?_push_of_some _ e,turn_str _ x t "str_iterator" (fun A' hA=>Walks.strWide hA _ x t) (fun _ _ _ _ _ st h=>wpAny_pyIter_striter_wide st h) (by decide),⟨Nat.zero_le _,_,Heap.get?_push_size _ rfl,rfl,rfl⟩,fun b hb=>?_,q⟩
  have e:b=s1.heap.objs.size:=by simpa using hb
  subst e
  exact I1.fpOk (Nat.le_refl _) (I1.hok.fresh (Nat.le_refl _))
 ·refine wpAny_pyIter_ascii ha ⟨s1.heap.objs.size,[s1.heap.objs.size],_,_,H1,rfl,I1.kept (t':=s1.toks) fun b o e=>Heap.get?_push_of_some _ e,turn_str _ x t "str_ascii_iterator" (fun A' hA=>Walks.strAscii hA _ x t) (fun _ _ _ _ _ st h=>wpAny_pyIter_striter_ascii st h) (by decide),⟨Nat.zero_le _,_,Heap.get?_push_size _ rfl,rfl,rfl⟩,fun b hb=>?_,q⟩
  have e:b=s1.heap.objs.size:=by simpa using hb
  subst e
  exact I1.fpOk (Nat.le_refl _) (I1.hok.fresh (Nat.le_refl _))
theorem lc_str{x:Str}{σ:St}{te:TE}{Fin:List V->Hp->Prop}{H1:Hp}(Pv:Nat->List V->Hp->Prop)(h0:Pv 0 [] H1)(hz:x.cps.size<sizeLine)(hlen:∀i ys H,Pv i ys H->ys.length<=i)
  (hs:∀i ys H c,x.cps[i]? = some c->Pv i ys H->te (some (.str ⟨#[c]⟩)::σ) H fun v H2=>Pv (i+1) (ys++[v]) H2) (hd:∀ys H,Pv x.cps.size ys H->Fin ys H) :
  LCW (Its x) σ tYes te Fin H1:=by
 refine lc_gen (n:=x.cps.size) Pv h0 hz hlen (fun i ys H hi p=>hi) (fun ys H p=>Nat.le_refl _) (fun i ys H v H' hi p y=>?_) hd
 obtain⟨e,c,hc,rfl⟩:=y
 subst e
 exact hs i ys _ c hc p
end
end L2
namespace Seek
open PySem PySem.Spec PyProof.Rows L2
theorem pa_consT{X:Cx}{es' es:List Expr}{n:Nat}{pos':Pos}{te:TE}{t:TA}(ha:PE X (.Tuple es' n pos') te)(hr:PA X es t):PA X (.Tuple es' n pos'::es) (tCons te t):=pa_cons ha hr
theorem pa_consC{X:Cx}{es:List Expr}{c:Const}{n:Nat}{pos':Pos}{te:TE}{t:TA}(ha:PE X (.Constant c n pos') te)(hr:PA X es t):PA X (.Constant c n pos'::es) (tCons te t):=pa_cons ha hr
theorem pa_consN{X:Cx}{es:List Expr}{x:Str}{pos':Pos}{te:TE}{t:TA}(ha:PE X (.Name x pos') te)(hr:PA X es t):PA X (.Name x pos'::es) (tCons te t):=pa_cons ha hr
end Seek
namespace L2
open PySem PySem.Spec PyProof.Rows
structure Kp(fs xs:List Addr)(h h':Heap):Prop where
 keep:∀b o,h.get? b=some o->b∉fs->b∉xs->h'.get? b=some o
 slot:∀b o,h.get? b=some o->b∈fs->b∉xs->∃sl,h'.get? b=some { o with slots:=sl }
 there:∀b o,h.get? b=some o->∃o',h'.get? b=some o'
theorem Kp.trans{fs xs ys zs:List Addr}{h h1 h2:Heap}(a:Kp fs xs h h1)(b:Kp fs ys h1 h2)(hx:∀c∈xs,c∈zs)(hy:∀c∈ys,c∈zs∨h.get? c=none):Kp fs zs h h2:=by
 have ny:∀c o,h.get? c=some o->c∉zs->c∉ys:=fun c o e n z=>by
  rcases hy c z with y | y
  ·exact n y
  ·rw[e]at y;cases y
 refine⟨fun c o e f n=>b.keep c o (a.keep c o e f fun z=>n (hx c z)) f (ny c o e n),fun c o e f n=>?_,fun c o e=>?_⟩
 ·obtain⟨sl,e1⟩:=a.slot c o e f fun z=>n (hx c z)
  obtain⟨sl2,e2⟩:=b.slot c _ e1 f (ny c o e n)
  exact⟨sl2,e2⟩
 ·obtain⟨o1,e1⟩:=a.there c o e
  exact b.there c o1 e1
theorem Kp.weak{fs fs' xs:List Addr}{h h':Heap}(a:Kp fs xs h h')(hf:∀b∈fs,b∈fs'):Kp fs' xs h h':=by
 refine⟨fun c o e f n=>a.keep c o e (fun z=>f (hf c z)) n,fun c o e f n=>?_,a.there⟩
 by_cases z:c∈fs
 ·exact a.slot c o e z n
 ·exact⟨o.slots,a.keep c o e z n⟩
def Tr(h:Heap)(x:Addr)(vs:Array Value)(fl:Value):Option Addr->Prop
 |none=>vs[1]? = some .none
 |some T=>vs[1]? = some (.ref T)/\T≠x/\∃oT ts,h.get? T=some oT/\oT.data=.fields ts/\ts[3]? = some fl
structure Xa(h:Heap)(x:Addr)(cls fl:Value)(To:Option Addr):Prop where
 ex:∃oe vs,h.get? x=some oe/\(oe.cls=cls/\oe.dict=none/\oe.slots = #[])/\oe.data=.fields vs/\1<vs.size/\Tr h x vs fl To
theorem mapF_rest(o:Obj)(f:Array Value->Array Value):(o.mapFields f).dict=o.dict/\(o.mapFields f).slots=o.slots:=by
 obtain⟨c,d,dt,sl⟩:=o
 cases dt <;> exact⟨rfl,rfl⟩
section
variable{M:Model}{A:Around}{E:Value->Shared->Prop}{s:Shared}{base:Heap}{env:Env}{outer:List Env}{L x:Addr}{cls:Value}{To:Option Addr}{Q:Unit->Shared->Prop}
theorem fields_ne{h:Heap}{l:List Env}{b:Addr}{o:Obj}{vs:Array Value}(hl:h.FunFrames base l)(e:h.get? b=some o)(d:o.data=.fields vs):b∉frs l:=fun hm=>by
 obtain⟨_,o',e',n⟩:=hl.mem hm
 rw[e]at e'
 cases e'
 exact n vs d
theorem entry_ok{oe:Obj}{vs:Array Value}{head:Value}{hn:Bool}(hfr:A.frames=some (env::outer))(hl:s.heap.FunFrames base (env::outer))(hf:env.frame=some L)(he:s.heap.get? x=some oe)(hds:oe.dict=none/\oe.slots = #[])(hd:oe.data=.fields vs)(hsz:1<vs.size)
  (h:∀h',Kp (frs (env::outer)) [x] s.heap h'->Xa h' x oe.cls (rawInt L) (some s.heap.objs.size)->Q () { s with heap:=h' }) :
  wpAny M A (do let a ← frameOf env;let pl ← entryPlaceOf L hn;let b ← EntryCells.newEntry head a .none (rawInt L) .none pl;setField (.ref x) 1 b) Q E s:=by
 have hxf:=fields_ne hl he hd
 refine wpAny_bind (wpAny_frameOf_fun hfr hl hf fun h1 hs=>?_)
 refine wpAny_bind (wpAny_entryPlaceOf fun pl hpl=>?_)
 unfold EntryCells.newEntry newFields
 refine wpAny_bind (wpAny_newObj_type ?_ (hpl.sizeOk5 _ _ _ _ _))
 have e1:h1.get? x=some oe:=(hs.2.1 x hxf).trans he
 have e2:=fun o:Obj=>Heap.get?_push_of_some (h:=h1) o e1
 refine wpAny_setField (e2 _) hd hsz (h _ ?_ ?_)
 ·refine⟨fun b o e f n=>?_,fun b o e f n=>?_,fun b o e=>?_⟩
  ·rw[Heap.get?_update_other _ _ fun z=>n (by simp[z])]
   exact Heap.get?_push_of_some _ ((hs.2.1 b f).trans e)
  ·obtain⟨sl,q⟩:=hs.2.2 b o e
   refine⟨sl,?_⟩
   rw[Heap.get?_update_other _ _ fun z=>n (by simp[z])]
   exact Heap.get?_push_of_some _ q
  ·by_cases z:x=b
   ·subst z
    exact⟨_,Heap.get?_update_self _ (e2 _) (Obj.isFreed_of_fields (Obj.data_mapFields hd _))⟩
   ·obtain⟨sl,q⟩:=hs.2.2 b o e
    exact⟨_,by rw[Heap.get?_update_other _ _ z];exact Heap.get?_push_of_some _ q⟩
 ·have hne:h1.objs.size≠x:=Nat.ne_of_gt (Heap.lt_size e1)
  have hd3:=Obj.data_mapFields hd (·.setIfInBounds 1 (Value.ref h1.objs.size))
  refine⟨_,_,Heap.get?_update_self _ (e2 _) (Obj.isFreed_of_fields hd3),⟨Obj.cls_mapFields _ _,(mapF_rest _ _).1.trans hds.1,(mapF_rest _ _).2.trans hds.2⟩,hd3,by rw[Array.size_setIfInBounds];exact hsz,?_⟩
  rw[← hs.1]
  have eN:=fun o:Obj=>fun(z:o.isFreed=false)=>(Heap.get?_update_other (h1.push o) (Obj.mapFields (·.setIfInBounds 1 (Value.ref h1.objs.size))) (Ne.symm hne)).trans (Heap.get?_push_size _ z)
  refine⟨by simp[hsz],hne,_,_,eN _ rfl,rfl,?_⟩
  ·first | (simp;done) | (rcases hpl with rfl | ⟨_,_,_,_,_,_,_,rfl⟩ <;> simp)
theorem note_ok(hfr:A.frames=some (env::outer))(hl:s.heap.FunFrames base (env::outer))(hf:env.frame=some L)(hx:Xa s.heap x cls .none To)
  (h:∀h',Kp (frs (env::outer)) (x::To.toList) s.heap h'->Xa h' x cls (rawInt L) (some s.heap.objs.size)->Q () { s with heap:=h' }):wpAny M A (noteFrame (.ref x) env) Q E s:=by
 obtain⟨oe,vs,he,⟨rfl,hds⟩,hd,hsz,tr⟩:=hx.ex
 unfold noteFrame
 simp only[hf]
 cases To with
 |none =>
  have h1:vs[1]? = some Value.none:=tr
  refine wpAny_bind (wpAny_field he hd h1 ?_)
  rw[if_neg (by decide)]
  exact entry_ok hfr hl hf he hds hd hsz fun h' k xa=>h h' k xa
 |some T =>
  obtain⟨h1,hne,oT,ts,eT,dT,h3⟩:=tr
  refine wpAny_bind (wpAny_field he hd h1 ?_)
  rw[if_pos (show(Value.ref T != Value.none)=true from by simp)]
  refine wpAny_bind (wpAny_field eT dT h3 ?_)
  rw[if_neg (show ¬((Value.none==rawInt L)=true) from by simp[rawInt])]
  refine wpAny_bind (wpAny_setField eT dT (Array.getElem?_eq_some_iff.mp h3).1 ?_)
  have other:∀b,b≠T->(s.heap.update T (Obj.mapFields (·.setIfInBounds 3 Value.none))).get? b=s.heap.get? b:=fun b hb=>Heap.get?_update_other _ _ (Ne.symm hb)
  have eT2:=Heap.get?_update_self (Obj.mapFields (·.setIfInBounds 3 Value.none)) eT (Obj.isFreed_of_fields (Obj.data_mapFields dT _))
  have k0:Kp (frs (env::outer)) [T] s.heap (s.heap.update T (Obj.mapFields (·.setIfInBounds 3 Value.none))):=by
   refine⟨fun b o e f n=>(other b (by simpa using n)).trans e,fun b o e f n=>⟨o.slots,(other b (by simpa using n)).trans e⟩,fun b o e=>?_⟩
   by_cases z:b=T
   ·subst z;exact⟨_,eT2⟩
   ·exact⟨o,(other b z).trans e⟩
  have hl2:(s.heap.update T (Obj.mapFields (·.setIfInBounds 3 Value.none))).FunFrames base (env::outer):=hl.of_keeps fun b o e n=>⟨o,(other b fun z=>by subst z;rw[eT]at e;cases e;exact n ts dT).trans e,rfl⟩
  refine entry_ok (s:={ s with heap:=s.heap.update T (Obj.mapFields (·.setIfInBounds 3 Value.none)) }) hfr hl2 hf ((other x (Ne.symm hne)).trans he) hds hd hsz fun h' k xa=>h h' (k0.trans k (by simp) (by simp)) ?_
  have es:(s.heap.update T (Obj.mapFields (·.setIfInBounds 3 Value.none))).objs.size=s.heap.objs.size:=Heap.size_after_update ..
  rw[es]at xa
  exact xa
theorem flight_ok{T:Addr}{fl:Value}(hx:Xa s.heap x cls fl (some T))(h:∀h',Kp [] [T] s.heap h'->Xa h' x cls .none (some T)->Q () { s with heap:=h' }):wpAny M A (setFlight (.ref x) none) Q E s:=by
 obtain⟨oe,vs,he,⟨rfl,hds⟩,hd,hsz,h1,hne,oT,ts,eT,dT,h3⟩:=hx.ex
 have h3s:=(Array.getElem?_eq_some_iff.mp h3).1
 unfold setFlight
 refine wpAny_bind (wpAny_field he hd h1 ?_)
 rw[if_pos (show(Value.ref T != Value.none)=true from by simp)]
 refine wpAny_setField eT dT h3s (h _ ?_ ?_)
 ·refine⟨fun b o e f n=>?_,fun b o e f n=>absurd f (by simp),fun b o e=>?_⟩
  ·rw[Heap.get?_update_other _ _ fun z=>n (by simp[z])];exact e
  ·by_cases z:T=b
   ·subst z
    exact⟨_,Heap.get?_update_self _ eT (Obj.isFreed_of_fields (Obj.data_mapFields dT _))⟩
   ·exact⟨o,by rw[Heap.get?_update_other _ _ z];exact e⟩
 ·refine⟨oe,vs,?_,⟨rfl,hds⟩,hd,hsz,h1,hne,_,_,Heap.get?_update_self _ eT (Obj.isFreed_of_fields (Obj.data_mapFields dT _)),Obj.data_mapFields dT _,?_⟩
  ·rw[Heap.get?_update_other _ _ hne];exact he
  ·simp[h3s]
theorem leave_ok(hfr:A.frames=some (env::outer))(hl:s.heap.FunFrames base (env::outer))(hf:env.frame=some L)(hx:Xa s.heap x cls .none To)
  (h:∀h' T,s.heap.get? T=none->Kp (frs (env::outer)) (x::To.toList) s.heap h'->Xa h' x cls .none (some T)->Q () { s with heap:=h' }):wpAny M A (leaving env (.ref x)) Q E s:=by
 unfold leaving
 have hT:s.heap.get? s.heap.objs.size=none:=Heap.get?_none_of_le (Nat.le_refl _)
 refine wpAny_bind (note_ok hfr hl hf hx fun h1 k1 x1=>?_)
 exact flight_ok (s:={ s with heap:=h1 }) x1 fun h2 k2 x2=>h h2 _ hT (k1.trans (k2.weak (by simp)) (fun c hc=>hc) fun c hc=>.inr (by rw[List.mem_singleton.mp hc];exact hT)) x2
end
theorem ok_ex{P:Program}{w:World}{H:Hp}{h:Heap}{a:Addr}{o:HO}(x:ObjOk P w H h a o):∃u,h.get? a=some u:=by
 cases o with
 |lst xs=>obtain⟨_,_,_,_,e⟩:=x;exact⟨_,e⟩
 |tup xs=>obtain⟨_,_,_,_,e,_⟩:=x;exact⟨_,e⟩
 |dK kvs=>obtain⟨_,_,_,_,o,_,_,e,_⟩:=x;exact⟨_,e⟩
 |dT kvs=>obtain⟨_,_,_,_,o,_,_,e,_⟩:=x;exact⟨_,e⟩
 |set S n=>obtain⟨o,_,_,_,e,_⟩:=x;exact⟨_,e⟩
 |ins C dx fs=>obtain⟨_,_,_,e,_⟩:=x;exact⟨_,e⟩
 |own y=>exact x
 |xd fs=>obtain⟨_,⟨_,_,_,e,_⟩,_⟩:=x;exact⟨_,e⟩
 |rng lo hi=>obtain⟨_,_,_,e⟩:=x;exact⟨_,e⟩
 |frz ob u=>obtain⟨e,_⟩:=x;exact⟨_,e⟩
 |tbl ps=>exact⟨_,(show h.get? a=some _ from x)⟩
 |met f y=>exact⟨_,(show h.get? a=some _ from x)⟩
 |ext φ=>obtain⟨_,e,_⟩:=x;exact e
theorem HOk.none_of{P:Program}{w:World}{H:Hp}{h:Heap}{a:Addr}(x:HOk P w H h)(e:h.get? a=none):H a=none:=by
 cases q:H a with
 |none=>rfl
 |some u =>
  obtain⟨o,z⟩:=ok_ex (x a u q)
  rw[e]at z
  cases z
theorem hok_exc{P:Program}{w:World}{H:Hp}{h h':Heap}{fs xs:List Addr}(ok:HOk P w H h)(k:Kp fs xs h h')(hf:∀b∈fs,H b=none)(hx:∀c∈xs,H c=none):HOk P w H h':=fun a o e=>by
 refine(ok a o e).stay (fun b u c q=>?_) (fun _ q=>q) fun _ _ q=>q
 have t:∃o',H b=some o':=by
  rcases c with rfl | c
  ·exact⟨o,e⟩
  ·exact⟨_,c⟩
 obtain⟨o',t⟩:=t
 refine k.keep b u q (fun z=>?_) fun z=>?_
 ·rw[hf b z]at t;cases t
 ·rw[hx b z]at t;cases t
theorem un_exc{fs fs' xs:List Addr}{H H':Hp}{h h1 h2:Heap}{L:Addr}(u:Un fs [] H H' h h1)(k:Kp fs' xs h1 h2)(hL:h.get? L=none)(hf:∀b∈fs',b=L∨b∈fs)(hx:∀c∈xs,h.get? c=none):Un fs [] H H' h h2:=by
 have nx:∀b o,h.get? b=some o->b∉xs:=fun b o e z=>by rw[hx b z]at e;cases e
 have nf:∀b o,h.get? b=some o->b∈fs'->b∈fs:=fun b o e z=>by
  rcases hf b z with rfl | z
  ·rw[hL]at e;cases e
  ·exact z
 refine⟨fun b o e n f x=>k.keep b o (u.keep b o e n f x) (fun z=>f (nf b o e z)) (nx b o e),fun b o e n f x=>?_,u.free,fun b o e x=>?_,u.tups,u.frzs,u.tbls⟩
 ·obtain⟨sl,e1⟩:=u.slot b o e n f x
  by_cases z:b∈fs'
  ·obtain⟨sl2,e2⟩:=k.slot b _ e1 z (nx b o e)
   exact⟨sl2,e2⟩
  ·exact⟨sl,k.keep b _ e1 z (nx b o e)⟩
 ·obtain⟨o1,e1⟩:=u.there b o e x
  exact k.there b o1 e1
def CX1(P:Program)(w:World):CXT:=fun outer H s E e s'=>∃(x T:Addr) (cls:Value) (H':Hp),e=.ref x/\s'.os=s.os/\AllBare s'.gens/\Un (frs outer) [] H H' s.heap s'.heap/\HOk P w H' s'.heap/\Xa s'.heap x cls .none (some T) /\
 s.heap.get? x=none/\s.heap.get? T=none/\H' x=none/\H' T=none/\E cls none H'
structure LeaveX(X:Cx)(E:XK):Prop where
 xe:X.xe=fun e s'=>wpAny (model X.prog X.w) X.A (leaving X.env e) (fun _ s''=>CX1 X.prog X.w X.outer X.H₀ X.s₀ E e s'') (fun e' s''=>CX1 X.prog X.w X.outer X.H₀ X.s₀ E e' s'') s'
 stk:X.stack=X.env::X.outer
 fr:X.env.frame=some X.env.locals
 ex:X.ex=[]
section
variable{X:Cx}{E:XK}
theorem LeaveX.go{pins:List (Addr×Obj)}{σ:St}{H:Hp}{s:Shared}{x:Addr}{To:Option Addr}{cls:Value}(L:LeaveX X E)(I:Inv X pins σ H s)(hx:Xa s.heap x cls .none To)(h0:X.s₀.heap.get? x=none)(hT:∀T,To=some T->X.s₀.heap.get? T=none/\H T=none)(hn:H x=none)(hE:E cls none H):X.xe (.ref x) s:=by
 rw[L.xe]
 have hfr:=I.ok.frames
 have hl:=I.stack
 have hsf:=I.stkFree
 rw[L.stk]at hfr hl hsf
 refine leave_ok hfr hl L.fr hx fun h' T' nT k xa=>?_
 have hxs:∀c∈x::To.toList,X.s₀.heap.get? c=none/\H c=none:=fun c hc=>by
  rcases List.mem_cons.mp hc with rfl | hc
  ·exact⟨h0,hn⟩
  ·cases To with
   |none=>simp at hc
   |some T=>rw[show c=T by simpa using hc];exact hT T rfl
 have hu:Un (frs X.outer) [] X.H₀ H X.s₀.heap s.heap:=by
  have:=I.base
  rw[L.ex]at this
  exact this
 refine⟨x,T',cls,H,rfl,I.os,I.bare,un_exc hu k (L:=X.env.locals) (Heap.get?_none_of_le I.ok.above) (fun b hb=>?_) (fun c hc=>(hxs c hc).1),hok_exc I.hok k hsf fun c hc=>(hxs c hc).2,xa,h0,?_,hn,I.hok.none_of nT,hE⟩
 ·have:frs (X.env::X.outer)=X.env.locals::frs X.outer:=by
   unfold frs
   rw[List.filterMap_cons,L.fr]
  rw[this]at hb
  exact List.mem_cons.mp hb
 ·cases q:X.s₀.heap.get? T' with
  |none=>rfl
  |some o =>
   obtain⟨o',z⟩:=hu.there T' o q (by simp)
   rw[nT]at z
   cases z
theorem LeaveX.pass(L:LeaveX X E):Passes (CX1 X.prog X.w) X E:=by
 rintro pins σ H s e s' I ⟨x,T,cls,H',rfl,ho,hb,un,ok,xa,nx,nT,hx,hT,hE⟩
 have I1:Inv X pins σ H' s':=I.call' ho un ok hb (ch:=[]) (fun b z=>absurd z (by simp))
 have back:∀b,s.heap.get? b=none->X.s₀.heap.get? b=none:=fun b e=>by
  cases q:X.s₀.heap.get? b with
  |none=>rfl
  |some o =>
   obtain⟨o',z⟩:=I.base.there b o q (by rw[L.ex];simp)
   rw[e]at z
   cases z
 exact L.go I1 xa (back x nx) (fun T' e=>by cases e;exact⟨back T nT,hT⟩) hx hE
end
theorem Fun.okX{P:Program}{w:World}{K:W.Frag}{mg:Str->Option Value}{base:Heap}{x qual:Str}{st:Stmt}{f:Addr}{fd:FuncData}{N ps:List Str}{k:Nat}{sp:Sp}(F:Fun K x qual st f fd)(S:FnScope N ps (defScope st))(len:∀vs H Q E,sp vs H Q E->vs.length=ps.length)
  (hbody:∀(cdv:Value) (A:Around) (outer:List Env) (s:Shared) (H:Hp) (vs:List V) (Q:VK) (E:XK),Room k (A.deeper (envOfC qual (defScope st) s.heap.objs.size f cdv))->sp vs H Q E ->
   LeaveX (cxOf (CX1 P w) P w K mg base N qual (defScope st) f cdv A outer s H E) E->∃t,PSs (cxOf (CX1 P w) P w K mg base N qual (defScope st) f cdv A outer s H E) (defBody st) t/\t { nx:=fun _ H'=>Q .non H',rt:=Q } (start N vs) H):FnOk P w K mg base (CX1 P w) (k+1) f fd ps sp:=by
 obtain⟨oc,od,kV,doc,pm,an,cdv,ct,osl,rfl,lk,hcd⟩:=F.ex
 exact fn_of lk hcd S len fun A outer s H vs Q E hr hsp=>hbody cdv A outer s H vs Q E hr hsp ⟨rfl,rfl,rfl,rfl⟩
theorem LeaveX.own{CX:CXT}{P:Program}{w:World}{K:W.Frag}{mg:Str->Option Value}{base:Heap}{N:List Str}{qual:Str}{scope:Scope}{f:Addr}{cd:Value}{A:Around}{outer:List Env}{s:Shared}{H:Hp}{E:XK}:PassesOwn (model P w) (cxOf CX P w K mg base N qual scope f cd A outer s H E).A (cxOf CX P w K mg base N qual scope f cd A outer s H E).env (cxOf CX P w K mg base N qual scope f cd A outer s H E).xe:=PassesOwn.leaving
def bmV:List Value:=[.type "ValueError",.type "Exception",.type "BaseException",.type "object"]
structure XC(K:W.Frag)(mg:Str->Option Value)(x:Str)(C C':Addr):Prop where
 mgx:mg x=some (.ref C)
 ob:∃nm q N bs hdct sn sub ab col dd k0 k1 k2 k3 k5 es,K.lookup C=some (excClassObj nm q C N bs (.ref C'::bmV) hdct sn sub ab col dd k0 k1 k2 k3 k5 "ValueError.__new__")/\(∀h,K.In h->h.Ns N (nsFind es))/\nsFind es "__init__" = none/\∀h,K.In h->OwnTail h bmV (.ref C'::bmV)
def tRaise(C:Addr)(E:XK)(t:TA):TS:=fun D σ H=>t σ H fun vs H1=>vs.length<=sizeLine/\E (.ref C) none H1
theorem ps_raise{X:Cx}{E:XK}{x:Str}{C C':Addr}{e:Expr}{t:TA}{np cpos pos:Pos}(L:LeaveX X E)(hc:X.calm=true)(xc:XC X.K X.mg x C C')(hg:Gl X x)(ha:PA X [e] t)
  (he:starEach [e] X.env=(false,eval e X.env)::starEach [] X.env:=by rfl) (hdb:(x==("__debug__":Str))=false:=by decide):PS X (.Raise (some (.Call (.Name x np) [e] [] cpos)) none pos) (tRaise C E t):=by
 intro pins s σ H D I h
 obtain⟨nm,q,N,bs,hdct,sn,sub,ab,col,dd,k0,k1,k2,k3,k5,es,hC,hN,hi,hT⟩:=xc.ob
 refine wpAny_Raise_call_subT (C:=C) (nm:=nm) (q:=q) (N:=N) (bs:=bs) (bm:=.ref C'::bmV) (hdct:=hdct) (sn:=sn) (sub:=sub) (ab:=ab) (col:=col) (dd:=dd) (k0:=k0) (k1:=k1) (k2:=k2) (k3:=k3) (k5:=k5) PySem.F.excBase_ValueError (mN:=nsFind es) ((hT _ I.kIn).hasType PySem.F.excBase_ValueError.hasBase) (I.ok.hd hc) (by rw[he];rfl) hi (ld_glob I hg xc.mgx ⟨rfl,?_⟩ hdb)
 have h1:=ha cpos pins s σ H _ I h
 rw[he]at h1 ⊢
 refine Calls.evalArgs_plain (wpAny_mono h1 (fun us s2 h2=>?_) fun _ _ y=>y)
 obtain⟨vs,H1,I1,r,hz,hE⟩:=h2
 refine⟨rfl,?_,I1.kIn _ _ hC,hN _ I1.kIn,hT _ I1.kIn,fun h' x' hm=>?_⟩
 ·show us.length<=_
  rw[← r.length]
  exact hz
 ·obtain⟨t',e',nt,_⟩:=hm.there
  have I2:Inv X pins σ H1 { s2 with heap:=h' }:=I1.kept (t':=s2.toks) hm.keeps
  have nx:=hm.new
  refine L.go (To:=none) I2 ⟨_,_,e',⟨rfl,rfl,rfl⟩,rfl,by simp,rfl⟩ ?_ (fun T z=>by cases z) (I1.hok.none_of nx) hE
  cases z:X.s₀.heap.get? x' with
  |none=>rfl
  |some o =>
   obtain⟨o',z'⟩:=I1.base.there x' o z (by rw[L.ex];simp)
   rw[nx]at z'
   cases z'
end L2
namespace Seek
open PySem PySem.Spec PyProof.Rows L2
structure OwnX(P:Program)(w:World)(K:W.Frag)(mg:Str->Option Value)(base:Heap)(k:Nat)(x:Str)(ps:List Str)(sp:Sp):Prop where
 ex:∃f fd,FnOk P w K mg base (CX1 P w) k f fd ps sp/\mg x=some (.ref f)/\W.keepIn K (.ref f)=true/\Binds K fd ps []
theorem OwnX.mono{P:Program}{w:World}{K:W.Frag}{mg:Str->Option Value}{base:Heap}{j k:Nat}{x:Str}{ps:List Str}{sp:Sp}(O:OwnX P w K mg base j x ps sp)(h:j<=k):OwnX P w K mg base k x ps sp:=by
 obtain⟨f,fd,F,r⟩:=O.ex
 exact⟨f,fd,F.mono h,r⟩
theorem pe_ownX{X:Cx}{E:XK}{k:Nat}{x:Str}{ps:List Str}{sp:Sp}{p pos:Pos}{e:Expr}{es:List Expr}{t:TA}(hx:Passes (CX1 X.prog X.w) X E)(O:OwnX X.prog X.w X.K X.mg X.base k x ps sp)(hr:Room k X.A)(hg:Gl X x)(ha:PA X (e::es) t)
  (hdb:(x==("__debug__":Str))=false:=by decide) (he:starEach (e::es) X.env=(false,eval e X.env)::starEach es X.env:=by rfl) (hpl:(backTo pos (starEach es X.env)).any (·.1)=false:=by rfl) :
  PE X (.Call (.Name x p) (e::es) [] pos) (tCall sp [] E t):=by
 obtain⟨f,fd,F,hm,hk,hb⟩:=O.ex
 exact pe_call F hr hg hm hk hb .nil hx ha hdb he hpl
end Seek
namespace L2
open PySem PySem.Spec PyProof.Rows
abbrev Cx.sub(X:Cx)(x:Addr):Cx:={ X with A:=X.A.mark (some (.ref x)),calm:=false,xe:=fun _ _=>False }
theorem Cx.Ok.sub{X:Cx}(ok:X.Ok)(x:Addr):(X.sub x).Ok :=
 ⟨ok.mod,ok.kind,ok.glob,ok.blt,ok.above,ok.inj,ok.has,ok.cab,fun z=>(by cases z),ok.frames,ok.stk,ok.exf,ok.bs,ok.bsz,ok.noex,ok.exfs,ok.funs,ok.frf⟩
section
variable{X:Cx}{pins:List (Addr×Obj)}{σ:St}{H:Hp}{s:Shared}
theorem Inv.sub(I:Inv X pins σ H s)(x:Addr):Inv (X.sub x) pins σ H s:=⟨I.ok.sub x,I.os,I.bare,I.base,I.loc,I.cell,I.free,I.freeC,I.pin,I.hok,I.len⟩
theorem Inv.unsub{x:Addr}(ok:X.Ok)(I:Inv (X.sub x) pins σ H s):Inv X pins σ H s:=⟨ok,I.os,I.bare,I.base,I.loc,I.cell,I.free,I.freeC,I.pin,I.hok,I.len⟩
theorem SP.unsub{x:Addr}{D:Ends}{f:Flow}{s':Shared}(ok:X.Ok)(h:SP (X.sub x) pins D f s'):SP X pins D f s':=by
 cases f with
 |next=>obtain⟨σ',H',I,q⟩:=h;exact⟨σ',H',I.unsub ok,q⟩
 |brk=>obtain⟨σ',H',I,q⟩:=h;exact⟨σ',H',I.unsub ok,q⟩
 |cont=>obtain⟨σ',H',I,q⟩:=h;exact⟨σ',H',I.unsub ok,q⟩
 |ret u=>obtain⟨v,σ',H',I,r,q⟩:=h;exact⟨v,σ',H',I.unsub ok,r,q⟩
abbrev Cx.bod(X:Cx)(pn:List (Addr×Obj))(xe:Value->Shared->Prop):Cx:={ X with pn:=pn,xe:=xe }
theorem Cx.Ok.bod{X:Cx}(ok:X.Ok){pn:List (Addr×Obj)}{xe:Value->Shared->Prop}:(X.bod pn xe).Ok :=
 ⟨ok.mod,ok.kind,ok.glob,ok.blt,ok.above,ok.inj,ok.has,ok.cab,ok.hd,ok.frames,ok.stk,ok.exf,ok.bs,ok.bsz,ok.noex,ok.exfs,ok.funs,ok.frf⟩
theorem Cx.Ok.unbod{X:Cx}{pn:List (Addr×Obj)}{xe:Value->Shared->Prop}(ok:(X.bod pn xe).Ok):X.Ok :=
 ⟨ok.mod,ok.kind,ok.glob,ok.blt,ok.above,ok.inj,ok.has,ok.cab,ok.hd,ok.frames,ok.stk,ok.exf,ok.bs,ok.bsz,ok.noex,ok.exfs,ok.funs,ok.frf⟩
theorem Inv.bod(I:Inv X pins σ H s){xe:Value->Shared->Prop}:Inv (X.bod (X.pn++pins) xe) [] σ H s:=⟨I.ok.bod,I.os,I.bare,I.base,I.loc,I.cell,I.free,I.freeC,fun p hp=>I.pin p (by simpa using hp),I.hok,I.len⟩
theorem Inv.unbod{xe:Value->Shared->Prop}{pl:List (Addr×Obj)}(I:Inv (X.bod (X.pn++pins) xe) pl σ H s):Inv X pins σ H s:=⟨I.ok.unbod,I.os,I.bare,I.base,I.loc,I.cell,I.free,I.freeC,fun p hp=>I.pin p (List.mem_append.mpr (.inl hp)),I.hok,I.len⟩
theorem SP.unbod{xe:Value->Shared->Prop}{D:Ends}{f:Flow}{s':Shared}{pl:List (Addr×Obj)}(h:SP (X.bod (X.pn++pins) xe) pl D f s'):SP X pins D f s':=by
 cases f with
 |next=>obtain⟨σ',H',I,q⟩:=h;exact⟨σ',H',I.unbod,q⟩
 |brk=>obtain⟨σ',H',I,q⟩:=h;exact⟨σ',H',I.unbod,q⟩
 |cont=>obtain⟨σ',H',I,q⟩:=h;exact⟨σ',H',I.unbod,q⟩
 |ret u=>obtain⟨v,σ',H',I,r,q⟩:=h;exact⟨v,σ',H',I.unbod,r,q⟩
end
def XCo(K:W.Frag)(C:Addr)(bm:List Value):Prop:=∃nm q N bs hdct sn sub ab col dd k0 k1 k2 k3 k5 newId,K.lookup C=some (excClassObj nm q C N bs bm hdct sn sub ab col dd k0 k1 k2 k3 k5 newId)
theorem XC.co{K:W.Frag}{mg:Str->Option Value}{x:Str}{C C':Addr}(h:XC K mg x C C'):XCo K C (.ref C'::bmV):=by
 obtain⟨nm,q,N,bs,hdct,sn,sub,ab,col,dd,k0,k1,k2,k3,k5,es,hC,_⟩:=h.ob
 exact⟨nm,q,N,bs,hdct,sn,sub,ab,col,dd,k0,k1,k2,k3,k5,_,hC⟩
def Catch(K:W.Frag)(C Cs:Addr):Prop:=∃bm bs,XCo K C bm/\XCo K Cs bs/\bs.contains (.type "BaseException")=true/\(C=Cs∨bm.contains (.ref Cs)=true)
theorem XC.catch1{K:W.Frag}{mg:Str->Option Value}{x:Str}{C C':Addr}(h:XC K mg x C C'):Catch K C C:=⟨_,_,h.co,h.co,rfl,.inl rfl⟩
theorem excm_ok{M:Model}{A:Around}{E:Value->Shared->Prop}{K:W.Frag}{s:Shared}{e C Cs:Addr}{oe:Obj}{Q:Bool->Shared->Prop}(X:K.In s.heap)(ca:Catch K C Cs)(he:s.heap.get? e=some oe)(hcls:oe.cls=.ref C)(hq:Q true s):wpAny M A (excMatches (.ref e) (.ref Cs)) Q E s:=by
 obtain⟨bm,bs,⟨nm,q,N,bs1,hdct,sn,sub,ab,col,dd,k0,k1,k2,k3,k5,newId,lC⟩,⟨nm',q',N',bs',hdct',sn',sub',ab',col',dd',k0',k1',k2',k3',k5',newId',lS⟩,hb,hc⟩:=ca
 have hC:=X _ _ lC
 have hS:=X _ _ lS
 obtain⟨h,g,d,t,os⟩:=s
 by_cases z:C=Cs
 ·subst z
  exact wpAny_excMatches_sub_self hS he hcls hb hq
 ·have hc2:bm.contains (.ref Cs)=true:=by
   rcases hc with y | y
   ·exact absurd y z
   ·exact y
  have hcB:(Value.ref Cs::bs).contains (.type "BaseException")=true:=by rw[List.contains_cons,hb,Bool.or_true]
  have hcC:(Value.ref C::bm).contains (.ref Cs)=true:=by rw[List.contains_cons,hc2,Bool.or_true]
  have f:=tc_notTuple
  unfold excMatches
  repeat (first | (with_reducible refine wpAny_loadPart_at he ?_;rw[hcls]) | with_reducible refine wpAny_loadPart_at hS ?_ | (with_reducible refine wpAny_isSubtype_exc hS ?_;rw[hcB]) | (with_reducible refine wpAny_isSubtype_exc hC ?_;rw[hcC]) | wp_step)
  exact hq
def ExcAt(x C:Addr)(h:Heap):Prop:=∃vs,h.get? x=some { cls:=.ref C,data:=.fields vs }
theorem ExcAt.inst{x C:Addr}{h:Heap}(e:ExcAt x C h):∃vs,W.InstAt h x { cls:=.ref C,data:=.fields vs } C none:=by
 obtain⟨vs,e⟩:=e
 exact⟨vs,e,rfl,rfl,trivial⟩
structure XIs(K:W.Frag)(C:Addr):Prop where
 co:∃bm,XCo K C bm/\bm.contains (.type "BaseException")=true
 cls:(W.clsIn K C).isSome=true
 ga:W.findIn K (.ref C) "__getattribute__" = some (some (.builtin "BaseException.__getattribute__"))
 gt:W.findIn K (.ref C) "__getattr__" = some none
 cl:W.findIn K (.ref C) "__class__" = some (some (.builtin "object.__class__"))
 gs:W.specialIn K (.builtin "object.__class__") "__get__" = some (some (.builtin "getset_descriptor.__get__"))
 tk:W.takesIn K (.builtin "object.__class__")=some true
 mr:W.mroIn K C (.type "object")=some true
section
variable{prog:Program}{w:World}{A:Around}{E:Value->Shared->Prop}{s:Shared}{K:W.Frag}{x C:Addr}
theorem exc_class{Q:Option Value->Shared->Prop}(Z:XIs K C)(X:K.In s.heap)(I:ExcAt x C s.heap)(h:Q (some (.ref C)) { s with toks:=s.toks+1 }):wpAny (model prog w) A (getAttr? (.ref x) "__class__") Q E s:=by
 obtain⟨bm,⟨nm,q,N,bs,hdct,sn,sub,ab,col,dd,k0,k1,k2,k3,k5,newId,lC⟩,hb⟩:=Z.co
 have hC:=X _ _ lC
 obtain⟨vs,J⟩:=I.inst
 obtain⟨cd,hcd⟩:=Option.isSome_iff_exists.mp Z.cls
 have hf:W.findObj K C none "__class__" = some (.bind (.builtin "getset_descriptor.__get__") (.builtin "object.__class__")):=by
  unfold W.findObj
  rw[hcd,Option.bind_some,Z.cl,Option.bind_some]
  simp[Z.gs,Z.tk]
 have hx:=J.at_
 have hc:({ cls:=.ref C,data:=.fields vs }:Obj).cls=.ref C:=rfl
 obtain⟨hh,g,d,t,os⟩:=s
 have L0:=J.type (M:=model prog w)
 have L1:=W.looks_findIn (M:=model prog w) X Z.ga
 have L2:=W.looks_findIn (M:=model prog w) X Z.gt
 have LF:=W.looks_find (M:=model prog w) X J hf
 have FB:=PySem.F.attrBase_ValueError
 have hcB:(Value.ref C::bm).contains (.type "BaseException")=true:=by rw[List.contains_cons,hb,Bool.or_true]
 have hk:builtinKind "BaseException.__getattribute__" = some .slot:=by decide +kernel
 have hsplit:splitId "BaseException.__getattribute__" = some ("BaseException","__getattribute__"):=by decide +kernel
 unfold getAttr? getAttrBy? getAttrBy
 refine wpAny_bind (wpAny_mkText (wpAny_bind (wpAny_attempt (wpAny_holding (wpAny_bind (L0.at (wpAny_bind (L1.at ?_))))))))
 show wpAny _ _ (getAttrByItsOwn (.ref x) (.str "__class__" t) (.ref C) (.builtin "BaseException.__getattribute__") false false) _ _ _
 unfold getAttrByItsOwn
 refine wpAny_bind (show wpAny _ _ (typeLookup (.ref C) "__getattr__") _ _ _ from L2.at ?_)
 refine wpAny_bind (wpAny_attempt (wpAny_holding ?_))
 show wpAny _ _ (boundAndCalled (.builtin "BaseException.__getattribute__") (.ref x) (.str "__class__" t)) _ _ _
 unfold boundAndCalled
 refine wpAny_bind (wpAny_of_eq (FB.ga.bind (.ref x)) ?_)
 refine wpAny_call (codeAny_call_builtin FB.ga.plain PySem.F.entry_bexc_ga ?_)
 have chk:∀ {Q':Unit->Shared->Prop} {A':Around} {E':Value->Shared->Prop},Q' () ⟨hh,g,d,t+1,os⟩->wpAny (model prog w) A' (checkBuiltinCall "BaseException.__getattribute__" ⟨[.ref x,.str "__class__" t],[]⟩) Q' E' ⟨hh,g,d,t+1,os⟩:=fun{Q' A' E'} hq=>by
  have ha:=PySem.F.args_bexc_ga (.ref x) (.str "__class__" t)
  simp only[checkBuiltinCall,hk,hsplit]
  refine wpAny_bind ?_
  ·unfold isInstance
   repeat (first | (with_reducible refine wpAny_loadPart_at hx ?_;rw[hc]) | (with_reducible refine wpAny_isSubtype_exc hC ?_;rw[hcB]) | wp_step)
   exact hq
 refine chk ?_
 unfold Builtin.«object.__getattribute__»
 refine wpAny_bind (wpAny_of_eq (a:=(Value.ref x,[Value.str "__class__" t])) rfl ?_)
 refine wpAny_bind (wpAny_of_eq (a:=("__class__":Str)) rfl ?_)
 refine wpAny_bind (L0.at (wpAny_bind (LF.at ?_)))
 show wpAny _ _ (holding [.builtin "object.__class__"] (call (.builtin "getset_descriptor.__get__") [.builtin "object.__class__",.ref x,.ref C]) >>= ret) _ _ _
 refine wpAny_bind (wpAny_holding (wpAny_call (W.class_get X J Z.mr ?_)))
 refine wpAny_pure ?_
 show wpAny (model prog w) A (pure (Value.ref C)) _ _ _
 exact wpAny_pure (wpAny_pure h)
theorem kitx_exc(Z:XIs K C):W.KitX K (.ref x) (.ref C) (ExcAt x C) where
 ty:=fun M h X I=>by
  obtain⟨vs,J⟩:=I.inst
  exact J.type
 it:=fun M h X I=>by
  obtain⟨cd,hcd⟩:=Option.isSome_iff_exists.mp Z.cls
  unfold W.clsIn at hcd
  split at hcd
  ·rename_i c' d' cd' sl' ho
   intro A' Q' E' s' k q
   unfold isType loadHead
   exact wpAny_bind (wpAny_loadPart (k _ _ (X _ _ ho)) (wpAny_pure q))
  ·cases hcd
 ne:=fun h tp dd its n sl X htp=>by
  obtain⟨cd,hcd⟩:=Option.isSome_iff_exists.mp Z.cls
  refine Bool.eq_false_iff.mpr fun q=>?_
  have e:C=tp:=Value.ref.inj (beq_iff_eq.mp q)
  subst e
  unfold W.clsIn at hcd
  split at hcd
  ·rename_i c' d' cd' sl' ho
   have z:=(X _ _ ho).symm.trans htp
   cases z
  ·cases hcd
 ca:=fun X I k=>exc_class Z X I k
end
def excO(x C:Addr):HO:=.ext (ExcAt x C)
theorem excO_ok{P:Program}{w:World}{H:Hp}{h:Heap}{x C:Addr}(e:ExcAt x C h):ObjOk P w H h x (excO x C):=by
 obtain⟨vs,e1⟩:=id e
 exact⟨e,⟨_,e1⟩,fun h1 h2 ⟨us,q⟩ k=>⟨us,k _ q⟩⟩
theorem call_isX{X:Cx}{K:W.Frag}(hK:X.K=K):CallR X (.builtin "isinstance") (fun xs H Q=>∃(x C:Addr) (cv:V) (c:Value) (b:Bool),xs=[.ref x,cv]/\H x=some (excO x C)/\XIs K C/\RelV cv c/\W.kitOne K (.ref C) c=some b/\Q (.bl b) H):=by
 subst hK
 intro pins s σ H xs us Q I r h
 obtain⟨x,C,cv,c,b,rfl,hx,Z,rc,e,q⟩:=h
 obtain⟨u,w',rfl,r1,r2⟩:=vals2 r
 cases(show u=Value.ref x from r1)
 have hw:w'=c:=by
  cases cv with
  |ref a=>exact(show w'=Value.ref a from r2).trans (show c=Value.ref a from rc).symm
  |ty n=>exact(show w'=Value.type n from r2).trans (show c=Value.type n from rc).symm
  |non=>exact(show w'=Value.none from r2).trans (show c=Value.none from rc).symm
  |bl y=>exact(show w'=Value.bool y from r2).trans (show c=Value.bool y from rc).symm
  |int i =>
   obtain⟨t,rfl⟩:=(show ∃t,c=Value.int i t from rc)
   unfold W.kitOne at e
   rw[if_neg (by intro z;cases beq_iff_eq.mp z)]at e
   cases e
  |str y =>
   obtain⟨t,rfl⟩:=(show ∃t,c=Value.str y t from rc)
   unfold W.kitOne at e
   rw[if_neg (by intro z;cases beq_iff_eq.mp z)]at e
   cases e
  |byt y =>
   obtain⟨t,rfl⟩:=(show ∃t,c=Value.bytes y t from rc)
   unfold W.kitOne at e
   rw[if_neg (by intro z;cases beq_iff_eq.mp z)]at e
   cases e
  |flt y =>
   obtain⟨t,rfl⟩:=(show ∃t,c=Value.float y t from rc)
   unfold W.kitOne at e
   rw[if_neg (by intro z;cases beq_iff_eq.mp z)]at e
   cases e
 subst hw
 exact W.kia_one (kitx_exc Z) I.kIn (I.hok x _ hx).1 e (fun z=>nomatch z) fun tk=>⟨.bl b,H,I.tok _,rfl,q⟩
theorem gone_ok{X:Cx}{M:Model}{A:Around}{E:Value->Shared->Prop}{pins:List (Addr×Obj)}{σ:St}{H:Hp}{s:Shared}{i:Nat}{n:Str}{pos:Pos}{Q:Unit->Shared->Prop}(I:Inv X pins σ H s)(hN:X.N.Nodup)(hi:X.N[i]? = some n)(hl:X.env.kindOf n=some .local)
  (h:∀s',Inv X pins (σ.set i none) H s'->Q () s'):wpAny M A (do bindName X.env n .none;unbindBehindTheSuite X.env n pos) Q E s:=by
 have hcls:(X.env.scope.kind==.class||(X.env.scope.kind==.module&&X.env.locals != X.env.globals))=false:=by rw[I.ok.kind];rfl
 have hiσ:i<σ.length:=by rw[I.len];exact(List.getElem?_eq_some_iff.mp hi).1
 refine wpAny_bind (wpAny_bindName (store_ok I hN hi (.inl hl) (v:=.non) rfl (fun s1 I1=>?_) (.inr hl)))
 obtain⟨m,hn,hloc⟩:=id I1.loc
 have hm:m n=some .none:=by
  obtain⟨u,r,q⟩:=hloc i n .non hi (List.getElem?_set_self hiσ) (.inl hl)
  cases(show u=Value.none from r)
  rcases q with q | q
  ·exact q.2
  ·rcases q.1 with z | z
   ·rw[hl]at z;cases z
   ·rw[hl]at z;cases z
 unfold unbindBehindTheSuite
 refine wpAny_onRaise ?_
 unfold unbindName
 refine wpAny_bind (wpAny_point (wpAny_bind ?_))
 unfold deleteName
 simp only[hl,hcls]
 rw[if_neg (by decide)]
 refine wpAny_bind (wpAny_nsDel_keeps hn fun h2 v hn2 hs=>?_)
 rw[hm]
 simp only[if_true,Option.isSome_some,Bool.not_true,Bool.false_eq_true,if_false]
 refine wpAny_pure (wpAny_point (h _ ?_))
 have cne:=I1.cne
 have nL:∀b o,X.s₀.heap.get? b=some o->b≠X.env.locals:=fun b o e=>Nat.ne_of_lt (Nat.lt_of_lt_of_le (Heap.lt_size e) I1.ok.above)
 refine⟨I1.ok,I1.os,I1.bare,⟨fun b o e n' hb hx=>(hs.2 b (nL b o e)).trans (I1.base.keep b o e n' hb hx),fun b o e n' hb hx=>?_,I1.base.free,fun b o e hx=>?_,I1.base.tups,I1.base.frzs,I1.base.tbls⟩,⟨_,hn2,fun j y v' e1 e2 e3=>?_⟩,fun y c e=>?_,I1.free,I1.freeC,fun p hp=>?_,fun b ob e=>?_,by have:=I1.len;simpa using this⟩
 ·obtain⟨sl,q⟩:=I1.base.slot b o e n' hb hx
  exact⟨sl,(hs.2 b (nL b o e)).trans q⟩
 ·obtain⟨o',q⟩:=I1.base.there b o e hx
  exact⟨o',(hs.2 b (nL b o e)).trans q⟩
 ·by_cases hj:j=i
  ·subst hj
   rw[List.getElem?_set_self (by simpa using hiσ)]at e2
   cases e2
  ·rw[List.getElem?_set_ne (Ne.symm hj)]at e2
   obtain⟨u',r',q⟩:=hloc j y v' e1 (by rw[List.getElem?_set_ne (Ne.symm hj)];exact e2) e3
   refine⟨u',r',?_⟩
   rcases q with⟨k,e⟩ | ⟨k,c,e,z⟩
   ·refine .inl ⟨k,?_⟩
    have:y≠n:=fun e=>hj (nodup_ix hN e1 (e ▸ hi))
    simp[this,e]
   ·exact .inr ⟨k,c,e,z.sameBut hs (cne y c e)⟩
 ·obtain⟨w',z⟩:=I1.cell y c e
  exact⟨w',z.sameBut hs (cne y c e)⟩
 ·obtain⟨e,n',ne,nf,d⟩:=I1.pin p hp
  exact⟨(hs.2 p.1 ne).trans e,n',ne,nf,d⟩
 ·refine(I1.hok b ob e).stay (fun c w' hc q=>(hs.2 c ?_).trans q) (fun _ q=>q) fun _ _ q=>q
  intro zc
  have f0:=I1.free
  rw[← zc]at f0
  rcases hc with z | z
  ·rw[z,e]at f0;cases f0
  ·rw[z]at f0;cases f0
theorem Xa.at_{h:Heap}{x C:Addr}{fl:Value}{To:Option Addr}(a:Xa h x (.ref C) fl To):ExcAt x C h:=by
 obtain⟨⟨c,d,dt,sl⟩,vs,e,⟨h1,h2,h3⟩,h4,_⟩:=a.ex
 have h1':c=Value.ref C:=h1
 have h2':d=none:=h2
 have h3':sl = #[]:=h3
 have h4':dt=.fields vs:=h4
 subst h1' h2' h3' h4'
 exact⟨vs,e⟩
def tTryA(K:W.Frag)(Cs:Addr)(n i:Nat)(tb:XK->TS)(th:TS):TS:=fun D σ H=>tb (fun cls _ H'=>∃C,cls=.ref C/\Catch K C Cs/\∀x,H' x=none->th { nx:=fun σ' H''=>D.nx (σ'.set i none) H'',rt:=D.rt } ((List.replicate n none).set i (some (.ref x))) (upd H' x (excO x C))) D σ H
theorem ps_tryA{X:Cx}{c en:Str}{i:Nat}{Cs:Addr}{body:List Stmt}{b0:Stmt}{suite:List Stmt}{tb:XK->TS}{th:TS}{np hpos pos:Pos}(hN:X.N.Nodup)(hi:X.N[i]? = some en)(hle:X.env.kindOf en=some .local)(hstk:X.stack=X.env::X.outer)(hfrm:X.env.frame=some X.env.locals)(hg:Gl X c)(hm:X.mg c=some (.ref Cs))
  (hb:∀(pn:List (Addr×Obj)) (xe:Value->Shared->Prop) (Eb:XK),Passes (CX1 X.prog X.w) (X.bod pn xe) Eb->PSs (X.bod pn xe) body (tb Eb)) (hs:∀x,PSs (X.sub x) (b0::suite) th) (hdb:(c==("__debug__":Str))=false:=by decide) :
  PS X (.Try body [.ExceptHandler (some (.Name c np)) (some en) (b0::suite) hpos] [] [] pos) (tTryA X.K Cs X.N.length i tb th):=by
 intro pins s σ H D I h
 refine wpAny_Try_except ?_
 refine wpAny_mono (hb (X.pn++pins) (fun e s1=>wpAny (model X.prog X.w) X.A (noteFrame e X.env) (fun _ s2=>wpAny (model X.prog X.w) X.A (setFlight e none) (fun _ s3=>wpAny (model X.prog X.w) X.A (handleBy e X.env [.ExceptHandler (some (.Name c np)) (some en) (b0::suite) hpos]) (SP X pins D) X.xe s3) X.xe s2) X.xe s1) (fun cls _ H'=>∃C,cls=.ref C/\Catch X.K C Cs/\∀x,H' x=none->th { nx:=fun σ' H''=>D.nx (σ'.set i none) H'',rt:=D.rt } ((List.replicate X.N.length none).set i (some (.ref x))) (upd H' x (excO x C))) ?_ [] s σ H D I.bod h) (fun f s1 h1=>?_) fun e s1 h1=>h1
 ·rintro pl σ1 H1 s1 e s2 I1 ⟨x,T,cls,H',rfl,ho,hbr,un,ok,xa,nx,nT,hx,hT,C,rfl,hca,hth⟩
  have I2:Inv (X.bod (X.pn++pins) _) pl σ1 H' s2:=I1.call' ho un ok hbr (ch:=[]) (fun b z=>absurd z (by simp))
  have hfr:X.A.frames=some (X.env::X.outer):=by rw[← hstk];exact I2.ok.frames
  have hl:s2.heap.FunFrames X.base (X.env::X.outer):=by have z:s2.heap.FunFrames X.base X.stack:=I2.stack;rw[hstk]at z;exact z
  have hsf:∀b∈frs (X.env::X.outer),H' b=none:=by have z:∀b∈frs X.stack,H' b=none:=I2.stkFree;rw[hstk]at z;exact z
  have hLn:s1.heap.get? s1.heap.objs.size=none:=Heap.get?_none_of_le (Nat.le_refl _)
  refine note_ok hfr hl hfrm xa fun h3 k3 xa3=>?_
  have nT3:s2.heap.get? s2.heap.objs.size=none:=Heap.get?_none_of_le (Nat.le_refl _)
  refine flight_ok (s:={ s2 with heap:=h3 }) xa3 fun h4 k4 xa4=>?_
  have k24:Kp (frs (X.env::X.outer)) [x,T] s2.heap h4:=k3.trans (k4.weak (by simp)) (fun c hc=>hc) fun c hc=>.inr (by rw[List.mem_singleton.mp hc];exact nT3)
  have at_:∀(h':Heap) (tk:Nat),Kp (frs (X.env::X.outer)) [x,T] s2.heap h'->Inv X pins (List.replicate X.N.length none) H' { s2 with heap:=h',toks:=tk }:=fun h' tk k=>by
   have un':Un (frs X.stack) [] H1 H' s1.heap h':=un_exc un k (L:=s1.heap.objs.size) hLn (fun b hb=>.inr (by show b∈frs X.stack;rw[hstk];exact hb)) fun c hc=>by
    rcases List.mem_cons.mp hc with rfl | hc
    ·exact nx
    ·rw[List.mem_singleton.mp hc];exact nT
   have ok':HOk X.prog X.w H' h':=hok_exc ok k hsf fun c hc=>by
    rcases List.mem_cons.mp hc with rfl | hc
    ·exact hx
    ·rw[List.mem_singleton.mp hc];exact hT
   have I3:Inv (X.bod (X.pn++pins) _) pl σ1 H' { s2 with heap:=h',toks:=tk }:=I1.call' (s':={ s2 with heap:=h',toks:=tk }) ho un' ok' hbr (ch:=[]) (fun b z=>absurd z (by simp))
   refine I3.unbod.weak (by rw[List.length_replicate];exact I3.len.symm) fun i v e=>?_
   rw[List.getElem?_replicate]at e
   split at e <;> cases e
  have atX:∀(h':Heap) (tk:Nat),Kp (frs (X.env::X.outer)) [x,T] s2.heap h'->ExcAt x C h'->Inv X pins (List.replicate X.N.length none) (upd H' x (excO x C)) { s2 with heap:=h',toks:=tk }:=fun h' tk k ea=>by
   have un0:Un (frs X.stack) [] H1 H' s1.heap h':=un_exc un k (L:=s1.heap.objs.size) hLn (fun b hb=>.inr (by show b∈frs X.stack;rw[hstk];exact hb)) fun c hc=>by
    rcases List.mem_cons.mp hc with rfl | hc
    ·exact nx
    ·rw[List.mem_singleton.mp hc];exact nT
   have nx':∀b o,s1.heap.get? b=some o->b≠x:=fun b o e z=>by rw[z,nx]at e;cases e
   have tx:∀b o,H' b=some o->upd H' x (excO x C) b=some o:=fun b o e=>by rw[upd_ne (ne_of_none e hx)];exact e
   have un':Un (frs X.stack) [] H1 (upd H' x (excO x C)) s1.heap h':=⟨un0.keep,un0.slot,fun b o e n z=>by rw[upd_ne (nx' b o e)];exact un0.free b o e n z,un0.there,fun b xs e=>tx _ _ (un0.tups b xs e),fun b o u e=>tx _ _ (un0.frzs b o u e),fun b ps e=>by obtain⟨m,q⟩:=un0.tbls b ps e;exact⟨m,tx _ _ q⟩⟩
   have ok0:HOk X.prog X.w H' h':=hok_exc ok k hsf fun c hc=>by
    rcases List.mem_cons.mp hc with rfl | hc
    ·exact hx
    ·rw[List.mem_singleton.mp hc];exact hT
   have ok':HOk X.prog X.w (upd H' x (excO x C)) h':=fun b o e=>by
    by_cases z:b=x
    ·subst z
     rw[upd_same]at e
     cases e
     exact excO_ok ea
    ·rw[upd_ne z]at e
     exact(ok0 b o e).stay (fun _ _ _ q=>q) (fun b' q=>tx _ _ q) fun b' xs q=>tx _ _ q
   have I3:Inv (X.bod (X.pn++pins) _) pl σ1 (upd H' x (excO x C)) { s2 with heap:=h',toks:=tk }:=I1.call' (s':={ s2 with heap:=h',toks:=tk }) ho un' ok' hbr (ch:=[]) (fun b z=>absurd z (by simp))
   refine I3.unbod.weak (by rw[List.length_replicate];exact I3.len.symm) fun i v e=>?_
   rw[List.getElem?_replicate]at e
   split at e <;> cases e
  have I4:=at_ h4 s2.toks k24
  refine wpAny_handleBy_cons (codeAny_handlers_test (ld_glob (X:=X.sub x) (I4.sub x) hg hm ?_ hdb)) (by intro q;cases q)
  obtain⟨oe,vs,he,⟨hcl,_⟩,_⟩:=xa4.ex
  refine excm_ok I4.kIn hca he hcl ?_
  refine codeAny_handlers_suite_as ?_
  refine flight_ok (s:={ s2 with heap:=h4 }) xa4 fun h5 k5 xa5=>?_
  have k25:Kp (frs (X.env::X.outer)) [x,T] s2.heap h5:=k24.trans (k5.weak (by simp)) (fun c hc=>hc) fun c hc=>.inr (by rw[List.mem_singleton.mp hc];exact nT3)
  have I5:=atX h5 s2.toks k25 xa5.at_
  refine store_ok (X:=X.sub x) (I5.sub x) hN hi (.inl hle) (v:=.ref x) rfl (fun s6 I6=>?_) (.inr hle)
  refine wpAny_mono (hs x pins _ _ _ { nx:=fun σ' H''=>D.nx (σ'.set i none) H'',rt:=D.rt } I6 (hth x hx)) (fun f s7 h7=>?_) fun _ _ z=>False.elim z
  have h8:=h7.unsub I5.ok
  cases f with
  |next =>
   obtain⟨σ',H'',I7,q⟩:=h8
   exact gone_ok I7 hN hi hle fun s8 I8=>⟨_,_,I8,q⟩
  |ret u =>
   obtain⟨v,σ',H'',I7,r,q⟩:=h8
   exact gone_ok I7 hN hi hle fun s8 I8=>⟨v,_,_,I8,r,q⟩
  |brk=>obtain⟨_,_,_,q⟩:=h8;exact False.elim q
  |cont=>obtain⟨_,_,_,q⟩:=h8;exact False.elim q
 ·cases f with
  |next=>exact wpAny_execs_nil (SP.unbod (f:=.next) h1)
  |brk=>exact SP.unbod (f:=.brk) h1
  |cont=>exact SP.unbod (f:=.cont) h1
  |ret u=>exact SP.unbod (f:=.ret u) h1
end L2
namespace Seek
open PySem PySem.Spec PyProof.Rows L2
structure OwnMX(P:Program)(w:World)(K:W.Frag)(mg:Str->Option Value)(base:Heap)(k:Nat)(C:Addr)(m:Str)(ps:List Str)(sp:Sp):Prop where
 ex:∃f fd,FnOk P w K mg base (CX1 P w) k f fd ps sp/\Meth K C m f/\Binds K fd ps []
theorem OwnMX.mono{P:Program}{w:World}{K:W.Frag}{mg:Str->Option Value}{base:Heap}{j k:Nat}{C:Addr}{x:Str}{ps:List Str}{sp:Sp}(O:OwnMX P w K mg base j C x ps sp)(h:j<=k):OwnMX P w K mg base k C x ps sp:=by
 obtain⟨f,fd,F,r⟩:=O.ex
 exact⟨f,fd,F.mono h,r⟩
theorem pe_ownmX{X:Cx}{E:XK}{k:Nat}{C:Addr}{m:Str}{ps:List Str}{sp:Sp}{o e:Expr}{es:List Expr}{ta:TE}{t:TA}{apos pos:Pos}{pl:Sem Bool}(hx:Passes (CX1 X.prog X.w) X E)(O:OwnMX X.prog X.w X.K X.mg X.base k C m ps sp)(c:Cls X.K C)(hr:Room k X.A)(he:PE X o ta)(ha:PA X (e::es) t)
  (hst:starEach (e::es) X.env=(false,eval e X.env)::starEach es X.env:=by rfl) (hpl:(backTo pos (starEach es X.env)).any (·.1)=false:=by rfl)
  (ht:eval (.Call (.Attribute o m apos) (e::es) [] pos) X.env=(do
   let ov ← eval o X.env
   standAt apos.atName
   let(f,first) ← holding [ov] (getMethod ov m pl)
   callWith pos f first (backTo pos (starEach (e::es) X.env)) (backToKw pos (keywordEach [] X.env))):=by rfl):PE X (.Call (.Attribute o m apos) (e::es) [] pos) (tMeth C m sp [] E ta t):=by
 obtain⟨f,fd,F,hm,hb⟩:=O.ex
 exact pe_meth he c hm F hr hb .nil hx ha hst hpl ht
theorem pe_ownm0X{X:Cx}{E:XK}{k:Nat}{C:Addr}{m:Str}{ps:List Str}{sp:Sp}{o:Expr}{ta:TE}{apos pos:Pos}{pl:Sem Bool}(hx:Passes (CX1 X.prog X.w) X E)(O:OwnMX X.prog X.w X.K X.mg X.base k C m ps sp)(c:Cls X.K C)(hr:Room k X.A)(he:PE X o ta)
  (ht:eval (.Call (.Attribute o m apos) [] [] pos) X.env=(do
   let ov ← eval o X.env
   standAt apos.atName
   let(f,first) ← holding [ov] (getMethod ov m pl)
   callWith pos f first (backTo pos (starEach [] X.env)) (backToKw pos (keywordEach [] X.env))):=by rfl):PE X (.Call (.Attribute o m apos) [] [] pos) (tMeth C m sp [] E ta tNil):=by
 obtain⟨f,fd,F,hm,hb⟩:=O.ex
 exact pe_meth0 he c hm F hr hb .nil hx ht
end Seek
namespace L2
open PySem PySem.Spec PyProof.Rows
theorem run_fnS{X:Cx}{CX:CXT}{k:Nat}{f:Addr}{fd:FuncData}{ps:List Str}{sp:Sp}{E:XK}{pins:List (Addr×Obj)}{σ:St}{H:Hp}{s:Shared}{Q:VK}{us:List Value}{vs:List V}(F:FnOk X.prog X.w X.K X.mg X.base CX k f fd ps sp)(hr:Room k X.A)(hb:Binds X.K fd ps [])(hx:∀e s',CX X.stack H s E e s'->X.xe e s')
  (I:Inv X pins σ H s) (r:Vals vs us) (h:sp vs H Q E):wpAny (model X.prog X.w) X.A (call (.ref f) us) (EP X pins σ Q) X.xe s:=by
 have hl:us.length=ps.length:=by rw[← r.length];exact F.len _ _ _ _ h
 have hb':=hb s us I.kIn (by rw[List.append_nil];exact hl)
 rw[List.append_nil]at hb'
 refine wpAny_call (codeAny_mono (F.run X.A X.stack s H ⟨us,[]⟩ us vs Q E hr I.env0 hb' r h) fun r s' hq=>?_)
 cases r with
 |error e=>exact hx e s' hq
 |ok fl =>
  cases fl with
  |ret u=>exact I.after hq
  |next=>exact False.elim hq
  |brk=>exact False.elim hq
  |cont=>exact False.elim hq
theorem call_at{X:Cx}{CX:CXT}{k:Nat}{f:Addr}{fd:FuncData}{ps:List Str}{sp:Sp}{E:XK}{x:Str}{p pos:Pos}{e:Expr}{es:List Expr}{t:TA}{pins:List (Addr×Obj)}{σ:St}{H:Hp}{s:Shared}{Q:VK}(F:FnOk X.prog X.w X.K X.mg X.base CX k f fd ps sp)(hr:Room k X.A)(hg:Gl X x)(hm:X.mg x=some (.ref f))(hk:W.keepIn X.K (.ref f)=true)(hb:Binds X.K fd ps [])
  (hx:∀H1 s1 ev s',Inv X pins σ H1 s1->CX X.stack H1 s1 E ev s'->X.xe ev s') (ha:PA X (e::es) t) (I:Inv X pins σ H s) (h:t σ H fun vs H1=>sp vs H1 Q E) (hdb:(x==("__debug__":Str))=false) (he:starEach (e::es) X.env=(false,eval e X.env)::starEach es X.env) (hpl:(backTo pos (starEach es X.env)).any (·.1)=false) :
  wpAny (model X.prog X.w) X.A (eval (.Call (.Name x p) (e::es) [] pos) X.env) (EP X pins σ Q) X.xe s:=by
 refine wpAny_Call_Name_kw (ld_glob I hg hm ?_ hdb)
 refine W.callWith_K (h₀:=X.base) I.ok.mod.kin hk (thn (ha pos pins s σ H _ I h) fun us s1 ⟨vs,H1,I1,r,q⟩=>⟨I1.kIn,?_⟩) he hpl
 exact run_fnS F hr hb (fun e s' z=>hx H1 s1 e s' I1 z) I1 r q
abbrev hdX(X:Cx)(c:Str)(np:Pos)(b0:Stmt)(suite:List Stmt)(hpos:Pos)(pins:List (Addr×Obj))(D:Ends):Value->Shared->Prop:=fun e s1=>wpAny (model X.prog X.w) X.A (noteFrame e X.env) (fun _ s2=>wpAny (model X.prog X.w) X.A (setFlight e none) (fun _ s3=>wpAny (model X.prog X.w) X.A (handleBy e X.env [.ExceptHandler (some (.Name c np)) none (b0::suite) hpos]) (SP X pins D) X.xe s3) X.xe s2) X.xe s1
def tTryC(K:W.Frag)(Cs:Addr)(sp:Sp)(i:Nat)(ta:TA)(th:TS):TS:=fun D σ H=>ta σ H fun vs H1=>sp vs H1 (fun v H2=>D.nx (σ.set i (some v)) H2) (fun cls _ H'=>(∃C,cls=.ref C/\Catch K C Cs)/\th D σ H')
theorem ps_tryC{X:Cx}{c x y:Str}{i k:Nat}{Cs f:Addr}{fd:FuncData}{ps:List Str}{sp:Sp}{e0:Expr}{es:List Expr}{b0:Stmt}{suite:List Stmt}{ta:TA}{th:TS}{np hpos pos p cpos apos yp:Pos}(hstk:X.stack=X.env::X.outer)(hfrm:X.env.frame=some X.env.locals)(hg:Gl X c)(hm:X.mg c=some (.ref Cs))
  (F:FnOk X.prog X.w X.K X.mg X.base (CX1 X.prog X.w) k f fd ps sp) (hr:Room k X.A) (hgx:Gl X x) (hmx:X.mg x=some (.ref f)) (hk:W.keepIn X.K (.ref f)=true) (hb:Binds X.K fd ps []) (hN:X.N.Nodup) (hi:X.N[i]? = some y) (hy:Loc X.env.scope y) (ha:∀pn xe,PA (X.bod pn xe) (e0::es) ta)
  (hs:∀x,PSs (X.sub x) (b0::suite) th) (hdb:(c==("__debug__":Str))=false:=by decide) (hdx:(x==("__debug__":Str))=false:=by decide) (he:starEach (e0::es) X.env=(false,eval e0 X.env)::starEach es X.env:=by rfl) (hpl:(backTo cpos (starEach es X.env)).any (·.1)=false:=by rfl)
  (hsw:swapsWith (.Call (.Name x p) (e0::es) [] cpos) (some (.Name y yp)) apos.line X.env=pure false:=by rfl) (hf:X.fn y=true∨X.env.scope.names.lookup y=some .local:=by first | exact .inl rfl | exact .inr rfl | assumption) :
  PS X (.Try [.Assign [.Name y yp] (.Call (.Name x p) (e0::es) [] cpos) apos] [.ExceptHandler (some (.Name c np)) none (b0::suite) hpos] [] [] pos) (tTryC X.K Cs sp i ta th):=by
 intro pins s σ H D I h
 refine wpAny_Try_except ?_
 have exc:∀(H1:Hp) (s1:Shared) (e:Value) (s2:Shared),Inv (X.bod (X.pn++pins) (hdX X c np b0 suite hpos pins D)) [] σ H1 s1->CX1 X.prog X.w X.stack H1 s1 (fun cls _ H'=>(∃C,cls=.ref C/\Catch X.K C Cs)/\th D σ H') e s2->hdX X c np b0 suite hpos pins D e s2:=by
  rintro H1 s1 e s2 I1 ⟨x,T,cls,H',rfl,ho,hbr,un,ok,xa,nx,nT,hx,hT,⟨C,rfl,hca⟩,hth⟩
  have I2:Inv (X.bod (X.pn++pins) _) [] σ H' s2:=I1.call' ho un ok hbr (ch:=[]) (fun b z=>absurd z (by simp))
  have hfr:X.A.frames=some (X.env::X.outer):=by rw[← hstk];exact I2.ok.frames
  have hl:s2.heap.FunFrames X.base (X.env::X.outer):=by have z:s2.heap.FunFrames X.base X.stack:=I2.stack;rw[hstk]at z;exact z
  have hsf:∀b∈frs (X.env::X.outer),H' b=none:=by have z:∀b∈frs X.stack,H' b=none:=I2.stkFree;rw[hstk]at z;exact z
  have hLn:s1.heap.get? s1.heap.objs.size=none:=Heap.get?_none_of_le (Nat.le_refl _)
  have back:∀b,s2.heap.get? b=none->s1.heap.get? b=none:=fun b e=>by
   cases q:s1.heap.get? b with
   |none=>rfl
   |some o =>
    obtain⟨o',z⟩:=un.there b o q (by simp)
    rw[e]at z
    cases z
  refine note_ok hfr hl hfrm xa fun h3 k3 xa3=>?_
  have nT3:s2.heap.get? s2.heap.objs.size=none:=Heap.get?_none_of_le (Nat.le_refl _)
  refine flight_ok (s:={ s2 with heap:=h3 }) xa3 fun h4 k4 xa4=>?_
  have k24:Kp (frs (X.env::X.outer)) [x,T] s2.heap h4:=k3.trans (k4.weak (by simp)) (fun c hc=>hc) fun c hc=>.inr (by rw[List.mem_singleton.mp hc];exact nT3)
  have at_:∀(h':Heap) (tk:Nat),Kp (frs (X.env::X.outer)) [x,T] s2.heap h'->Inv X pins σ H' { s2 with heap:=h',toks:=tk }:=fun h' tk k=>by
   have un':Un (frs X.stack) [] H1 H' s1.heap h':=un_exc un k (L:=s1.heap.objs.size) hLn (fun b hb=>.inr (by show b∈frs X.stack;rw[hstk];exact hb)) fun c hc=>by
    rcases List.mem_cons.mp hc with rfl | hc
    ·exact nx
    ·rw[List.mem_singleton.mp hc];exact nT
   have ok':HOk X.prog X.w H' h':=hok_exc ok k hsf fun c hc=>by
    rcases List.mem_cons.mp hc with rfl | hc
    ·exact hx
    ·rw[List.mem_singleton.mp hc];exact hT
   have I3:Inv (X.bod (X.pn++pins) _) [] σ H' { s2 with heap:=h',toks:=tk }:=I1.call' (s':={ s2 with heap:=h',toks:=tk }) ho un' ok' hbr (ch:=[]) (fun b z=>absurd z (by simp))
   exact I3.unbod
  have I4:=at_ h4 s2.toks k24
  refine wpAny_handleBy_cons (codeAny_handlers_test (ld_glob (X:=X.sub x) (I4.sub x) hg hm ?_ hdb)) (by intro q;cases q)
  obtain⟨oe,vs,he,⟨hcl,_⟩,_⟩:=xa4.ex
  refine excm_ok I4.kIn hca he hcl ?_
  refine codeAny_handlers_suite ?_
  refine flight_ok (s:={ s2 with heap:=h4 }) xa4 fun h5 k5 xa5=>?_
  have k25:Kp (frs (X.env::X.outer)) [x,T] s2.heap h5:=k24.trans (k5.weak (by simp)) (fun c hc=>hc) fun c hc=>.inr (by rw[List.mem_singleton.mp hc];exact nT3)
  have I5:=at_ h5 s2.toks k25
  exact wpAny_mono (hs x pins _ _ H' D (I5.sub x) hth) (fun f s6 h6=>h6.unsub I5.ok) fun _ _ z=>False.elim z
 have bd:wpAny (model X.prog X.w) X.A (execs [.Assign [.Name y yp] (.Call (.Name x p) (e0::es) [] cpos) apos] X.env) (SP (X.bod (X.pn++pins) (hdX X c np b0 suite hpos pins D)) [] D) (hdX X c np b0 suite hpos pins D) s:=by
  refine wpAny_execs_cons (thn (Q:=SP (X.bod (X.pn++pins) (hdX X c np b0 suite hpos pins D)) [] D) ?_ fun f s1 q=>?_)
  ·refine wpAny_Assign_Name (thn (call_at (X:=X.bod (X.pn++pins) (hdX X c np b0 suite hpos pins D)) (pins:=[]) F hr hgx hmx hk hb exc (ha _ _) I.bod h hdx he hpl) fun v s1 ⟨z,H1,I1,r1,q1⟩=>?_) hsw
   exact store_ok (X:=X.bod (X.pn++pins) (hdX X c np b0 suite hpos pins D)) I1 hN hi hy r1 (fun s2 I2=>⟨_,H1,I2,q1⟩) hf
  ·cases f with
   |next=>exact wpAny_execs_nil q
   |ret v=>exact q
   |brk=>exact q
   |cont=>exact q
 refine wpAny_mono bd (fun f s1 h1=>?_) fun e s1 h1=>h1
 cases f with
 |next=>exact wpAny_execs_nil (SP.unbod (f:=.next) h1)
 |brk=>exact SP.unbod (f:=.brk) h1
 |cont=>exact SP.unbod (f:=.cont) h1
 |ret u=>exact SP.unbod (f:=.ret u) h1
end L2
namespace Seek
open PySem PySem.Spec PyProof.Rows L2
theorem ps_tryO{X:Cx}{c x y:Str}{i k:Nat}{Cs:Addr}{ps:List Str}{sp:Sp}{e0:PySem.Expr}{es:List PySem.Expr}{b0:Stmt}{suite:List Stmt}{ta:TA}{th:TS}{np hpos pos p cpos apos yp:Pos}(hstk:X.stack=X.env::X.outer)(hfrm:X.env.frame=some X.env.locals)(hg:Gl X c)(hm:X.mg c=some (.ref Cs))
  (O:OwnX X.prog X.w X.K X.mg X.base k x ps sp) (hr:Room k X.A) (hgx:Gl X x) (hN:X.N.Nodup) (hi:X.N[i]? = some y) (hy:Loc X.env.scope y) (ha:∀pn xe,PA (X.bod pn xe) (e0::es) ta)
  (hs:∀x,PSs (X.sub x) (b0::suite) th) (hdb:(c==("__debug__":Str))=false:=by decide) (hdx:(x==("__debug__":Str))=false:=by decide) (he:starEach (e0::es) X.env=(false,eval e0 X.env)::starEach es X.env:=by rfl) (hpl:(backTo cpos (starEach es X.env)).any (·.1)=false:=by rfl)
  (hsw:swapsWith (.Call (.Name x p) (e0::es) [] cpos) (some (.Name y yp)) apos.line X.env=pure false:=by rfl) (hf:X.fn y=true∨X.env.scope.names.lookup y=some .local:=by first | exact .inl rfl | exact .inr rfl | assumption) :
  PS X (.Try [.Assign [.Name y yp] (.Call (.Name x p) (e0::es) [] cpos) apos] [.ExceptHandler (some (.Name c np)) none (b0::suite) hpos] [] [] pos) (tTryC X.K Cs sp i ta th):=by
 obtain⟨f,fd,F,hmx,hk,hb⟩:=O.ex
 exact ps_tryC hstk hfrm hg hm F hr hgx hmx hk hb hN hi hy ha hs hdb hdx he hpl hsw hf
abbrev RO:=Option (Pat×Nat×Int)
def rSign(t st:Str)(i:Nat):Option (Str×Nat) :=
 if sgT t i="\\" then (if sgT t (i + 1) = "" then none else if within (sgT t (i+1)) st=true then some (sgT t (i+1),i+2) else none)
 else if sgT t i="" then none else if within (sgT t i) st=true then none else some (sgT t i,i+1)
def rDig(t:Str)(i:Nat):Option (Int×Nat):=match dgt (sgT t i) with
 |some k=>some ((k:Int),i+1)
 |none=>none
def rRun(t:Str)(i:Nat):Option ((Str×Str)×Nat):=match rSign t strokedR i with
 |none=>none
 |some (lo,j)=>if sgT t j="-" then(match rSign t strokedR (j+1) with
  |none=>none
  |some (hi,k)=>some ((lo,hi),k)) else some ((lo,lo),j)
def rRuns(t:Str)(i:Nat):Option (List (Str×Str)×Nat) :=
 if sgT t i="]" then some ([],i+1) else match rRun t i with
  |none=>none
  |some (r,j)=>if h:i<j/\j<=t.length then(match rRuns t j with
   |none=>none
   |some (rs,k)=>some (r::rs,k)) else none
termination_by t.length-i
def rLs(t:Str)(i:Nat):Option (Hd×Nat) :=
 if sgT t i="^" then(match rRuns t (i+1) with | none=>none | some (rs,j)=>some (.out rs,j))
 else(match rRuns t i with | none=>none | some (rs,j)=>some (.inn rs,j))
def rHi(t:Str)(i:Nat):Option (Option Int×Nat):=if sgT t i="?" ∨ sgT t i="!" ∨ sgT t i="}" then some (none,i) else match rDig t i with
 |none=>none
 |some (h,j)=>some (some h,j)
def rHow(t:Str)(i:Nat):How×Nat:=if sgT t i="?" then(.little,i+1) else if sgT t i="!" then(.keep,i+1) else(.much,i)
def rTurns(t:Str)(i:Nat)(p:Pat):Option (Pat×Nat):=match rDig t i with
 |none=>none
 |some (lo,j)=>if sgT t j="," then(match rHi t (j+1) with
  |none=>none
  |some (hi,k)=>if sgT t (rHow t k).2="}" then some (.node (.times lo hi (rHow t k).1) [p],(rHow t k).2+1) else none) else none
def lkOf(s:Str):Option Lk:=if s="!" then some .once else if s="+" then some .ahead else if s="-" then some .notahead else if s="*" then some .behind else if s="/" then some .notbehind else none
def rW(br:Nat->Int->RO)(t close:Str)(i:Nat)(c:Int):RO:=match br i c with
 |none=>none
 |some (p,j,c')=>if sgT t j=close then some (p,j+1,c') else none
def rBk(W:Str->Nat->Int->RO)(t:Str)(i:Nat)(c:Int):RO :=
 if sgT t i=":" then W ">" (i+1) c else match lkOf (sgT t i) with
  |some l=>(match W ">" (i+1) c with | none=>none | some (p,j,c')=>some (.node (.look l) [p],j,c'))
  |none=>match rDig t i with
   |none=>none
   |some (n,j)=>match W "~" j c with
    |none=>none
    |some (y,k,c1)=>match W ">" k c1 with
     |none=>none
     |some (z,l,c2)=>some (.node (.hav n) [y,z],l,c2)
def rSi(W:Str->Nat->Int->RO)(t:Str)(i:Nat)(c:Int):RO :=
 if sgT t i="(" then(match W ")" (i+1) (c+1) with | none=>none | some (p,j,c')=>some (.node (.grp (c+1)) [p],j,c'))
 else if sgT t i="<" then rBk W t (i+1) c
 else if sgT t i="[" then(match rLs t (i+1) with | none=>none | some (h,j)=>some (.node h [],j,c))
 else if sgT t i="&" then(match rDig t (i+1) with | none=>none | some (n,j)=>some (.node (.again n) [],j,c))
 else if sgT t i="." then some (.node .any [],i+1,c)
 else if sgT t i="^" then some (.node .beg [],i+1,c)
 else if sgT t i="$" then some (.node .fin [],i+1,c)
 else match rSign t stroked i with | none=>none | some (s,j)=>some (.node (.sign s) [],j,c)
def rPt(W:Str->Nat->Int->RO)(t:Str)(i:Nat)(c:Int):RO:=match rSi W t i c with
 |none=>none
 |some (p,j,c')=>if sgT t j="{" then(match rTurns t (j+1) p with | none=>none | some (q,k)=>some (q,k,c')) else some (p,j,c')
def stopS(s:Str):Bool:=decide (s="" ∨ s="|" ∨ s=")" ∨ s="~" ∨ s=">")
def rPts(pt:Nat->Int->RO)(t:Str)(i:Nat)(c:Int):Option (List Pat×Nat×Int) :=
 if stopS (sgT t i)=true then some ([],i,c) else match pt i c with
  |none=>none
  |some (p,j,c')=>if h:i<j/\j<=t.length then(match rPts pt t j c' with
   |none=>none
   |some (ps,k,c2)=>some (p::ps,k,c2)) else none
termination_by t.length-i
def rowOf:List Pat->Pat
 | [p]=>p
 |ps=>.node .row ps
def rLn(pt:Nat->Int->RO)(t:Str)(i:Nat)(c:Int):RO:=match rPts pt t i c with
 |none=>none
 |some (ps,j,c')=>some (rowOf ps,j,c')
def rBrs(ln:Nat->Int->RO)(t:Str)(i:Nat)(c:Int):Option (List Pat×Nat×Int) :=
 if sgT t i="|" then(match ln (i+1) c with
  |none=>none
  |some (p,j,c')=>if h:i<j/\j<=t.length then(match rBrs ln t j c' with
   |none=>none
   |some (ps,k,c2)=>some (p::ps,k,c2)) else none) else some ([],i,c)
termination_by t.length-i
def altOf:List Pat->Pat
 | [p]=>p
 |ps=>.node .alt ps
def rBranch(ln:Nat->Int->RO)(t:Str)(i:Nat)(c:Int):RO:=match ln i c with
 |none=>none
 |some (p,j,c')=>match rBrs ln t j c' with
  |none=>none
  |some (ps,k,c2)=>some (altOf (p::ps),k,c2)
def rBr(t:Str):Nat->Nat->Int->RO
 |0,_,_=>none
 |d+1,i,c=>rBranch (rLn (rPt (rW (rBr t d) t) t) t) t i c
abbrev rWd(t:Str)(d:Nat):Str->Nat->Int->RO:=rW (rBr t d) t
abbrev rLd(t:Str)(d:Nat):Nat->Int->RO:=rLn (rPt (rWd t d) t) t
def RunW(H:Hp)(v:V)(q:Str×Str):Prop:=∃a,v=.ref a/\H a=some (.tup [.str q.1,.str q.2])
def RunsW(H:Hp)(r:Addr)(rs:List (Str×Str)):Prop:=∃vs,H r=some (.tup vs)/\Paired (RunW H) vs rs/\rs.length<=4000000
def LayW(H:Hp)(a:Addr):Hd->List V->Prop
 |.sign s,kv=>kv=[]/\H a=some (.tup [.str "sign",.str s])
 |.any,kv=>kv=[]/\H a=some (.tup [.str "any"])
 |.inn rs,kv=>kv=[]/\∃r,H a=some (.tup [.str "in",.ref r])/\RunsW H r rs
 |.out rs,kv=>kv=[]/\∃r,H a=some (.tup [.str "out",.ref r])/\RunsW H r rs
 |.beg,kv=>kv=[]/\H a=some (.tup [.str "begin"])
 |.fin,kv=>kv=[]/\H a=some (.tup [.str "end"])
 |.row,kv=>kv.length<=4000000/\∃r,H a=some (.tup [.str "row",.ref r])/\H r=some (.tup kv)
 |.alt,kv=>kv.length<=4000000/\∃r,H a=some (.tup [.str "or",.ref r])/\H r=some (.tup kv)
 |.times lo hi how,kv=>∃k,kv=[k]/\H a=some (.tup [.str "times",.int lo,optV hi,.str how.text,k])
 |.grp n,kv=>∃k,kv=[k]/\H a=some (.tup [.str "group",.int n,k])
 |.again n,kv=>kv=[]/\H a=some (.tup [.str "again",.int n])
 |.hav n,kv=>∃y z,kv=[y,z]/\H a=some (.tup [.str "have",.int n,y,z])
 |.look w,kv=>∃k,kv=[k]/\H a=some (.tup [.str w.text,k])
def PatW(H:Hp):Nat->V->Pat->Prop
 |0,_,_=>False
 |d+1,v,.node h ks=>∃a kv,v=.ref a/\LayW H a h kv/\Paired (PatW H d) kv ks
theorem RunsW.mono{H H':Hp}(t:∀b xs,H b=some (.tup xs)->H' b=some (.tup xs)){r:Addr}{rs:List (Str×Str)}(h:RunsW H r rs):RunsW H' r rs:=by
 obtain⟨vs,e,p,z⟩:=h
 exact⟨vs,t _ _ e,Paired.mapP p fun v q ⟨a,e1,e2⟩=>⟨a,e1,t _ _ e2⟩,z⟩
theorem LayW.mono{H H':Hp}(t:∀b xs,H b=some (.tup xs)->H' b=some (.tup xs)){a:Addr}{kv:List V}:∀ {h:Hd},LayW H a h kv->LayW H' a h kv
 |.sign _,⟨x,z⟩=>⟨x,t _ _ z⟩
 |.any,⟨x,z⟩=>⟨x,t _ _ z⟩
 |.inn _,⟨x,r,z,q⟩=>⟨x,r,t _ _ z,q.mono t⟩
 |.out _,⟨x,r,z,q⟩=>⟨x,r,t _ _ z,q.mono t⟩
 |.beg,⟨x,z⟩=>⟨x,t _ _ z⟩
 |.fin,⟨x,z⟩=>⟨x,t _ _ z⟩
 |.row,⟨x,r,z,q⟩=>⟨x,r,t _ _ z,t _ _ q⟩
 |.alt,⟨x,r,z,q⟩=>⟨x,r,t _ _ z,t _ _ q⟩
 |.times _ _ _,⟨k,y,z⟩=>⟨k,y,t _ _ z⟩
 |.grp _,⟨k,y,z⟩=>⟨k,y,t _ _ z⟩
 |.again _,⟨y,z⟩=>⟨y,t _ _ z⟩
 |.hav _,⟨k,l,y,z⟩=>⟨k,l,y,t _ _ z⟩
 |.look _,⟨k,y,z⟩=>⟨k,y,t _ _ z⟩
theorem PatW.mono{H H':Hp}(t:∀b xs,H b=some (.tup xs)->H' b=some (.tup xs)):∀ {d:Nat} {v:V} {p:Pat},PatW H d v p->PatW H' d v p
 |0,_,_,h=>h.elim
 |d+1,v,.node h ks,⟨a,kv,e,l,p⟩=>⟨a,kv,e,l.mono t,Paired.mapP p fun _ _ q=>PatW.mono t q⟩
theorem PatW.deep{H:Hp}:∀ {d d':Nat} {v:V} {p:Pat},PatW H d v p->d<=d'->PatW H d' v p
 |0,_,_,_,h,_=>h.elim
 |d+1,0,_,_,_,hd=>absurd hd (by omega)
 |d+1,d'+1,v,.node h ks,⟨a,kv,e,l,p⟩,hd=>⟨a,kv,e,l,Paired.mapP p fun _ _ q=>PatW.deep q (by omega)⟩
theorem patsW_mono{H H':Hp}{d:Nat}(t:∀b xs,H b=some (.tup xs)->H' b=some (.tup xs)){us:List V}{ps:List Pat}(h:Paired (PatW H d) us ps):Paired (PatW H' d) us ps:=Paired.mapP h fun _ _ q=>q.mono t
theorem LayW.head{H:Hp}{a:Addr}{kv:List V}:∀ {h:Hd},LayW H a h kv->∃r,H a=some (.tup (.str h.word::r))
 |.sign _,⟨x,z⟩=>⟨_,z⟩
 |.any,⟨x,z⟩=>⟨_,z⟩
 |.inn _,⟨x,r,z,q⟩=>⟨_,z⟩
 |.out _,⟨x,r,z,q⟩=>⟨_,z⟩
 |.beg,⟨x,z⟩=>⟨_,z⟩
 |.fin,⟨x,z⟩=>⟨_,z⟩
 |.row,⟨x,r,z,q⟩=>⟨_,z⟩
 |.alt,⟨x,r,z,q⟩=>⟨_,z⟩
 |.times _ _ _,⟨k,y,z⟩=>⟨_,z⟩
 |.grp _,⟨k,y,z⟩=>⟨_,z⟩
 |.again _,⟨y,z⟩=>⟨_,z⟩
 |.hav _,⟨k,l,y,z⟩=>⟨_,z⟩
 |.look _,⟨k,y,z⟩=>⟨_,z⟩
theorem bgw{n:Nat}(h:n<=8000000):n<=sizeLine:=Nat.le_trans h (by decide)
theorem bgl{n:Nat}(h:n<=8000000):n<sizeLine:=Nat.lt_of_le_of_lt h (by decide)
def Pat.hd:Pat->Hd
 |.node h _=>h
def Hd.kR:Hd->Nat
 |.row=>3 | _=>0
def Hd.kO:Hd->Nat
 |.alt=>3 | _=>0
def Hd.kT:Hd->Nat
 |.times _ _ _=>3 | _=>0
def sumN(f:Pat->Nat):List Pat->Nat
 | []=>0
 |p::ps=>f p+sumN f ps
def Hd.kB:Hd->Pat->Nat
 |.row,k=>k.hd.kR
 |.alt,k=>k.hd.kO
 |_,_=>0
mutual
def Pat.bad:Pat->Nat
 |.node h ks=>badL h ks
def badL:Hd->List Pat->Nat
 |_,[]=>0
 |h,k::ks=>k.bad+h.kB k+badL h ks
end
def tl(p:Pat):Nat:=p.txt.length+p.bad
theorem bad_node(h:Hd)(ks:List Pat):(Pat.node h ks).bad=badL h ks:=by rw[Pat.bad]
theorem badL_row:∀ks:List Pat,badL .row ks=sumN (fun k=>k.bad+k.hd.kR) ks
 | []=>by rw[badL];rfl
 |k::ks=>by rw[badL,badL_row ks];rfl
theorem badL_alt:∀ks:List Pat,badL .alt ks=sumN (fun k=>k.bad+k.hd.kO) ks
 | []=>by rw[badL];rfl
 |k::ks=>by rw[badL,badL_alt ks];rfl
theorem bad_nil(h:Hd):(Pat.node h []).bad=0:=by rw[bad_node,badL]
theorem bad_one(h:Hd)(k:Pat)(h1:h≠.row)(h2:h≠.alt):(Pat.node h [k]).bad=k.bad:=by
 rw[bad_node,badL,badL]
 show k.bad+h.kB k+0=k.bad
 cases h <;> first | rfl | exact absurd rfl h1 | exact absurd rfl h2
theorem bad_two(h:Hd)(k l:Pat)(h1:h≠.row)(h2:h≠.alt):(Pat.node h [k,l]).bad=k.bad+l.bad:=by
 rw[bad_node,badL,badL,badL]
 show k.bad+h.kB k+(l.bad+h.kB l+0)=k.bad+l.bad
 cases h <;> first | rfl | exact absurd rfl h1 | exact absurd rfl h2
theorem join_len(sep x:Str)(xs:List Str):(Txt.join sep (x::xs)).length=x.length+(xs.map (·.length)).sum+xs.length*sep.length:=by
 have fold:∀(xs:List Str) (acc:Array Nat),(xs.foldl (fun a p=>a++sep.cps++p.cps) acc).size=acc.size+(xs.map (·.length)).sum+xs.length*sep.length:=by
  intro xs
  induction xs with
  |nil=>intro acc;simp
  |cons x xs ih =>
   intro acc
   rw[List.foldl_cons,ih,Array.size_append,Array.size_append,List.map_cons,List.sum_cons,List.length_cons,Nat.add_mul]
   show acc.size+sep.length+x.length+_+_=_
   omega
 exact fold xs x.cps
theorem w_row3(h:Hd):(if inV (.str h.word) wrapRow=true then 3 else 0)=h.kO:=by
 have:inV (.str h.word) wrapRow=(match h.wd with | .alt=>true | _=>false):=by rw[h.word_wd];cases h.wd <;> decide +kernel
 rw[this]
 cases h <;> first | rfl | (rename_i l;cases l <;> rfl)
theorem w_times3(h:Hd):(if inV (.str h.word) wrapTimes=true then 3 else 0)=h.kR+h.kO+h.kT:=by
 have:inV (.str h.word) wrapTimes=(match h.wd with | .row=>true | .alt=>true | .times=>true | _=>false):=by rw[h.word_wd];cases h.wd <;> decide +kernel
 rw[this]
 cases h <;> first | rfl | (rename_i l;cases l <;> rfl)
theorem wr_txt(ws:List V)(p:Pat):(wrT ws p.wt).length=p.txt.length+(if inV (.str p.hd.word) ws=true then 3 else 0):=by
 obtain⟨h,ks⟩:=p
 show(if inV (.str h.word) ws=true then("<:" ++ (Pat.node h ks).txt)++">" else(Pat.node h ks).txt:Str).length=_+(if inV (.str h.word) ws=true then 3 else 0)
 split
 ·rw[len_app,len_app,l_lc,l_gt];omega
 ·rfl
theorem row_len(ks:List Pat):(Pat.node .row ks).txt.length=sumN (fun k=>k.txt.length+k.hd.kO) ks:=by
 have e:(Pat.node .row ks).txt=Txt.join "" ((ks.map Pat.wt).map (wrT wrapRow)):=by rw[txt_node];rfl
 rw[e]
 have go:∀ks:List Pat,(((ks.map Pat.wt).map (wrT wrapRow)).map (·.length)).sum=sumN (fun k=>k.txt.length+k.hd.kO) ks:=by
  intro ks
  induction ks with
  |nil=>rfl
  |cons k ks ih =>
   rw[List.map_cons,List.map_cons,List.map_cons,List.sum_cons,ih,wr_txt,w_row3]
   rfl
 cases ks with
 |nil=>rfl
 |cons k ks =>
  rw[List.map_cons,List.map_cons,join_len,l_e,Nat.mul_zero,go,wr_txt,w_row3]
  rfl
theorem alt_len(k:Pat)(ks:List Pat):(Pat.node .alt (k::ks)).txt.length=k.txt.length+sumN (fun k=>1+k.txt.length) ks:=by
 have e:(Pat.node .alt (k::ks)).txt=Txt.join "|" (((k::ks).map Pat.wt).map (·.2)):=by rw[txt_node];rfl
 rw[e]
 have go:∀ks:List Pat,(((ks.map Pat.wt).map (·.2)).map (·.length)).sum+((ks.map Pat.wt).map (·.2)).length*1=sumN (fun k=>1+k.txt.length) ks:=by
  intro ks
  induction ks with
  |nil=>rfl
  |cons k ks ih =>
   rw[List.map_cons,List.map_cons,List.map_cons,List.sum_cons,List.length_cons]
   show k.txt.length+_+_=(1+k.txt.length)+_
   rw[← ih]
   omega
 rw[List.map_cons,List.map_cons,join_len,l_bar,Nat.add_assoc,go]
 rfl
theorem sumN_add(f g:Pat->Nat):∀ks:List Pat,sumN (fun k=>f k+g k) ks=sumN f ks+sumN g ks
 | []=>rfl
 |k::ks=>by
  show f k+g k+_=(f k+_)+(g k+_)
  rw[sumN_add f g ks]
  omega
theorem sumN_congr{f g:Pat->Nat}(h:∀k,f k=g k):∀ks:List Pat,sumN f ks=sumN g ks
 | []=>rfl
 |k::ks=>by
  show f k+_=g k+_
  rw[h,sumN_congr h ks]
theorem tl_row(ks:List Pat):tl (.node .row ks)=sumN (fun k=>tl k+k.hd.kR+k.hd.kO) ks:=by
 unfold tl
 rw[row_len,bad_node,badL_row,← sumN_add]
 refine sumN_congr (fun k=>?_) ks
 omega
theorem tl_alt(k:Pat)(ks:List Pat):tl (.node .alt (k::ks))=tl k+k.hd.kO+sumN (fun k=>1+tl k+k.hd.kO) ks:=by
 unfold tl
 rw[alt_len,bad_node,badL_alt]
 show _+(k.bad+k.hd.kO+sumN (fun k=>k.bad+k.hd.kO) ks)=_
 have:sumN (fun k=>1+(k.txt.length+k.bad)+k.hd.kO) ks=sumN (fun k=>1+k.txt.length) ks+sumN (fun k=>k.bad+k.hd.kO) ks:=by
  rw[← sumN_add]
  refine sumN_congr (fun k=>?_) ks
  omega
 rw[this]
 omega
inductive ShL(R:Int->Pat->Int->Prop):Int->List Pat->Int->Prop
 |nil {c:Int}:ShL R c [] c
 |cons {c e c':Int} {k:Pat} {ks:List Pat}:R c k e->ShL R e ks c'->ShL R c (k::ks) c'
def Shp:Nat->Int->Pat->Int->Prop
 |0,_,_,_=>False
 |n+1,c,.node h ks,c'=>match h with
  |.sign s=>ks=[]/\s.length=1/\c'=c
  |.any=>ks=[]/\c'=c
  |.beg=>ks=[]/\c'=c
  |.fin=>ks=[]/\c'=c
  |.inn rs=>ks=[]/\(∀r∈rs,r.1.length=1/\r.2.length=1)/\c'=c
  |.out rs=>ks=[]/\(∀r∈rs,r.1.length=1/\r.2.length=1)/\c'=c
  |.row=>ks.length≠1/\ShL (Shp n) c ks c'
  |.alt=>2<=ks.length/\ShL (Shp n) c ks c'
  |.times lo hi _=>∃k,ks=[k]/\(0<=lo/\lo<=9)/\(∀x,hi=some x->0<=x/\x<=9)/\Shp n c k c'
  |.grp j=>∃k,ks=[k]/\j=c+1/\Shp n (c+1) k c'
  |.again j=>ks=[]/\0<=j/\j<=9/\c'=c
  |.hav j=>∃y z e,ks=[y,z]/\(0<=j/\j<=9)/\Shp n c y e/\Shp n e z c'
  |.look _=>∃k,ks=[k]/\Shp n c k c'
theorem ShL.imp{R R':Int->Pat->Int->Prop}(h:∀c k e,R c k e->R' c k e):∀ {c:Int} {ks:List Pat} {c':Int},ShL R c ks c'->ShL R' c ks c'
 |_,_,_,.nil=>.nil
 |_,_,_,.cons a b=>.cons (h _ _ _ a) (b.imp h)
theorem Shp.deep:∀ {n m:Nat} {c c':Int} {p:Pat},Shp n c p c'->n<=m->Shp m c p c'
 |0,_,_,_,_,h,_=>h.elim
 |n+1,0,_,_,_,_,hm=>absurd hm (by omega)
 |n+1,m+1,c,c',.node hd ks,h,hm=>by
  have ih:∀c k e,Shp n c k e->Shp m c k e:=fun c k e z=>Shp.deep z (by omega)
  cases hd with
  |sign s=>exact h
  |any=>exact h
  |beg=>exact h
  |fin=>exact h
  |inn rs=>exact h
  |out rs=>exact h
  |row=>exact⟨h.1,h.2.imp ih⟩
  |alt=>exact⟨h.1,h.2.imp ih⟩
  |times lo hi how=>obtain⟨k,e,h1,h2,h3⟩:=h;exact⟨k,e,h1,h2,ih _ _ _ h3⟩
  |grp j=>obtain⟨k,e,h1,h2⟩:=h;exact⟨k,e,h1,ih _ _ _ h2⟩
  |again j=>exact h
  |hav j=>obtain⟨y,z,e,e0,h1,h2,h3⟩:=h;exact⟨y,z,e,e0,h1,ih _ _ _ h2,ih _ _ _ h3⟩
  |look l=>obtain⟨k,e,h1⟩:=h;exact⟨k,e,ih _ _ _ h1⟩
theorem sg_in{t:Str}{i:Nat}(h:sgT t i≠""):i<t.length/\(sgT t i).length=1:=by
 have h1:i<t.length:=by
  by_cases z:i<t.length
  ·exact z
  ·exact absurd (sgT_end (by omega)) h
 refine⟨h1,?_⟩
 have:=sgT_len t i
 have h0:(sgT t i).length≠0:=fun z=>h (cs_inj (by
  have:(cs (sgT t i)).length=0:=by rw[cs_len];exact z
  rw[List.eq_nil_of_length_eq_zero this]
  rfl))
 omega
theorem sg_lt{t x:Str}{i:Nat}(h:sgT t i=x)(hx:x≠""):i<t.length:=(sg_in (by rw[h];exact hx)).1
theorem rSign_ok{t st s:Str}{i j:Nat}(h:rSign t st i=some (s,j)):s.length=1/\j=i+(sg s st).length/\i<j/\j<=t.length:=by
 unfold rSign at h
 by_cases h1:sgT t i = "\\"
 ·rw[if_pos h1]at h
  by_cases h2:sgT t (i+1)=""
  ·rw[if_pos h2]at h;cases h
  ·rw[if_neg h2]at h
   by_cases h3:within (sgT t (i+1)) st=true
   ·rw[if_pos h3]at h
    cases h
    have:=sg_in h2
    refine⟨this.2,?_,by omega,by omega⟩
    unfold sg
    rw[if_pos h3,len_app,l_bs,this.2]
   ·rw[if_neg h3]at h;cases h
 ·rw[if_neg h1]at h
  by_cases h2:sgT t i=""
  ·rw[if_pos h2]at h;cases h
  ·rw[if_neg h2]at h
   by_cases h3:within (sgT t i) st=true
   ·rw[if_pos h3]at h;cases h
   ·rw[if_neg h3]at h
    cases h
    have:=sg_in h2
    refine⟨this.2,?_,by omega,by omega⟩
    unfold sg
    rw[if_neg h3,this.2]
theorem rDig_ok{t:Str}{k:Int}{i j:Nat}(h:rDig t i=some (k,j)):0<=k/\k<=9/\j=i+1/\j<=t.length/\(num k).length=1:=by
 unfold rDig at h
 cases hd:dgt (sgT t i) with
 |none=>rw[hd]at h;cases h
 |some n =>
  rw[hd]at h
  cases h
  have hn:n<=9:=(dgt_int hd).2.2
  have hi:i<t.length:=(sg_in (fun z=>by rw[z]at hd;exact absurd hd (by rw[show dgt "" = none by decide +kernel];simp))).1
  refine⟨by omega,by omega,rfl,by omega,?_⟩
  rcases(show n=0∨n=1∨n=2∨n=3∨n=4∨n=5∨n=6∨n=7∨n=8∨n=9 by omega) with rfl | rfl | rfl | rfl | rfl | rfl | rfl | rfl | rfl | rfl <;> decide +kernel
theorem rRun_ok{t:Str}{r:Str×Str}{i j:Nat}(h:rRun t i=some (r,j)):r.1.length=1/\r.2.length=1/\i+(runT r).length<=j/\i<j/\j<=t.length:=by
 unfold rRun at h
 cases h1:rSign t strokedR i with
 |none=>rw[h1]at h;cases h
 |some q =>
  obtain⟨lo,k⟩:=q
  rw[h1]at h
  obtain⟨a1,a2,a3,a4⟩:=rSign_ok h1
  change (if sgT t k="-" then _ else _)=_ at h
  by_cases hm:sgT t k="-"
  ·rw[if_pos hm]at h
   cases h2:rSign t strokedR (k+1) with
   |none=>rw[h2]at h;cases h
   |some q =>
    obtain⟨hi,l⟩:=q
    rw[h2]at h
    cases h
    obtain⟨b1,b2,b3,b4⟩:=rSign_ok h2
    refine⟨a1,b1,?_,by omega,b4⟩
    unfold runT
    split
    ·show i+(sg lo strokedR).length<=_
     omega
    ·rw[len_app,len_app,l_dash]
     show i+((sg lo strokedR).length+1+(sg hi strokedR).length)<=_
     omega
  ·rw[if_neg hm]at h
   cases h
   refine⟨a1,a1,?_,a3,a4⟩
   unfold runT
   rw[if_pos (decide_eq_true rfl)]
   show i+(sg lo strokedR).length<=_
   omega
theorem runs_join0(rs:List (Str×Str)):(Txt.join "" (rs.map runT)).length<=((rs.map runT).map (·.length)).sum:=by
 have:=len_join "" (rs.map runT)
 rw[l_e]at this
 omega
theorem rRuns_ok{t:Str}:∀(n i:Nat) (rs:List (Str×Str)) (j:Nat),t.length-i<=n->rRuns t i=some (rs,j)->(∀r∈rs,r.1.length=1/\r.2.length=1)/\i+((rs.map runT).map (·.length)).sum+1<=j/\j<=t.length/\rs.length+i<j:=by
 intro n
 induction n with
 |zero =>
  intro i rs j hn h
  rw[rRuns]at h
  by_cases h1:sgT t i="]"
  ·rw[if_pos h1]at h
   have:=sg_lt h1 (by decide +kernel)
   omega
  ·rw[if_neg h1]at h
   cases h2:rRun t i with
   |none=>rw[h2]at h;cases h
   |some q =>
    obtain⟨r,k⟩:=q
    have:=rRun_ok h2
    omega
 |succ n ih =>
  intro i rs j hn h
  rw[rRuns]at h
  by_cases h1:sgT t i="]"
  ·rw[if_pos h1]at h
   cases h
   have:=sg_lt h1 (by decide +kernel)
   exact⟨by simp,by simp,by omega,by simp⟩
  ·rw[if_neg h1]at h
   cases h2:rRun t i with
   |none=>rw[h2]at h;cases h
   |some q =>
    obtain⟨r,k⟩:=q
    rw[h2]at h
    obtain⟨a1,a2,a3,a4,a5⟩:=rRun_ok h2
    change (if h:i<k/\k<=t.length then _ else _)=_ at h
    rw[dif_pos ⟨a4,a5⟩]at h
    cases h3:rRuns t k with
    |none=>rw[h3]at h;cases h
    |some q =>
     obtain⟨rs',l⟩:=q
     rw[h3]at h
     cases h
     obtain⟨b1,b2,b3,b4⟩:=ih k rs' j (by omega) h3
     refine⟨fun x hx=>?_,?_,b3,?_⟩
     ·rcases List.mem_cons.mp hx with rfl | hx
      ·exact⟨a1,a2⟩
      ·exact b1 x hx
     ·rw[List.map_cons,List.map_cons,List.sum_cons];omega
     ·rw[List.length_cons];omega
theorem rLs_ok{t:Str}{h:Hd}{i j:Nat}{c:Int}(e:rLs t i=some (h,j)):Shp 1 c (.node h []) c/\i+tl (.node h [])<=j+1/\i<j/\j<=t.length/\h.kR=0/\h.kO=0/\h.kT=0/\∃rs,(h=.inn rs∨h=.out rs)/\rs.length<=t.length:=by
 unfold rLs at e
 by_cases h1:sgT t i="^"
 ·rw[if_pos h1]at e
  cases h2:rRuns t (i+1) with
  |none=>rw[h2]at e;cases e
  |some q =>
   obtain⟨rs,k⟩:=q
   rw[h2]at e
   cases e
   obtain⟨a1,a2,a3,a4⟩:=rRuns_ok _ _ _ _ (Nat.le_refl _) h2
   have a5:=runs_join0 rs
   refine⟨⟨rfl,a1,rfl⟩,?_,by omega,a3,rfl,rfl,rfl,rs,.inr rfl,by omega⟩
   unfold tl
   rw[bad_nil,txt_node]
   show i+((("[^" ++ Txt.join "" (rs.map runT))++"]":Str).length+0)<=_
   rw[len_app,len_app,l_lsh,l_rs]
   omega
 ·rw[if_neg h1]at e
  cases h2:rRuns t i with
  |none=>rw[h2]at e;cases e
  |some q =>
   obtain⟨rs,k⟩:=q
   rw[h2]at e
   cases e
   obtain⟨a1,a2,a3,a4⟩:=rRuns_ok _ _ _ _ (Nat.le_refl _) h2
   have a5:=runs_join0 rs
   refine⟨⟨rfl,a1,rfl⟩,?_,by omega,a3,rfl,rfl,rfl,rs,.inl rfl,by omega⟩
   unfold tl
   rw[bad_nil,txt_node]
   show i+((("[" ++ Txt.join "" (rs.map runT))++"]":Str).length+0)<=_
   rw[len_app,len_app,l_ls,l_rs]
   omega
theorem rHi_ok{t:Str}{hi:Option Int}{i j:Nat}(e:rHi t i=some (hi,j)):(∀x,hi=some x->0<=x/\x<=9)/\j=i+(hiT hi).length/\(i<=t.length->j<=t.length):=by
 unfold rHi at e
 by_cases h1:sgT t i="?" ∨ sgT t i="!" ∨ sgT t i="}"
 ·rw[if_pos h1]at e
  cases e
  exact⟨fun x z=>(by cases z),by show i=i+("":Str).length;rw[l_e];rfl,fun z=>z⟩
 ·rw[if_neg h1]at e
  cases h2:rDig t i with
  |none=>rw[h2]at e;cases e
  |some q =>
   obtain⟨k,l⟩:=q
   rw[h2]at e
   cases e
   obtain⟨a1,a2,a3,a4,a5⟩:=rDig_ok h2
   exact⟨fun x z=>(by cases z;exact⟨a1,a2⟩),by show j=i+(num k).length;omega,fun _=>a4⟩
theorem rHow_ok(t:Str)(i:Nat):(rHow t i).2=i+(rHow t i).1.sign.length/\(i<=t.length->(rHow t i).2<=t.length):=by
 unfold rHow
 by_cases h1:sgT t i="?"
 ·rw[if_pos h1]
  have:=sg_lt h1 (by decide +kernel)
  exact⟨by show i+1=i+("?":Str).length;rw[l_q],fun _=>this⟩
 ·rw[if_neg h1]
  by_cases h2:sgT t i="!"
  ·rw[if_pos h2]
   have:=sg_lt h2 (by decide +kernel)
   exact⟨by show i+1=i+("!":Str).length;rw[l_x],fun _=>this⟩
  ·rw[if_neg h2]
   exact⟨by show i=i+("":Str).length;rw[l_e];rfl,fun z=>z⟩
theorem rTurns_ok{t:Str}{p q:Pat}{i j n:Nat}{c c':Int}(hp:Shp n c p c')(e:rTurns t i p=some (q,j)):∃lo hi how,q=.node (.times lo hi how) [p]/\Shp (n+1) c q c'/\tl q+i=tl p+p.hd.kR+p.hd.kO+p.hd.kT+j+1/\i<j/\j<=t.length:=by
 unfold rTurns at e
 cases h1:rDig t i with
 |none=>rw[h1]at e;cases e
 |some x =>
  obtain⟨lo,k⟩:=x
  rw[h1]at e
  obtain⟨a1,a2,a3,a4,a5⟩:=rDig_ok h1
  change (if sgT t k="," then _ else _)=_ at e
  by_cases h2:sgT t k=","
  ·rw[if_pos h2]at e
   have hk:=sg_lt h2 (by decide +kernel)
   cases h3:rHi t (k+1) with
   |none=>rw[h3]at e;cases e
   |some x =>
    obtain⟨hi,l⟩:=x
    rw[h3]at e
    obtain⟨b1,b2,b3⟩:=rHi_ok h3
    obtain⟨c1,c2⟩:=rHow_ok t l
    change (if sgT t (rHow t l).2="}" then _ else _)=_ at e
    by_cases h4:sgT t (rHow t l).2="}"
    ·rw[if_pos h4]at e
     cases e
     have hl:=sg_lt h4 (by decide +kernel)
     refine⟨lo,hi,_,rfl,⟨p,rfl,⟨a1,a2⟩,b1,hp⟩,?_,by omega,by omega⟩
     unfold tl
     rw[bad_one _ _ (fun z=>by cases z) (fun z=>by cases z),txt_node]
     have e1:(Hd.times lo hi (rHow t l).1).txt ([p].map Pat.wt)=wrT wrapTimes p.wt++turnsT lo hi (rHow t l).1:=rfl
     rw[e1,len_app,wr_txt,w_times3]
     unfold turnsT
     rw[len_app,len_app,len_app,len_app,len_app,l_lb,l_comma,l_rb]
     omega
    ·rw[if_neg h4]at e;cases e
  ·rw[if_neg h2]at e;cases e
theorem k_le(h:Hd):h.kR+h.kO+h.kT<=3:=by cases h <;> simp[Hd.kR,Hd.kO,Hd.kT]
structure RdOk(t:Str)(n i:Nat)(c:Int)(p:Pat)(j:Nat)(c':Int):Prop where
 lt:i<j
 hi:j<=t.length
 sh:Shp n c p c'
def WOk(t:Str)(n:Nat)(W:Str->Nat->Int->RO):Prop:=∀close i c p j c',close.length=1->i<=t.length->W close i c=some (p,j,c')->RdOk t n i c p j c'/\i+tl p+1<=j
section
variable{t:Str}{n:Nat}{W:Str->Nat->Int->RO}
theorem rBk_ok(hW:WOk t n W){i j:Nat}{c c':Int}{p:Pat}(hi:i<=t.length)(e:rBk W t i c=some (p,j,c')):RdOk t (n+1) i c p j c'/\i+tl p+p.hd.kR+p.hd.kO+p.hd.kT<=j+1:=by
 unfold rBk at e
 by_cases h1:sgT t i=":"
 ·rw[if_pos h1]at e
  have hl:=sg_lt h1 (by decide +kernel)
  obtain⟨a,b⟩:=hW _ _ _ _ _ _ (by decide +kernel) (by omega) e
  have:=k_le p.hd
  have:=a.lt
  exact⟨⟨by omega,a.hi,a.sh.deep (by omega)⟩,by omega⟩
 ·rw[if_neg h1]at e
  cases h2:lkOf (sgT t i) with
  |some l =>
   rw[h2]at e
   have hl:i<t.length:=(sg_in (fun z=>by rw[z]at h2;exact absurd h2 (by rw[show lkOf "" = none by decide +kernel];simp))).1
   cases h3:W ">" (i+1) c with
   |none=>rw[h3]at e;cases e
   |some x =>
    obtain⟨q,k,c2⟩:=x
    rw[h3]at e
    cases e
    obtain⟨a,b⟩:=hW _ _ _ _ _ _ (by decide +kernel) (by omega) h3
    have:=a.lt
    refine⟨⟨by omega,a.hi,⟨q,rfl,a.sh⟩⟩,?_⟩
    show i+tl _+0+0+0<=_
    unfold tl at b ⊢
    rw[bad_one _ _ (fun z=>by cases z) (fun z=>by cases z),txt_node]
    show i+(((("<" ++ l.sign)++q.txt)++">":Str).length+q.bad)+0+0+0<=_
    rw[len_app,len_app,len_app,l_lt,l_gt,lk_len]
    omega
  |none =>
   rw[h2]at e
   cases h3:rDig t i with
   |none=>rw[h3]at e;cases e
   |some x =>
    obtain⟨m,k⟩:=x
    rw[h3]at e
    obtain⟨d1,d2,d3,d4,d5⟩:=rDig_ok h3
    cases h4:W "~" k c with
    |none=>simp only[h4]at e;cases e
    |some x =>
     obtain⟨y,k1,c1⟩:=x
     simp only[h4]at e
     obtain⟨a,b⟩:=hW _ _ _ _ _ _ (by decide +kernel) d4 h4
     cases h5:W ">" k1 c1 with
     |none=>simp only[h5]at e;cases e
     |some x =>
      obtain⟨z,k2,c2⟩:=x
      simp only[h5]at e
      cases e
      obtain⟨a',b'⟩:=hW _ _ _ _ _ _ (by decide +kernel) a.hi h5
      have:=a.lt
      have:=a'.lt
      refine⟨⟨by omega,a'.hi,⟨y,z,c1,rfl,⟨d1,d2⟩,a.sh,a'.sh⟩⟩,?_⟩
      show i+tl _+0+0+0<=_
      unfold tl at b b' ⊢
      rw[bad_two _ _ _ (fun z=>by cases z) (fun z=>by cases z),txt_node]
      show i+(((((("<" ++ num m)++y.txt)++"~")++z.txt)++">":Str).length+(y.bad+z.bad))+0+0+0<=_
      rw[len_app,len_app,len_app,len_app,len_app,l_lt,l_til,l_gt]
      omega
theorem tl_leaf{h:Hd}{m:Nat}(e:(h.txt []).length<=m):tl (.node h [])<=m:=by
 unfold tl
 rw[bad_nil,txt_node]
 exact e
theorem rSi_ok(hW:WOk t n W){i j:Nat}{c c':Int}{p:Pat}(hi:i<=t.length)(e:rSi W t i c=some (p,j,c')):RdOk t (n+1) i c p j c'/\i+tl p+p.hd.kR+p.hd.kO+p.hd.kT<=j:=by
 unfold rSi at e
 by_cases h1:sgT t i="("
 ·rw[if_pos h1]at e
  have hl:=sg_lt h1 (by decide +kernel)
  cases h3:W ")" (i+1) (c+1) with
  |none=>rw[h3]at e;cases e
  |some x =>
   obtain⟨q,k,c2⟩:=x
   rw[h3]at e
   cases e
   obtain⟨a,b⟩:=hW _ _ _ _ _ _ (by decide +kernel) (by omega) h3
   have:=a.lt
   refine⟨⟨by omega,a.hi,⟨q,rfl,rfl,a.sh⟩⟩,?_⟩
   show i+tl _+0+0+0<=_
   unfold tl at b ⊢
   rw[bad_one _ _ (fun z=>by cases z) (fun z=>by cases z),txt_node]
   show i+((("(" ++ q.txt)++")":Str).length+q.bad)+0+0+0<=_
   rw[len_app,len_app,l_lp,l_rp]
   omega
 rw[if_neg h1]at e
 by_cases h2:sgT t i="<"
 ·rw[if_pos h2]at e
  have hl:=sg_lt h2 (by decide +kernel)
  obtain⟨a,b⟩:=rBk_ok hW (by omega) e
  have:=a.lt
  exact⟨⟨by omega,a.hi,a.sh⟩,by omega⟩
 rw[if_neg h2]at e
 by_cases h3:sgT t i="["
 ·rw[if_pos h3]at e
  have hl:=sg_lt h3 (by decide +kernel)
  cases h4:rLs t (i+1) with
  |none=>rw[h4]at e;cases e
  |some x =>
   obtain⟨h,k⟩:=x
   rw[h4]at e
   cases e
   obtain⟨a1,a2,a3,a4,a5,a6,a7,_⟩:=rLs_ok (c:=c) h4
   refine⟨⟨by omega,a4,a1.deep (by omega)⟩,?_⟩
   show i+tl _+h.kR+h.kO+h.kT<=_
   omega
 rw[if_neg h3]at e
 by_cases h4:sgT t i="&"
 ·rw[if_pos h4]at e
  have hl:=sg_lt h4 (by decide +kernel)
  cases h5:rDig t (i+1) with
  |none=>rw[h5]at e;cases e
  |some x =>
   obtain⟨m,k⟩:=x
   rw[h5]at e
   cases e
   obtain⟨d1,d2,d3,d4,d5⟩:=rDig_ok h5
   refine⟨⟨by omega,d4,⟨rfl,d1,d2,rfl⟩⟩,?_⟩
   have:=tl_leaf (h:=.again m) (m:=2) (by show("&" ++ num m:Str).length<=2;rw[len_app,l_amp,d5];exact Nat.le_refl _)
   show i+tl _+0+0+0<=_
   omega
 rw[if_neg h4]at e
 by_cases h5:sgT t i="."
 ·rw[if_pos h5]at e
  have hl:=sg_lt h5 (by decide +kernel)
  cases e
  have:=tl_leaf (h:=.any) (m:=1) (by decide +kernel)
  exact⟨⟨by omega,hl,⟨rfl,rfl⟩⟩,by show i+tl _+0+0+0<=_;omega⟩
 rw[if_neg h5]at e
 by_cases h6:sgT t i="^"
 ·rw[if_pos h6]at e
  have hl:=sg_lt h6 (by decide +kernel)
  cases e
  have:=tl_leaf (h:=.beg) (m:=1) (by decide +kernel)
  exact⟨⟨by omega,hl,⟨rfl,rfl⟩⟩,by show i+tl _+0+0+0<=_;omega⟩
 rw[if_neg h6]at e
 by_cases h7:sgT t i="$"
 ·rw[if_pos h7]at e
  have hl:=sg_lt h7 (by decide +kernel)
  cases e
  have:=tl_leaf (h:=.fin) (m:=1) (by decide +kernel)
  exact⟨⟨by omega,hl,⟨rfl,rfl⟩⟩,by show i+tl _+0+0+0<=_;omega⟩
 rw[if_neg h7]at e
 cases h8:rSign t stroked i with
 |none=>rw[h8]at e;cases e
 |some x =>
  obtain⟨s,k⟩:=x
  rw[h8]at e
  cases e
  obtain⟨a1,a2,a3,a4⟩:=rSign_ok h8
  refine⟨⟨a3,a4,⟨rfl,a1,rfl⟩⟩,?_⟩
  have:=tl_leaf (h:=.sign s) (Nat.le_refl (sg s stroked).length)
  show i+tl _+0+0+0<=_
  omega
theorem rPt_ok(hW:WOk t n W){i j:Nat}{c c':Int}{p:Pat}(hi:i<=t.length)(e:rPt W t i c=some (p,j,c')):RdOk t (n+2) i c p j c'/\i+(tl p+p.hd.kR+p.hd.kO)<=j:=by
 unfold rPt at e
 cases h1:rSi W t i c with
 |none=>rw[h1]at e;cases e
 |some x =>
  obtain⟨q,k,c2⟩:=x
  rw[h1]at e
  obtain⟨a,b⟩:=rSi_ok hW hi h1
  have:=a.lt
  change (if sgT t k="{" then _ else _)=_ at e
  by_cases h2:sgT t k="{"
  ·rw[if_pos h2]at e
   cases h3:rTurns t (k+1) q with
   |none=>rw[h3]at e;cases e
   |some x =>
    obtain⟨r,l⟩:=x
    rw[h3]at e
    cases e
    obtain⟨lo,hi,how,rfl,d1,d2,d3,d4⟩:=rTurns_ok a.sh h3
    refine⟨⟨by omega,d4,d1⟩,?_⟩
    show i+(tl _+0+0)<=_
    omega
  ·rw[if_neg h2]at e
   cases e
   exact⟨⟨a.lt,a.hi,a.sh.deep (by omega)⟩,by omega⟩
theorem rPts_ok{pt:Nat->Int->RO}{m:Nat}(hp:∀i c p j c',i<=t.length->pt i c=some (p,j,c')->RdOk t m i c p j c'/\i+(tl p+p.hd.kR+p.hd.kO)<=j):∀(N i:Nat) (c:Int) (ps:List Pat) (j:Nat) (c':Int),t.length-i<=N->i<=t.length->rPts pt t i c=some (ps,j,c')->ShL (Shp m) c ps c'/\i+sumN (fun k=>tl k+k.hd.kR+k.hd.kO) ps<=j/\ps.length+i<=j/\j<=t.length:=by
 intro N
 induction N with
 |zero =>
  intro i c ps j c' hN hi e
  rw[rPts]at e
  have:sgT t i="":=sgT_end (by omega)
  rw[if_pos (by rw[this];decide +kernel)]at e
  cases e
  exact⟨.nil,by show i+0<=_;omega,by show 0+i<=_;omega,hi⟩
 |succ N ih =>
  intro i c ps j c' hN hi e
  rw[rPts]at e
  by_cases h1:stopS (sgT t i)=true
  ·rw[if_pos h1]at e
   cases e
   exact⟨.nil,by show i+0<=_;omega,by show 0+i<=_;omega,hi⟩
  ·rw[if_neg h1]at e
   cases h2:pt i c with
   |none=>rw[h2]at e;cases e
   |some x =>
    obtain⟨p,k,c1⟩:=x
    rw[h2]at e
    obtain⟨a,b⟩:=hp _ _ _ _ _ hi h2
    have:=a.lt
    have:=a.hi
    change (if h:i<k/\k<=t.length then _ else _)=_ at e
    rw[dif_pos ⟨a.lt,a.hi⟩]at e
    cases h3:rPts pt t k c1 with
    |none=>rw[h3]at e;cases e
    |some x =>
     obtain⟨qs,l,c2⟩:=x
     rw[h3]at e
     cases e
     obtain⟨b1,b2,b3,b4⟩:=ih k c1 qs j c' (by omega) a.hi h3
     refine⟨.cons a.sh b1,?_,?_,b4⟩
     ·show i+((tl p+p.hd.kR+p.hd.kO)+sumN _ qs)<=_
      omega
     ·rw[List.length_cons];omega
theorem rLn_ok{pt:Nat->Int->RO}{m:Nat}(hp:∀i c p j c',i<=t.length->pt i c=some (p,j,c')->RdOk t m i c p j c'/\i+(tl p+p.hd.kR+p.hd.kO)<=j){i j:Nat}{c c':Int}{p:Pat}(hi:i<=t.length)(e:rLn pt t i c=some (p,j,c')):i<=j/\j<=t.length/\Shp (m+1) c p c'/\i+(tl p+p.hd.kO)<=j:=by
 unfold rLn at e
 cases h1:rPts pt t i c with
 |none=>rw[h1]at e;cases e
 |some x =>
  obtain⟨ps,k,c2⟩:=x
  rw[h1]at e
  cases e
  obtain⟨a,b,b',d⟩:=rPts_ok hp _ _ _ _ _ _ (Nat.le_refl _) hi h1
  match ps,a,b,b' with
  | [],a,b,b' =>
   refine⟨by omega,d,⟨by decide,a.imp fun _ _ _ z=>z⟩,?_⟩
   show i+(tl (.node .row [])+0)<=_
   rw[tl_row]
   exact b
  | [q],.cons a .nil,b,b' =>
   refine⟨by omega,d,a.deep (by omega),?_⟩
   have b2:i+((tl q+q.hd.kR+q.hd.kO)+0)<=j:=b
   show i+(tl q+q.hd.kO)<=_
   omega
  |q::r::qs,a,b,b' =>
   refine⟨by omega,d,⟨by simp,a⟩,?_⟩
   show i+(tl (.node .row (q::r::qs))+0)<=_
   rw[tl_row]
   exact b
theorem rBrs_ok{ln:Nat->Int->RO}{m:Nat}(hp:∀i c p j c',i<=t.length->ln i c=some (p,j,c')->i<=j/\j<=t.length/\Shp m c p c'/\i+(tl p+p.hd.kO)<=j):∀(N i:Nat) (c:Int) (ps:List Pat) (j:Nat) (c':Int),t.length-i<=N->i<=t.length->rBrs ln t i c=some (ps,j,c')->ShL (Shp m) c ps c'/\i+sumN (fun k=>1+tl k+k.hd.kO) ps<=j/\ps.length+i<=j/\j<=t.length:=by
 intro N
 induction N with
 |zero =>
  intro i c ps j c' hN hi e
  rw[rBrs]at e
  have:sgT t i="":=sgT_end (by omega)
  rw[if_neg (by rw[this];decide +kernel)]at e
  cases e
  exact⟨.nil,by show i+0<=_;omega,by show 0+i<=_;omega,hi⟩
 |succ N ih =>
  intro i c ps j c' hN hi e
  rw[rBrs]at e
  by_cases h1:sgT t i="|"
  ·rw[if_pos h1]at e
   have hl:=sg_lt h1 (by decide +kernel)
   cases h2:ln (i+1) c with
   |none=>rw[h2]at e;cases e
   |some x =>
    obtain⟨p,k,c1⟩:=x
    rw[h2]at e
    obtain⟨a1,a2,a3,a4⟩:=hp _ _ _ _ _ (by omega) h2
    change (if h:i<k/\k<=t.length then _ else _)=_ at e
    rw[dif_pos ⟨by omega,a2⟩]at e
    cases h3:rBrs ln t k c1 with
    |none=>rw[h3]at e;cases e
    |some x =>
     obtain⟨qs,l,c2⟩:=x
     rw[h3]at e
     cases e
     obtain⟨b1,b2,b3,b4⟩:=ih k c1 qs j c' (by omega) a2 h3
     refine⟨.cons a3 b1,?_,?_,b4⟩
     ·show i+((1+tl p+p.hd.kO)+sumN _ qs)<=_
      omega
     ·rw[List.length_cons];omega
  ·rw[if_neg h1]at e
   cases e
   exact⟨.nil,by show i+0<=_;omega,by show 0+i<=_;omega,hi⟩
theorem rBranch_ok{ln:Nat->Int->RO}{m:Nat}(hp:∀i c p j c',i<=t.length->ln i c=some (p,j,c')->i<=j/\j<=t.length/\Shp m c p c'/\i+(tl p+p.hd.kO)<=j){i j:Nat}{c c':Int}{p:Pat}(hi:i<=t.length)(e:rBranch ln t i c=some (p,j,c')):i<=j/\j<=t.length/\Shp (m+1) c p c'/\i+tl p<=j:=by
 unfold rBranch at e
 cases h1:ln i c with
 |none=>rw[h1]at e;cases e
 |some x =>
  obtain⟨q,k,c1⟩:=x
  rw[h1]at e
  obtain⟨a1,a2,a3,a4⟩:=hp _ _ _ _ _ hi h1
  cases h2:rBrs ln t k c1 with
  |none=>simp only[h2]at e;cases e
  |some x =>
   obtain⟨qs,l,c2⟩:=x
   simp only[h2]at e
   cases e
   obtain⟨b1,b2,b3,b4⟩:=rBrs_ok hp _ _ _ _ _ _ (Nat.le_refl _) a2 h2
   match qs,b1,b2,b3 with
   | [],.nil,b2,b3=>exact⟨by omega,b4,a3.deep (by omega),by show i+tl q<=_;omega⟩
   |r::rs,b1,b2,b3 =>
    refine⟨by omega,b4,⟨by simp,.cons a3 b1⟩,?_⟩
    show i+tl (.node .alt (q::r::rs))<=_
    rw[tl_alt]
    omega
end
theorem rBr_ok{t:Str}:∀(d:Nat) {i j:Nat} {c c':Int} {p:Pat},i<=t.length->rBr t d i c=some (p,j,c')->i<=j/\j<=t.length/\Shp (4*d) c p c'/\i+tl p<=j
 |0,_,_,_,_,_,_,e=>by cases e
 |d+1,i,j,c,c',p,hi,e=>by
  have hW:WOk t (4*d) (rWd t d):=by
   intro close i c p j c' hc hi e
   unfold rWd rW at e
   cases h1:rBr t d i c with
   |none=>rw[h1]at e;cases e
   |some x =>
    obtain⟨q,k,c1⟩:=x
    rw[h1]at e
    obtain⟨a1,a2,a3,a4⟩:=rBr_ok d hi h1
    change (if sgT t k=close then _ else _)=_ at e
    by_cases h2:sgT t k=close
    ·rw[if_pos h2]at e
     cases e
     have:=sg_lt h2 (fun z=>by rw[z]at hc;cases hc)
     exact⟨⟨by omega,this,a3⟩,by omega⟩
    ·rw[if_neg h2]at e;cases e
  exact rBranch_ok (m:=4*d+3) (fun i c p j c' hi e=>rLn_ok (m:=4*d+2) (fun i c p j c' hi e=>rPt_ok hW hi e) hi e) hi e
theorem rWd_ok{t:Str}(d:Nat):WOk t (4*d) (rWd t d):=by
 intro close i c p j c' hc hi e
 unfold rWd rW at e
 cases h1:rBr t d i c with
 |none=>rw[h1]at e;cases e
 |some x =>
  obtain⟨q,k,c1⟩:=x
  rw[h1]at e
  obtain⟨a1,a2,a3,a4⟩:=rBr_ok d hi h1
  change (if sgT t k=close then _ else _)=_ at e
  by_cases h2:sgT t k=close
  ·rw[if_pos h2]at e
   cases e
   have:=sg_lt h2 (fun z=>by rw[z]at hc;cases hc)
   exact⟨⟨by omega,this,a3⟩,by omega⟩
  ·rw[if_neg h2]at e;cases e
theorem rLd_ok{t:Str}(d:Nat){i j:Nat}{c c':Int}{p:Pat}(hi:i<=t.length)(e:rLd t d i c=some (p,j,c')):i<=j/\j<=t.length/\Shp (4*d+3) c p c'/\i+(tl p+p.hd.kO)<=j:=rLn_ok (m:=4*d+2) (fun i c p j c' hi e=>rPt_ok (rWd_ok d) hi e) hi e
mutual
def Pat.dp:Pat->Int
 |.node _ ks=>1+(if ks=[] then 0 else mxL (dpL ks))
def dpL:List Pat->List Int
 | []=>[]
 |k::ks=>k.dp::dpL ks
end
theorem dpL_map:∀ks:List Pat,dpL ks=ks.map Pat.dp
 | []=>by rw[dpL];rfl
 |k::ks=>by rw[dpL,dpL_map ks];rfl
theorem dp_node(h:Hd)(ks:List Pat):(Pat.node h ks).dp=1+(if ks.map Pat.dp=[] then 0 else mxL (ks.map Pat.dp)):=by
 rw[Pat.dp,dpL_map]
 cases ks <;> rfl
def runK(r:Str×Str):Bool:=!decide (r.2.cps.toList<r.1.cps.toList)
def runsK(rs:List (Str×Str)):Bool:=decide (1<=rs.length/\rs.length<=8)&&rs.all runK
def partsK(n:Nat):Bool:=decide (2<=n/\n<=8)
def turnsK(lo:Int)(hi:Option Int):Bool:=decide (0<=lo/\lo<=9)&&(match hi with | none=>true | some h=>decide (1<=h/\lo<=h/\h<=9))
def Hd.keeps(G:Int)(n:Nat):Hd->Bool
 |.inn rs=>runsK rs
 |.out rs=>runsK rs
 |.row=>decide (n=0)||partsK n
 |.alt=>partsK n
 |.times lo hi _=>turnsK lo hi
 |.again j=>decide (1<=j/\j<=G)
 |.hav j=>decide (1<=j/\j<=G)
 |_=>true
mutual
def Pat.keeps(G:Int):Pat->Bool
 |.node h ks=>h.keeps G ks.length&&keepsL G ks
def keepsL(G:Int):List Pat->Bool
 | []=>true
 |k::ks=>k.keeps G&&keepsL G ks
end
theorem keepsL_all(G:Int):∀ks:List Pat,keepsL G ks=ks.all (Pat.keeps G)
 | []=>by rw[keepsL];rfl
 |k::ks=>by rw[keepsL,keepsL_all G ks];rfl
theorem keeps_node(G:Int)(h:Hd)(ks:List Pat):(Pat.node h ks).keeps G=(h.keeps G ks.length&&ks.all (Pat.keeps G)):=by rw[Pat.keeps,keepsL_all]
def kbB(p:Pat):Bool:=decide (p.groups<=9/\(p.size:Int)<=60/\p.dp<=8)&&p.keeps p.groups
theorem argBest_gt(f:Nat->Int):∀n:Nat,argBest (fun i j=>decide (f i>f j)) n<=n/\∀i,i<=n->f i<=f (argBest (fun i j=>decide (f i>f j)) n)
 |0=>⟨Nat.le_refl 0,fun i hi=>by rw[show i=0 by omega];exact Int.le_refl _⟩
 |n+1=>by
  obtain⟨h1,h2⟩:=argBest_gt f n
  simp only[argBest]
  split
  ·rename_i h
   have h':f (n+1)>f (argBest (fun i j=>decide (f i>f j)) n):=of_decide_eq_true h
   refine⟨Nat.le_refl _,fun i hi=>?_⟩
   by_cases e:i=n+1
   ·rw[e];exact Int.le_refl _
   ·have:=h2 i (by omega);omega
  ·rename_i h
   have h':¬f (n+1)>f (argBest (fun i j=>decide (f i>f j)) n):=fun z=>h (decide_eq_true z)
   refine⟨by omega,fun i hi=>?_⟩
   by_cases e:i=n+1
   ·rw[e];omega
   ·exact h2 i (by omega)
theorem le_mx{ns:List Int}{x:Int}(h:x∈ns):x<=mxL ns:=by
 obtain⟨j,hj,rfl⟩:=List.getElem_of_mem h
 have h1:=(argBest_gt (fun i=>ns.getD i 0) (ns.length-1)).2 j (by omega)
 rw[List.getD_eq_getElem?_getD,List.getElem?_eq_getElem hj]at h1
 exact h1
theorem dp_kid{h:Hd}{ks:List Pat}{k:Pat}(hk:k∈ks):k.dp+1<=(Pat.node h ks).dp:=by
 have h1:=le_mx (List.mem_map_of_mem (f:=Pat.dp) hk)
 rw[dp_node,if_neg (by intro z;rw[List.map_eq_nil_iff]at z;rw[z]at hk;cases hk)]
 omega
theorem dp_pos:∀ {d:Nat} {c c':Int} {p:Pat},Shp d c p c'->1<=p.dp
 |0,_,_,_,h=>h.elim
 |d+1,c,c',.node hd ks,h=>by
  have kid:∀k∈ks,1<=k.dp:=by
   intro k hk
   have lk:∀ {c c':Int} {ks:List Pat},ShL (Shp d) c ks c'->∀k∈ks,1<=k.dp:=by
    intro c c' ks hs
    induction hs with
    |nil=>intro k hk;cases hk
    |cons a _ ih =>
     intro k hk
     rcases List.mem_cons.mp hk with rfl | hk
     ·exact dp_pos a
     ·exact ih k hk
   cases hd with
   |row=>exact lk h.2 k hk
   |alt=>exact lk h.2 k hk
   |sign _=>rw[h.1]at hk;cases hk
   |any=>rw[h.1]at hk;cases hk
   |beg=>rw[h.1]at hk;cases hk
   |fin=>rw[h.1]at hk;cases hk
   |inn _=>rw[h.1]at hk;cases hk
   |out _=>rw[h.1]at hk;cases hk
   |again _=>rw[h.1]at hk;cases hk
   |times _ _ _=>obtain⟨q,e,_,_,h⟩:=h;rw[e,List.mem_singleton]at hk;rw[hk];exact dp_pos h
   |grp _=>obtain⟨q,e,_,h⟩:=h;rw[e,List.mem_singleton]at hk;rw[hk];exact dp_pos h
   |look _=>obtain⟨q,e,h⟩:=h;rw[e,List.mem_singleton]at hk;rw[hk];exact dp_pos h
   |hav _ =>
    obtain⟨y,z,_,e,_,h1,h2⟩:=h
    rw[e]at hk
    rcases List.mem_cons.mp hk with rfl | hk
    ·exact dp_pos h1
    ·rw[List.mem_singleton.mp hk];exact dp_pos h2
  cases ks with
  |nil=>rw[dp_node];simp
  |cons k ks =>
   have h1:=kid k (by simp)
   have h2:=dp_kid (h:=hd) (ks:=k::ks) (k:=k) (by simp)
   omega
theorem groupsL_one(k:Pat):groupsL [k]=k.groups:=by simp[groupsL]
theorem groupsL_two(k l:Pat):groupsL [k,l]=k.groups+l.groups:=by simp[groupsL]
theorem ShL.grs{R:Int->Pat->Int->Prop}(h:∀c k e,R c k e->e=c+k.groups/\0<=k.groups):∀ {c:Int} {ks:List Pat} {c':Int},ShL R c ks c'->c'=c+groupsL ks/\0<=groupsL ks
 |_,_,_,.nil=>by simp[groupsL]
 |_,_,_,.cons a b=>by
  have h1:=h _ _ _ a
  have h2:=b.grs h
  rw[groupsL]
  omega
theorem Shp.grs:∀ {n:Nat} {c c':Int} {p:Pat},Shp n c p c'->c'=c+p.groups/\0<=p.groups
 |0,_,_,_,h=>h.elim
 |n+1,c,c',.node hd ks,h=>by
  have ih:∀c k e,Shp n c k e->e=c+k.groups/\0<=k.groups:=fun _ _ _=>Shp.grs
  cases hd with
  |sign s=>rw[h.1,h.2.2];simp[Pat.groups,groupsL]
  |any=>rw[h.1,h.2];simp[Pat.groups,groupsL]
  |beg=>rw[h.1,h.2];simp[Pat.groups,groupsL]
  |fin=>rw[h.1,h.2];simp[Pat.groups,groupsL]
  |inn rs=>rw[h.1,h.2.2];simp[Pat.groups,groupsL]
  |out rs=>rw[h.1,h.2.2];simp[Pat.groups,groupsL]
  |again j=>rw[h.1,h.2.2.2];simp[Pat.groups,groupsL]
  |row=>have:=h.2.grs ih;simp only[Pat.groups];omega
  |alt=>have:=h.2.grs ih;simp only[Pat.groups];omega
  |times lo hi how=>obtain⟨k,e,_,_,h⟩:=h;have:=ih _ _ _ h;rw[e];simp only[Pat.groups,groupsL_one];omega
  |grp j=>obtain⟨k,e,_,h⟩:=h;have:=ih _ _ _ h;rw[e];simp only[Pat.groups,groupsL_one];omega
  |look l=>obtain⟨k,e,h⟩:=h;have:=ih _ _ _ h;rw[e];simp only[Pat.groups,groupsL_one];omega
  |hav j=>obtain⟨y,z,e',e,_,h1,h2⟩:=h;have:=ih _ _ _ h1;have:=ih _ _ _ h2;rw[e];simp only[Pat.groups,groupsL_two];omega
theorem ShL.mem{n:Nat}:∀ {c:Int} {ks:List Pat} {c':Int},ShL (Shp n) c ks c'->∀k∈ks,∃e e',Shp n e k e'/\c<=e/\e'<=c'
 |_,_,_,.nil,k,hk=>by cases hk
 |c,_,c',.cons (e:=e) a b,k,hk=>by
  have h1:=a.grs
  have h2:=b.grs fun _ _ _ z=>z.grs
  rcases List.mem_cons.mp hk with rfl | hk
  ·exact⟨c,e,a,Int.le_refl _,by omega⟩
  ·obtain⟨x,y,h,h3,h4⟩:=b.mem k hk
   exact⟨x,y,h,by omega,h4⟩
theorem Shp.kids{n:Nat}{c c':Int}{h:Hd}{ks:List Pat}(hs:Shp (n+1) c (.node h ks) c'):∀k∈ks,∃e e',Shp n e k e'/\c<=e/\e'<=c':=by
 intro k hk
 cases h with
 |sign _=>rw[hs.1]at hk;cases hk
 |any=>rw[hs.1]at hk;cases hk
 |beg=>rw[hs.1]at hk;cases hk
 |fin=>rw[hs.1]at hk;cases hk
 |inn _=>rw[hs.1]at hk;cases hk
 |out _=>rw[hs.1]at hk;cases hk
 |again _=>rw[hs.1]at hk;cases hk
 |row=>exact hs.2.mem k hk
 |alt=>exact hs.2.mem k hk
 |times _ _ _=>obtain⟨q,e,_,_,h⟩:=hs;rw[e,List.mem_singleton]at hk;rw[hk];exact⟨_,_,h,Int.le_refl _,Int.le_refl _⟩
 |grp _=>obtain⟨q,e,_,h⟩:=hs;rw[e,List.mem_singleton]at hk;rw[hk];exact⟨_,_,h,by omega,Int.le_refl _⟩
 |look _=>obtain⟨q,e,h⟩:=hs;rw[e,List.mem_singleton]at hk;rw[hk];exact⟨_,_,h,Int.le_refl _,Int.le_refl _⟩
 |hav _ =>
  obtain⟨y,z,x,e,_,h1,h2⟩:=hs
  have g1:=h1.grs
  have g2:=h2.grs
  rw[e]at hk
  rcases List.mem_cons.mp hk with rfl | hk
  ·exact⟨_,_,h1,Int.le_refl _,by omega⟩
  ·rw[List.mem_singleton.mp hk];exact⟨_,_,h2,by omega,Int.le_refl _⟩
theorem paired_imp{α β:Type}{R R':α->β->Prop}:∀ {xs:List α} {ys:List β},Paired R xs ys->(∀x,∀y∈ys,R x y->R' x y)->Paired R' xs ys
 |_,_,.nil,_=>.nil
 |_,_,.cons a b,h=>.cons (h _ _ (by simp) a) (paired_imp b fun x y hy=>h x y (by simp[hy]))
theorem PatW.toAt{H:Hp}{G:Int}(hG:G<=9):∀(n:Nat) {d m:Nat} {v:V} {p:Pat} {c c':Int},PatW H d v p->Shp m c p c'->p.dp<=n->p.keeps G=true->0<=c->c'<=9->PatAt H n v p
 |0,d,m,v,p,c,c',hw,hs,hd,_,_,_=>by have:=dp_pos hs;have:p.dp<=0:=hd;omega
 |n+1,0,m,v,p,c,c',hw,hs,hd,_,_,_=>hw.elim
 |n+1,d+1,0,v,p,c,c',hw,hs,hd,_,_,_=>hs.elim
 |n+1,d+1,m+1,v,.node h ks,c,c',hw,hs,hd,hk,h0,h9=>by
  obtain⟨a,kv,rfl,lay,hp⟩:=hw
  rw[keeps_node,Bool.and_eq_true]at hk
  obtain⟨hk1,hk2⟩:=hk
  have hkl:=Paired.length hp
  have kid:Paired (PatAt H n) kv ks:=paired_imp hp fun x k hk hw=>by
   obtain⟨e,e',h1,h2,h3⟩:=hs.kids k hk
   have h4:=dp_kid (h:=h) hk
   exact PatW.toAt hG n hw h1 (by omega) (List.all_eq_true.mp hk2 k hk) (by omega) (by omega)
  refine⟨a,kv,rfl,?_,kid⟩
  have runs:∀ {r:Addr} {rs:List (Str×Str)},RunsW H r rs->runsK rs=true->(∀q∈rs,q.1.length=1/\q.2.length=1)->RunsAt H r rs:=by
   intro r rs ⟨vs,e,p,z⟩ hr hl
   unfold runsK at hr
   rw[Bool.and_eq_true]at hr
   have:=of_decide_eq_true hr.1
   exact⟨vs,e,paired_imp p fun v q hq ⟨b,e1,e2⟩=>⟨(hl q hq).1,(hl q hq).2,b,e1,e2⟩,by omega⟩
  cases h with
  |sign s=>exact⟨lay.1,hs.2.1,lay.2⟩
  |any=>exact lay
  |beg=>exact lay
  |fin=>exact lay
  |inn rs=>obtain⟨e0,r,e,hr⟩:=lay;exact⟨e0,r,e,runs hr hk1 hs.2.1⟩
  |out rs=>obtain⟨e0,r,e,hr⟩:=lay;exact⟨e0,r,e,runs hr hk1 hs.2.1⟩
  |row =>
   obtain⟨_,r,e,er⟩:=lay
   have hk1:(decide (ks.length=0)||partsK ks.length)=true:=hk1
   refine⟨?_,r,e,er⟩
   rw[Bool.or_eq_true]at hk1
   rcases hk1 with z | z
   ·have:=of_decide_eq_true z;omega
   ·have:=of_decide_eq_true z;omega
  |alt =>
   obtain⟨_,r,e,er⟩:=lay
   have hk1:partsK ks.length=true:=hk1
   have:=of_decide_eq_true hk1
   exact⟨by omega,by omega,r,e,er⟩
  |times lo hi how =>
   obtain⟨k,e0,e⟩:=lay
   obtain⟨_,_,h1,h2,_⟩:=hs
   exact⟨⟨h1.1,by omega,fun x hx=>by have:=h2 x hx;omega⟩,k,e0,e⟩
  |grp j =>
   obtain⟨k,e0,e⟩:=lay
   obtain⟨_,_,h1,h2⟩:=hs
   have:=h2.grs
   exact⟨⟨by omega,by omega⟩,k,e0,e⟩
  |again j=>exact⟨⟨hs.2.1,by have:=hs.2.2.1;omega⟩,lay.1,lay.2⟩
  |hav j =>
   obtain⟨y,z,e0,e⟩:=lay
   obtain⟨_,_,_,_,h1,_⟩:=hs
   exact⟨⟨h1.1,by omega⟩,y,z,e0,e⟩
  |look l=>exact lay
def cpB(c:Nat):Bool:=decide (32<=c/\c<=126/\c≠37)
def rAll(t:Str):Option Pat:=if(cs t).all cpB=true then(match rBr t 9 0 0 with
 |none=>none
 |some (p,j,_)=>if sgT t j="" then(if kbB p=true then(if p.txt=t then some p else none) else none) else none) else none
structure RdP(t:Str)(p:Pat):Prop where
 sh:Shp 36 0 p p.groups
 txt:p.txt=t
 bad:p.bad=0
 gr:p.groups<=9
 size:p.size<=60
 dp:p.dp<=8
 keeps:p.keeps p.groups=true
theorem kb_ok{p:Pat}(h:kbB p=true):p.groups<=9/\p.size<=60/\p.dp<=8/\p.keeps p.groups=true:=by
 unfold kbB at h
 rw[Bool.and_eq_true]at h
 have:=of_decide_eq_true h.1
 exact⟨this.1,by omega,this.2.2,h.2⟩
theorem rAll_ok{t:Str}{p:Pat}(h:rAll t=some p):RdP t p:=by
 unfold rAll at h
 by_cases h1:(cs t).all cpB=true
 ·rw[if_pos h1]at h
  cases h2:rBr t 9 0 0 with
  |none=>rw[h2]at h;cases h
  |some x =>
   obtain⟨q,j,c'⟩:=x
   rw[h2]at h
   obtain⟨a1,a2,a3,a4⟩:=rBr_ok 9 (Nat.zero_le _) h2
   change (if sgT t j="" then _ else _)=_ at h
   by_cases h3:sgT t j=""
   ·rw[if_pos h3]at h
    by_cases h4:kbB q=true
    ·rw[if_pos h4]at h
     by_cases h5:q.txt=t
     ·rw[if_pos h5]at h
      cases h
      obtain⟨b1,b2,b3,b4⟩:=kb_ok h4
      have g:=a3.grs
      have ec:c'=p.groups:=by omega
      subst ec
      refine⟨a3,h5,?_,b1,b2,b3,b4⟩
      unfold tl at a4
      rw[h5]at a4
      omega
     ·rw[if_neg h5]at h;cases h
    ·rw[if_neg h4]at h;cases h
   ·rw[if_neg h3]at h;cases h
 ·rw[if_neg h1]at h;cases h
def cp(x:Str):Nat:=(cs x).count 40
theorem cp_app(x y:Str):cp (x++y)=cp x+cp y:=by unfold cp;rw[cs_app,List.count_append]
theorem cp_join(sep:Str)(xs:List Str):(xs.map cp).sum<=cp (Txt.join sep xs):=by
 have fold:∀(xs:List Str) (acc:Array Nat),acc.toList.count 40+(xs.map cp).sum<=(xs.foldl (fun a p=>a++sep.cps++p.cps) acc).toList.count 40:=by
  intro xs
  induction xs with
  |nil=>intro acc;simp
  |cons x xs ih =>
   intro acc
   rw[List.foldl_cons,List.map_cons,List.sum_cons]
   have:=ih (acc++sep.cps++x.cps)
   rw[Array.toList_append,Array.toList_append,List.count_append,List.count_append]at this
   have e:cp x=x.cps.toList.count 40:=rfl
   omega
 cases xs with
 |nil=>simp
 |cons x xs =>
  rw[List.map_cons,List.sum_cons]
  exact fold xs x.cps
theorem cp_wr(ws:List V)(k:Pat):cp k.txt<=cp (wrT ws k.wt):=by
 unfold wrT
 split
 ·rw[cp_app,cp_app];exact Nat.le_trans (Nat.le_add_left _ _) (Nat.le_add_right _ _)
 ·exact Nat.le_refl _
theorem cp_sum{f:Pat->Str}(hf:∀k,cp k.txt<=cp (f k)){R:Int->Pat->Int->Prop}(h:∀c k e,R c k e->k.groups<=(cp k.txt:Int)):∀ {c:Int} {ks:List Pat} {c':Int},ShL R c ks c'->groupsL ks<=(((ks.map f).map cp).sum:Int)
 |_,_,_,.nil=>by simp[groupsL]
 |_,_,_,.cons (k:=k) a b=>by
  have h1:=h _ _ _ a
  have h2:=cp_sum hf h b
  have h3:=hf k
  rw[groupsL,List.map_cons,List.map_cons,List.sum_cons]
  omega
theorem cp_groups:∀ {n:Nat} {c c':Int} {p:Pat},Shp n c p c'->p.groups<=(cp p.txt:Int)
 |0,_,_,_,h=>h.elim
 |n+1,c,c',.node hd ks,h=>by
  have ih:∀c k e,Shp n c k e->k.groups<=(cp k.txt:Int):=fun _ _ _=>cp_groups
  cases hd with
  |sign s=>rw[h.1];simp[Pat.groups,groupsL]
  |any=>rw[h.1];simp[Pat.groups,groupsL]
  |beg=>rw[h.1];simp[Pat.groups,groupsL]
  |fin=>rw[h.1];simp[Pat.groups,groupsL]
  |inn rs=>rw[h.1];simp[Pat.groups,groupsL]
  |out rs=>rw[h.1];simp[Pat.groups,groupsL]
  |again j=>rw[h.1];simp[Pat.groups,groupsL]
  |row =>
   have e:(Pat.node .row ks).txt=Txt.join "" (ks.map fun k=>wrT wrapRow k.wt):=by rw[txt_node];show Txt.join "" ((ks.map Pat.wt).map (wrT wrapRow))=_;rw[List.map_map];rfl
   have h1:=cp_sum (f:=fun k=>wrT wrapRow k.wt) (fun k=>cp_wr _ k) ih h.2
   have h2:=cp_join "" (ks.map fun k=>wrT wrapRow k.wt)
   rw[e]
   simp only[Pat.groups]
   omega
  |alt =>
   have e:(Pat.node .alt ks).txt=Txt.join "|" (ks.map fun k=>k.txt):=by rw[txt_node];show Txt.join "|" ((ks.map Pat.wt).map (·.2))=_;rw[List.map_map];rfl
   have h1:=cp_sum (f:=fun k=>k.txt) (fun k=>Nat.le_refl _) ih h.2
   have h2:=cp_join "|" (ks.map fun k=>k.txt)
   rw[e]
   simp only[Pat.groups]
   omega
  |times lo hi how =>
   obtain⟨k,e,_,_,h⟩:=h
   subst e
   have h1:=ih _ _ _ h
   have h2:=cp_wr wrapTimes k
   have e:(Pat.node (.times lo hi how) [k]).txt=wrT wrapTimes k.wt++turnsT lo hi how:=by rw[txt_node];rfl
   rw[e,cp_app]
   simp only[Pat.groups,groupsL_one]
   omega
  |grp j =>
   obtain⟨k,e,_,h⟩:=h
   subst e
   have h1:=ih _ _ _ h
   have e:(Pat.node (.grp j) [k]).txt=("(" ++ k.txt)++")":=by rw[txt_node];rfl
   rw[e,cp_app,cp_app,show cp "(" = 1 by decide +kernel]
   simp only[Pat.groups,groupsL_one]
   omega
  |hav j =>
   obtain⟨y,z,e',e,_,h1,h2⟩:=h
   subst e
   have h1:=ih _ _ _ h1
   have h2:=ih _ _ _ h2
   have e:(Pat.node (.hav j) [y,z]).txt=(((("<" ++ num j)++y.txt)++"~")++z.txt)++">":=by rw[txt_node];rfl
   rw[e,cp_app,cp_app,cp_app,cp_app,cp_app]
   simp only[Pat.groups,groupsL_two]
   omega
  |look l =>
   obtain⟨k,e,h⟩:=h
   subst e
   have h1:=ih _ _ _ h
   have e:(Pat.node (.look l) [k]).txt=(("<" ++ l.sign)++k.txt)++">":=by rw[txt_node];rfl
   rw[e,cp_app,cp_app,cp_app]
   simp only[Pat.groups,groupsL_one]
   omega
theorem wd_row:∀w:Wd,w.text="row"->w=.row:=by intro w z;cases w <;> first | rfl | exact absurd z (by decide +kernel)
theorem wd_or:∀w:Wd,w.text="or"->w=.alt:=by intro w z;cases w <;> first | rfl | exact absurd z (by decide +kernel)
theorem word_row{h:Hd}(z:h.word="row"):h=.row:=by
 rw[h.word_wd]at z
 have:=wd_row _ z
 cases h with
 |row=>rfl
 |look l=>cases l <;> cases this
 |_=>cases this
theorem word_or{h:Hd}(z:h.word="or"):h=.alt:=by
 rw[h.word_wd]at z
 have:=wd_or _ z
 cases h with
 |alt=>rfl
 |look l=>cases l <;> cases this
 |_=>cases this
theorem wd_inn:∀w:Wd,w.text="in"->w=.inn:=by intro w z;cases w <;> first | rfl | exact absurd z (by decide +kernel)
theorem word_inn{h:Hd}(z:decide (V.str h.word=V.str "in")=true):∃x,h=.inn x:=by
 have z1:h.word="in":=by have:=of_decide_eq_true z;injection this
 rw[h.word_wd]at z1
 have:=wd_inn _ z1
 cases h with
 |inn x=>exact⟨x,rfl⟩
 |look l=>cases l <;> cases this
 |_=>cases this
theorem wd_out:∀w:Wd,w.text="out"->w=.out:=by intro w z;cases w <;> first | rfl | exact absurd z (by decide +kernel)
theorem word_out{h:Hd}(z:decide (V.str h.word=V.str "out")=true):∃x,h=.out x:=by
 have z1:h.word="out":=by have:=of_decide_eq_true z;injection this
 rw[h.word_wd]at z1
 have:=wd_out _ z1
 cases h with
 |out x=>exact⟨x,rfl⟩
 |look l=>cases l <;> cases this
 |_=>cases this
theorem wd_again:∀w:Wd,w.text="again"->w=.again:=by intro w z;cases w <;> first | rfl | exact absurd z (by decide +kernel)
theorem word_again{h:Hd}(z:decide (V.str h.word=V.str "again")=true):∃x,h=.again x:=by
 have z1:h.word="again":=by have:=of_decide_eq_true z;injection this
 rw[h.word_wd]at z1
 have:=wd_again _ z1
 cases h with
 |again x=>exact⟨x,rfl⟩
 |look l=>cases l <;> cases this
 |_=>cases this
theorem wd_hav:∀w:Wd,w.text="have"->w=.hav:=by intro w z;cases w <;> first | rfl | exact absurd z (by decide +kernel)
theorem word_hav{h:Hd}(z:decide (V.str h.word=V.str "have")=true):∃x,h=.hav x:=by
 have z1:h.word="have":=by have:=of_decide_eq_true z;injection this
 rw[h.word_wd]at z1
 have:=wd_hav _ z1
 cases h with
 |hav x=>exact⟨x,rfl⟩
 |look l=>cases l <;> cases this
 |_=>cases this
theorem eqw{h:Hd}{x:Str}(z:decide (V.str h.word=V.str x)=true):h.word=x:=by have:=of_decide_eq_true z;injection this
theorem word_times{h:Hd}(z:h.word="times"):∃lo hi how,h=.times lo hi how:=by
 cases h with
 |times lo hi how=>exact⟨lo,hi,how,rfl⟩
 |sign _=>exact absurd (show("sign":Str)="times" from z) (by decide +kernel)
 |any=>exact absurd (show("any":Str)="times" from z) (by decide +kernel)
 |inn _=>exact absurd (show("in":Str)="times" from z) (by decide +kernel)
 |out _=>exact absurd (show("out":Str)="times" from z) (by decide +kernel)
 |beg=>exact absurd (show("begin":Str)="times" from z) (by decide +kernel)
 |fin=>exact absurd (show("end":Str)="times" from z) (by decide +kernel)
 |row=>exact absurd (show("row":Str)="times" from z) (by decide +kernel)
 |alt=>exact absurd (show("or":Str)="times" from z) (by decide +kernel)
 |grp _=>exact absurd (show("group":Str)="times" from z) (by decide +kernel)
 |again _=>exact absurd (show("again":Str)="times" from z) (by decide +kernel)
 |hav _=>exact absurd (show("have":Str)="times" from z) (by decide +kernel)
 |look l =>
  cases l with
  |once=>exact absurd (show("once":Str)="times" from z) (by decide +kernel)
  |ahead=>exact absurd (show("ahead":Str)="times" from z) (by decide +kernel)
  |notahead=>exact absurd (show("notahead":Str)="times" from z) (by decide +kernel)
  |behind=>exact absurd (show("behind":Str)="times" from z) (by decide +kernel)
  |notbehind=>exact absurd (show("notbehind":Str)="times" from z) (by decide +kernel)
theorem q6e1b8(h:let E:=D;let A1:=a1;let A2:=a4;let A3:=a5;let A4:=tSeq (tIfS c2 A2 tNext) A3;let A5:=tSeq a3 A4;let A6:=tSeq a2 A5;(tSeq (tIfS c1 A1 tNext) A6) E σ H):(tSeq (tIfS c1 a1 tNext) (tSeq a2 (tSeq a3 (tSeq (tIfS c2 a4 tNext) a5)))) D σ H:=h
theorem qe5f44(h:let E:=D;let A1:=a3;let A2:=tSeq a2 A1;(tSeq a1 A2) E σ H):(tSeq a1 (tSeq a2 a3)) D σ H:=h
theorem q329b1(h:let E:=D;let A1:=a1;let A2:=a3;let A3:=tSeq a2 A2;(tSeq (tIfS c1 A1 tNext) A3) E σ H):(tSeq (tIfS c1 a1 tNext) (tSeq a2 a3)) D σ H:=h
theorem q1e99a(h:let E:=D;let A1:=a1;(tIfS c1 A1 tNext) E σ H):(tIfS c1 a1 tNext) D σ H:=h
theorem qa8be2(h:let E:=D;let A1:=a3;let A2:=a4;let A3:=tSeq (tIfS c1 A1 tNext) A2;let A4:=tSeq a2 A3;(tSeq a1 A4) E σ H):(tSeq a1 (tSeq a2 (tSeq (tIfS c1 a3 tNext) a4))) D σ H:=h
theorem qf76fd(h:let E:=D;let A1:=a2;let A2:=a3;let A3:=tSeq (tIfS c1 A1 tNext) A2;(tSeq a1 A3) E σ H):(tSeq a1 (tSeq (tIfS c1 a2 tNext) a3)) D σ H:=h
theorem q62eb4(h:let E:=D;let A1:=a5;let A2:=a6;let A3:=tIfS c2 A2 tNext;let A4:=a8;let A5:=tSeq a7 A4;let A6:=tSeq (tIfS c1 A1 A3) A5;let A7:=tSeq a4 A6;let A8:=tSeq a3 A7;let A9:=tSeq a2 A8;(tSeq a1 A9) E σ H):(tSeq a1 (tSeq a2 (tSeq a3 (tSeq a4 (tSeq (tIfS c1 a5 (tIfS c2 a6 tNext)) (tSeq a7 a8)))))) D σ H:=h
theorem q7b052(h:let E:=D;let A1:=a3;let A2:=a4;let A3:=tSeq (tWhile c1 A1) A2;let A4:=tSeq a2 A3;(tSeq a1 A4) E σ H):(tSeq a1 (tSeq a2 (tSeq (tWhile c1 a3) a4))) D σ H:=h
theorem q071ff(h:let E:=D;let A1:=a2;let A2:=a6;let A3:=tSeq a5 A2;let A4:=tSeq a4 A3;let A5:=tSeq a3 A4;let A6:=tSeq (tIfS c1 A1 tNext) A5;(tSeq a1 A6) E σ H):(tSeq a1 (tSeq (tIfS c1 a2 tNext) (tSeq a3 (tSeq a4 (tSeq a5 a6))))) D σ H:=h
theorem qc9bd5(h:let E:=D;let A1:=a1;let A2:=a2;let A3:=tIfS c2 A2 tNext;let A4:=a5;let A5:=tSeq a4 A4;let A6:=tSeq a3 A5;let A7:=tSeq (tFor i1 g1 A3) A6;(tSeq (tIfS c1 A1 tNext) A7) E σ H):(tSeq (tIfS c1 a1 tNext) (tSeq (tFor i1 g1 (tIfS c2 a2 tNext)) (tSeq a3 (tSeq a4 a5)))) D σ H:=h
theorem qa3d50(h:let E:=D;let A1:=a1;let A2:=a2;let A3:=a3;let A4:=a4;let A5:=a5;let A6:=tIfS c5 A5 tNext;let A7:=a6;let A8:=tSeq (tFor i1 g1 A6) A7;let A9:=tSeq (tIfS c4 A4 tNext) A8;let A10:=tSeq (tIfS c3 A3 tNext) A9;let A11:=tSeq (tIfS c2 A2 tNext) A10;(tSeq (tIfS c1 A1 tNext) A11) E σ H):(tSeq (tIfS c1 a1 tNext) (tSeq (tIfS c2 a2 tNext) (tSeq (tIfS c3 a3 tNext) (tSeq (tIfS c4 a4 tNext) (tSeq (tFor i1 g1 (tIfS c5 a5 tNext)) a6))))) D σ H:=h
theorem qe465e(h:let E:=D;let A1:=a2;(tSeq a1 A1) E σ H):(tSeq a1 a2) D σ H:=h
theorem q6deca(h:let E:=D;let A1:=a2;let A2:=a3;let A3:=tSeq (tWhile c1 A1) A2;(tSeq a1 A3) E σ H):(tSeq a1 (tSeq (tWhile c1 a2) a3)) D σ H:=h
theorem q00dbf(h:let E:=D;let A1:=a2;let A2:=a3;let A3:=a4;let A4:=a5;let A5:=tSeq (tIfS c3 A3 tNext) A4;let A6:=tSeq (tIfS c2 A2 tNext) A5;let A7:=tSeq (tIfS c1 A1 tNext) A6;(tSeq a1 A7) E σ H):(tSeq a1 (tSeq (tIfS c1 a2 tNext) (tSeq (tIfS c2 a3 tNext) (tSeq (tIfS c3 a4 tNext) a5)))) D σ H:=h
theorem qfcacd(h:let E:=D;let A1:=a1;let A2:=a2;(tSeq (tIfS c1 A1 tNext) A2) E σ H):(tSeq (tIfS c1 a1 tNext) a2) D σ H:=h
theorem q049a3(h:let E:=D;let A1:=a1;let A2:=a2;let A3:=a3;let A4:=tSeq (tIfS c2 A2 tNext) A3;(tSeq (tIfS c1 A1 tNext) A4) E σ H):(tSeq (tIfS c1 a1 tNext) (tSeq (tIfS c2 a2 tNext) a3)) D σ H:=h
theorem qa0ab2(h:let E:=D;let A1:=a2;let A2:=a3;let A3:=a4;let A4:=a5;let A5:=a6;let A6:=a7;let A7:=tSeq (tIfS c5 A5 tNext) A6;let A8:=tSeq (tIfS c4 A4 tNext) A7;let A9:=tSeq (tIfS c3 A3 tNext) A8;let A10:=tSeq (tIfS c2 A2 tNext) A9;let A11:=tSeq (tIfS c1 A1 tNext) A10;(tSeq a1 A11) E σ H):(tSeq a1 (tSeq (tIfS c1 a2 tNext) (tSeq (tIfS c2 a3 tNext) (tSeq (tIfS c3 a4 tNext) (tSeq (tIfS c4 a5 tNext) (tSeq (tIfS c5 a6 tNext) a7)))))) D σ H:=h
theorem q657b2(h:let E:=D;let A1:=a4;let A2:=tSeq a3 A1;let A3:=tSeq a2 A2;(tSeq a1 A3) E σ H):(tSeq a1 (tSeq a2 (tSeq a3 a4))) D σ H:=h
theorem q323f7(h:let E:=D;let A1:=a1;let A2:=a5;let A3:=a6;let A4:=a7;let A5:=tSeq (tIfS c3 A3 tNext) A4;let A6:=tSeq (tIfS c2 A2 tNext) A5;let A7:=tSeq a4 A6;let A8:=tSeq a3 A7;let A9:=tSeq a2 A8;(tSeq (tIfS c1 A1 tNext) A9) E σ H):(tSeq (tIfS c1 a1 tNext) (tSeq a2 (tSeq a3 (tSeq a4 (tSeq (tIfS c2 a5 tNext) (tSeq (tIfS c3 a6 tNext) a7)))))) D σ H:=h
theorem q823c0(h:let E:=D;let A1:=a2;let A2:=a3;let A3:=a4;let A4:=a5;let A5:=a6;let A6:=a7;let A7:=a8;let A8:=a9;let A9:=a10;let A10:=a11;let A11:=tSeq (tIfS c9 A9 tNext) A10;let A12:=tSeq (tIfS c8 A8 tNext) A11;let A13:=tSeq (tIfS c7 A7 tNext) A12;let A14:=tSeq (tIfS c6 A6 tNext) A13;let A15:=tSeq (tIfS c5 A5 tNext) A14;let A16:=tSeq (tIfS c4 A4 tNext) A15;let A17:=tSeq (tIfS c3 A3 tNext) A16;let A18:=tSeq (tIfS c2 A2 tNext) A17;let A19:=tSeq (tIfS c1 A1 tNext) A18;(tSeq a1 A19) E σ H):(tSeq a1 (tSeq (tIfS c1 a2 tNext) (tSeq (tIfS c2 a3 tNext) (tSeq (tIfS c3 a4 tNext) (tSeq (tIfS c4 a5 tNext) (tSeq (tIfS c5 a6 tNext) (tSeq (tIfS c6 a7 tNext) (tSeq (tIfS c7 a8 tNext) (tSeq (tIfS c8 a9 tNext) (tSeq (tIfS c9 a10 tNext) a11)))))))))) D σ H:=h
theorem q0c1a2(h:let E:=D;let A1:=a1;let A2:=a2;let A3:=a3;let A4:=a4;let A5:=tSeq (tIfS c3 A3 tNext) A4;let A6:=tSeq (tIfS c2 A2 tNext) A5;(tSeq (tIfS c1 A1 tNext) A6) E σ H):(tSeq (tIfS c1 a1 tNext) (tSeq (tIfS c2 a2 tNext) (tSeq (tIfS c3 a3 tNext) a4))) D σ H:=h
theorem qa972a(h:let E:=D;let A1:=a2;let A2:=a3;let A3:=a5;let A4:=a7;let A5:=tSeq a6 A4;let A6:=tSeq (tIfS c4 A3 tNext) A5;let A7:=tSeq a4 A6;let A8:=a8;let A9:=a9;let A10:=a10;let A11:=tSeq (tIfS c6 A9 tNext) A10;let A12:=tSeq (tIfS c5 A8 tNext) A11;let A13:=tSeq (tIfS c3 A7 tNext) A12;let A14:=tSeq (tIfS c2 A2 tNext) A13;let A15:=tSeq (tIfS c1 A1 tNext) A14;(tSeq a1 A15) E σ H):(tSeq a1 (tSeq (tIfS c1 a2 tNext) (tSeq (tIfS c2 a3 tNext) (tSeq (tIfS c3 (tSeq a4 (tSeq (tIfS c4 a5 tNext) (tSeq a6 a7))) tNext) (tSeq (tIfS c5 a8 tNext) (tSeq (tIfS c6 a9 tNext) a10)))))) D σ H:=h
theorem q426bf(h:let E:=D;let A1:=a4;let A2:=a5;let A3:=tIfS c1 A1 A2;let A4:=tSeq a3 A3;let A5:=tSeq a2 A4;let A6:=a6;let A7:=tSeq (tFor i1 g1 A5) A6;(tSeq a1 A7) E σ H):(tSeq a1 (tSeq (tFor i1 g1 (tSeq a2 (tSeq a3 (tIfS c1 a4 a5)))) a6)) D σ H:=h
theorem q8c691(h:let E:=D;let A1:=a2;let A2:=a3;let A3:=a4;let A4:=a5;let A5:=a6;let A6:=tSeq (tIfS c4 A4 tNext) A5;let A7:=tSeq (tIfS c3 A3 tNext) A6;let A8:=tSeq (tIfS c2 A2 tNext) A7;let A9:=tSeq (tIfS c1 A1 tNext) A8;(tSeq a1 A9) E σ H):(tSeq a1 (tSeq (tIfS c1 a2 tNext) (tSeq (tIfS c2 a3 tNext) (tSeq (tIfS c3 a4 tNext) (tSeq (tIfS c4 a5 tNext) a6))))) D σ H:=h
theorem q31d9a(h:let E:=D;let A1:=a3;let A2:=a4;let A3:=tSeq (tIfS c1 A1 tNext) A2;let A4:=tSeq a2 A3;let A5:=a5;let A6:=tSeq (tFor i1 g1 A4) A5;(tSeq a1 A6) E σ H):(tSeq a1 (tSeq (tFor i1 g1 (tSeq a2 (tSeq (tIfS c1 a3 tNext) a4))) a5)) D σ H:=h
theorem q375c0(h:let E:=D;let A1:=a4;let A2:=a5;let A3:=tSeq (tIfS c1 A1 tNext) A2;let A4:=tSeq a3 A3;let A5:=tSeq a2 A4;(tSeq a1 A5) E σ H):(tSeq a1 (tSeq a2 (tSeq a3 (tSeq (tIfS c1 a4 tNext) a5)))) D σ H:=h
theorem qdc433(h:let E:=D;let A1:=a1;let A2:=a2;let A3:=a3;let A4:=a6;let A5:=tSeq a5 A4;let A6:=tSeq a4 A5;let A7:=tSeq (tIfS c4 A3 tNext) A6;let A8:=a9;let A9:=tSeq a8 A8;let A10:=tSeq a7 A9;let A11:=a11;let A12:=tSeq a10 A11;let A13:=tSeq (tIfS c5 A10 tNext) A12;let A14:=tSeq (tIfS c3 A7 tNext) A13;let A15:=tSeq (tIfS c2 A2 tNext) A14;(tSeq (tIfS c1 A1 tNext) A15) E σ H):(tSeq (tIfS c1 a1 tNext) (tSeq (tIfS c2 a2 tNext) (tSeq (tIfS c3 (tSeq (tIfS c4 a3 tNext) (tSeq a4 (tSeq a5 a6))) tNext) (tSeq (tIfS c5 (tSeq a7 (tSeq a8 a9)) tNext) (tSeq a10 a11))))) D σ H:=h
theorem q1d9fb(h:let E:=D;let A1:=a2;let A2:=a3;let A3:=a4;let A4:=tSeq (tIfS c2 A2 tNext) A3;let A5:=tSeq (tIfS c1 A1 tNext) A4;(tSeq a1 A5) E σ H):(tSeq a1 (tSeq (tIfS c1 a2 tNext) (tSeq (tIfS c2 a3 tNext) a4))) D σ H:=h
theorem q94be3(h:let E:=D;let A1:=a6;let A2:=tSeq a5 A1;let A3:=tSeq a4 A2;let A4:=tSeq a3 A3;let A5:=a7;let A6:=tSeq (tIfS c1 A4 tNext) A5;let A7:=tSeq a2 A6;(tSeq a1 A7) E σ H):(tSeq a1 (tSeq a2 (tSeq (tIfS c1 (tSeq a3 (tSeq a4 (tSeq a5 a6))) tNext) a7))) D σ H:=h
theorem q4fd3b(h:let E:=D;let A1:=a3;let A2:=a4;let A3:=a5;let A4:=a6;let A5:=tIfS c4 A4 tNext;let A6:=tSeq (tIfS c3 A3 tNext) A5;let A7:=tSeq (tIfS c2 A2 tNext) A6;let A8:=tSeq (tIfS c1 A1 tNext) A7;let A9:=tSeq a2 A8;let A10:=a7;let A11:=tSeq (tFor i1 g1 A9) A10;(tSeq a1 A11) E σ H):(tSeq a1 (tSeq (tFor i1 g1 (tSeq a2 (tSeq (tIfS c1 a3 tNext) (tSeq (tIfS c2 a4 tNext) (tSeq (tIfS c3 a5 tNext) (tIfS c4 a6 tNext)))))) a7)) D σ H:=h
theorem q79bdc(h:let E:=D;let A1:=a3;let A2:=a4;let A3:=tSeq (tFor i2 g2 A1) A2;let A4:=tSeq a2 A3;let A5:=a5;let A6:=tSeq (tFor i1 g1 A4) A5;(tSeq a1 A6) E σ H):(tSeq a1 (tSeq (tFor i1 g1 (tSeq a2 (tSeq (tFor i2 g2 a3) a4))) a5)) D σ H:=h
theorem q00cc1(h:let E:=D;let A1:=a1;let A2:=a2;let A3:=a3;let A4:=tIfS c3 A3 tNext;let A5:=tSeq (tIfS c2 A2 tNext) A4;let A6:=a4;let A7:=tSeq (tFor i1 g1 A5) A6;(tSeq (tIfS c1 A1 tNext) A7) E σ H):(tSeq (tIfS c1 a1 tNext) (tSeq (tFor i1 g1 (tSeq (tIfS c2 a2 tNext) (tIfS c3 a3 tNext))) a4)) D σ H:=h
theorem q71614(h:let E:=D;let A1:=a2;let A2:=a3;let A3:=a4;let A4:=a5;let A5:=a6;let A6:=a7;let A7:=a9;let A8:=tSeq a8 A7;let A9:=a10;let A10:=a11;let A11:=tSeq (tIfS c9 A9 tNext) A10;let A12:=a12;let A13:=tSeq (tIfS c8 A11 tNext) A12;let A14:=tSeq (tIfS c7 A8 tNext) A13;let A15:=tSeq (tIfS c6 A6 tNext) A14;let A16:=tSeq (tIfS c5 A5 tNext) A15;let A17:=tSeq (tIfS c4 A4 tNext) A16;let A18:=tSeq (tIfS c3 A3 tNext) A17;let A19:=tSeq (tIfS c2 A2 tNext) A18;let A20:=tSeq (tIfS c1 A1 tNext) A19;(tSeq a1 A20) E σ H):(tSeq a1 (tSeq (tIfS c1 a2 tNext) (tSeq (tIfS c2 a3 tNext) (tSeq (tIfS c3 a4 tNext) (tSeq (tIfS c4 a5 tNext) (tSeq (tIfS c5 a6 tNext) (tSeq (tIfS c6 a7 tNext) (tSeq (tIfS c7 (tSeq a8 a9) tNext) (tSeq (tIfS c8 (tSeq (tIfS c9 a10 tNext) a11) tNext) a12))))))))) D σ H:=h
theorem q75ca6(h:let E:=D;let A1:=a1;let A2:=a2;let A3:=a5;let A4:=tIfS c3 A3 tNext;let A5:=tSeq a4 A4;let A6:=a6;let A7:=tSeq (tFor i1 g1 A5) A6;let A8:=tSeq a3 A7;let A9:=tSeq (tIfS c2 A2 tNext) A8;(tSeq (tIfS c1 A1 tNext) A9) E σ H):(tSeq (tIfS c1 a1 tNext) (tSeq (tIfS c2 a2 tNext) (tSeq a3 (tSeq (tFor i1 g1 (tSeq a4 (tIfS c3 a5 tNext))) a6)))) D σ H:=h
theorem q26ed7(h:let E:=D;let A1:=a2;let A2:=a3;let A3:=a4;let A4:=a6;let A5:=tSeq a5 A4;let A6:=a8;let A7:=tSeq a7 A6;let A8:=tSeq (tIfS c4 A5 tNext) A7;let A9:=tSeq (tIfS c3 A3 tNext) A8;let A10:=tSeq (tIfS c2 A2 tNext) A9;let A11:=tSeq (tIfS c1 A1 tNext) A10;(tSeq a1 A11) E σ H):(tSeq a1 (tSeq (tIfS c1 a2 tNext) (tSeq (tIfS c2 a3 tNext) (tSeq (tIfS c3 a4 tNext) (tSeq (tIfS c4 (tSeq a5 a6) tNext) (tSeq a7 a8)))))) D σ H:=h
theorem q296d2(h:let E:=D;let A1:=a3;let A2:=a5;let A3:=tSeq a4 A2;let A4:=tSeq (tIfS c1 A1 tNext) A3;let A5:=tSeq a2 A4;let A6:=tSeq a1 A5;let A7:=a6;(tSeq (tFor i1 g1 A6) A7) E σ H):(tSeq (tFor i1 g1 (tSeq a1 (tSeq a2 (tSeq (tIfS c1 a3 tNext) (tSeq a4 a5))))) a6) D σ H:=h
theorem qfe22a(h:let E:=D;let A1:=a3;let A2:=a4;let A3:=tSeq (tFor i1 g1 A1) A2;let A4:=tSeq a2 A3;let A5:=a5;let A6:=a6;let A7:=a7;let A8:=a8;let A9:=tSeq (tIfS c3 A7 tNext) A8;let A10:=tSeq (tIfS c2 A5 A6) A9;let A11:=tSeq (tIfS c1 A4 tNext) A10;(tSeq a1 A11) E σ H):(tSeq a1 (tSeq (tIfS c1 (tSeq a2 (tSeq (tFor i1 g1 a3) a4)) tNext) (tSeq (tIfS c2 a5 a6) (tSeq (tIfS c3 a7 tNext) a8)))) D σ H:=h
theorem qae127(h:let E:=D;let A1:=a8;let A2:=a10;let A3:=a11;let A4:=tSeq (tIfS c2 A2 tNext) A3;let A5:=tSeq a9 A4;let A6:=tSeq (tIfS c1 A1 tNext) A5;let A7:=tSeq a7 A6;let A8:=tSeq a6 A7;let A9:=tSeq a5 A8;let A10:=tSeq a4 A9;let A11:=tSeq a3 A10;let A12:=tSeq a2 A11;(tSeq a1 A12) E σ H):(tSeq a1 (tSeq a2 (tSeq a3 (tSeq a4 (tSeq a5 (tSeq a6 (tSeq a7 (tSeq (tIfS c1 a8 tNext) (tSeq a9 (tSeq (tIfS c2 a10 tNext) a11)))))))))) D σ H:=h
def top(i:Nat):Stmt:=PySem.Challenge.pw_seek_k05_whole_texts_read.main.body.getD i (.Pass ⟨0,0,0,0⟩)
section
variable{P:Program}{w:World}{K:W.Frag}{mg:Str->Option Value}{base:Heap}{f:Addr}{fd:FuncData}
inductive spTakeI(vs:List V)(H:Hp)(Q:VK):Prop
 |mk (b:Addr) (m:Int) (_:vs=[.ref b,.int m]) (_:BoxAt H b) (_:0<m) (_:m<1073741824) (_:∀(r:Int) (H':Hp),0<=r->r<m->BoxAt H' b->Gro [b] H H'->Q (.int r) H')
def spTake:Sp:=fun vs H Q _=>spTakeI vs H Q
abbrev s_l_take:Stmt:=top 48
theorem sc_l_take:FnScope ["_law_box","_law_many","_law_number_here"] ["_law_box","_law_many"] (defScope s_l_take):=fsc
theorem ok_take(F:Fun K "_law_take" "_law_take" s_l_take f fd):FnOk P w K mg base CX0 1 f fd ["_law_box","_law_many"] spTake:=by
 refine F.ok sc_l_take (fun vs H Q E h=>?_) (fun cdv A outer s H vs Q E hr h=>?_)
 ·obtain⟨b,m,rfl,_⟩:=h
  rfl
 obtain⟨b,m,rfl,⟨ns,hb,hl⟩,h0,h1,q⟩:=h
 refine ltX ?_
 intro Xz
 refine⟨_,(pss_cons (ps_if (pt_cmpR (op_eqNil hr.units0) (pv 0) (pe_lst pa_nil) (nomark _)) (pss_one (ps_ret pe_int)) pss_nil)
  (pss_cons (pS 2 sc_l_take.nd (pe_ix ix_list (pv 0) pe_int (fun _ _=>rfl)))
  (pss_cons (ps_asg (pe_op op_fdiv (pv 2) (pv 1)) (pg_sub (pv 0) pe_int set_list))
  (pss_cons (ps_if (PW.pt (pw_or (pt_cmpR op_eq (pe_ix ix_list (pv 0) pe_int (fun _ _=>rfl)) pe_int (nomark _)) (pw_or1 (pt_cmpR op_eq (pe_ix ix_list (pv 0) pe_int (fun _ _=>rfl)) (pe_un un_neg pe_int) (nomark _))))) (pss_one (ps_expr (pe_bm PySem.F.plainAttrs_list PySem.F.slot_list_pop PySem.F.type_list_pop mt_popAt (pv 0) (pa_cons pe_int pa_nil)))) pss_nil)
  (pss_one (ps_ret (pe_op op_mod (pv 2) (pv 1)))))))),?_⟩
 refine q6e1b8 ?_
 intro Ez Az1 Az2 Az3 Az4 Az5 Az6
 refine(exA rfl ⟨sz,fun p hp=>?_⟩)
 have np:b≠p:=ne_of_none hb hp
 have g1:Gro [b] H (upd H p (.lst [])):=Gro.new hp _
 have hb1:(upd H p (.lst [])) b=some (.lst (ns.map V.int)):=by rw[upd_ne np];exact hb
 refine⟨b,p,ns.map V.int,rfl,rfl,SqL.of hb1,SqL.of upd_same,exA rfl (?_)⟩
 cases ns with
 |nil=>exact iteT (q 0 _ (Int.le_refl 0) h0 ⟨[],hb1,hl⟩ g1)
 |cons n r =>
  refine iteF ?_
  refine(ixL hb1 at0 (?_))
  refine(exA rfl (exA rfl (exB rfl rfl ⟨⟨h0,h1⟩,?_⟩)))
  refine(exA rfl ⟨b,_,_,0,rfl,rfl,hb1,ix0,?_⟩)
  have hm0:0<=n % m:=Int.emod_nonneg _ (by omega)
  have hm1:n % m<m:=Int.emod_lt_of_pos _ h0
  generalize hH2:upd (upd H p (.lst [])) b (.lst ((List.map V.int (n::r)).set 0 (V.int (n / m))))=H2
  have hb2:H2 b=some (.lst (V.int (n / m)::r.map V.int)):=by rw[← hH2,upd_same];rfl
  have g2:Gro [b] H H2:=g1.trans (by rw[← hH2];exact Gro.set (by simp) hb1 _)
  have box2:BoxAt H2 b:=⟨n / m::r,hb2,by simpa using hl⟩
  have hpop:∀Q':V->Hp->Prop,Q' (.int (n / m)) (upd H2 b (.lst (r.map V.int)))->rPopAt (.ref b) [.int 0] H2 Q':=fun Q' hq =>
   ⟨b,_,0,0,exA rfl ⟨rfl,hb2,by decide,by decide,seqIndex_of (by omega) (by rw[List.length_cons];omega),rfl,hq⟩⟩
  have box3:BoxAt (upd H2 b (.lst (r.map V.int))) b:=⟨r,upd_same,by simp at hl;omega⟩
  have g3:Gro [b] H (upd H2 b (.lst (r.map V.int))):=g2.trans (Gro.set (by simp) hb2 _)
  have ty2:tyV K "list" (.ref b) H2:=.inl ⟨rfl,_,SqL.of hb2⟩
  refine(ixL hb2 at0 ⟨rfl,_,rfl,?_⟩)
  refine ite2 (fun c=>?_) (fun c=>?_)
  ·refine iteT (exA rfl ⟨ty2,?_⟩)
   refine hpop _ ?_
   refine(exA rfl (exA rfl (exB rfl rfl ⟨h0,?_⟩)))
   exact q _ _ hm0 hm1 box3 g3
  ·refine(ixL hb2 at0 ⟨_,rfl,rfl,_,rfl,?_⟩)
   refine ite2 (fun c=>?_) (fun c=>?_)
   ·refine(exA rfl ⟨ty2,?_⟩)
    refine hpop _ ?_
    refine(exA rfl (exA rfl (exB rfl rfl ⟨h0,?_⟩)))
    exact q _ _ hm0 hm1 box3 g3
   ·refine(exA rfl (exA rfl (exB rfl rfl ⟨h0,?_⟩)))
    exact q _ _ hm0 hm1 box2 g2
inductive spSignI(vs:List V)(H:Hp)(Q:VK):Prop
 |mk (c:Int) (_:vs=[.int c]) (_:∀s:Str,s.length=1->Q (.str s) H)
def spSign:Sp:=fun vs H Q _=>spSignI vs H Q
abbrev s_l_sign:Stmt:=top 49
theorem sc_l_sign:FnScope ["_law_cell","_law_some"] ["_law_cell"] (defScope s_l_sign):=fsc
theorem ok_sign(F:Fun K "_law_sign" "_law_sign" s_l_sign f fd):FnOk P w K mg base CX0 1 f fd ["_law_cell"] spSign:=by
 refine F.ok sc_l_sign (fun vs H Q E h=>?_) (fun cdv A outer s H vs Q E hr h=>?_)
 ·obtain⟨c,rfl,_⟩:=h
  rfl
 obtain⟨c,rfl,q⟩:=h
 refine ltX ?_
 intro Xz
 refine⟨_,(pss_cons (pS 1 sc_l_sign.nd pe_str)
  (pss_cons (pS 1 sc_l_sign.nd (pe_op op_add_str (pv 1) pe_str))
  (pss_one (ps_ret (pe_ix ix_str (pv 1) (pe_op op_mod (pv 0) pe_int) (fun _ _=>rfl)))))),?_⟩
 refine qe5f44 ?_
 intro Ez Az1 Az2
 refine(exA rfl (exB rfl rfl ⟨sz,?_⟩))
 refine(exA rfl (exA rfl (exB rfl rfl ⟨(by decide:(0:Int)<94),?_⟩)))
 generalize hz:(Str.ofString _++Str.ofString _:Str)=z
 have hlen:z.cps.toList.length=94:=by rw[← hz];decide +kernel
 have h0:0<=c % 94:=Int.emod_nonneg _ (by omega)
 have h1:c % 94<94:=Int.emod_lt_of_pos _ (by omega)
 have hlt:(c % 94).toNat<z.cps.toList.length:=by omega
 have e:atI z.cps.toList (c % 94)=some (z.cps.toList[(c % 94).toNat]):=by
  have:=atI_nat (xs:=z.cps.toList) (j:=(c % 94).toNat) (List.getElem?_eq_getElem hlt)
  rw[Int.toNat_of_nonneg h0]at this
  exact this
 refine⟨z,_,_,rfl,rfl,?_,e,q _ rfl⟩
 have:z.length=94:=by rw[← hlen];simp[Str.length]
 rw[this];exact sz
inductive spLettersI(vs:List V)(H:Hp)(Q:VK):Prop
 |mk (b:Addr) (_:vs=[.ref b]) (_:BoxAt H b) (_:∀(l:Addr) (H':Hp),BoxAt H' b->LetAt H' l->Gro [b] H H'->Q (.ref l) H')
def spLetters:Sp:=fun vs H Q _=>spLettersI vs H Q
abbrev s_l_letters:Stmt:=top 50
theorem sc_l_letters:FnScope ["_law_box"] ["_law_box"] (defScope s_l_letters):=fsc
theorem ok_letters(T:Blt mg)(O_l_take:Own P w K mg base 1 "_law_take" ["_law_box","_law_many"] spTake)(O_l_sign:Own P w K mg base 1 "_law_sign" ["_law_cell"] spSign)(F:Fun K "_law_letters" "_law_letters" s_l_letters f fd) :
  FnOk P w K mg base CX0 2 f fd ["_law_box"] spLetters:=by
 refine F.ok sc_l_letters (fun vs H Q E h=>?_) (fun cdv A outer s H vs Q E hr h=>?_)
 ·obtain⟨b,rfl,_⟩:=h
  rfl
 obtain⟨b,rfl,hb,q⟩:=h
 refine ltX ?_
 intro Xz
 refine⟨_,(pss_one (ps_ret (pe_lcomp rfl (show CScope _ ["_law_box"] (defScope s_l_letters) _ from⟨rfl,by decide +kernel,rfl,by decide +kernel,by decide +kernel,by decide +kernel,by decide +kernel⟩) (pi_range1 rfl T.b_range (pa_cons pe_int pa_nil)) (fun _ _ _ _=>pts_nil) (fun _ _ _ _=>(pe_own (O_l_sign.mono (by omega)) hr rfl (pa_cons (pe_own (O_l_take.mono (by omega)) hr rfl (pa_cons (pv 1) (pa_cons pe_int pa_nil))) pa_nil)))))),?_⟩
 refine⟨3,rfl,by decide,by decide,?_⟩
 refine lc_range (n:=3) (fun i ys H'=>(∃xs:List Str,ys=xs.map V.str/\xs.length=i/\∀x∈xs,x.length=1)/\BoxAt H' b/\Gro [b] H H') ⟨⟨[],rfl,rfl,by simp⟩,hb,Gro.refl⟩ (small1000 (by decide)) (fun i ys H' ⟨⟨xs,e1,e2,_⟩,_⟩=>by rw[e1,List.length_map,e2];exact Nat.le_refl _) ?_ ?_
 ·rintro i ys H1 hi ⟨⟨xs,rfl,e2,e3⟩,hb1,g1⟩
  refine(exA rfl ⟨b,94,rfl,hb1,by decide,by decide,fun r H2 h0 h1 hb2 g2=>?_⟩)
  refine⟨r,rfl,fun s hs=>⟨⟨xs++[s],by simp,by simp[e2],fun x hx=>?_⟩,hb2,g1.trans g2⟩⟩
  rcases List.mem_append.mp hx with z | z
  ·exact e3 x z
  ·rw[List.mem_singleton.mp z];exact hs
 ·rintro ys H1 ⟨⟨xs,rfl,e2,e3⟩,hb1,g1⟩ l hl
  match xs,e2,e3 with
  | [x,y,z],_,e3 =>
   exact q l _ (hb1.new hl) ⟨x,y,z,upd_same,e3 x (by simp),e3 y (by simp),e3 z (by simp)⟩ (g1.trans (Gro.new hl _))
end
def rfs(t:Str)(i c d:Int):List (Str×V):=[("text",.str t),("place",.int i),("groups",.int c),("nested",.int d)]
theorem rf_text{t:Str}{i c d:Int}:(rfs t i c d).lookup ("text":Str)=some (.str t):=lk_pos
theorem rf_place{t:Str}{i c d:Int}:(rfs t i c d).lookup ("place":Str)=some (.int i):=by unfold rfs;rw[lk_neg (by decide +kernel),lk_pos]
theorem rf_groups{t:Str}{i c d:Int}:(rfs t i c d).lookup ("groups":Str)=some (.int c):=by unfold rfs;rw[lk_neg (by decide +kernel),lk_neg (by decide +kernel),lk_pos]
theorem rf_nested{t:Str}{i c d:Int}:(rfs t i c d).lookup ("nested":Str)=some (.int d):=by unfold rfs;rw[lk_neg (by decide +kernel),lk_neg (by decide +kernel),lk_neg (by decide +kernel),lk_pos]
theorem rp_place{t:Str}{i j c d:Int}:putF "place" (.int j) (rfs t i c d)=rfs t j c d:=by unfold rfs;rw[pf_neg (by decide +kernel),pf_pos]
theorem rp_groups{t:Str}{i j c d:Int}:putF "groups" (.int j) (rfs t i c d)=rfs t i j d:=by unfold rfs;rw[pf_neg (by decide +kernel),pf_neg (by decide +kernel),pf_pos]
theorem rp_nested{t:Str}{i j c d:Int}:putF "nested" (.int j) (rfs t i c d)=rfs t i c j:=by unfold rfs;rw[pf_neg (by decide +kernel),pf_neg (by decide +kernel),pf_neg (by decide +kernel),pf_pos]
theorem rf_no{m t:Str}{i c d:Int}(h:(m=="text")=false/\(m=="place")=false/\(m=="groups")=false/\(m=="nested")=false):(rfs t i c d).lookup m=none:=by
 unfold rfs
 rw[lk_neg h.1,lk_neg h.2.1,lk_neg h.2.2.1,lk_neg h.2.2.2]
 rfl
structure TxtR(K:W.Frag)(CR:Addr):Prop where
 cl:Cls K CR
 a1:NoAttr K CR "text"
 a2:NoAttr K CR "place"
 a3:NoAttr K CR "groups"
 a4:NoAttr K CR "nested"
def RdA(CR:Addr)(H:Hp)(m dx:Addr)(t:Str)(i:Nat)(c d:Int):Prop:=H m=some (.ins CR dx (rfs t i c d))/\t.length<=2000000/\i<=4000000
theorem Gro.objR{H:Hp}{m C dx:Addr}{fs fs':List (Str×V)}(h:H m=some (.ins C dx fs)):Gro [m] H (upd H m (.ins C dx fs')):=Gro.ins (by simp) h _
theorem bgs{n:Nat}(h:n<=8000000):n<=sizeLine:=Nat.le_trans h (by decide)
section
variable{P:Program}{w:World}{K:W.Frag}{mg:Str->Option Value}{base:Heap}{f CR:Addr}{fd:FuncData}
inductive spSeenI(CR:Addr)(vs:List V)(H:Hp)(Q:VK):Prop
 |mk (m dx:Addr) (t:Str) (i:Nat) (c d:Int) (_:vs=[.ref m]) (_:RdA CR H m dx t i c d) (_:Q (.str (sgT t i)) H)
def spSeen(CR:Addr):Sp:=fun vs H Q _=>spSeenI CR vs H Q
abbrev s_Reader_seen:Stmt:=inClass (top 46) 1
theorem sc_Reader_seen:FnScope ["self"] ["self"] (defScope s_Reader_seen):=fsc
theorem ok_seen(MTR:TxtR K CR)(F:Fun K "seen" "Reader.seen" s_Reader_seen f fd):FnOk P w K mg base CX0 1 f fd ["self"] (spSeen CR):=by
 refine F.ok sc_Reader_seen (fun vs H Q E h=>?_) (fun cdv A outer s H vs Q E hr h=>?_)
 ·obtain⟨m,dx,t,i,c,d,rfl,_⟩:=h
  rfl
 obtain⟨m,dx,t,i,c,d,rfl,⟨hm,ht,hi⟩,q⟩:=h
 refine ltX ?_
 intro Xz
 refine⟨_,(pss_one (ps_ret (pe_slice sl_str (pe_fld (pv 0) rfl) (po_some (pe_fld (pv 0) rfl)) (po_some (pe_op op_add (pe_fld (pv 0) rfl) pe_int))))),?_⟩
 refine exA rfl ⟨m,CR,dx,_,_,rfl,hm,MTR.cl,MTR.a1,rf_text,exA rfl ⟨m,CR,dx,_,_,rfl,hm,MTR.cl,MTR.a2,rf_place,exA rfl (exA rfl ⟨m,CR,dx,_,_,rfl,hm,MTR.cl,MTR.a2,rf_place,exB rfl rfl (exA rfl (exA rfl ⟨bgs (by omega),?_⟩))⟩)⟩⟩
 rw[slice_sub (by omega) (by omega)]
 exact q
inductive spTakeRI(CR:Addr)(vs:List V)(H:Hp)(Q:VK):Prop
 |mk (m dx:Addr) (t:Str) (i:Nat) (c d:Int) (_:vs=[.ref m]) (_:RdA CR H m dx t i c d) (_:i<4000000) (_:∀H',RdA CR H' m dx t (i+1) c d->Gro [m] H H'->Q (.str (sgT t i)) H')
def spTakeR(CR:Addr):Sp:=fun vs H Q _=>spTakeRI CR vs H Q
abbrev s_Reader_take:Stmt:=inClass (top 46) 2
theorem sc_Reader_take:FnScope ["self","sign"] ["self"] (defScope s_Reader_take):=fsc
theorem ok_taker(MTR:TxtR K CR)(O_Reader_seen:OwnM P w K mg base 1 CR "seen" ["self"] (spSeen CR))(F:Fun K "take" "Reader.take" s_Reader_take f fd):FnOk P w K mg base CX0 2 f fd ["self"] (spTakeR CR):=by
 refine F.ok sc_Reader_take (fun vs H Q E h=>?_) (fun cdv A outer s H vs Q E hr h=>?_)
 ·obtain⟨m,dx,t,i,c,d,rfl,_⟩:=h
  rfl
 obtain⟨m,dx,t,i,c,d,rfl,⟨hm,ht,hi⟩,hi2,q⟩:=h
 refine ltX ?_
 intro Xz
 refine⟨_,(pss_cons (pS 1 sc_Reader_take.nd (pe_ownm0 (O_Reader_seen.mono (by omega)) MTR.cl hr (pv 0)))
  (pss_cons (ps_fldaug (pv 0) pe_int in_add)
  (pss_one (ps_ret (pv 1))))),?_⟩
 refine qe5f44 ?_
 intro Ez Az1 Az2
 refine exA rfl ⟨m,dx,exA rfl ⟨hm,rf_no (by decide +kernel),m,dx,t,i,c,d,rfl,⟨hm,ht,hi⟩,?_⟩⟩
 refine exA rfl ⟨m,CR,dx,_,_,rfl,hm,MTR.cl,MTR.a2,rf_place,exB rfl rfl ⟨dx,_,hm,by show 4<1000;decide,?_⟩⟩
 rw[rp_place]
 exact exA rfl (q _ ⟨upd_same,ht,by omega⟩ (Gro.objR hm))
inductive spPassI(CR:Addr)(vs:List V)(H:Hp)(Q:VK):Prop
 |mk (m dx:Addr) (t x:Str) (i:Nat) (c d:Int) (_:vs=[.ref m,.str x]) (_:RdA CR H m dx t i c d) (_:i<4000000) (_:sgT t i=x->∀H',RdA CR H' m dx t (i+1) c d->Gro [m] H H'->Q (.bl true) H') (_:sgT t i≠x->Q (.bl false) H)
def spPass(CR:Addr):Sp:=fun vs H Q _=>spPassI CR vs H Q
abbrev s_Reader_passes:Stmt:=inClass (top 46) 3
theorem sc_Reader_passes:FnScope ["self","sign"] ["self","sign"] (defScope s_Reader_passes):=fsc
theorem ok_pass(MTR:TxtR K CR)(O_Reader_seen:OwnM P w K mg base 1 CR "seen" ["self"] (spSeen CR))(F:Fun K "passes" "Reader.passes" s_Reader_passes f fd):FnOk P w K mg base CX0 2 f fd ["self","sign"] (spPass CR):=by
 refine F.ok sc_Reader_passes (fun vs H Q E h=>?_) (fun cdv A outer s H vs Q E hr h=>?_)
 ·obtain⟨m,dx,t,x,i,c,d,rfl,_⟩:=h
  rfl
 obtain⟨m,dx,t,x,i,c,d,rfl,⟨hm,ht,hi⟩,hi2,q1,q2⟩:=h
 refine ltX ?_
 intro Xz
 refine⟨_,(pss_cons (ps_if (pt_cmpR op_ne (pe_ownm0 (O_Reader_seen.mono (by omega)) MTR.cl hr (pv 0)) (pv 1) (nomark _)) (pss_one (ps_ret pe_bl)) pss_nil)
  (pss_cons (ps_fldaug (pv 0) pe_int in_add)
  (pss_one (ps_ret pe_bl)))),?_⟩
 refine q329b1 ?_
 intro Ez Az1 Az2 Az3
 refine exA rfl ⟨m,dx,exA rfl ⟨hm,rf_no (by decide +kernel),m,dx,t,i,c,d,rfl,⟨hm,ht,hi⟩,exA rfl ⟨rfl,exA rfl ?_⟩⟩⟩
 by_cases e:sgT t i=x
 ·refine ite_no (by rw[e];simp) ?_
  refine exA rfl ⟨m,CR,dx,_,_,rfl,hm,MTR.cl,MTR.a2,rf_place,exB rfl rfl ⟨dx,_,hm,by show 4<1000;decide,?_⟩⟩
  rw[rp_place]
  exact q1 e _ ⟨upd_same,ht,by omega⟩ (Gro.objR hm)
 ·refine ite_yes (by simp[e]) ?_
  exact q2 e
end
theorem eqS{x y:Str}(h:x=y):decide (V.str x=V.str y)=true:=decide_eq_true (by rw[h])
theorem neS{x y:Str}(h:x≠y):¬decide (V.str x=V.str y)=true:=fun z=>h (by have z':=of_decide_eq_true z;injection z')
section
variable{P:Program}{w:World}{K:W.Frag}{mg:Str->Option Value}{base:Heap}{f CR CU CE:Addr}{fd:FuncData}
inductive spNeedI(CR CU:Addr)(vs:List V)(H:Hp)(Q:VK)(E:XK):Prop
 |mk (m dx:Addr) (t x:Str) (i:Nat) (c d:Int) (_:vs=[.ref m,.str x]) (_:RdA CR H m dx t i c d) (_:i<4000000) (_:sgT t i=x->∀H',RdA CR H' m dx t (i+1) c d->Gro [m] H H'->Q .non H') (_:sgT t i≠x->∀H',Gro [m] H H'->E (.ref CU) none H')
def spNeed(CR CU:Addr):Sp:=fun vs H Q E=>spNeedI CR CU vs H Q E
abbrev s_Reader_need:Stmt:=inClass (top 46) 4
theorem sc_Reader_need:FnScope ["self","sign"] ["self","sign"] (defScope s_Reader_need):=fsc
theorem ok_need(MTR:TxtR K CR)(XC_Unread:XC K mg "Unread" CU CE)(O_Reader_take:OwnM P w K mg base 2 CR "take" ["self"] (spTakeR CR))(F:Fun K "need" "Reader.need" s_Reader_need f fd):FnOk P w K mg base (CX1 P w) 3 f fd ["self","sign"] (spNeed CR CU):=by
 refine F.okX sc_Reader_need (fun vs H Q E h=>?_) (fun cdv A outer s H vs Q E hr h LX=>?_)
 ·obtain⟨m,dx,t,x,i,c,d,rfl,_⟩:=h
  rfl
 obtain⟨m,dx,t,x,i,c,d,rfl,⟨hm,ht,hi⟩,hi2,q,qx⟩:=h
 refine ltX ?_
 intro Xz
 refine⟨_,(pss_one (ps_if (pt_cmpR op_ne (pe_ownm0 (O_Reader_take.mono (by omega)) MTR.cl hr (pv 0)) (pv 1) (nomark _)) (pss_one (ps_raise LX rfl XC_Unread rfl (pa_cons pe_str pa_nil))) pss_nil)),?_⟩
 refine q1e99a ?_
 intro Ez Az1
 refine exA rfl ⟨m,dx,exA rfl ⟨hm,rf_no (by decide +kernel),m,dx,t,i,c,d,rfl,⟨hm,ht,hi⟩,hi2,fun H' h' g=>exA rfl ⟨rfl,exA rfl ?_⟩⟩⟩
 by_cases e:sgT t i=x
 ·exact ite_no (by rw[e];simp) (q e H' h' g)
 ·exact ite_yes (by simp[e]) ⟨sz,qx e H' g⟩
inductive spSgnI(CR CU:Addr)(vs:List V)(H:Hp)(Q:VK)(E:XK):Prop
 |mk (m dx:Addr) (t st:Str) (i:Nat) (c d:Int) (_:vs=[.ref m,.str st]) (_:RdA CR H m dx t i c d) (_:i+2<4000000) (_:∀s j,rSign t st i=some (s,j)->∀H',RdA CR H' m dx t j c d->Gro [m] H H'->Q (.str s) H') (_:rSign t st i=none->∀H',Gro [m] H H'->E (.ref CU) none H')
def spSgn(CR CU:Addr):Sp:=fun vs H Q E=>spSgnI CR CU vs H Q E
abbrev s_Reader_sign:Stmt:=inClass (top 46) 14
theorem sc_Reader_sign:FnScope ["self","stroked","stroke","sign"] ["self","stroked"] (defScope s_Reader_sign):=fsc
theorem ok_sgn(MTR:TxtR K CR)(XC_Unread:XC K mg "Unread" CU CE)(O_Reader_passes:OwnM P w K mg base 2 CR "passes" ["self","sign"] (spPass CR))(O_Reader_take:OwnM P w K mg base 2 CR "take" ["self"] (spTakeR CR))(F:Fun K "sign" "Reader.sign" s_Reader_sign f fd):FnOk P w K mg base (CX1 P w) 3 f fd ["self","stroked"] (spSgn CR CU):=by
 refine F.okX sc_Reader_sign (fun vs H Q E h=>?_) (fun cdv A outer s H vs Q E hr h LX=>?_)
 ·obtain⟨m,dx,t,st,i,c,d,rfl,_⟩:=h
  rfl
 obtain⟨m,dx,t,st,i,c,d,rfl,hR,hi2,q,qx⟩:=h
 refine ltX ?_
 intro Xz
 refine⟨_,(pss_cons (pS 2 sc_Reader_sign.nd (pe_ownm (O_Reader_passes.mono (by omega)) MTR.cl hr (pv 0) (pa_cons pe_str pa_nil)))
  (pss_cons (pS 3 sc_Reader_sign.nd (pe_ownm0 (O_Reader_take.mono (by omega)) MTR.cl hr (pv 0)))
  (pss_cons (ps_if (PW.pt (pw_or (pt_cmpR op_eq (pv 3) pe_str (nomark _)) (pw_or1 (pt_cmpR op_ne (pe_cmpR op_in_str (pv 3) (pv 1) (by with_unfolding_all rfl)) (pv 2) (nomark _))))) (pss_one (ps_raise LX rfl XC_Unread rfl (pa_cons pe_str pa_nil))) pss_nil)
  (pss_one (ps_ret (pv 3)))))),?_⟩
 refine qa8be2 ?_
 intro Ez Az1 Az2 Az3 Az4
 unfold rSign at q qx
 by_cases h1:sgT t i = "\\"
 ·rw[if_pos h1]at q qx
  refine exA rfl ⟨m,dx,exA rfl ⟨hR.1,rf_no (by decide +kernel),m,dx,t,_,i,c,d,rfl,hR,by omega,fun _ H1 hR1 g1=>?_,fun z=>absurd h1 z⟩⟩
  refine exA rfl ⟨m,dx,exA rfl ⟨hR1.1,rf_no (by decide +kernel),m,dx,t,_,c,d,rfl,hR1,by omega,fun H2 hR2 g2=>?_⟩⟩
  refine exA rfl ⟨rfl,exA rfl ?_⟩
  by_cases h2:sgT t (i+1)=""
  ·rw[if_pos h2]at qx
   exact ite_yes (eqS h2) (iteT ⟨sz,qx rfl H2 (g1.trans g2)⟩)
  ·rw[if_neg h2]at q qx
   refine ite_no (neS h2) ?_
   refine exA rfl (exA rfl ⟨_,_,rfl,rfl,exA rfl ⟨rfl,exA rfl ?_⟩⟩)
   show if(!decide (V.bl (within (sgT t (i+1)) st)=V.bl true))=true then _ else _
   by_cases h3:within (sgT t (i+1)) st=true
   ·rw[if_pos h3]at q
    exact ite_no (by rw[h3];decide) (exA rfl (q _ _ rfl H2 hR2 (g1.trans g2)))
   ·rw[if_neg h3]at qx
    exact ite_yes (by rw[Bool.eq_false_iff.mpr h3];decide) ⟨sz,qx rfl H2 (g1.trans g2)⟩
 ·rw[if_neg h1]at q qx
  refine exA rfl ⟨m,dx,exA rfl ⟨hR.1,rf_no (by decide +kernel),m,dx,t,_,i,c,d,rfl,hR,by omega,fun z=>absurd z h1,fun _=>?_⟩⟩
  refine exA rfl ⟨m,dx,exA rfl ⟨hR.1,rf_no (by decide +kernel),m,dx,t,_,c,d,rfl,hR,by omega,fun H2 hR2 g2=>?_⟩⟩
  refine exA rfl ⟨rfl,exA rfl ?_⟩
  by_cases h2:sgT t i=""
  ·rw[if_pos h2]at qx
   exact ite_yes (eqS h2) (iteT ⟨sz,qx rfl H2 g2⟩)
  ·rw[if_neg h2]at q qx
   refine ite_no (neS h2) ?_
   refine exA rfl (exA rfl ⟨_,_,rfl,rfl,exA rfl ⟨rfl,exA rfl ?_⟩⟩)
   show if(!decide (V.bl (within (sgT t i) st)=V.bl false))=true then _ else _
   by_cases h3:within (sgT t i) st=true
   ·rw[if_pos h3]at qx
    exact ite_yes (by rw[h3];decide) ⟨sz,qx rfl H2 g2⟩
   ·rw[if_neg h3]at q
    exact ite_no (by rw[Bool.eq_false_iff.mpr h3];decide) (exA rfl (q _ _ rfl H2 hR2 g2))
inductive spDigI(CR CU:Addr)(vs:List V)(H:Hp)(Q:VK)(E:XK):Prop
 |mk (m dx:Addr) (t:Str) (i:Nat) (c d:Int) (_:vs=[.ref m]) (_:RdA CR H m dx t i c d) (_:i<4000000) (_:∀k j,rDig t i=some (k,j)->∀H',RdA CR H' m dx t j c d->Gro [m] H H'->Q (.int k) H') (_:rDig t i=none->∀H',Gro [m] H H'->E (.ref CU) none H')
def spDig(CR CU:Addr):Sp:=fun vs H Q E=>spDigI CR CU vs H Q E
abbrev s_Reader_digit:Stmt:=inClass (top 46) 15
theorem sc_Reader_digit:FnScope ["self","sign"] ["self"] (defScope s_Reader_digit):=fsc
theorem ok_dig{t1:Tok}(T:Blt mg)(c_DIGITS:mg "DIGITS" = some (.str digS t1))(MTR:TxtR K CR)(XC_Unread:XC K mg "Unread" CU CE)(O_Reader_take:OwnM P w K mg base 2 CR "take" ["self"] (spTakeR CR))(F:Fun K "digit" "Reader.digit" s_Reader_digit f fd):FnOk P w K mg base (CX1 P w) 3 f fd ["self"] (spDig CR CU):=by
 refine F.okX sc_Reader_digit (fun vs H Q E h=>?_) (fun cdv A outer s H vs Q E hr h LX=>?_)
 ·obtain⟨m,dx,t,i,c,d,rfl,_⟩:=h
  rfl
 obtain⟨m,dx,t,i,c,d,rfl,hR,hi2,q,qx⟩:=h
 refine ltX ?_
 intro Xz
 refine⟨_,(pss_cons (pS 1 sc_Reader_digit.nd (pe_ownm0 (O_Reader_take.mono (by omega)) MTR.cl hr (pv 0)))
  (pss_cons (ps_if (PW.pt (pw_or (pt_cmpR op_eq (pv 1) pe_str (nomark _)) (pw_or1 (pt_cmpR op_notin_str (pv 1) (pe_glob (v:=.str _) rfl c_DIGITS ⟨_,rfl⟩) (by with_unfolding_all rfl))))) (pss_one (ps_raise LX rfl XC_Unread rfl (pa_cons pe_str pa_nil))) pss_nil)
  (pss_one (ps_ret (pe_callTy call_int_txt rfl T.b_int PyProof.Rows.Boot.«int» (pa_cons (pv 1) pa_nil)))))),?_⟩
 refine qf76fd ?_
 intro Ez Az1 Az2 Az3
 unfold rDig at q qx
 refine exA rfl ⟨m,dx,exA rfl ⟨hR.1,rf_no (by decide +kernel),m,dx,t,i,c,d,rfl,hR,hi2,fun H1 hR1 g1=>?_⟩⟩
 refine exA rfl ⟨rfl,exA rfl ?_⟩
 by_cases h2:sgT t i=""
 ·rw[h2]at qx
  exact ite_yes (eqS h2) (iteT ⟨sz,qx (by rw[show dgt "" = none by decide +kernel]) H1 g1⟩)
 ·refine ite_no (neS h2) ?_
  have hdi:=dgt_in (sg_in h2).2
  refine exA rfl ⟨_,_,rfl,rfl,exA rfl ?_⟩
  show if(!(!(Builtin.Str.occurrences digS (sgT t i) 0 digS.length 1).isEmpty))=true then _ else _
  rw[hdi]
  cases hd:dgt (sgT t i) with
  |none =>
   rw[hd]at qx
   exact ite_yes rfl ⟨sz,qx rfl H1 g1⟩
  |some k =>
   rw[hd]at q
   obtain⟨hi,_,h9⟩:=dgt_int hd
   refine ite_no (by simp) ?_
   exact exA rfl ⟨sgT t i,_,rfl,hi,by omega,q _ _ rfl H1 hR1 g1⟩
inductive spRunI(CR CU:Addr)(vs:List V)(H:Hp)(Q:VK)(E:XK):Prop
 |mk (m dx:Addr) (t:Str) (i:Nat) (c d:Int) (_:vs=[.ref m]) (_:RdA CR H m dx t i c d) (_:i+10<4000000) (_:∀r j,rRun t i=some (r,j)->∀(a:Addr) (H':Hp),H' a=some (.tup [.str r.1,.str r.2])->RdA CR H' m dx t j c d->Gro [m] H H'->Q (.ref a) H') (_:rRun t i=none->∀H',Gro [m] H H'->E (.ref CU) none H')
def spRun(CR CU:Addr):Sp:=fun vs H Q E=>spRunI CR CU vs H Q E
abbrev s_Reader_run:Stmt:=inClass (top 46) 13
theorem sc_Reader_run:FnScope ["self","low","high"] ["self"] (defScope s_Reader_run):=fsc
theorem ok_run{t2:Tok}(c_STROKED_IN_RUNS:mg "STROKED_IN_RUNS" = some (.str strokedR t2))(MTR:TxtR K CR)(O_Reader_passes:OwnM P w K mg base 2 CR "passes" ["self","sign"] (spPass CR))(O_Reader_sign:OwnMX P w K mg base 3 CR "sign" ["self","stroked"] (spSgn CR CU))(F:Fun K "run" "Reader.run" s_Reader_run f fd):FnOk P w K mg base (CX1 P w) 4 f fd ["self"] (spRun CR CU):=by
 refine F.okX sc_Reader_run (fun vs H Q E h=>?_) (fun cdv A outer s H vs Q E hr h LX=>?_)
 ·obtain⟨m,dx,t,i,c,d,rfl,_⟩:=h
  rfl
 obtain⟨m,dx,t,i,c,d,rfl,hR,hi2,q,qx⟩:=h
 refine ltX ?_
 intro Xz
 refine⟨_,(pss_cons (pS 1 sc_Reader_run.nd (pe_ownmX LX.pass (O_Reader_sign.mono (by omega)) MTR.cl hr (pv 0) (pa_cons (pe_glob (v:=.str _) rfl c_STROKED_IN_RUNS ⟨_,rfl⟩) pa_nil)))
  (pss_cons (pS 2 sc_Reader_run.nd (pe_ifExp (pt_val (pe_ownm (O_Reader_passes.mono (by omega)) MTR.cl hr (pv 0) (pa_cons pe_str pa_nil))) (pe_ownmX LX.pass (O_Reader_sign.mono (by omega)) MTR.cl hr (pv 0) (pa_cons (pe_glob (v:=.str _) rfl c_STROKED_IN_RUNS ⟨_,rfl⟩) pa_nil)) (pv 1)))
  (pss_one (ps_ret (pe_tup (pa_cons (pv 1) (pa_cons (pv 2) pa_nil))))))),?_⟩
 refine qe5f44 ?_
 intro Ez Az1 Az2
 unfold rRun at q qx
 have fin:∀(lo hi:Str) (H1:Hp) (j:Nat),(∀(a:Addr) (H':Hp),H' a=some (.tup [.str lo,.str hi])->RdA CR H' m dx t j c d->Gro [m] H H'->Q (.ref a) H')->RdA CR H1 m dx t j c d->Gro [m] H H1->∀a:Addr,H1 a=none->Q (.ref a) (upd H1 a (.tup [.str lo,.str hi])):=fun lo hi H1 j qq hR1 g1 a ha=>by
  have g2:=Gro.new (S:=[]) ha (.tup [.str lo,.str hi])
  exact qq a _ upd_same ⟨g2.keep _ _ hR1.1 (by simp),hR1.2⟩ (g1.trans (Gro.new ha _))
 refine exA rfl ⟨m,dx,exA rfl ⟨hR.1,rf_no (by decide +kernel),m,dx,t,_,i,c,d,rfl,hR,by omega,fun lo j hs H1 hR1 g1=>?_,fun hs H1 g1=>qx (by rw[hs]) H1 g1⟩⟩
 rw[hs]at q qx
 obtain⟨_,a2,a3,a4⟩:=rSign_ok hs
 have htl:=hR.2.1
 refine exA rfl ⟨m,dx,exA rfl ⟨hR1.1,rf_no (by decide +kernel),m,dx,t,_,_,c,d,rfl,hR1,by omega,fun z H2 hR2 g2=>exA rfl (ite_yes rfl ?_),fun z=>exA rfl (ite_no (by decide) (exA rfl ?_))⟩⟩
 ·change ∀r j',(if sgT t j="-" then _ else _)=_->_ at q
  change (if sgT t j="-" then _ else _)=_->_ at qx
  rw[if_pos z]at qx
  simp only[if_pos z]at q
  refine exA rfl ⟨m,dx,exA rfl ⟨hR2.1,rf_no (by decide +kernel),m,dx,t,_,_,c,d,rfl,hR2,by omega,fun hi k hs2 H3 hR3 g3=>?_,fun hs2 H3 g3=>qx (by rw[hs2]) H3 ((g1.trans g2).trans g3)⟩⟩
  rw[hs2]at q
  exact exA rfl (exA rfl ⟨sz,fun a ha=>fin lo hi H3 k (fun a H' h1 h2 h3=>q (lo,hi) k rfl a H' h1 h2 h3) hR3 ((g1.trans g2).trans g3) a ha⟩)
 ·change ∀r j',(if sgT t j="-" then _ else _)=_->_ at q
  simp only[if_neg z]at q
  exact exA rfl (exA rfl ⟨sz,fun a ha=>fin lo lo H1 j (fun a H' h1 h2 h3=>q (lo,lo) j rfl a H' h1 h2 h3) hR1 g1 a ha⟩)
end
theorem neV{x y:Str}(h:x≠y):eqV (.str y) (.str x)=false:=by
 show(y==x)=false
 exact beq_eq_false_iff_ne.mpr fun z=>h z.symm
theorem in3(x:Str):inV (.str x) [.str "?",.str "!",.str "}"]=decide (x="?" ∨ x="!" ∨ x="}"):=by
 by_cases h1:x="?"
 ·subst h1;decide +kernel
 by_cases h2:x="!"
 ·subst h2;decide +kernel
 by_cases h3:x="}"
 ·subst h3;decide +kernel
 rw[decide_eq_false (by simp[h1,h2,h3])]
 unfold inV
 simp only[List.any_cons,List.any_nil,Bool.or_false,Bool.or_eq_false_iff]
 exact⟨neV h1,neV h2,neV h3⟩
theorem snd_tups{H H':Hp}{us:List V}{rs:List (Str×Str)}(t:∀b xs,H b=some (.tup xs)->H' b=some (.tup xs))(h:Paired (RunW H) us rs):Paired (RunW H') us rs:=Paired.mapP h fun v q ⟨a,e1,e2⟩=>⟨a,e1,t _ _ e2⟩
section
variable{P:Program}{w:World}{K:W.Frag}{mg:Str->Option Value}{base:Heap}{f CR CU CE:Addr}{fd:FuncData}
inductive spTurnI(CR CU:Addr)(vs:List V)(H:Hp)(Q:VK)(E:XK):Prop
 |mk (m dx:Addr) (t:Str) (px:V) (i:Nat) (c d:Int) (_:vs=[.ref m,px]) (_:RdA CR H m dx t i c d) (_:i+10<4000000)
  (_:∀lo hi how j,(∀p,rTurns t i p=some (.node (.times lo hi how) [p],j))->∀(a:Addr) (H':Hp),H' a=some (.tup [.str "times",.int lo,optV hi,.str how.text,px])->RdA CR H' m dx t j c d->Gro [m] H H'->Q (.ref a) H')
  (_:(∀p,rTurns t i p=none)->∀H',Gro [m] H H'->E (.ref CU) none H')
def spTurn(CR CU:Addr):Sp:=fun vs H Q E=>spTurnI CR CU vs H Q E
abbrev s_Reader_turns:Stmt:=inClass (top 46) 16
theorem sc_Reader_turns:FnScope ["self","part","low","high","how"] ["self","part"] (defScope s_Reader_turns):=fsc
theorem ok_turn(MTR:TxtR K CR)(O_Reader_seen:OwnM P w K mg base 1 CR "seen" ["self"] (spSeen CR))(O_Reader_passes:OwnM P w K mg base 2 CR "passes" ["self","sign"] (spPass CR))(O_Reader_need:OwnMX P w K mg base 3 CR "need" ["self","sign"] (spNeed CR CU))(O_Reader_digit:OwnMX P w K mg base 3 CR "digit" ["self"] (spDig CR CU))
  (F:Fun K "turns" "Reader.turns" s_Reader_turns f fd):FnOk P w K mg base (CX1 P w) 4 f fd ["self","part"] (spTurn CR CU):=by
 refine F.okX sc_Reader_turns (fun vs H Q E h=>?_) (fun cdv A outer s H vs Q E hr h LX=>?_)
 ·obtain⟨m,dx,t,px,i,c,d,rfl,_⟩:=h
  rfl
 obtain⟨m,dx,t,px,i,c,d,rfl,hR,hi2,q,qx⟩:=h
 refine ltX ?_
 intro Xz
 refine⟨_,(pss_cons (pS 2 sc_Reader_turns.nd (pe_ownm0X LX.pass (O_Reader_digit.mono (by omega)) MTR.cl hr (pv 0)))
  (pss_cons (ps_expr (pe_ownmX LX.pass (O_Reader_need.mono (by omega)) MTR.cl hr (pv 0) (pa_cons pe_str pa_nil)))
  (pss_cons (pS 3 sc_Reader_turns.nd (pe_ifExp (pt_cmpR op_in_seq (pe_ownm0 (O_Reader_seen.mono (by omega)) MTR.cl hr (pv 0)) (pe_tup (pa_cons pe_str (pa_cons pe_str (pa_cons pe_str pa_nil)))) (by with_unfolding_all rfl)) pe_non (pe_ownm0X LX.pass (O_Reader_digit.mono (by omega)) MTR.cl hr (pv 0))))
  (pss_cons (pS 4 sc_Reader_turns.nd pe_str)
  (pss_cons (ps_if (pt_val (pe_ownm (O_Reader_passes.mono (by omega)) MTR.cl hr (pv 0) (pa_cons pe_str pa_nil))) (pss_one (pS 4 sc_Reader_turns.nd pe_str)) (pss_one (ps_if (pt_val (pe_ownm (O_Reader_passes.mono (by omega)) MTR.cl hr (pv 0) (pa_cons pe_str pa_nil))) (pss_one (pS 4 sc_Reader_turns.nd pe_str)) pss_nil)))
  (pss_cons (ps_expr (pe_ownmX LX.pass (O_Reader_need.mono (by omega)) MTR.cl hr (pv 0) (pa_cons pe_str pa_nil)))
  (pss_one (ps_ret (pe_tup (pa_cons pe_str (pa_cons (pv 2) (pa_cons (pv 3) (pa_cons (pv 4) (pa_cons (pv 1) pa_nil)))))))))))))),?_⟩
 refine q62eb4 ?_
 intro Ez Az1 Az2 Az3 Az4 Az5 Az6 Az7 Az8 Az9
 have htl:=hR.2.1
 refine exA rfl ⟨m,dx,exA rfl ⟨hR.1,rf_no (by decide +kernel),m,dx,t,i,c,d,rfl,hR,by omega,fun lo j1 hs H1 hR1 g1=>?_,fun hs H1 g1=>qx (fun p=>by unfold rTurns;rw[hs]) H1 g1⟩⟩
 obtain⟨_,_,d3,d4,_⟩:=rDig_ok hs
 refine exA rfl ⟨m,dx,exA rfl ⟨hR1.1,rf_no (by decide +kernel),m,dx,t,_,_,c,d,rfl,hR1,by omega,fun h2 H2 hR2 g2=>?_,fun h2 H2 g2=>qx (fun p=>by unfold rTurns;rw[hs];exact if_neg h2) H2 (g1.trans g2)⟩⟩
 have hj1:=sg_lt h2 (by decide +kernel)
 have fin:∀(H3:Hp) (j:Nat) (hi:Option Int),rHi t (j1+1)=some (hi,j)->RdA CR H3 m dx t j c d->Gro [m] H H3->Az7 Ez [some (.ref m),some px,some (.int lo),some (optV hi),none] H3:=by
  intro H3 j hi hhi hR3 g3
  have jt:=(rHi_ok hhi).2.2 hj1
  have ends:∀(H4:Hp) (how:How) (j':Nat),rHow t j=(how,j')->RdA CR H4 m dx t j' c d->Gro [m] H H4->Az5 Ez [some (.ref m),some px,some (.int lo),some (optV hi),some (.str how.text)] H4:=by
   intro H4 how j' eh hR4 g4
   have jt':j'<=t.length:=by have:=(rHow_ok t j).2 jt;rw[eh]at this;exact this
   refine exA rfl ⟨m,dx,exA rfl ⟨hR4.1,rf_no (by decide +kernel),m,dx,t,_,_,c,d,rfl,hR4,by omega,fun h5 H5 hR5 g5=>?_,fun h5 H5 g5=>qx (fun p=>by unfold rTurns;rw[hs];simp only[h2,if_true,hhi,eh];exact if_neg h5) H5 (g4.trans g5)⟩⟩
   refine exA rfl (exA rfl (exA rfl (exA rfl ⟨sz,fun a ha=>?_⟩)))
   have g6:=Gro.new (S:=[]) ha (.tup [.str "times",.int lo,optV hi,.str how.text,px])
   exact q lo hi how (j'+1) (fun p=>by unfold rTurns;rw[hs];simp only[h2,if_true,hhi,eh];exact if_pos h5) a _ upd_same ⟨g6.keep _ _ hR5.1 (by simp),hR5.2⟩ ((g4.trans g5).trans (Gro.new ha _))
  refine exA rfl ⟨m,dx,exA rfl ⟨hR3.1,rf_no (by decide +kernel),m,dx,t,_,_,c,d,rfl,hR3,by omega,fun z H4 hR4 g4=>exA rfl (ite_yes rfl ?_),fun z=>exA rfl (ite_no (by decide) ?_)⟩⟩
  ·exact ends H4 .little (j+1) (by unfold rHow;rw[if_pos z]) hR4 (g3.trans g4)
  ·refine exA rfl ⟨m,dx,exA rfl ⟨hR3.1,rf_no (by decide +kernel),m,dx,t,_,_,c,d,rfl,hR3,by omega,fun z2 H4 hR4 g4=>exA rfl (ite_yes rfl ?_),fun z2=>exA rfl (ite_no (by decide) ?_)⟩⟩
   ·exact ends H4 .keep (j+1) (by unfold rHow;rw[if_neg z,if_pos z2]) hR4 (g3.trans g4)
   ·exact ends H3 .much j (by unfold rHow;rw[if_neg z,if_neg z2]) hR3 g3
 refine exA rfl ⟨m,dx,exA rfl ⟨hR2.1,rf_no (by decide +kernel),m,dx,t,_,c,d,rfl,hR2,⟨sz,fun o ho=>⟨o,_,rfl,.inr (SqT.of upd_same),rfl,rfl,exA rfl ?_⟩⟩⟩⟩
 have gN:=Gro.new (S:=[]) ho (.tup [.str "?",.str "!",.str "}"])
 have hR3:RdA CR (upd H2 o (.tup [.str "?",.str "!",.str "}"])) m dx t (j1+1) c d:=⟨gN.keep _ _ hR2.1 (by simp),hR2.2⟩
 have g3:Gro [m] H (upd H2 o (.tup [.str "?",.str "!",.str "}"])):=(g1.trans g2).trans (Gro.new ho _)
 generalize upd H2 o (.tup [.str "?",.str "!",.str "}"])=H3 at *
 by_cases h3:sgT t (j1+1)="?" ∨ sgT t (j1+1)="!" ∨ sgT t (j1+1)="}"
 ·refine ite_yes (by rw[in3];exact decide_eq_true h3) ?_
  exact fin H3 (j1+1) none (by unfold rHi;rw[if_pos h3]) hR3 g3
 ·refine ite_no (by rw[in3];exact fun z=>h3 (of_decide_eq_true z)) ?_
  refine exA rfl ⟨m,dx,exA rfl ⟨hR3.1,rf_no (by decide +kernel),m,dx,t,_,c,d,rfl,hR3,by omega,fun hv j4 hs4 H4 hR4 g4=>?_,fun hs4 H4 g4=>qx (fun p=>by unfold rTurns;rw[hs];simp only[h2,if_true];unfold rHi;rw[if_neg h3,hs4]) H4 (g3.trans g4)⟩⟩
  exact fin H4 j4 (some hv) (by unfold rHi;rw[if_neg h3,hs4]) hR4 (g3.trans g4)
inductive spListI(CR CU:Addr)(vs:List V)(H:Hp)(Q:VK)(E:XK):Prop
 |mk (m dx:Addr) (t:Str) (i:Nat) (c d:Int) (_:vs=[.ref m]) (_:RdA CR H m dx t i c d) (_:i<=t.length) (_:∀h j,rLs t i=some (h,j)->∀(v:V) (H':Hp),PatW H' 1 v (.node h [])->RdA CR H' m dx t j c d->Gro [m] H H'->Q v H') (_:rLs t i=none->∀H',Gro [m] H H'->E (.ref CU) none H')
def spList(CR CU:Addr):Sp:=fun vs H Q E=>spListI CR CU vs H Q E
def inOut:Bool->Str
 |true=>"out"
 |false=>"in"
def ioH:Bool->List (Str×Str)->Hd
 |true,rs=>.out rs
 |false,rs=>.inn rs
theorem rRuns_cons{t:Str}{i j:Nat}{r:Str×Str}(h:sgT t i≠"]") (e:rRun t i=some (r,j)):rRuns t i=(match rRuns t j with | none=>none | some (rs,k)=>some (r::rs,k)):=by
 obtain⟨_,_,_,a4,a5⟩:=rRun_ok e
 rw[rRuns,if_neg h,e]
 exact dif_pos ⟨a4,a5⟩
abbrev s_Reader_listed:Stmt:=inClass (top 46) 12
theorem sc_Reader_listed:FnScope ["self","kind","runs"] ["self"] (defScope s_Reader_listed):=fsc
theorem ok_list(T:Blt mg)(MTR:TxtR K CR)(O_Reader_passes:OwnM P w K mg base 2 CR "passes" ["self","sign"] (spPass CR))(O_Reader_run:OwnMX P w K mg base 4 CR "run" ["self"] (spRun CR CU))(F:Fun K "listed" "Reader.listed" s_Reader_listed f fd):FnOk P w K mg base (CX1 P w) 5 f fd ["self"] (spList CR CU):=by
 refine F.okX sc_Reader_listed (fun vs H Q E h=>?_) (fun cdv A outer s H vs Q E hr h LX=>?_)
 ·obtain⟨m,dx,t,i,c,d,rfl,_⟩:=h
  rfl
 obtain⟨m,dx,t,i,c,d,rfl,hR,hi2,q,qx⟩:=h
 refine ltX ?_
 intro Xz
 refine⟨_,(pss_cons (pS 1 sc_Reader_listed.nd (pe_ifExp (pt_val (pe_ownm (O_Reader_passes.mono (by omega)) MTR.cl hr (pv 0) (pa_cons pe_str pa_nil))) pe_str pe_str))
  (pss_cons (pS 2 sc_Reader_listed.nd (pe_lst pa_nil))
  (pss_cons (ps_while LeaveX.own (pt_not (pt_val (pe_ownm (O_Reader_passes.mono (by omega)) MTR.cl hr (pv 0) (pa_cons pe_str pa_nil)))) (pss_one (ps_expr (pe_bm PySem.F.plainAttrs_list PySem.F.slot_list_append PySem.F.type_list_append mt_append (pv 2) (pa_cons (pe_ownm0X LX.pass (O_Reader_run.mono (by omega)) MTR.cl hr (pv 0)) pa_nil)))))
  (pss_one (ps_ret (pe_tup (pa_cons (pv 1) (pa_cons (pe_callTy call_tuple_of rfl T.b_tuple PyProof.Rows.Boot.«tuple» (pa_cons (pv 2) pa_nil)) pa_nil)))))))),?_⟩
 refine q7b052 ?_
 intro Ez Az1 Az2 Az3 Az4
 have htl:=hR.2.1
 have rest:∀(o:Bool) (H1:Hp) (i1:Nat),i1<=t.length->(∀rs j,rRuns t i1=some (rs,j)->rLs t i=some (ioH o rs,j))->(rRuns t i1=none->rLs t i=none)->RdA CR H1 m dx t i1 c d->Gro [m] H H1->Az4 Ez [some (.ref m),some (.str (inOut o)),none] H1:=by
  intro o H1 i1 hi1 e1 e0 hR1 g1
  refine⟨sz,fun l hl=>?_⟩
  have gl:=Gro.new (S:=[]) hl (.lst [])
  have hl2:(upd H1 l (.lst [])) l=some (.lst []):=upd_same
  have hR2:RdA CR (upd H1 l (.lst [])) m dx t i1 c d:=⟨gl.keep _ _ hR1.1 (by simp),hR1.2⟩
  have ml:m≠l:=ne_of_none hR1.1 hl
  have out:∀H',Gro [m,l] (upd H1 l (.lst [])) H'->Gro [m] H H':=fun H' g=>g1.trans (Gro.drop g hl)
  generalize upd H1 l (.lst [])=H2 at *
  refine⟨fun μ σ H'=>∃(ds:List (Str×Str)) (us:List V) (j:Nat),σ=[some (.ref m),some (.str (inOut o)),some (.ref l)]/\μ=t.length-j/\j<=t.length/\H' l=some (.lst us)/\Paired (RunW H') us ds/\ds.length<=j/\(∀rs k,rRuns t j=some (rs,k)->rLs t i=some (ioH o (ds++rs),k))/\(rRuns t j=none->rLs t i=none)/\RdA CR H' m dx t j c d/\Gro [m,l] H2 H',
   ⟨_,[],[],i1,rfl,rfl,hi1,hl2,.nil,Nat.zero_le _,e1,e0,hR2,Gro.refl⟩,?_⟩
  rintro μ σ H3 ⟨ds,us,j,rfl,rfl,hj,hl3,hu,hdl,f1,f0,hR3,g3⟩
  have hul:=Paired.length hu
  refine exA rfl ⟨m,dx,exA rfl ⟨hR3.1,rf_no (by decide +kernel),m,dx,t,_,j,c,d,rfl,hR3,by omega,fun z H4 hR4 g4=>exA rfl ?_,fun z=>exA rfl ?_⟩⟩
  ·refine ite_no (by decide) ?_
   have hl4:=g4.keep _ _ hl3 (by simpa using Ne.symm ml)
   refine exA rfl (exA rfl ⟨l,us,rfl,.inl ⟨SqL.of hl4,fun rt hrt=>⟨sz,fun a ha=>?_⟩⟩⟩)
   have k1:=Gro.new (S:=[m,l]) hrt (.tup us)
   have k2:=Gro.new (S:=[m,l]) ha (.tup [.str (inOut o),.ref rt])
   have k1':=Gro.new (S:=[]) hrt (.tup us)
   have k2':=Gro.new (S:=[]) ha (.tup [.str (inOut o),.ref rt])
   have er:rRuns t j=some ([],j+1):=by rw[rRuns,if_pos z]
   have e2:=f1 _ _ er
   rw[List.append_nil]at e2
   have hrw:RunsW (upd (upd H4 rt (.tup us)) a (.tup [.str (inOut o),.ref rt])) rt ds:=⟨us,k2.tups _ _ upd_same,snd_tups k2.tups (snd_tups k1.tups (snd_tups g4.tups hu)),by omega⟩
   refine q _ _ e2 (.ref a) _ ⟨a,[],rfl,?_,.nil⟩ ⟨k2'.keep _ _ (k1'.keep _ _ hR4.1 (by simp)) (by simp),hR4.2⟩ (out _ (((g3.trans (g4.mono (by simp))).trans k1).trans k2))
   cases o with
   |true=>exact⟨rfl,rt,upd_same,hrw⟩
   |false=>exact⟨rfl,rt,upd_same,hrw⟩
  ·refine ite_yes (by decide) ?_
   refine⟨fun σ' H'=>∃(r:Str×Str) (us':List V) (j':Nat),rRun t j=some (r,j')/\σ'=[some (.ref m),some (.str (inOut o)),some (.ref l)]/\H' l=some (.lst us')/\Paired (RunW H') us' (ds++[r])/\RdA CR H' m dx t j' c d/\Gro [m,l] H2 H',?_,?_⟩
   ·rintro σ' H' ⟨r,us',j',er,rfl,h1,h2,h3,h4⟩
    obtain⟨_,_,_,a4,a5⟩:=rRun_ok er
    have ec:=rRuns_cons z er
    refine⟨_,?_,ds++[r],us',j',rfl,rfl,a5,h1,h2,by simp;omega,fun rs k hk=>?_,fun hk=>f0 (by rw[ec,hk]),h3,h4⟩
    ·omega
    ·rw[List.append_assoc]
     exact f1 (r::rs) k (by rw[ec,hk])
   refine exA rfl ⟨.inl ⟨rfl,_,SqL.of hl3⟩,exA rfl ⟨m,dx,exA rfl ⟨hR3.1,rf_no (by decide +kernel),m,dx,t,j,c,d,rfl,hR3,by omega,fun r j' er a H4 ha hR4 g4=>?_,fun er H4 g4=>qx (f0 (by rw[rRuns,if_neg z,er])) H4 (out _ (g3.trans (g4.mono (by simp))))⟩⟩⟩
   have hl4:=g4.keep _ _ hl3 (by simpa using Ne.symm ml)
   refine⟨l,us,_,rfl,rfl,hl4,bgl (by omega),?_⟩
   have g5:Gro [m,l] H4 _:=Gro.set (by simp) hl4 (.lst (us++[.ref a]))
   refine⟨r,us++[.ref a],j',er,rfl,upd_same,?_,⟨?_,hR4.2⟩,(g3.trans (g4.mono (by simp))).trans g5⟩
   ·exact Paired.snoc1 (snd_tups g5.tups (snd_tups g4.tups hu)) ⟨a,rfl,g5.tups _ _ ha⟩
   ·rw[upd_ne ml]
    exact hR4.1
 refine exA rfl ⟨m,dx,exA rfl ⟨hR.1,rf_no (by decide +kernel),m,dx,t,_,i,c,d,rfl,hR,by omega,fun z H1 hR1 g1=>exA rfl (ite_yes rfl ?_),fun z=>exA rfl (ite_no (by decide) ?_)⟩⟩
 ·exact rest true H1 (i+1) (sg_lt z (by decide +kernel)) (fun rs j e=>by unfold rLs;rw[if_pos z,e];rfl) (fun e=>by unfold rLs;rw[if_pos z,e]) hR1 g1
 ·exact rest false H i hi2 (fun rs j e=>by unfold rLs;rw[if_neg z,e];rfl) (fun e=>by unfold rLs;rw[if_neg z,e]) hR Gro.refl
end
def Lk.ix:Lk->Nat
 |.once=>0 | .ahead=>1 | .notahead=>2 | .behind=>3 | .notbehind=>4
theorem br_key{j:Nat}{x:V}(h:(bracketsT.map fun p=>kV p.1)[j]? = some x):∃l:Lk,x=.str l.text/\l.ix=j/\valV bracketsT (.inr l.text)=some (.str l.sign):=by
 have hj:j<5:=(List.getElem?_eq_some_iff.mp h).1
 rcases(show j=0∨j=1∨j=2∨j=3∨j=4 by omega) with rfl | rfl | rfl | rfl | rfl
 ·exact⟨.once,(Option.some.inj h).symm,rfl,by decide +kernel⟩
 ·exact⟨.ahead,(Option.some.inj h).symm,rfl,by decide +kernel⟩
 ·exact⟨.notahead,(Option.some.inj h).symm,rfl,by decide +kernel⟩
 ·exact⟨.behind,(Option.some.inj h).symm,rfl,by decide +kernel⟩
 ·exact⟨.notbehind,(Option.some.inj h).symm,rfl,by decide +kernel⟩
theorem lk_of(l:Lk):lkOf l.sign=some l:=by cases l <;> decide +kernel
theorem lk_no{s:Str}(h:∀l:Lk,s≠l.sign):lkOf s=none:=by
 unfold lkOf
 have h1:s≠"!":=h .once
 have h2:s≠"+":=h .ahead
 have h3:s≠"-":=h .notahead
 have h4:s≠"*":=h .behind
 have h5:s≠"/":=h .notbehind
 rw[if_neg h1,if_neg h2,if_neg h3,if_neg h4,if_neg h5]
section
variable{P:Program}{w:World}{K:W.Frag}{mg:Str->Option Value}{base:Heap}{f CR CU CE:Addr}{fd:FuncData}
inductive spRI(CR CU:Addr)(k dp:Nat)(o:Str->Nat->Int->RO)(lx:Int->Prop)(vs:List V)(H:Hp)(Q:VK)(E:XK):Prop
 |mk (m dx:Addr) (t:Str) (i:Nat) (c d:Int) (_:vs=[.ref m]) (_:RdA CR H m dx t i c d) (_:i<=t.length) (_:lx d)
  (_:∀p j c',o t i c=some (p,j,c')->∀(v:V) (H':Hp),PatW H' dp v p->RdA CR H' m dx t j c' d->Gro [m] H H'->Q v H') (_:o t i c=none->∀H',Gro [m] H H'->E (.ref CU) none H')
def spBr(CR CU:Addr)(k:Nat):Sp:=fun vs H Q E=>spRI CR CU k (4*k) (fun t=>rBr t k) (fun d=>d+k=9/\0<=d/\1<=k) vs H Q E
def spRd(CR CU:Addr)(k dp:Nat)(o:Str->Nat->Int->RO):Sp:=fun vs H Q E=>spRI CR CU k dp o (fun d=>d+1+k=9/\0<=d) vs H Q E
inductive spWiI(CR CU:Addr)(k:Nat)(vs:List V)(H:Hp)(Q:VK)(E:XK):Prop
 |mk (m dx:Addr) (t x:Str) (i:Nat) (c d:Int) (_:vs=[.ref m,.str x]) (_:x.length=1) (_:RdA CR H m dx t i c d) (_:i<=t.length) (_:d+1+k=9/\0<=d)
  (_:∀p j c',rWd t k x i c=some (p,j,c')->∀(v:V) (H':Hp),PatW H' (4*k) v p->RdA CR H' m dx t j c' d->Gro [m] H H'->Q v H') (_:rWd t k x i c=none->∀H',Gro [m] H H'->E (.ref CU) none H')
def spWi(CR CU:Addr)(k:Nat):Sp:=fun vs H Q E=>spWiI CR CU k vs H Q E
abbrev s_Reader_within:Stmt:=inClass (top 46) 9
theorem sc_Reader_within:FnScope ["self","close","pattern"] ["self","close"] (defScope s_Reader_within):=fsc
theorem ok_wi{k L:Nat}{t8:Tok}(hL:3<=L)(c_MOST_DEEP:mg "MOST_DEEP" = some (.int 8 t8))(MTR:TxtR K CR)(XC_Unread:XC K mg "Unread" CU CE)(O_Reader_branches:OwnMX P w K mg base L CR "branches" ["self"] (spBr CR CU k))(O_Reader_need:OwnMX P w K mg base 3 CR "need" ["self","sign"] (spNeed CR CU))(F:Fun K "within" "Reader.within" s_Reader_within f fd):FnOk P w K mg base (CX1 P w) (L+1) f fd ["self","close"] (spWi CR CU k):=by
 refine F.okX sc_Reader_within (fun vs H Q E h=>?_) (fun cdv A outer s H vs Q E hr h LX=>?_)
 ·obtain⟨m,dx,t,x,i,c,d,rfl,_⟩:=h
  rfl
 obtain⟨m,dx,t,x,i,c,d,rfl,hx,hR,hi,hd,q,qx⟩:=h
 refine ltX ?_
 intro Xz
 refine⟨_,(pss_cons (ps_fldaug (pv 0) pe_int in_add)
  (pss_cons (ps_if (pt_cmpR op_gt (pe_fld (pv 0) rfl) (pe_glob (v:=.int _) rfl c_MOST_DEEP ⟨_,rfl⟩) (nomark _)) (pss_one (ps_raise LX rfl XC_Unread rfl (pa_cons pe_str pa_nil))) pss_nil)
  (pss_cons (pS 2 sc_Reader_within.nd (pe_ownm0X LX.pass (O_Reader_branches.mono (by omega)) MTR.cl hr (pv 0)))
  (pss_cons (ps_expr (pe_ownmX LX.pass (O_Reader_need.mono (by omega)) MTR.cl hr (pv 0) (pa_cons (pv 1) pa_nil)))
  (pss_cons (ps_fldaug (pv 0) pe_int in_sub)
  (pss_one (ps_ret (pv 2)))))))),?_⟩
 refine q071ff ?_
 intro Ez Az1 Az2 Az3 Az4 Az5 Az6
 have htl:=hR.2.1
 refine exA rfl ⟨m,CR,dx,_,_,rfl,hR.1,MTR.cl,MTR.a4,rf_nested,exB rfl rfl ⟨dx,_,hR.1,by show 4<1000;decide,?_⟩⟩
 rw[rp_nested]
 have g1:Gro [m] H (upd H m (.ins CR dx (rfs t i c (d+1)))):=Gro.objR hR.1
 have hR1:RdA CR (upd H m (.ins CR dx (rfs t i c (d+1)))) m dx t i c (d+1):=⟨upd_same,hR.2⟩
 generalize upd H m (.ins CR dx (rfs t i c (d+1)))=H1 at *
 refine exA rfl ⟨m,CR,dx,_,_,rfl,hR1.1,MTR.cl,MTR.a4,rf_nested,exB rfl rfl (exA rfl ?_)⟩
 by_cases h8:8<d+1
 ·have hk:k=0:=by omega
  subst hk
  exact ite_yes (decide_eq_true h8) ⟨sz,qx rfl H1 g1⟩
 refine ite_no (fun y=>h8 (of_decide_eq_true y)) ?_
 refine exA rfl ⟨m,dx,exA rfl ⟨hR1.1,rf_no (by decide +kernel),m,dx,t,i,c,d+1,rfl,hR1,hi,by omega,fun p j c' e v H2 hP hR2 g2=>?_,fun e H2 g2=>qx (by show(match rBr t k i c with | none=>none | some (p,j,c')=>_)=none;rw[e]) H2 (g1.trans g2)⟩⟩
 obtain⟨_,jt,_,_⟩:=rBr_ok k hi e
 have ew:rWd t k x i c=if sgT t j=x then some (p,j+1,c') else none:=by
  show(match rBr t k i c with | none=>none | some (p,j,c')=>_)=_
  rw[e]
 refine exA rfl ⟨m,dx,exA rfl ⟨hR2.1,rf_no (by decide +kernel),exA rfl ⟨m,dx,t,x,_,c',d+1,rfl,hR2,by omega,fun h3 H3 hR3 g3=>?_,fun h3 H3 g3=>qx (by rw[ew,if_neg h3]) H3 ((g1.trans g2).trans g3)⟩⟩⟩
 refine exA rfl ⟨m,CR,dx,_,_,rfl,hR3.1,MTR.cl,MTR.a4,rf_nested,exB rfl rfl ⟨dx,_,hR3.1,by show 4<1000;decide,?_⟩⟩
 rw[rp_nested,show d+1-1=d by omega]
 have g4:Gro [m] H3 (upd H3 m (.ins CR dx (rfs t (j+1:Nat) c' d))):=Gro.objR hR3.1
 exact exA rfl (q p (j+1) c' (by rw[ew,if_pos h3]) v _ ((hP.mono g3.tups).mono g4.tups) ⟨upd_same,hR3.2⟩ (((g1.trans g2).trans g3).trans g4))
def rGr(W:Str->Nat->Int->RO)(i:Nat)(c:Int):RO:=match W ")" i (c+1) with
 |none=>none
 |some (p,j,c')=>some (.node (.grp (c+1)) [p],j,c')
abbrev s_Reader_group:Stmt:=inClass (top 46) 10
theorem sc_Reader_group:FnScope ["self","number"] ["self"] (defScope s_Reader_group):=fsc
theorem ok_gr{k L:Nat}(MTR:TxtR K CR)(O_Reader_within:OwnMX P w K mg base L CR "within" ["self","close"] (spWi CR CU k))(F:Fun K "group" "Reader.group" s_Reader_group f fd):FnOk P w K mg base (CX1 P w) (L+1) f fd ["self"] (spRd CR CU k (4*k+1) (fun t=>rGr (rWd t k))):=by
 refine F.okX sc_Reader_group (fun vs H Q E h=>?_) (fun cdv A outer s H vs Q E hr h LX=>?_)
 ·obtain⟨m,dx,t,i,c,d,rfl,_⟩:=h
  rfl
 obtain⟨m,dx,t,i,c,d,rfl,hR,hi,hd,q,qx⟩:=h
 refine ltX ?_
 intro Xz
 refine⟨_,(pss_cons (ps_fldaug (pv 0) pe_int in_add)
  (pss_cons (pS 1 sc_Reader_group.nd (pe_fld (pv 0) rfl))
  (pss_one (ps_ret (pe_tup (pa_cons pe_str (pa_cons (pv 1) (pa_cons (pe_ownmX LX.pass (O_Reader_within.mono (by omega)) MTR.cl hr (pv 0) (pa_cons pe_str pa_nil)) pa_nil)))))))),?_⟩
 refine qe5f44 ?_
 intro Ez Az1 Az2
 refine exA rfl ⟨m,CR,dx,_,_,rfl,hR.1,MTR.cl,MTR.a3,rf_groups,exB rfl rfl ⟨dx,_,hR.1,by show 4<1000;decide,?_⟩⟩
 rw[rp_groups]
 have g1:Gro [m] H (upd H m (.ins CR dx (rfs t i (c+1) d))):=Gro.objR hR.1
 have hR1:RdA CR (upd H m (.ins CR dx (rfs t i (c+1) d))) m dx t i (c+1) d:=⟨upd_same,hR.2⟩
 generalize upd H m (.ins CR dx (rfs t i (c+1) d))=H1 at *
 refine exA rfl ⟨m,CR,dx,_,_,rfl,hR1.1,MTR.cl,MTR.a3,rf_groups,?_⟩
 refine exA rfl (exA rfl ⟨m,dx,exA rfl ⟨hR1.1,rf_no (by decide +kernel),m,dx,t,_,i,c+1,d,rfl,l_rp,hR1,hi,hd,fun p j c' e v H2 hP hR2 g2=>⟨sz,fun a ha=>?_⟩,fun e H2 g2=>qx (by show(match rWd t k ")" i (c+1) with | none=>none | some (p,j,c')=>_)=none;rw[e]) H2 (g1.trans g2)⟩⟩)
 have g3:=Gro.new (S:=[]) ha (.tup [.str "group",.int (c+1),v])
 exact q (.node (.grp (c+1)) [p]) j c' (by show(match rWd t k ")" i (c+1) with | none=>none | some (p,j,c')=>some (Pat.node (.grp (c+1)) [p],j,c'))=_;rw[e]) (.ref a) _ ⟨a,[v],rfl,⟨v,rfl,upd_same⟩,.cons (hP.mono g3.tups) .nil⟩ ⟨g3.keep _ _ hR2.1 (by simp),hR2.2⟩ ((g1.trans g2).trans (Gro.new ha _))
theorem rBk_look{W:Str->Nat->Int->RO}{t:Str}{i:Nat}{c:Int}{l:Lk}(hs:sgT t i=l.sign):rBk W t i c=(match W ">" (i+1) c with | none=>none | some (p,j,c')=>some (.node (.look l) [p],j,c')):=by
 have h1:sgT t i≠":":=by rw[hs];cases l <;> decide +kernel
 unfold rBk
 rw[if_neg h1,hs,lk_of] <;> rfl
theorem rBk_hav{W:Str->Nat->Int->RO}{t:Str}{i:Nat}{c:Int}(h1:sgT t i≠":")(h2:∀l:Lk,sgT t i≠l.sign):rBk W t i c=(match rDig t i with
   |none=>none
   |some (n,j)=>match W "~" j c with
    |none=>none
    |some (y,k,c1)=>match W ">" k c1 with
     |none=>none
     |some (z,l,c2)=>some (.node (.hav n) [y,z],l,c2)):=by
 unfold rBk
 rw[if_neg h1,lk_no h2] <;> rfl
abbrev s_Reader_bracket:Stmt:=inClass (top 46) 11
theorem sc_Reader_bracket:FnScope ["self","kind","number","yes"] ["self"] (defScope s_Reader_bracket):=fsc
theorem ok_bk{k L:Nat}{bk:Addr}(hL:3<=L)(c_BRACKETS:mg "BRACKETS" = some (.ref bk))(hBK:DcK K w bk bracketsT)(MTR:TxtR K CR)(O_Reader_passes:OwnM P w K mg base 2 CR "passes" ["self","sign"] (spPass CR))(O_Reader_digit:OwnMX P w K mg base 3 CR "digit" ["self"] (spDig CR CU))(O_Reader_within:OwnMX P w K mg base L CR "within" ["self","close"] (spWi CR CU k))
  (F:Fun K "bracket" "Reader.bracket" s_Reader_bracket f fd):FnOk P w K mg base (CX1 P w) (L+1) f fd ["self"] (spRd CR CU k (4*k+1) (fun t=>rBk (rWd t k) t)):=by
 refine F.okX sc_Reader_bracket (fun vs H Q E h=>?_) (fun cdv A outer s H vs Q E hr h LX=>?_)
 ·obtain⟨m,dx,t,i,c,d,rfl,_⟩:=h
  rfl
 obtain⟨m,dx,t,i,c,d,rfl,hR,hi,hd,q,qx⟩:=h
 refine ltX ?_
 intro Xz
 refine⟨_,(pss_cons (ps_if (pt_val (pe_ownm (O_Reader_passes.mono (by omega)) MTR.cl hr (pv 0) (pa_cons pe_str pa_nil))) (pss_one (ps_ret (pe_ownmX LX.pass (O_Reader_within.mono (by omega)) MTR.cl hr (pv 0) (pa_cons pe_str pa_nil)))) pss_nil)
  (pss_cons (ps_for LeaveX.own rfl (pi_keys (pe_glob (v:=.ref _) rfl c_BRACKETS rfl)) (pN 1 sc_Reader_bracket.nd) (pss_one (ps_if (pt_val (pe_ownm (O_Reader_passes.mono (by omega)) MTR.cl hr (pv 0) (pa_cons (pe_cget (pe_glob (v:=.ref _) rfl c_BRACKETS rfl) (pv 1) (fun _ _=>rfl)) pa_nil))) (pss_one (ps_ret (pe_tup (pa_cons (pv 1) (pa_cons (pe_ownmX LX.pass (O_Reader_within.mono (by omega)) MTR.cl hr (pv 0) (pa_cons pe_str pa_nil)) pa_nil))))) pss_nil)))
  (pss_cons (pS 2 sc_Reader_bracket.nd (pe_ownm0X LX.pass (O_Reader_digit.mono (by omega)) MTR.cl hr (pv 0)))
  (pss_cons (pS 3 sc_Reader_bracket.nd (pe_ownmX LX.pass (O_Reader_within.mono (by omega)) MTR.cl hr (pv 0) (pa_cons pe_str pa_nil)))
  (pss_one (ps_ret (pe_tup (pa_cons pe_str (pa_cons (pv 2) (pa_cons (pv 3) (pa_cons (pe_ownmX LX.pass (O_Reader_within.mono (by omega)) MTR.cl hr (pv 0) (pa_cons pe_str pa_nil)) pa_nil))))))))))),?_⟩
 refine qc9bd5 ?_
 intro Ez Az1 Az2 Az3 Az4 Az5 Az6 Az7
 have htl:=hR.2.1
 refine exA rfl ⟨m,dx,exA rfl ⟨hR.1,rf_no (by decide +kernel),m,dx,t,_,i,c,d,rfl,hR,by omega,fun z H1 hR1 g1=>exA rfl (ite_yes rfl ?_),fun z=>exA rfl (ite_no (by decide) ?_)⟩⟩
 ·have hl:=sg_lt z (by decide +kernel)
  have eb:rBk (rWd t k) t i c=rWd t k ">" (i+1) c:=by unfold rBk;rw[if_pos z]
  exact exA rfl ⟨m,dx,exA rfl ⟨hR1.1,rf_no (by decide +kernel),m,dx,t,_,i+1,c,d,rfl,l_gt,hR1,hl,hd,fun p j c' e v H2 hP hR2 g2=>q p j c' (by show rBk (rWd t k) t i c=_;rw[eb,e]) v H2 (hP.deep (by omega)) hR2 (g1.trans g2),fun e H2 g2=>qx (by show rBk (rWd t k) t i c=_;rw[eb,e]) H2 (g1.trans g2)⟩⟩
 refine⟨bk,bracketsT,rfl,hBK,?_⟩
 refine for_keys (fun j σ H'=>(∃u:Option V,σ=[some (.ref m),u,none,none])/\H'=H/\∀l:Lk,l.ix<j->sgT t i≠l.sign) ⟨⟨none,rfl⟩,rfl,fun l hl=>absurd hl (Nat.not_lt_zero _)⟩ ?_ ?_
 ·rintro j x σ H' hx ⟨⟨u,rfl⟩,rfl,hj⟩
  obtain⟨l,rfl,hl,hv⟩:=br_key hx
  refine exA rfl ⟨m,dx,exA rfl ⟨hR.1,rf_no (by decide +kernel),exA rfl ⟨bk,bracketsT,.inr l.text,.str l.sign,rfl,hBK,rfl,hv,m,dx,t,_,i,c,d,rfl,hR,by omega,fun hs H1 hR1 g1=>exA rfl (ite_yes rfl ?_),fun hs=>exA rfl (ite_no (by decide) ?_)⟩⟩⟩
  ·have hlt:=sg_lt hs (fun z=>by have:=lk_len l;rw[z]at this;cases this)
   have eb:=rBk_look (W:=rWd t k) (c:=c) hs
   refine exA rfl (exA rfl ⟨m,dx,exA rfl ⟨hR1.1,rf_no (by decide +kernel),m,dx,t,_,i+1,c,d,rfl,l_gt,hR1,hlt,hd,fun p j' c' e v H2 hP hR2 g2=>⟨sz,fun a ha=>?_⟩,fun e H2 g2=>qx (by show rBk (rWd t k) t i c=_;rw[eb,e]) H2 (g1.trans g2)⟩⟩)
   have g3:=Gro.new (S:=[]) ha (.tup [.str l.text,v])
   exact q (.node (.look l) [p]) j' c' (by show rBk (rWd t k) t i c=_;rw[eb,e]) (.ref a) _ ⟨a,[v],rfl,⟨v,rfl,upd_same⟩,.cons (hP.mono g3.tups) .nil⟩ ⟨g3.keep _ _ hR2.1 (by simp),hR2.2⟩ ((g1.trans g2).trans (Gro.new ha _))
  ·refine⟨⟨_,rfl⟩,rfl,fun l' hl'=>?_⟩
   by_cases e:l'.ix<j
   ·exact hj l' e
   ·have:l'.ix=l.ix:=by omega
    have:l'=l:=by cases l <;> cases l' <;> first | rfl | cases this
    rw[this]
    exact hs
 ·rintro σ H' ⟨⟨u,rfl⟩,rfl,hj⟩
  have hno:∀l:Lk,sgT t i≠l.sign:=fun l=>hj l (by cases l <;> decide)
  have eb:=rBk_hav (W:=rWd t k) (c:=c) z hno
  refine exA rfl ⟨m,dx,exA rfl ⟨hR.1,rf_no (by decide +kernel),m,dx,t,i,c,d,rfl,hR,by omega,fun n j1 hs H1 hR1 g1=>?_,fun hs H1 g1=>qx (by show rBk (rWd t k) t i c=_;rw[eb,hs]) H1 g1⟩⟩
  obtain⟨_,_,_,d4,_⟩:=rDig_ok hs
  simp only[hs]at eb
  refine exA rfl ⟨m,dx,exA rfl ⟨hR1.1,rf_no (by decide +kernel),m,dx,t,_,j1,c,d,rfl,l_til,hR1,d4,hd,fun y j2 c1 e1 v H2 hP hR2 g2=>?_,fun e1 H2 g2=>qx (by show rBk (rWd t k) t i c=_;rw[eb,e1]) H2 (g1.trans g2)⟩⟩
  have j2t:=(rWd_ok k _ _ _ _ _ _ l_til d4 e1).1.hi
  simp only[e1]at eb
  refine exA rfl (exA rfl (exA rfl ⟨m,dx,exA rfl ⟨hR2.1,rf_no (by decide +kernel),m,dx,t,_,j2,c1,d,rfl,l_gt,hR2,j2t,hd,fun z' j3 c2 e2 u' H3 hP3 hR3 g3=>⟨sz,fun a ha=>?_⟩,fun e2 H3 g3=>qx (by show rBk (rWd t k) t i c=_;rw[eb,e2]) H3 ((g1.trans g2).trans g3)⟩⟩))
  have g4:=Gro.new (S:=[]) ha (.tup [.str "have",.int n,v,u'])
  simp only[e2]at eb
  exact q _ j3 c2 eb (.ref a) _ ⟨a,[v,u'],rfl,⟨v,u',rfl,upd_same⟩,.cons ((hP.mono g3.tups).mono g4.tups) (.cons (hP3.mono g4.tups) .nil)⟩ ⟨g4.keep _ _ hR3.1 (by simp),hR3.2⟩ (((g1.trans g2).trans g3).trans (Gro.new ha _))
end
theorem ba_key{j:Nat}{x:V}(h:(bareT.map fun p=>kV p.1)[j]? = some x):∃k s:Str,x=.str k/\valV bareT (.inr k)=some (.str s)/\((j=0/\k="any"/\s=".")∨(j=1/\k="begin"/\s="^")∨(j=2/\k="end"/\s="$")):=by
 have hj:j<3:=(List.getElem?_eq_some_iff.mp h).1
 rcases(show j=0∨j=1∨j=2 by omega) with rfl | rfl | rfl
 ·exact⟨"any",".",(Option.some.inj h).symm,by decide +kernel,.inl ⟨rfl,rfl,rfl⟩⟩
 ·exact⟨"begin","^",(Option.some.inj h).symm,by decide +kernel,.inr (.inl ⟨rfl,rfl,rfl⟩)⟩
 ·exact⟨"end","$",(Option.some.inj h).symm,by decide +kernel,.inr (.inr ⟨rfl,rfl,rfl⟩)⟩
section
variable{P:Program}{w:World}{K:W.Frag}{mg:Str->Option Value}{base:Heap}{f CR CU CE:Addr}{fd:FuncData}
abbrev s_Reader_single:Stmt:=inClass (top 46) 8
theorem sc_Reader_single:FnScope ["self","kind"] ["self"] (defScope s_Reader_single):=fsc
theorem ok_si{k L:Nat}{ba:Addr}{t1:Tok}(hL:5<=L)(c_BARE:mg "BARE" = some (.ref ba))(hBA:DcK K w ba bareT)(c_STROKED:mg "STROKED" = some (.str stroked t1))(MTR:TxtR K CR)(O_Reader_passes:OwnM P w K mg base 2 CR "passes" ["self","sign"] (spPass CR))(O_Reader_digit:OwnMX P w K mg base 3 CR "digit" ["self"] (spDig CR CU))(O_Reader_sign:OwnMX P w K mg base 3 CR "sign" ["self","stroked"] (spSgn CR CU))
  (O_Reader_listed:OwnMX P w K mg base 5 CR "listed" ["self"] (spList CR CU)) (O_Reader_group:OwnMX P w K mg base L CR "group" ["self"] (spRd CR CU k (4*k+1) (fun t=>rGr (rWd t k)))) (O_Reader_bracket:OwnMX P w K mg base L CR "bracket" ["self"] (spRd CR CU k (4*k+1) (fun t=>rBk (rWd t k) t)))
  (F:Fun K "single" "Reader.single" s_Reader_single f fd):FnOk P w K mg base (CX1 P w) (L+1) f fd ["self"] (spRd CR CU k (4*k+1) (fun t=>rSi (rWd t k) t)):=by
 refine F.okX sc_Reader_single (fun vs H Q E h=>?_) (fun cdv A outer s H vs Q E hr h LX=>?_)
 ·obtain⟨m,dx,t,i,c,d,rfl,_⟩:=h
  rfl
 obtain⟨m,dx,t,i,c,d,rfl,hR,hi,hd,q,qx⟩:=h
 refine ltX ?_
 intro Xz
 refine⟨_,(pss_cons (ps_if (pt_val (pe_ownm (O_Reader_passes.mono (by omega)) MTR.cl hr (pv 0) (pa_cons pe_str pa_nil))) (pss_one (ps_ret (pe_ownm0X LX.pass (O_Reader_group.mono (by omega)) MTR.cl hr (pv 0)))) pss_nil)
  (pss_cons (ps_if (pt_val (pe_ownm (O_Reader_passes.mono (by omega)) MTR.cl hr (pv 0) (pa_cons pe_str pa_nil))) (pss_one (ps_ret (pe_ownm0X LX.pass (O_Reader_bracket.mono (by omega)) MTR.cl hr (pv 0)))) pss_nil)
  (pss_cons (ps_if (pt_val (pe_ownm (O_Reader_passes.mono (by omega)) MTR.cl hr (pv 0) (pa_cons pe_str pa_nil))) (pss_one (ps_ret (pe_ownm0X LX.pass (O_Reader_listed.mono (by omega)) MTR.cl hr (pv 0)))) pss_nil)
  (pss_cons (ps_if (pt_val (pe_ownm (O_Reader_passes.mono (by omega)) MTR.cl hr (pv 0) (pa_cons pe_str pa_nil))) (pss_one (ps_ret (pe_tup (pa_cons pe_str (pa_cons (pe_ownm0X LX.pass (O_Reader_digit.mono (by omega)) MTR.cl hr (pv 0)) pa_nil))))) pss_nil)
  (pss_cons (ps_for LeaveX.own rfl (pi_keys (pe_glob (v:=.ref _) rfl c_BARE rfl)) (pN 1 sc_Reader_single.nd) (pss_one (ps_if (pt_val (pe_ownm (O_Reader_passes.mono (by omega)) MTR.cl hr (pv 0) (pa_cons (pe_cget (pe_glob (v:=.ref _) rfl c_BARE rfl) (pv 1) (fun _ _=>rfl)) pa_nil))) (pss_one (ps_ret (pe_tup (pa_cons (pv 1) pa_nil)))) pss_nil)))
  (pss_one (ps_ret (pe_tup (pa_cons pe_str (pa_cons (pe_ownmX LX.pass (O_Reader_sign.mono (by omega)) MTR.cl hr (pv 0) (pa_cons (pe_glob (v:=.str _) rfl c_STROKED ⟨_,rfl⟩) pa_nil)) pa_nil)))))))))),?_⟩
 refine qa3d50 ?_
 intro Ez Az1 Az2 Az3 Az4 Az5 Az6 Az7 Az8 Az9 Az10 Az11
 have htl:=hR.2.1
 have q:∀p j c',rSi (rWd t k) t i c=some (p,j,c')->∀(v:V) (H':Hp),PatW H' (4*k+1) v p->RdA CR H' m dx t j c' d->Gro [m] H H'->Q v H':=q
 have qx:rSi (rWd t k) t i c=none->∀H',Gro [m] H H'->E (.ref CU) none H':=qx
 unfold rSi at q qx
 refine exA rfl ⟨m,dx,exA rfl ⟨hR.1,rf_no (by decide +kernel),m,dx,t,_,i,c,d,rfl,hR,by omega,fun z H1 hR1 g1=>exA rfl (ite_yes rfl ?_),fun z=>exA rfl (ite_no (by decide) ?_)⟩⟩
 ·simp only[if_pos z]at q qx
  have hl:=sg_lt z (by decide +kernel)
  exact exA rfl ⟨m,dx,exA rfl ⟨hR1.1,rf_no (by decide +kernel),m,dx,t,i+1,c,d,rfl,hR1,hl,hd,fun p j c' e v H2 hP hR2 g2=>q p j c' e v H2 hP hR2 (g1.trans g2),fun e H2 g2=>qx e H2 (g1.trans g2)⟩⟩
 simp only[if_neg z]at q qx
 refine exA rfl ⟨m,dx,exA rfl ⟨hR.1,rf_no (by decide +kernel),m,dx,t,_,i,c,d,rfl,hR,by omega,fun z H1 hR1 g1=>exA rfl (ite_yes rfl ?_),fun z=>exA rfl (ite_no (by decide) ?_)⟩⟩
 ·simp only[if_pos z]at q qx
  have hl:=sg_lt z (by decide +kernel)
  exact exA rfl ⟨m,dx,exA rfl ⟨hR1.1,rf_no (by decide +kernel),m,dx,t,i+1,c,d,rfl,hR1,hl,hd,fun p j c' e v H2 hP hR2 g2=>q p j c' e v H2 hP hR2 (g1.trans g2),fun e H2 g2=>qx e H2 (g1.trans g2)⟩⟩
 simp only[if_neg z]at q qx
 refine exA rfl ⟨m,dx,exA rfl ⟨hR.1,rf_no (by decide +kernel),m,dx,t,_,i,c,d,rfl,hR,by omega,fun z H1 hR1 g1=>exA rfl (ite_yes rfl ?_),fun z=>exA rfl (ite_no (by decide) ?_)⟩⟩
 ·simp only[if_pos z]at q qx
  have hl:=sg_lt z (by decide +kernel)
  refine exA rfl ⟨m,dx,exA rfl ⟨hR1.1,rf_no (by decide +kernel),m,dx,t,i+1,c,d,rfl,hR1,hl,fun h j e v H2 hP hR2 g2=>?_,fun e H2 g2=>qx (by rw[e]) H2 (g1.trans g2)⟩⟩
  exact q (.node h []) j c (by rw[e]) v H2 (hP.deep (by omega)) hR2 (g1.trans g2)
 simp only[if_neg z]at q qx
 refine exA rfl ⟨m,dx,exA rfl ⟨hR.1,rf_no (by decide +kernel),m,dx,t,_,i,c,d,rfl,hR,by omega,fun z H1 hR1 g1=>exA rfl (ite_yes rfl ?_),fun z=>exA rfl (ite_no (by decide) ?_)⟩⟩
 ·simp only[if_pos z]at q qx
  have hl:=sg_lt z (by decide +kernel)
  refine exA rfl ⟨m,dx,exA rfl ⟨hR1.1,rf_no (by decide +kernel),m,dx,t,i+1,c,d,rfl,hR1,by omega,fun n j e H2 hR2 g2=>⟨sz,fun a ha=>?_⟩,fun e H2 g2=>qx (by rw[e]) H2 (g1.trans g2)⟩⟩
  have g3:=Gro.new (S:=[]) ha (.tup [.str "again",.int n])
  exact q (.node (.again n) []) j c (by rw[e]) (.ref a) _ ⟨a,[],rfl,⟨rfl,upd_same⟩,.nil⟩ ⟨g3.keep _ _ hR2.1 (by simp),hR2.2⟩ ((g1.trans g2).trans (Gro.new ha _))
 simp only[if_neg z]at q qx
 refine⟨ba,bareT,rfl,hBA,?_⟩
 refine for_keys (fun j σ H'=>(∃u:Option V,σ=[some (.ref m),u])/\H'=H/\(1<=j->sgT t i≠".")/\(2<=j->sgT t i≠"^")/\(3<=j->sgT t i≠"$")) ⟨⟨none,rfl⟩,rfl,by omega,by omega,by omega⟩ ?_ ?_
 ·rintro j x σ H' hx ⟨⟨u,rfl⟩,rfl,n1,n2,n3⟩
  obtain⟨k0,s2,rfl,hv,hcase⟩:=ba_key hx
  refine exA rfl ⟨m,dx,exA rfl ⟨hR.1,rf_no (by decide +kernel),exA rfl ⟨ba,bareT,.inr k0,.str s2,rfl,hBA,rfl,hv,m,dx,t,_,i,c,d,rfl,hR,by omega,fun hs H1 hR1 g1=>exA rfl (ite_yes rfl ?_),fun hs=>exA rfl (ite_no (by decide) ?_)⟩⟩⟩
  ·refine exA rfl ⟨sz,fun a ha=>?_⟩
   have g2:=Gro.new (S:=[]) ha (.tup [.str k0])
   have hR2:RdA CR (upd H1 a (.tup [.str k0])) m dx t (i+1) c d:=⟨g2.keep _ _ hR1.1 (by simp),hR1.2⟩
   rcases hcase with⟨h1,rfl,rfl⟩ | ⟨h1,rfl,rfl⟩ | ⟨h1,rfl,rfl⟩
   ·exact q (.node .any []) (i+1) c (by rw[if_pos hs]) (.ref a) _ ⟨a,[],rfl,⟨rfl,upd_same⟩,.nil⟩ hR2 (g1.trans (Gro.new ha _))
   ·exact q (.node .beg []) (i+1) c (by rw[if_neg (n1 (by omega)),if_pos hs]) (.ref a) _ ⟨a,[],rfl,⟨rfl,upd_same⟩,.nil⟩ hR2 (g1.trans (Gro.new ha _))
   ·exact q (.node .fin []) (i+1) c (by rw[if_neg (n1 (by omega)),if_neg (n2 (by omega)),if_pos hs]) (.ref a) _ ⟨a,[],rfl,⟨rfl,upd_same⟩,.nil⟩ hR2 (g1.trans (Gro.new ha _))
  ·rcases hcase with⟨h1,rfl,rfl⟩ | ⟨h1,rfl,rfl⟩ | ⟨h1,rfl,rfl⟩
   ·exact⟨⟨_,rfl⟩,rfl,fun _=>hs,by omega,by omega⟩
   ·exact⟨⟨_,rfl⟩,rfl,fun _=>n1 (by omega),fun _=>hs,by omega⟩
   ·exact⟨⟨_,rfl⟩,rfl,fun _=>n1 (by omega),fun _=>n2 (by omega),fun _=>hs⟩
 ·rintro σ H' ⟨⟨u,rfl⟩,rfl,n1,n2,n3⟩
  have n1:=n1 (by decide)
  have n2:=n2 (by decide)
  have n3:=n3 (by decide)
  simp only[if_neg n1,if_neg n2,if_neg n3]at q qx
  refine exA rfl ⟨m,dx,exA rfl ⟨hR.1,rf_no (by decide +kernel),m,dx,t,_,i,c,d,rfl,hR,by omega,fun s1 j e H1 hR1 g1=>⟨sz,fun a ha=>?_⟩,fun e H1 g1=>qx (by rw[e]) H1 g1⟩⟩
  have g2:=Gro.new (S:=[]) ha (.tup [.str "sign",.str s1])
  exact q (.node (.sign s1) []) j c (by rw[e]) (.ref a) _ ⟨a,[],rfl,⟨rfl,upd_same⟩,.nil⟩ ⟨g2.keep _ _ hR1.1 (by simp),hR1.2⟩ (g1.trans (Gro.new ha _))
end
abbrev stopsT:List V:=[.str "",.str "|",.str ")",.str "~",.str ">"]
theorem in5(x:Str):inV (.str x) stopsT=stopS x:=by
 unfold stopS
 by_cases h1:x=""
 ·subst h1;decide +kernel
 by_cases h2:x="|"
 ·subst h2;decide +kernel
 by_cases h3:x=")"
 ·subst h3;decide +kernel
 by_cases h4:x="~"
 ·subst h4;decide +kernel
 by_cases h5:x=">"
 ·subst h5;decide +kernel
 rw[decide_eq_false (by simp[h1,h2,h3,h4,h5])]
 unfold inV
 simp only[List.any_cons,List.any_nil,Bool.or_false,Bool.or_eq_false_iff]
 exact⟨neV h1,neV h2,neV h3,neV h4,neV h5⟩
theorem rPts_cons{pt:Nat->Int->RO}{t:Str}{i j:Nat}{c c':Int}{p:Pat}(h:¬stopS (sgT t i)=true)(e:pt i c=some (p,j,c'))(h1:i<j)(h2:j<=t.length):rPts pt t i c=(match rPts pt t j c' with | none=>none | some (ps,k,c2)=>some (p::ps,k,c2)):=by
 rw[rPts,if_neg h,e]
 exact dif_pos ⟨h1,h2⟩
theorem rBrs_cons{ln:Nat->Int->RO}{t:Str}{i j:Nat}{c c':Int}{p:Pat}(h:sgT t i="|")(e:ln (i+1) c=some (p,j,c'))(h1:i<j)(h2:j<=t.length):rBrs ln t i c=(match rBrs ln t j c' with | none=>none | some (ps,k,c2)=>some (p::ps,k,c2)):=by
 rw[rBrs,if_pos h,e]
 exact dif_pos ⟨h1,h2⟩
section
variable{P:Program}{w:World}{K:W.Frag}{mg:Str->Option Value}{base:Heap}{f CR CU CE:Addr}{fd:FuncData}
abbrev s_Reader_part:Stmt:=inClass (top 46) 7
theorem sc_Reader_part:FnScope ["self","part"] ["self"] (defScope s_Reader_part):=fsc
theorem ok_pt{k L:Nat}(hL:4<=L)(MTR:TxtR K CR)(O_Reader_passes:OwnM P w K mg base 2 CR "passes" ["self","sign"] (spPass CR))(O_Reader_turns:OwnMX P w K mg base 4 CR "turns" ["self","part"] (spTurn CR CU))(O_Reader_single:OwnMX P w K mg base L CR "single" ["self"] (spRd CR CU k (4*k+1) (fun t=>rSi (rWd t k) t)))
  (F:Fun K "part" "Reader.part" s_Reader_part f fd):FnOk P w K mg base (CX1 P w) (L+1) f fd ["self"] (spRd CR CU k (4*k+2) (fun t=>rPt (rWd t k) t)):=by
 refine F.okX sc_Reader_part (fun vs H Q E h=>?_) (fun cdv A outer s H vs Q E hr h LX=>?_)
 ·obtain⟨m,dx,t,i,c,d,rfl,_⟩:=h
  rfl
 obtain⟨m,dx,t,i,c,d,rfl,hR,hi,hd,q,qx⟩:=h
 refine ltX ?_
 intro Xz
 refine⟨_,(pss_cons (pS 1 sc_Reader_part.nd (pe_ownm0X LX.pass (O_Reader_single.mono (by omega)) MTR.cl hr (pv 0)))
  (pss_one (ps_ret (pe_ifExp (pt_val (pe_ownm (O_Reader_passes.mono (by omega)) MTR.cl hr (pv 0) (pa_cons pe_str pa_nil))) (pe_ownmX LX.pass (O_Reader_turns.mono (by omega)) MTR.cl hr (pv 0) (pa_cons (pv 1) pa_nil)) (pv 1))))),?_⟩
 refine qe465e ?_
 intro Ez Az1
 have htl:=hR.2.1
 have q:∀p j c',rPt (rWd t k) t i c=some (p,j,c')->∀(v:V) (H':Hp),PatW H' (4*k+2) v p->RdA CR H' m dx t j c' d->Gro [m] H H'->Q v H':=q
 have qx:rPt (rWd t k) t i c=none->∀H',Gro [m] H H'->E (.ref CU) none H':=qx
 unfold rPt at q qx
 refine exA rfl ⟨m,dx,exA rfl ⟨hR.1,rf_no (by decide +kernel),m,dx,t,i,c,d,rfl,hR,hi,hd,fun p j c' e v H1 hP hR1 g1=>?_,fun e H1 g1=>qx (by rw[show rSi (rWd t k) t i c=none from e]) H1 g1⟩⟩
 have e:rSi (rWd t k) t i c=some (p,j,c'):=e
 have jt:=(rSi_ok (rWd_ok k) hi e).1.hi
 simp only[e]at q qx
 refine exA rfl ⟨m,dx,exA rfl ⟨hR1.1,rf_no (by decide +kernel),m,dx,t,_,_,c',d,rfl,hR1,by omega,fun z H2 hR2 g2=>exA rfl (ite_yes rfl ?_),fun z=>exA rfl (ite_no (by decide) ?_)⟩⟩
 ·simp only[if_pos z]at q qx
  have jl:=sg_lt z (by decide +kernel)
  refine exA rfl ⟨m,dx,exA rfl ⟨hR2.1,rf_no (by decide +kernel),exA rfl ⟨m,dx,t,v,_,c',d,rfl,hR2,by omega,fun lo hi how j2 e2 a H3 ha hR3 g3=>?_,fun e2 H3 g3=>qx (by rw[e2]) H3 ((g1.trans g2).trans g3)⟩⟩⟩
  exact q (.node (.times lo hi how) [p]) j2 c' (by rw[e2]) (.ref a) _ ⟨a,[v],rfl,⟨v,rfl,ha⟩,.cons ((hP.mono g2.tups).mono g3.tups) .nil⟩ hR3 ((g1.trans g2).trans g3)
 ·simp only[if_neg z]at q qx
  exact exA rfl (q p j c' rfl v H1 (hP.deep (by omega)) hR1 g1)
abbrev s_Reader_line:Stmt:=inClass (top 46) 6
theorem sc_Reader_line:FnScope ["self","parts"] ["self"] (defScope s_Reader_line):=fsc
theorem ok_ln{k L:Nat}{st:Addr}(hL:1<=L)(T:Blt mg)(c_STOPS:mg "STOPS" = some (.ref st))(hST:∀H,SqT K H st stopsT)(MTR:TxtR K CR)(O_Reader_seen:OwnM P w K mg base 1 CR "seen" ["self"] (spSeen CR))(O_Reader_part:OwnMX P w K mg base L CR "part" ["self"] (spRd CR CU k (4*k+2) (fun t=>rPt (rWd t k) t)))
  (F:Fun K "line" "Reader.line" s_Reader_line f fd):FnOk P w K mg base (CX1 P w) (L+1) f fd ["self"] (spRd CR CU k (4*k+3) (fun t=>rLd t k)):=by
 refine F.okX sc_Reader_line (fun vs H Q E h=>?_) (fun cdv A outer s H vs Q E hr h LX=>?_)
 ·obtain⟨m,dx,t,i,c,d,rfl,_⟩:=h
  rfl
 obtain⟨m,dx,t,i,c,d,rfl,hR,hi,hd,q,qx⟩:=h
 refine ltX ?_
 intro Xz
 refine⟨_,(pss_cons (pS 1 sc_Reader_line.nd (pe_lst pa_nil))
  (pss_cons (ps_while LeaveX.own (pt_cmpR op_notIn_seq (pe_ownm0 (O_Reader_seen.mono (by omega)) MTR.cl hr (pv 0)) (pe_glob (v:=.ref _) rfl c_STOPS rfl) (by with_unfolding_all rfl)) (pss_one (ps_expr (pe_bm PySem.F.plainAttrs_list PySem.F.slot_list_append PySem.F.type_list_append mt_append (pv 1) (pa_cons (pe_ownm0X LX.pass (O_Reader_part.mono (by omega)) MTR.cl hr (pv 0)) pa_nil)))))
  (pss_one (ps_ret (pe_ifExp (pt_cmpR op_eq (pe_callB call_len_seq rfl T.b_len PyProof.Rows.Boot.«len» (pa_cons (pv 1) pa_nil)) pe_int (nomark _)) (pe_ix ix_list (pv 1) pe_int (fun _ _=>rfl)) (pe_tup (pa_cons pe_str (pa_cons (pe_callTy call_tuple_of rfl T.b_tuple PyProof.Rows.Boot.«tuple» (pa_cons (pv 1) pa_nil)) pa_nil)))))))),?_⟩
 refine q6deca ?_
 intro Ez Az1 Az2 Az3
 have htl:=hR.2.1
 have q:∀p j c',rLd t k i c=some (p,j,c')->∀(v:V) (H':Hp),PatW H' (4*k+3) v p->RdA CR H' m dx t j c' d->Gro [m] H H'->Q v H':=q
 have qx:rLd t k i c=none->∀H',Gro [m] H H'->E (.ref CU) none H':=qx
 unfold rLd rLn at q qx
 refine⟨sz,fun l hl=>?_⟩
 have gl:=Gro.new (S:=[]) hl (.lst [])
 have hl2:(upd H l (.lst [])) l=some (.lst []):=upd_same
 have hR2:RdA CR (upd H l (.lst [])) m dx t i c d:=⟨gl.keep _ _ hR.1 (by simp),hR.2⟩
 have ml:m≠l:=ne_of_none hR.1 hl
 have out:∀H',Gro [m,l] (upd H l (.lst [])) H'->Gro [m] H H':=fun H' g=>Gro.drop g hl
 generalize upd H l (.lst [])=H2 at *
 refine⟨fun μ σ H'=>∃(ds:List Pat) (us:List V) (j:Nat) (cc:Int),σ=[some (.ref m),some (.ref l)]/\μ=t.length-j/\j<=t.length/\H' l=some (.lst us)/\Paired (PatW H' (4*k+2)) us ds/\ds.length<=j/\(∀rs k' c2,rPts (rPt (rWd t k) t) t j cc=some (rs,k',c2)->rPts (rPt (rWd t k) t) t i c=some (ds++rs,k',c2))/\(rPts (rPt (rWd t k) t) t j cc=none->rPts (rPt (rWd t k) t) t i c=none)/\RdA CR H' m dx t j cc d/\Gro [m,l] H2 H',
  ⟨_,[],[],i,c,rfl,rfl,hi,hl2,.nil,Nat.zero_le _,fun _ _ _ e=>e,fun e=>e,hR2,Gro.refl⟩,?_⟩
 rintro μ σ H3 ⟨ds,us,j,cc,rfl,rfl,hj,hl3,hu,hdl,f1,f0,hR3,g3⟩
 have hul:=Paired.length hu
 refine exA rfl ⟨m,dx,exA rfl ⟨hR3.1,rf_no (by decide +kernel),m,dx,t,j,_,d,rfl,hR3,?_⟩⟩
 by_cases z:stopS (sgT t j)=true
 ·refine⟨st,stopsT,rfl,.inr (hST _),rfl,rfl,_,rfl,ite_no (by rw[in5,z];decide) ?_⟩
  have e2:=f1 [] j cc (by rw[rPts,if_pos z])
  rw[List.append_nil]at e2
  simp only[e2]at q
  have go:=out _ g3
  by_cases h1:us.length=1
  ·match us,ds,hu,h1 with
   | [v],[p],.cons hP .nil,_ =>
    refine exA rfl ⟨l,_,rfl,.inl (SqL.of hl3),rfl,exA rfl (ite_yes rfl ?_)⟩
    exact ixL hl3 rfl (q p j cc rfl v H3 (hP.deep (by omega)) hR3 go)
  ·refine exA rfl ⟨l,us,rfl,.inl (SqL.of hl3),rfl,exA rfl (ite_no (by intro z;have z':(V.int (us.length:Int))=V.int 1:=of_decide_eq_true z;injection z' with z'';omega) ?_)⟩
   refine exA rfl ⟨l,us,rfl,.inl ⟨SqL.of hl3,fun rt hrt=>⟨sz,fun a ha=>?_⟩⟩⟩
   have k1:=Gro.new (S:=[]) hrt (.tup us)
   have k2:=Gro.new (S:=[]) ha (.tup [.str "row",.ref rt])
   have er:rowOf ds=.node .row ds:=by
    match ds,(show ds.length≠1 by omega) with
    | [],_=>rfl
    | [p],h=>exact absurd rfl h
    |p::p'::ps,_=>rfl
   exact q (.node .row ds) j cc (by rw[er]) (.ref a) _ ⟨a,us,rfl,⟨by omega,rt,upd_same,k2.tups _ _ upd_same⟩,Paired.mapP hu fun _ _ z=>(z.mono k1.tups).mono k2.tups⟩ ⟨k2.keep _ _ (k1.keep _ _ hR3.1 (by simp)) (by simp),hR3.2⟩ (go.trans ((Gro.new hrt _).trans (Gro.new ha _)))
 ·refine⟨st,stopsT,rfl,.inr (hST _),rfl,rfl,_,rfl,ite_yes (by rw[in5,Bool.eq_false_iff.mpr z];decide) ?_⟩
  refine⟨fun σ' H'=>∃(p:Pat) (us':List V) (j':Nat) (c':Int),rPt (rWd t k) t j cc=some (p,j',c')/\σ'=[some (.ref m),some (.ref l)]/\H' l=some (.lst us')/\Paired (PatW H' (4*k+2)) us' (ds++[p])/\RdA CR H' m dx t j' c' d/\Gro [m,l] H2 H',?_,?_⟩
  ·rintro σ' H' ⟨p,us',j',c',er,rfl,h1,h2,h3,h4⟩
   have a:=(rPt_ok (rWd_ok k) hj er).1
   have ec:=rPts_cons z er a.lt a.hi
   have:=a.lt
   have:=a.hi
   refine⟨_,?_,ds++[p],us',j',c',rfl,rfl,a.hi,h1,h2,by simp;omega,fun rs k' c2 hk=>?_,fun hk=>f0 (by rw[ec,hk]),h3,h4⟩
   ·omega
   ·rw[List.append_assoc]
    exact f1 (p::rs) k' c2 (by rw[ec,hk])
  refine exA rfl ⟨.inl ⟨rfl,_,SqL.of hl3⟩,exA rfl ⟨m,dx,exA rfl ⟨hR3.1,rf_no (by decide +kernel),m,dx,t,j,cc,d,rfl,hR3,hj,hd,fun p j' c' er v H4 hP hR4 g4=>?_,fun er H4 g4=>qx (by rw[f0 (by rw[rPts,if_neg z,show rPt (rWd t k) t j cc=none from er])]) H4 (out _ (g3.trans (g4.mono (by simp))))⟩⟩⟩
  have hl4:=g4.keep _ _ hl3 (by simpa using Ne.symm ml)
  refine⟨l,us,v,rfl,rfl,hl4,bgl (by omega),?_⟩
  have g5:Gro [m,l] H4 _:=Gro.set (by simp) hl4 (.lst (us++[v]))
  refine⟨p,us++[v],j',c',er,rfl,upd_same,?_,⟨?_,hR4.2⟩,(g3.trans (g4.mono (by simp))).trans g5⟩
  ·exact Paired.snoc1 (Paired.mapP hu fun _ _ z=>(z.mono g4.tups).mono g5.tups) (hP.mono g5.tups)
  ·rw[upd_ne ml]
   exact hR4.1
abbrev s_Reader_branches:Stmt:=inClass (top 46) 5
theorem sc_Reader_branches:FnScope ["self","found"] ["self"] (defScope s_Reader_branches):=fsc
theorem ok_br{k L:Nat}(hL:2<=L)(T:Blt mg)(MTR:TxtR K CR)(O_Reader_passes:OwnM P w K mg base 2 CR "passes" ["self","sign"] (spPass CR))(O_Reader_line:OwnMX P w K mg base L CR "line" ["self"] (spRd CR CU k (4*k+3) (fun t=>rLd t k)))
  (F:Fun K "branches" "Reader.branches" s_Reader_branches f fd):FnOk P w K mg base (CX1 P w) (L+1) f fd ["self"] (spBr CR CU (k+1)):=by
 refine F.okX sc_Reader_branches (fun vs H Q E h=>?_) (fun cdv A outer s H vs Q E hr h LX=>?_)
 ·obtain⟨m,dx,t,i,c,d,rfl,_⟩:=h
  rfl
 obtain⟨m,dx,t,i,c,d,rfl,hR,hi,hd,q,qx⟩:=h
 refine ltX ?_
 intro Xz
 refine⟨_,(pss_cons (pS 1 sc_Reader_branches.nd (pe_lst (pa_cons (pe_ownm0X LX.pass (O_Reader_line.mono (by omega)) MTR.cl hr (pv 0)) pa_nil)))
  (pss_cons (ps_while LeaveX.own (pt_val (pe_ownm (O_Reader_passes.mono (by omega)) MTR.cl hr (pv 0) (pa_cons pe_str pa_nil))) (pss_one (ps_expr (pe_bm PySem.F.plainAttrs_list PySem.F.slot_list_append PySem.F.type_list_append mt_append (pv 1) (pa_cons (pe_ownm0X LX.pass (O_Reader_line.mono (by omega)) MTR.cl hr (pv 0)) pa_nil)))))
  (pss_one (ps_ret (pe_ifExp (pt_cmpR op_eq (pe_callB call_len_seq rfl T.b_len PyProof.Rows.Boot.«len» (pa_cons (pv 1) pa_nil)) pe_int (nomark _)) (pe_ix ix_list (pv 1) pe_int (fun _ _=>rfl)) (pe_tup (pa_cons pe_str (pa_cons (pe_callTy call_tuple_of rfl T.b_tuple PyProof.Rows.Boot.«tuple» (pa_cons (pv 1) pa_nil)) pa_nil)))))))),?_⟩
 refine q6deca ?_
 intro Ez Az1 Az2 Az3
 have htl:=hR.2.1
 have hd':d+1+(k:Int)=9/\0<=d:=by have:=hd.1;have:=hd.2;omega
 have q:∀p j c',rBranch (rLd t k) t i c=some (p,j,c')->∀(v:V) (H':Hp),PatW H' (4*k+4) v p->RdA CR H' m dx t j c' d->Gro [m] H H'->Q v H':=q
 have qx:rBranch (rLd t k) t i c=none->∀H',Gro [m] H H'->E (.ref CU) none H':=qx
 unfold rBranch at q qx
 refine exA rfl ⟨m,dx,exA rfl ⟨hR.1,rf_no (by decide +kernel),m,dx,t,i,c,d,rfl,hR,hi,hd',fun p0 j0 c0 e0 v0 H1 hP0 hR1 g1=>?_,fun e0 H1 g1=>qx (by rw[show rLd t k i c=none from e0]) H1 g1⟩⟩
 have e0:rLd t k i c=some (p0,j0,c0):=e0
 obtain⟨_,jt0,_,_⟩:=rLd_ok k hi e0
 simp only[e0]at q qx
 refine⟨sz,fun l hl=>?_⟩
 have gl:=Gro.new (S:=[]) hl (.lst [v0])
 have hl2:(upd H1 l (.lst [v0])) l=some (.lst [v0]):=upd_same
 have hR2:RdA CR (upd H1 l (.lst [v0])) m dx t j0 c0 d:=⟨gl.keep _ _ hR1.1 (by simp),hR1.2⟩
 have hP2:=hP0.mono gl.tups
 have ml:m≠l:=ne_of_none hR1.1 hl
 have out:∀H',Gro [m,l] (upd H1 l (.lst [v0])) H'->Gro [m] H H':=fun H' g=>g1.trans (Gro.drop g hl)
 generalize upd H1 l (.lst [v0])=H2 at *
 refine⟨fun μ σ H'=>∃(ds:List Pat) (us:List V) (j:Nat) (cc:Int),σ=[some (.ref m),some (.ref l)]/\μ=t.length-j/\j<=t.length/\H' l=some (.lst us)/\Paired (PatW H' (4*k+3)) us (p0::ds)/\ds.length<=j/\(∀rs k' c2,rBrs (rLd t k) t j cc=some (rs,k',c2)->rBrs (rLd t k) t j0 c0=some (ds++rs,k',c2))/\(rBrs (rLd t k) t j cc=none->rBrs (rLd t k) t j0 c0=none)/\RdA CR H' m dx t j cc d/\Gro [m,l] H2 H',
  ⟨_,[],[v0],j0,c0,rfl,rfl,jt0,hl2,.cons hP2 .nil,Nat.zero_le _,fun _ _ _ e=>e,fun e=>e,hR2,Gro.refl⟩,?_⟩
 rintro μ σ H3 ⟨ds,us,j,cc,rfl,rfl,hj,hl3,hu,hdl,f1,f0,hR3,g3⟩
 have hul:=Paired.length hu
 rw[List.length_cons]at hul
 refine exA rfl ⟨m,dx,exA rfl ⟨hR3.1,rf_no (by decide +kernel),m,dx,t,_,j,_,d,rfl,hR3,by omega,fun z H4 hR4 g4=>exA rfl (ite_yes rfl ?_),fun z=>exA rfl (ite_no (by decide) ?_)⟩⟩
 ·have jl:=sg_lt z (by decide +kernel)
  refine⟨fun σ' H'=>∃(p:Pat) (us':List V) (j':Nat) (c':Int),rLd t k (j+1) cc=some (p,j',c')/\σ'=[some (.ref m),some (.ref l)]/\H' l=some (.lst us')/\Paired (PatW H' (4*k+3)) us' (p0::(ds++[p]))/\RdA CR H' m dx t j' c' d/\Gro [m,l] H2 H',?_,?_⟩
  ·rintro σ' H' ⟨p,us',j',c',er,rfl,h1,h2,h3,h4⟩
   obtain⟨a1,a2,_,_⟩:=rLd_ok k (by omega) er
   have ec:=rBrs_cons z er (by omega) a2
   refine⟨_,?_,ds++[p],us',j',c',rfl,rfl,a2,h1,h2,by simp;omega,fun rs k' c2 hk=>?_,fun hk=>f0 (by rw[ec,hk]),h3,h4⟩
   ·omega
   ·rw[List.append_assoc]
    exact f1 (p::rs) k' c2 (by rw[ec,hk])
  have hl4:=g4.keep _ _ hl3 (by simpa using Ne.symm ml)
  refine exA rfl ⟨.inl ⟨rfl,_,SqL.of hl4⟩,exA rfl ⟨m,dx,exA rfl ⟨hR4.1,rf_no (by decide +kernel),m,dx,t,j+1,cc,d,rfl,hR4,jl,hd',fun p j' c' er v H5 hP hR5 g5=>?_,fun er H5 g5=>qx (by rw[f0 (by rw[rBrs,if_pos z,show rLd t k (j+1) cc=none from er])]) H5 (out _ ((g3.trans (g4.mono (by simp))).trans (g5.mono (by simp))))⟩⟩⟩
  have hl5:=g5.keep _ _ hl4 (by simpa using Ne.symm ml)
  refine⟨l,us,v,rfl,rfl,hl5,bgl (by omega),?_⟩
  have g6:Gro [m,l] H5 _:=Gro.set (by simp) hl5 (.lst (us++[v]))
  refine⟨p,us++[v],j',c',er,rfl,upd_same,?_,⟨?_,hR5.2⟩,((g3.trans (g4.mono (by simp))).trans (g5.mono (by simp))).trans g6⟩
  ·exact Paired.snoc1 (Paired.mapP hu fun _ _ z=>((z.mono g4.tups).mono g5.tups).mono g6.tups) (hP.mono g6.tups)
  ·rw[upd_ne ml]
   exact hR5.1
 ·have e2:=f1 [] j cc (by rw[rBrs,if_neg z])
  rw[List.append_nil]at e2
  simp only[e2]at q
  have go:=out _ g3
  cases ds with
  |nil =>
   match us,hu with
   | [v],.cons hP .nil =>
    refine exA rfl ⟨l,_,rfl,.inl (SqL.of hl3),rfl,exA rfl (ite_yes rfl ?_)⟩
    exact ixL hl3 rfl (q p0 j cc rfl v H3 (hP.deep (by omega)) hR3 go)
  |cons p1 ds =>
   rw[List.length_cons]at hul hdl
   refine exA rfl ⟨l,us,rfl,.inl (SqL.of hl3),rfl,exA rfl (ite_no (by intro z;have z':(V.int (us.length:Int))=V.int 1:=of_decide_eq_true z;injection z' with z'';omega) ?_)⟩
   refine exA rfl ⟨l,us,rfl,.inl ⟨SqL.of hl3,fun rt hrt=>⟨sz,fun a ha=>?_⟩⟩⟩
   have k1:=Gro.new (S:=[]) hrt (.tup us)
   have k2:=Gro.new (S:=[]) ha (.tup [.str "or",.ref rt])
   exact q (.node .alt (p0::p1::ds)) j cc rfl (.ref a) _ ⟨a,us,rfl,⟨by omega,rt,upd_same,k2.tups _ _ upd_same⟩,Paired.mapP hu fun _ _ z=>(z.mono k1.tups).mono k2.tups⟩ ⟨k2.keep _ _ (k1.keep _ _ hR3.1 (by simp)) (by simp),hR3.2⟩ (go.trans ((Gro.new hrt _).trans (Gro.new ha _)))
abbrev lastWords:List V:=[.str "times",.str "group",.str "once",.str "ahead",.str "notahead",.str "behind",.str "notbehind"]
def spPartsOf:Sp:=fun vs H Q _=>∃(d:Nat) (v:V) (h:Hd) (ks:List Pat),vs=[v]/\PatW H (d+1) v (.node h ks)/\∀(r:Addr) (kv:List V) (H':Hp),H' r=some (.tup kv)->kv.length<=4000000->Paired (PatW H' d) kv ks->Gro [] H H'->Q (.ref r) H'
abbrev s_parts_of:Stmt:=top 2
theorem sc_parts_of:FnScope ["pattern","kind"] ["pattern"] (defScope s_parts_of):=fsc
theorem ok_parts_of{pl:Addr}(c_PART_LAST:mg "PART_LAST" = some (.ref pl))(hPL:∀H,SqT K H pl lastWords)(F:Fun K "parts_of" "parts_of" s_parts_of f fd):FnOk P w K mg base CX0 1 f fd ["pattern"] spPartsOf:=by
 refine F.ok sc_parts_of (fun vs H Q E h=>?_) (fun cdv A outer s H vs Q E hr h=>?_)
 ·obtain⟨d,v,h,ks,rfl,_⟩:=h
  rfl
 obtain⟨d,v,h,ks,rfl,hp,q⟩:=h
 refine ltX ?_
 intro Xz
 refine⟨_,(pss_cons (pS 1 sc_parts_of.nd (pe_ix ix_tup (pv 0) pe_int (fun _ _=>rfl)))
  (pss_cons (ps_if (PW.pt (pw_or (pt_cmpR op_eq (pv 1) pe_str (nomark _)) (pw_or1 (pt_cmpR op_eq (pv 1) pe_str (nomark _))))) (pss_one (ps_ret (pe_ix ix_tup (pv 0) pe_int (fun _ _=>rfl)))) pss_nil)
  (pss_cons (ps_if (pt_cmpR op_eq (pv 1) pe_str (nomark _)) (pss_one (ps_ret (pe_slice sl_tup (pv 0) (po_some pe_int) po_none))) pss_nil)
  (pss_cons (ps_if (pt_cmpR op_in_seq (pv 1) (pe_glob (v:=.ref _) rfl c_PART_LAST rfl) (by with_unfolding_all rfl)) (pss_one (ps_ret (pe_slice sl_tup (pv 0) (po_some (pe_un un_neg pe_int)) po_none))) pss_nil)
  (pss_one (ps_ret (pe_tup pa_nil))))))),?_⟩
 refine q00dbf ?_
 intro Ez Az1 Az2 Az3 Az4 Az5 Az6 Az7
 obtain⟨a,kv,rfl,lay,hk⟩:=hp
 have q0:∀(r:Addr) (H':Hp),H' r=some (.tup kv)->kv.length<=4000000->Gro [] H H'->Q (.ref r) H':=fun r H' e z g=>q r kv H' e z (patsW_mono g.tups hk) g
 have leaf:∀ {x:Str} {r:List V},kv=[]->H a=some (.tup (.str x::r))->decide (V.str x=V.str "row")=false->decide (V.str x=V.str "or")=false->decide (V.str x=V.str "have")=false->inV (.str x) lastWords=false ->
   (tSeq (tAsg (tOp (rIxT K) (tVar 0) (tC (.int 0))) (gName 1)) (tSeq (tIfS (tOr (tTest (tOp rEq (tVar 1) (tC (.str "row")))) (tTest (tOp rEq (tVar 1) (tC (.str "or"))))) (tRet (tOp (rIxT K) (tVar 0) (tC (.int 1)))) tNext)
    (tSeq (tIfS (tTest (tOp rEq (tVar 1) (tC (.str "have")))) (tRet (tSl (rSlT K) (tVar 0) (tPart (tC (.int 2))) tNoPart)) tNext) (tSeq (tIfS (tTest (tOp (rIn K false) (tVar 1) (tC (.ref pl)))) (tRet (tSl (rSlT K) (tVar 0) (tPart (tUn (rU fun i=>.int (-i)) (tC (.int 1)))) tNoPart)) tNext) (tRet (tTup tNil))))))
    { nx:=fun _ H'=>Q .non H',rt:=Q } [some (.ref a),none] H:=by
  intro x r e0 ea e1 e2 e3 e4
  refine⟨_,rfl,a,_,_,_,rfl,rfl,SqT.of ea,at0,?_⟩
  refine⟨_,rfl,rfl,_,rfl,ite_no (by rw[e1];decide) ⟨_,rfl,rfl,_,rfl,ite_no (by rw[e2];decide) ?_⟩⟩
  refine⟨_,rfl,rfl,_,rfl,ite_no (by rw[e3];decide) ?_⟩
  refine⟨_,rfl,pl,lastWords,rfl,.inr (hPL _),rfl,rfl,_,rfl,ite_no (by rw[e4];decide) ?_⟩
  exact⟨sz,fun p1 hp1=>q0 p1 _ (by rw[e0];exact upd_same) (by simp[e0]) (Gro.new hp1 _)⟩
 have last:∀ {x:Str} {r:List V} {k:V},kv=[k]->H a=some (.tup (.str x::r))->cutV (.str x::r) (some (-1)) none=[k]->¬(HT.sIx (V.str x::r).length 0 (some (-1))=0/\HT.sIx (V.str x::r).length (V.str x::r).length none=(V.str x::r).length)->decide (V.str x=V.str "row")=false->decide (V.str x=V.str "or")=false->decide (V.str x=V.str "have")=false->inV (.str x) lastWords=true ->
   (tSeq (tAsg (tOp (rIxT K) (tVar 0) (tC (.int 0))) (gName 1)) (tSeq (tIfS (tOr (tTest (tOp rEq (tVar 1) (tC (.str "row")))) (tTest (tOp rEq (tVar 1) (tC (.str "or"))))) (tRet (tOp (rIxT K) (tVar 0) (tC (.int 1)))) tNext)
    (tSeq (tIfS (tTest (tOp rEq (tVar 1) (tC (.str "have")))) (tRet (tSl (rSlT K) (tVar 0) (tPart (tC (.int 2))) tNoPart)) tNext) (tSeq (tIfS (tTest (tOp (rIn K false) (tVar 1) (tC (.ref pl)))) (tRet (tSl (rSlT K) (tVar 0) (tPart (tUn (rU fun i=>.int (-i)) (tC (.int 1)))) tNoPart)) tNext) (tRet (tTup tNil))))))
    { nx:=fun _ H'=>Q .non H',rt:=Q } [some (.ref a),none] H:=by
  intro x r k e0 ea ec hw e1 e2 e3 e4
  refine⟨_,rfl,a,_,_,_,rfl,rfl,SqT.of ea,at0,?_⟩
  refine⟨_,rfl,rfl,_,rfl,ite_no (by rw[e1];decide) ⟨_,rfl,rfl,_,rfl,ite_no (by rw[e2];decide) ?_⟩⟩
  refine⟨_,rfl,rfl,_,rfl,ite_no (by rw[e3];decide) ?_⟩
  refine⟨_,rfl,pl,lastWords,rfl,.inr (hPL _),rfl,rfl,_,rfl,ite_yes (by show inV _ _=true;exact e4) ?_⟩
  exact⟨_,rfl,_,rfl,_,rfl,a,_,rfl,SqT.of ea,hw,fun p1 hp1=>q0 p1 _ (by rw[e0,← ec];exact upd_same) (by simp[e0]) (Gro.new hp1 _)⟩
 cases h with
 |sign s=>exact leaf lay.1 lay.2 (by decide +kernel) (by decide +kernel) (by decide +kernel) (by decide +kernel)
 |any=>exact leaf lay.1 lay.2 (by decide +kernel) (by decide +kernel) (by decide +kernel) (by decide +kernel)
 |inn rs =>
  obtain⟨e0,r,e,_⟩:=lay
  exact leaf e0 e (by decide +kernel) (by decide +kernel) (by decide +kernel) (by decide +kernel)
 |out rs =>
  obtain⟨e0,r,e,_⟩:=lay
  exact leaf e0 e (by decide +kernel) (by decide +kernel) (by decide +kernel) (by decide +kernel)
 |beg=>exact leaf lay.1 lay.2 (by decide +kernel) (by decide +kernel) (by decide +kernel) (by decide +kernel)
 |fin=>exact leaf lay.1 lay.2 (by decide +kernel) (by decide +kernel) (by decide +kernel) (by decide +kernel)
 |again n=>exact leaf lay.1 lay.2 (by decide +kernel) (by decide +kernel) (by decide +kernel) (by decide +kernel)
 |row =>
  obtain⟨z,r,e,er⟩:=lay
  refine⟨_,rfl,a,_,_,_,rfl,rfl,SqT.of e,at0,?_⟩
  refine⟨_,rfl,rfl,_,rfl,ite_yes (by decide +kernel) (iteT ?_)⟩
  exact⟨_,rfl,a,_,_,_,rfl,rfl,SqT.of e,rfl,q0 r H er z Gro.refl⟩
 |alt =>
  obtain⟨z,r,e,er⟩:=lay
  refine⟨_,rfl,a,_,_,_,rfl,rfl,SqT.of e,at0,?_⟩
  refine⟨_,rfl,rfl,_,rfl,ite_no (by decide +kernel) ⟨_,rfl,rfl,_,rfl,ite_yes (by decide +kernel) ?_⟩⟩
  exact⟨_,rfl,a,_,_,_,rfl,rfl,SqT.of e,rfl,q0 r H er z Gro.refl⟩
 |times lo hi how =>
  obtain⟨k,e0,e⟩:=lay
  exact last e0 e rfl (fun z=>absurd (show HT.sIx 5 0 (some (-1))=0 from z.1) (by decide +kernel)) (by decide +kernel) (by decide +kernel) (by decide +kernel) (by decide +kernel)
 |grp n =>
  obtain⟨k,e0,e⟩:=lay
  exact last e0 e rfl (fun z=>absurd (show HT.sIx 3 0 (some (-1))=0 from z.1) (by decide +kernel)) (by decide +kernel) (by decide +kernel) (by decide +kernel) (by decide +kernel)
 |hav n =>
  obtain⟨y,z,e0,e⟩:=lay
  refine⟨_,rfl,a,_,_,_,rfl,rfl,SqT.of e,at0,?_⟩
  refine⟨_,rfl,rfl,_,rfl,ite_no (by decide +kernel) ⟨_,rfl,rfl,_,rfl,ite_no (by decide +kernel) ?_⟩⟩
  refine⟨_,rfl,rfl,_,rfl,ite_yes (by decide +kernel) ?_⟩
  exact⟨_,rfl,_,rfl,a,_,rfl,SqT.of e,fun z=>absurd (show HT.sIx 4 0 (some 2)=0 from z.1) (by decide +kernel),fun p1 hp1=>q0 p1 _ (by rw[e0];exact upd_same) (by simp[e0]) (Gro.new hp1 _)⟩
 |look lk =>
  obtain⟨k,e0,e⟩:=lay
  cases lk <;> exact last e0 e rfl (fun z=>absurd (show HT.sIx 2 0 (some (-1))=0 from z.1) (by decide +kernel)) (by decide +kernel) (by decide +kernel) (by decide +kernel) (by decide +kernel)
def spG(n:Nat):Sp:=fun vs H Q _=>∃(v:V) (p:Pat),vs=[v]/\PatW H n v p/\∀H',Gro [] H H'->Q (.int p.groups) H'
def Hd.own:Hd->Int
 |.grp _=>1
 |_=>0
theorem groups_node(h:Hd)(ks:List Pat):(Pat.node h ks).groups=h.own+groupsL ks:=by cases h <;> simp[Pat.groups,Hd.own]
theorem own_word(h:Hd):h.own=if decide (V.str h.word=V.str "group")=true then 1 else 0:=by
 cases h with
 |look lk=>cases lk <;> decide +kernel
 |sign s=>exact(if_neg (show ¬decide (V.str "sign" = V.str "group")=true by decide +kernel)).symm
 |inn s=>exact(if_neg (show ¬decide (V.str "in" = V.str "group")=true by decide +kernel)).symm
 |out s=>exact(if_neg (show ¬decide (V.str "out" = V.str "group")=true by decide +kernel)).symm
 |times a b c=>exact(if_neg (show ¬decide (V.str "times" = V.str "group")=true by decide +kernel)).symm
 |grp n=>exact(if_pos (show decide (V.str "group" = V.str "group")=true by decide +kernel)).symm
 |again n=>exact(if_neg (show ¬decide (V.str "again" = V.str "group")=true by decide +kernel)).symm
 |hav n=>exact(if_neg (show ¬decide (V.str "have" = V.str "group")=true by decide +kernel)).symm
 |_=>decide +kernel
def cutG(H:Hp)(n:Nat):TS:=fun D σ H1=>∃(v:V) (h:Hd) (ks:List Pat),H1=H/\σ=[some v,some (.int h.own)]/\PatW H (n+1) v (.node h ks)/\∀H',Gro [] H H'->D.rt (.int (Pat.node h ks).groups) H'
abbrev s_groups_in:Stmt:=top 3
theorem sc_groups_in:FnScope ["pattern","own"] ["pattern"] (defScope s_groups_in):=fsc
theorem ok_groups_in{n:Nat}(T:Blt mg)(O_parts_of:Own P w K mg base 1 "parts_of" ["pattern"] spPartsOf)(O_groups_in:Own P w K mg base (2+n) "groups_in" ["pattern"] (spG n))(F:Fun K "groups_in" "groups_in" s_groups_in f fd) :
  FnOk P w K mg base CX0 (2+n+1) f fd ["pattern"] (spG (n+1)):=by
 refine F.ok sc_groups_in (fun vs H Q E h=>?_) (fun cdv A outer s H vs Q E hr h=>?_)
 ·obtain⟨v,p,rfl,_⟩:=h
  rfl
 obtain⟨v,⟨h,ks⟩,rfl,hp,q⟩:=h
 refine ltX ?_
 intro Xz
 refine⟨_,(pss_cons (pS 1 sc_groups_in.nd (pe_ifExp (pt_cmpR op_eq (pe_ix ix_tup (pv 0) pe_int (fun _ _=>rfl)) pe_str (nomark _)) pe_int pe_int))
  (pss_cut (cutG H n) (pss_one (ps_ret (pe_op op_add (pv 1) (pe_callB (call_sum rfl) rfl T.b_sum PyProof.Rows.Boot.«sum» (pa_cons (pe_lcomp rfl (show CScope _ ["pattern","own"] (defScope s_groups_in) _ from⟨rfl,by decide +kernel,rfl,by decide +kernel,by decide +kernel,by decide +kernel,by decide +kernel⟩) (pi_tup (pe_own (O_parts_of.mono (by omega)) hr rfl (pa_cons (pv 0) pa_nil))) (fun _ _ _ _=>pts_nil) (fun _ _ _ _=>(pe_own (O_groups_in.mono (by omega)) hr rfl (pa_cons (pv 0) pa_nil)))) pa_nil))))) (fun D1 σ1 H1 hcut=>?cut1))),?_⟩
 case cut1 =>
  obtain⟨v,h,ks,rfl,rfl,hp,q⟩:=hcut
  refine⟨_,rfl,_,rfl,n,v,h,ks,rfl,hp,fun r kv H2 hr hlen hk g1=>⟨r,rfl,⟨kv,SqT.of hr⟩,?_⟩⟩
  have hkl:=Paired.length hk
  refine lc_tup (xs:=kv) (fun i ys H'=>∃ns:List Int,ys=ns.map V.int/\ns.length=i/\ns.sum=groupsL (ks.take i)/\Gro [] H2 H') ⟨[],rfl,rfl,by simp[groupsL],Gro.refl⟩ (bgl (by omega)) (fun i ys H' ⟨ns,e1,e2,_⟩=>by rw[e1,List.length_map,e2];exact Nat.le_refl _) (fun i ys H' ⟨_,_,_,_,g⟩=>SqT.of (g.tups _ _ hr)) ?_ ?_
  ·rintro i ys H3 x hx ⟨ns,rfl,e2,e3,g3⟩
   obtain⟨p,hpi,hpx⟩:=paired_get hk hx
   refine⟨_,rfl,x,p,rfl,hpx.mono g3.tups,fun H4 g4=>⟨ns++[p.groups],by simp,by simp[e2],?_,g3.trans g4⟩⟩
   rw[take_snoc hpi,groupsL_append,List.sum_append,e3]
   simp[groupsL]
  ·rintro ys H3 ⟨ns,rfl,e2,e3,g3⟩ l hl
   refine⟨l,ns,rfl,SqL.of upd_same,_,_,rfl,rfl,?_⟩
   rw[hkl,List.take_length]at e3
   have:=q _ ((g1.trans g3).tup (o:=.lst (ns.map V.int)) hl)
   rw[groups_node]at this
   show D1.rt (V.int (h.own+ns.sum)) _
   rw[e3]
   exact this
 refine qe465e ?_
 intro Ez Az1
 obtain⟨a,kv,rfl,lay,hk⟩:=id hp
 obtain⟨r,ea⟩:=lay.head
 have c:∀o:Int,o=h.own->cutG H n { nx:=fun _ H'=>Q .non H',rt:=Q } [some (.ref a),some (.int o)] H:=fun o e=>⟨.ref a,h,ks,rfl,by rw[e],hp,q⟩
 refine⟨_,rfl,a,_,_,_,rfl,rfl,SqT.of ea,at0,rfl,_,rfl,ite2 (fun z=>?_) (fun z=>?_)⟩
 ·exact c 1 (by rw[own_word,if_pos z])
 ·exact c 0 (by rw[own_word,if_neg z])
def spZ(n:Nat):Sp:=fun vs H Q _=>∃(v:V) (p:Pat),vs=[v]/\PatW H n v p/\∀H',Gro [] H H'->Q (.int p.size) H'
abbrev s_patterns_in:Stmt:=top 12
theorem sc_patterns_in:FnScope ["pattern"] ["pattern"] (defScope s_patterns_in):=fsc
theorem ok_patterns_in{n:Nat}(T:Blt mg)(O_parts_of:Own P w K mg base 1 "parts_of" ["pattern"] spPartsOf)(O_patterns_in:Own P w K mg base (2+n) "patterns_in" ["pattern"] (spZ n))(F:Fun K "patterns_in" "patterns_in" s_patterns_in f fd) :
  FnOk P w K mg base CX0 (2+n+1) f fd ["pattern"] (spZ (n+1)):=by
 refine F.ok sc_patterns_in (fun vs H Q E h=>?_) (fun cdv A outer s H vs Q E hr h=>?_)
 ·obtain⟨v,p,rfl,_⟩:=h
  rfl
 obtain⟨v,⟨h,ks⟩,rfl,hp,q⟩:=h
 refine ltX ?_
 intro Xz
 refine⟨_,(pss_one (ps_ret (pe_op op_add pe_int (pe_callB (call_sum rfl) rfl T.b_sum PyProof.Rows.Boot.«sum» (pa_cons (pe_lcomp rfl (show CScope _ ["pattern"] (defScope s_patterns_in) _ from⟨rfl,by decide +kernel,rfl,by decide +kernel,by decide +kernel,by decide +kernel,by decide +kernel⟩) (pi_tup (pe_own (O_parts_of.mono (by omega)) hr rfl (pa_cons (pv 0) pa_nil))) (fun _ _ _ _=>pts_nil) (fun _ _ _ _=>(pe_own (O_patterns_in.mono (by omega)) hr rfl (pa_cons (pv 0) pa_nil)))) pa_nil))))),?_⟩
 refine exA rfl ⟨n,v,h,ks,rfl,hp,fun r kv H2 hr hlen hk g1=>⟨r,rfl,⟨kv,SqT.of hr⟩,?_⟩⟩
 have hkl:=Paired.length hk
 refine lc_tup (xs:=kv) (fun i ys H'=>∃ns:List Int,ys=ns.map V.int/\ns.length=i/\ns.sum=sizeL (ks.take i)/\Gro [] H2 H') ⟨[],rfl,rfl,by simp[sizeL],Gro.refl⟩ (bgl (by omega)) (fun i ys H' ⟨ns,e1,e2,_⟩=>by rw[e1,List.length_map,e2];exact Nat.le_refl _) (fun i ys H' ⟨_,_,_,_,g⟩=>SqT.of (g.tups _ _ hr)) ?_ ?_
 ·rintro i ys H3 x hx ⟨ns,rfl,e2,e3,g3⟩
  obtain⟨p,hpi,hpx⟩:=paired_get hk hx
  refine⟨_,rfl,x,p,rfl,hpx.mono g3.tups,fun H4 g4=>⟨ns++[(p.size:Int)],by simp,by simp[e2],?_,g3.trans g4⟩⟩
  rw[take_snoc hpi,sizeL_append,List.sum_append,e3]
  simp[sizeL]
 ·rintro ys H3 ⟨ns,rfl,e2,e3,g3⟩ l hl
  refine⟨l,ns,rfl,SqL.of upd_same,_,_,rfl,rfl,?_⟩
  rw[hkl,List.take_length]at e3
  have:=q _ ((g1.trans g3).tup (o:=.lst (ns.map V.int)) hl)
  rw[size_node]at this
  show Q (V.int (1+ns.sum)) _
  rw[e3]
  have e:((1+sizeL ks:Nat):Int)=1+(sizeL ks:Int):=by omega
  rw[← e]
  exact this
def spDp(n:Nat):Sp:=fun vs H Q _=>∃(v:V) (p:Pat),vs=[v]/\PatW H n v p/\∀H',Gro [] H H'->Q (.int p.dp) H'
abbrev s_depth:Stmt:=top 13
theorem sc_depth:FnScope ["pattern"] ["pattern"] (defScope s_depth):=fsc
theorem ok_depth{n:Nat}(T:Blt mg)(O_parts_of:Own P w K mg base 1 "parts_of" ["pattern"] spPartsOf)(O_depth:Own P w K mg base (2+n) "depth" ["pattern"] (spDp n))(F:Fun K "depth" "depth" s_depth f fd) :
  FnOk P w K mg base CX0 (2+n+1) f fd ["pattern"] (spDp (n+1)):=by
 refine F.ok sc_depth (fun vs H Q E h=>?_) (fun cdv A outer s H vs Q E hr h=>?_)
 ·obtain⟨v,p,rfl,_⟩:=h
  rfl
 obtain⟨v,⟨h,ks⟩,rfl,hp,q⟩:=h
 refine ltX ?_
 intro Xz
 refine⟨_,(pss_one (ps_ret (pe_op op_add pe_int (pe_maxD rfl rfl T.b_max (pa_cons (pe_lcomp rfl (show CScope _ ["pattern"] (defScope s_depth) _ from⟨rfl,by decide +kernel,rfl,by decide +kernel,by decide +kernel,by decide +kernel,by decide +kernel⟩) (pi_tup (pe_own (O_parts_of.mono (by omega)) hr rfl (pa_cons (pv 0) pa_nil))) (fun _ _ _ _=>pts_nil) (fun _ _ _ _=>(pe_own (O_depth.mono (by omega)) hr rfl (pa_cons (pv 0) pa_nil)))) pa_nil) (pk_cons pe_int pk_nil))))),?_⟩
 refine exA rfl ⟨n,v,h,ks,rfl,hp,fun r kv H2 hr hlen hk g1=>⟨r,rfl,⟨kv,SqT.of hr⟩,?_⟩⟩
 have hkl:=Paired.length hk
 refine lc_tup (xs:=kv) (fun i ys H'=>ys=((ks.take i).map Pat.dp).map V.int/\Gro [] H2 H') ⟨rfl,Gro.refl⟩ (bgl (by omega)) (fun i ys H' ⟨e1,_⟩=>by rw[e1];simp;omega) (fun i ys H' ⟨_,g⟩=>SqT.of (g.tups _ _ hr)) ?_ ?_
 ·rintro i ys H3 x hx ⟨rfl,g3⟩
  obtain⟨p,hpi,hpx⟩:=paired_get hk hx
  refine⟨_,rfl,x,p,rfl,hpx.mono g3.tups,fun H4 g4=>⟨?_,g3.trans g4⟩⟩
  rw[take_snoc hpi]
  simp
 ·rintro ys H3 ⟨rfl,g3⟩ l hl
  rw[hkl,List.take_length]at *
  refine⟨l,ks.map Pat.dp,.int 0,rfl,rfl,SqL.of upd_same,?_⟩
  have g4:=(g1.trans g3).tup (o:=.lst ((ks.map Pat.dp).map V.int)) hl
  have q2:=q _ g4
  rw[dp_node]at q2
  by_cases e:ks.map Pat.dp=[]
  ·rw[if_pos e]at q2
   rw[if_pos e]
   exact⟨1,0,rfl,rfl,q2⟩
  ·rw[if_neg e]at q2
   rw[if_neg e]
   exact⟨1,_,rfl,rfl,q2⟩
inductive spRkI(vs:List V)(H:Hp)(Q:VK):Prop
 |mk (r:Addr) (rs:List (Str×Str)) (_:vs=[.ref r]) (_:RunsW H r rs) (_:∀H',Gro [] H H'->Q (.bl (runsK rs)) H')
def spRk:Sp:=fun vs H Q _=>spRkI vs H Q
abbrev s_runs_keep:Stmt:=top 16
theorem sc_runs_keep:FnScope ["runs"] ["runs"] (defScope s_runs_keep):=fsc
theorem ok_runs_keep{t8:Tok}(T:Blt mg)(c_MOST_RUNS:mg "MOST_RUNS" = some (.int 8 t8))(F:Fun K "runs_keep" "runs_keep" s_runs_keep f fd):FnOk P w K mg base CX0 1 f fd ["runs"] spRk:=by
 refine F.ok sc_runs_keep (fun vs H Q E h=>?_) (fun cdv A outer s H vs Q E hr h=>?_)
 ·obtain⟨r,rs,rfl,_⟩:=h
  rfl
 obtain⟨r,rs,rfl,hR,q⟩:=h
 refine ltX ?_
 intro Xz
 refine⟨_,(pss_cons (ps_if (PW.pt (pw_or (pt_cmpR op_lt (pe_callB call_len_seq rfl T.b_len PyProof.Rows.Boot.«len» (pa_cons (pv 0) pa_nil)) pe_int (nomark _)) (pw_or1 (pt_cmpR op_gt (pe_callB call_len_seq rfl T.b_len PyProof.Rows.Boot.«len» (pa_cons (pv 0) pa_nil)) (pe_glob (v:=.int _) rfl c_MOST_RUNS ⟨_,rfl⟩) (nomark _))))) (pss_one (ps_ret pe_bl)) pss_nil)
  (pss_one (ps_ret (pe_callB (call_all rfl) rfl T.b_all PyProof.Rows.Boot.«all» (pa_cons (pe_lcomp2 rfl (show CScopeN ["low","high"] ["runs"] (defScope s_runs_keep) _ from⟨rfl,by decide +kernel,by decide +kernel,by decide +kernel,by decide +kernel,by decide +kernel,by decide +kernel⟩) (pi_tup (pv 0)) (fun _ _ _ _=>pts_nil) (fun _ _ _ _=>(pe_cmpR op_le_str (pv 0) (pv 1) (nomark _)))) pa_nil))))),?_⟩
 refine qfcacd ?_
 intro Ez Az1 Az2
 obtain⟨us,hv,hp,hz⟩:=hR
 have hul:=Paired.length hp
 refine exA rfl ⟨r,us,rfl,.inr (SqT.of hv),exB rfl rfl (exA rfl ?_)⟩
 by_cases h1:us.length<1
 ·refine ite_yes (decide_eq_true (by show(us.length:Int)<1;omega)) (iteT ?_)
  have:=q H Gro.refl
  rw[show runsK rs=false by unfold runsK;rw[decide_eq_false (by omega),Bool.false_and]]at this
  exact this
 refine ite_no (by intro z;have z':(us.length:Int)<1:=of_decide_eq_true z;omega) ?_
 refine exA rfl ⟨r,us,rfl,.inr (SqT.of hv),exB rfl rfl (exA rfl ?_)⟩
 by_cases h2:8<us.length
 ·refine ite_yes (decide_eq_true (by show(8:Int)<us.length;omega)) ?_
  have:=q H Gro.refl
  rw[show runsK rs=false by unfold runsK;rw[decide_eq_false (by omega),Bool.false_and]]at this
  exact this
 refine ite_no (by intro z;have z':(8:Int)<us.length:=of_decide_eq_true z;omega) ?_
 refine exA rfl ⟨r,rfl,⟨us,SqT.of hv⟩,?_⟩
 refine lcN_tup (xs:=us) (fun i ys H'=>ys=((rs.take i).map runK).map V.bl/\H'=H) ⟨rfl,rfl⟩ (small1000 (by omega)) (fun i ys H' ⟨e1,_⟩=>by rw[e1];simp;omega) (fun i ys H' ⟨_,e⟩=>by rw[e];exact SqT.of hv) ?_ ?_
 ·rintro i ys H' x hx ⟨rfl,rfl⟩ τ hτ
  obtain⟨p,hpi,a,rfl,ha⟩:=paired_get hp hx
  match τ,hτ with
  | [t1,t2],_ =>
   refine⟨a,_,rfl,SqT.of ha,rfl,_,_,rfl,_,_,rfl,rfl,⟨[some (.str p.1),some (.str p.2)],rfl,rfl⟩,?_⟩
   refine exA rfl (exA rfl ⟨_,_,rfl,rfl,?_,rfl⟩)
   rw[take_snoc hpi]
   simp only[List.map_append,List.map_cons,List.map_nil]
   rfl
 ·rintro ys H' ⟨rfl,rfl⟩ l hl
  rw[hul,List.take_length]at *
  refine⟨l,rs.map runK,rfl,SqL.of upd_same,?_⟩
  have:=q _ (Gro.new hl (.lst ((rs.map runK).map V.bl)))
  rw[show runsK rs=(rs.map runK).all id by unfold runsK;rw[decide_eq_true (by omega),Bool.true_and,List.all_map];rfl]at this
  exact this
inductive spPkI(vs:List V)(H:Hp)(Q:VK):Prop
 |mk (r:Addr) (us:List V) (_:vs=[.ref r]) (_:H r=some (.tup us)) (_:Q (.bl (partsK us.length)) H)
def spPk:Sp:=fun vs H Q _=>spPkI vs H Q
abbrev s_parts_keep:Stmt:=top 17
theorem sc_parts_keep:FnScope ["parts"] ["parts"] (defScope s_parts_keep):=fsc
theorem ok_parts_keep{t8:Tok}(T:Blt mg)(c_MOST_PARTS:mg "MOST_PARTS" = some (.int 8 t8))(F:Fun K "parts_keep" "parts_keep" s_parts_keep f fd):FnOk P w K mg base CX0 1 f fd ["parts"] spPk:=by
 refine F.ok sc_parts_keep (fun vs H Q E h=>?_) (fun cdv A outer s H vs Q E hr h=>?_)
 ·obtain⟨r,us,rfl,_⟩:=h
  rfl
 obtain⟨r,us,rfl,hv,q⟩:=h
 refine ltX ?_
 intro Xz
 refine⟨_,(pss_one (ps_ret (pe_and (pe_cmpR op_le pe_int (pe_callB call_len_seq rfl T.b_len PyProof.Rows.Boot.«len» (pa_cons (pv 0) pa_nil)) (nomark _)) (pe_one (pe_cmpR op_le (pe_callB call_len_seq rfl T.b_len PyProof.Rows.Boot.«len» (pa_cons (pv 0) pa_nil)) (pe_glob (v:=.int _) rfl c_MOST_PARTS ⟨_,rfl⟩) (nomark _)))))),?_⟩
 refine exA rfl ⟨r,us,rfl,.inr (SqT.of hv),exB rfl rfl (exA rfl ?_)⟩
 unfold partsK at q
 by_cases h1:2<=us.length
 ·refine ite_yes (decide_eq_true (by show(2:Int)<=us.length;omega)) ?_
  refine exA rfl ⟨r,us,rfl,.inr (SqT.of hv),exB rfl rfl ?_⟩
  show Q (V.bl (decide ((us.length:Int)<=8))) H
  have e:decide (2<=us.length/\us.length<=8)=decide ((us.length:Int)<=8):=by rw[decide_eq_decide];omega
  rw[← e]
  exact q
 ·rw[decide_eq_false (by omega)]at q
  exact ite_no (by intro z;have z':(2:Int)<=us.length:=of_decide_eq_true z;omega) q
inductive spTkpI(vs:List V)(H:Hp)(Q:VK):Prop
 |mk (lo:Int) (hi:Option Int) (_:vs=[.int lo,optV hi]) (_:Q (.bl (turnsK lo hi)) H)
def spTkp:Sp:=fun vs H Q _=>spTkpI vs H Q
abbrev s_turns_keep:Stmt:=top 18
theorem sc_turns_keep:FnScope ["low","high"] ["low","high"] (defScope s_turns_keep):=fsc
theorem ok_turns_keep{t9:Tok}(c_MOST_TURNS:mg "MOST_TURNS" = some (.int 9 t9))(F:Fun K "turns_keep" "turns_keep" s_turns_keep f fd):FnOk P w K mg base CX0 1 f fd ["low","high"] spTkp:=by
 refine F.ok sc_turns_keep (fun vs H Q E h=>?_) (fun cdv A outer s H vs Q E hr h=>?_)
 ·obtain⟨lo,hi,rfl,_⟩:=h
  rfl
 obtain⟨lo,hi,rfl,q⟩:=h
 refine ltX ?_
 intro Xz
 refine⟨_,(pss_cons (ps_if (PW.pt (pw_or (pt_cmpR op_lt (pv 0) pe_int (nomark _)) (pw_or1 (pt_cmpR op_gt (pv 0) (pe_glob (v:=.int _) rfl c_MOST_TURNS ⟨_,rfl⟩) (nomark _))))) (pss_one (ps_ret pe_bl)) pss_nil)
  (pss_cons (ps_if (pt_cmp (pc_isN (pv 1))) (pss_one (ps_ret pe_bl)) pss_nil)
  (pss_one (ps_ret (pe_and (pe_cmpR op_le pe_int (pv 1) (nomark _)) (pe_and (pe_cmpR op_le (pv 0) (pv 1) (nomark _)) (pe_one (pe_cmpR op_le (pv 1) (pe_glob (v:=.int _) rfl c_MOST_TURNS ⟨_,rfl⟩) (nomark _))))))))),?_⟩
 refine q049a3 ?_
 intro Ez Az1 Az2 Az3 Az4
 unfold turnsK at q
 refine exA rfl (exB rfl rfl (exA rfl ?_))
 by_cases h1:lo<0
 ·rw[decide_eq_false (by omega),Bool.false_and]at q
  exact ite_yes (decide_eq_true h1) (iteT q)
 refine ite_no (fun z=>h1 (of_decide_eq_true z)) ?_
 refine exA rfl (exB rfl rfl (exA rfl ?_))
 by_cases h2:9<lo
 ·rw[decide_eq_false (by omega),Bool.false_and]at q
  exact ite_yes (decide_eq_true h2) q
 refine ite_no (fun z=>h2 (of_decide_eq_true z)) ?_
 rw[decide_eq_true (by omega),Bool.true_and]at q
 cases hi with
 |none=>exact exA rfl (exA rfl (ite_yes rfl q))
 |some x =>
  have q:Q (.bl (decide (1<=x/\lo<=x/\x<=9))) H:=q
  refine exA rfl (exA rfl (ite_no (show ¬decide (V.int x=V.non)=true by intro z;cases of_decide_eq_true z) ?_))
  refine exA rfl (exB rfl rfl (exA rfl ?_))
  by_cases h3:1<=x
  ·refine ite_yes (decide_eq_true h3) ?_
   refine exA rfl (exA rfl (exB rfl rfl (exA rfl ?_)))
   by_cases h4:lo<=x
   ·refine ite_yes (decide_eq_true h4) ?_
    refine exA rfl (exB rfl rfl ?_)
    show Q (V.bl (decide (x<=9))) H
    rw[show decide (1<=x/\lo<=x/\x<=9)=decide (x<=9) by rw[decide_eq_decide];omega]at q
    exact q
   ·rw[decide_eq_false (by omega)]at q
    exact ite_no (fun z=>h4 (of_decide_eq_true z)) q
  ·rw[decide_eq_false (by omega)]at q
   exact ite_no (fun z=>h3 (of_decide_eq_true z)) q
inductive spKeI(n:Nat)(vs:List V)(H:Hp)(Q:VK):Prop
 |mk (v:V) (h:Hd) (ks:List Pat) (G:Int) (_:vs=[v,.int G]) (_:PatW H n v (.node h ks)) (_:∀H',Gro [] H H'->Q (.bl (h.keeps G ks.length)) H')
def spKe(n:Nat):Sp:=fun vs H Q _=>spKeI n vs H Q
abbrev s_keeps:Stmt:=top 15
theorem sc_keeps:FnScope ["pattern","groups","kind"] ["pattern","groups"] (defScope s_keeps):=fsc
theorem ok_keeps{n:Nat}(T:Blt mg)(O_runs_keep:Own P w K mg base 1 "runs_keep" ["runs"] spRk)(O_parts_keep:Own P w K mg base 1 "parts_keep" ["parts"] spPk)(O_turns_keep:Own P w K mg base 1 "turns_keep" ["low","high"] spTkp)(F:Fun K "keeps" "keeps" s_keeps f fd) :
  FnOk P w K mg base CX0 2 f fd ["pattern","groups"] (spKe (n+1)):=by
 refine F.ok sc_keeps (fun vs H Q E h=>?_) (fun cdv A outer s H vs Q E hr h=>?_)
 ·obtain⟨v,h,ks,G,rfl,_⟩:=h
  rfl
 obtain⟨v,h,ks,G,rfl,hp,q⟩:=h
 refine ltX ?_
 intro Xz
 refine⟨_,(pss_cons (pS 2 sc_keeps.nd (pe_ix ix_tup (pv 0) pe_int (fun _ _=>rfl)))
  (pss_cons (ps_if (PW.pt (pw_or (pt_cmpR op_eq (pv 2) pe_str (nomark _)) (pw_or1 (pt_cmpR op_eq (pv 2) pe_str (nomark _))))) (pss_one (ps_ret (pe_own (O_runs_keep.mono (by omega)) hr rfl (pa_cons (pe_ix ix_tup (pv 0) pe_int (fun _ _=>rfl)) pa_nil)))) pss_nil)
  (pss_cons (ps_if (pt_cmpR op_eq (pv 2) pe_str (nomark _)) (pss_one (ps_ret (pe_or (pe_cmpR op_eq (pe_callB call_len_seq rfl T.b_len PyProof.Rows.Boot.«len» (pa_cons (pe_ix ix_tup (pv 0) pe_int (fun _ _=>rfl)) pa_nil)) pe_int (nomark _)) (pe_one (pe_own (O_parts_keep.mono (by omega)) hr rfl (pa_cons (pe_ix ix_tup (pv 0) pe_int (fun _ _=>rfl)) pa_nil)))))) pss_nil)
  (pss_cons (ps_if (pt_cmpR op_eq (pv 2) pe_str (nomark _)) (pss_one (ps_ret (pe_own (O_parts_keep.mono (by omega)) hr rfl (pa_cons (pe_ix ix_tup (pv 0) pe_int (fun _ _=>rfl)) pa_nil)))) pss_nil)
  (pss_cons (ps_if (pt_cmpR op_eq (pv 2) pe_str (nomark _)) (pss_one (ps_ret (pe_own (O_turns_keep.mono (by omega)) hr rfl (pa_cons (pe_ix ix_tup (pv 0) pe_int (fun _ _=>rfl)) (pa_cons (pe_ix ix_tup (pv 0) pe_int (fun _ _=>rfl)) pa_nil))))) pss_nil)
  (pss_cons (ps_if (PW.pt (pw_or (pt_cmpR op_eq (pv 2) pe_str (nomark _)) (pw_or1 (pt_cmpR op_eq (pv 2) pe_str (nomark _))))) (pss_one (ps_ret (pe_and (pe_cmpR op_le pe_int (pe_ix ix_tup (pv 0) pe_int (fun _ _=>rfl)) (nomark _)) (pe_one (pe_cmpR op_le (pe_ix ix_tup (pv 0) pe_int (fun _ _=>rfl)) (pv 1) (nomark _)))))) pss_nil)
  (pss_one (ps_ret pe_bl)))))))),?_⟩
 refine qa0ab2 ?_
 intro Ez Az1 Az2 Az3 Az4 Az5 Az6 Az7 Az8 Az9 Az10 Az11
 obtain⟨a,kv,rfl,lay,hk⟩:=id hp
 obtain⟨r0,ea⟩:=lay.head
 have hkl:=Paired.length hk
 refine ixT ea at0 ?_
 have le1:∀(i:Int),h.keeps G ks.length=decide (1<=i/\i<=G)->(LayW H a h kv->∃r1,H a=some (.tup r1)/\atI r1 1=some (.int i))->Az5 { nx:=Az6 Ez,rt:=Ez.rt } [some (.ref a),some (.int G),some (.str h.word)] H:=by
  intro i hK hx
  have q':=q H Gro.refl
  rw[hK]at q'
  obtain⟨r1,e1,e2⟩:=hx lay
  refine ixT e1 e2 (exB rfl rfl (exA rfl ?_))
  by_cases h1:1<=i
  ·refine ite_yes (decide_eq_true h1) ?_
   refine ixT e1 e2 (exA rfl (exB rfl rfl ?_))
   show Q (V.bl (decide (i<=G))) H
   rw[show decide (1<=i/\i<=G)=decide (i<=G) by rw[decide_eq_decide];omega]at q'
   exact q'
  ·rw[decide_eq_false (by omega)]at q'
   exact ite_no (fun z=>h1 (of_decide_eq_true z)) q'
 refine exA rfl ⟨rfl,exA rfl (ite2 (fun z=>?_) (fun z1=>exA rfl ⟨rfl,exA rfl (ite2 (fun z=>?_) (fun z2=>?_))⟩))⟩
 ·obtain⟨rs,rfl⟩:=word_inn z
  obtain⟨_,r,e,hr⟩:=lay
  exact iteT (ixT e rfl ⟨r,rs,rfl,hr,q⟩)
 ·obtain⟨rs,rfl⟩:=word_out z
  obtain⟨_,r,e,hr⟩:=lay
  exact ixT e rfl ⟨r,rs,rfl,hr,q⟩
 refine exA rfl ⟨rfl,exA rfl (ite2 (fun z=>?_) (fun z3=>?_))⟩
 ·have:=word_row (eqw z)
  subst this
  obtain⟨hl,r,e,er⟩:=lay
  have q':Q (.bl (decide (ks.length=0)||partsK ks.length)) H:=q H Gro.refl
  rw[← hkl]at q'
  refine ixT e rfl ⟨r,kv,rfl,.inr (SqT.of er),rfl,exA rfl ?_⟩
  by_cases h0:kv.length=0
  ·rw[h0]at q'
   exact ite_yes (decide_eq_true (by rw[h0];rfl)) q'
  ·rw[decide_eq_false h0,Bool.false_or]at q'
   refine ite_no (fun z=>h0 (by have z':=of_decide_eq_true z;injection z' with z'';omega)) ?_
   exact ixT e rfl ⟨r,kv,rfl,er,q'⟩
 refine exA rfl ⟨rfl,exA rfl (ite2 (fun z=>?_) (fun z4=>?_))⟩
 ·have:=word_or (eqw z)
  subst this
  obtain⟨hl,r,e,er⟩:=lay
  have q':Q (.bl (partsK ks.length)) H:=q H Gro.refl
  rw[← hkl]at q'
  exact ixT e rfl ⟨r,kv,rfl,er,q'⟩
 refine exA rfl ⟨rfl,exA rfl (ite2 (fun z=>?_) (fun z5=>?_))⟩
 ·obtain⟨lo,hi,how,rfl⟩:=word_times (eqw z)
  obtain⟨k',_,e⟩:=lay
  exact ixT e rfl (ixT e rfl ⟨lo,hi,rfl,q H Gro.refl⟩)
 refine exA rfl ⟨rfl,exA rfl (ite2 (fun z=>?_) (fun z6=>exA rfl ⟨rfl,exA rfl (ite2 (fun z=>?_) (fun z7=>?_))⟩))⟩
 ·obtain⟨i,rfl⟩:=word_again z
  exact iteT (le1 i rfl fun l=>⟨_,l.2,rfl⟩)
 ·obtain⟨i,rfl⟩:=word_hav z
  exact le1 i rfl fun⟨y,z,_,e⟩=>⟨_,e,rfl⟩
 have e:h.keeps G ks.length=true:=by
  cases h <;> first | rfl | exact absurd (decide_eq_true rfl) z1 | exact absurd (decide_eq_true rfl) z2 | exact absurd (decide_eq_true rfl) z3 | exact absurd (decide_eq_true rfl) z4 | exact absurd (decide_eq_true rfl) z5 | exact absurd (decide_eq_true rfl) z6 | exact absurd (decide_eq_true rfl) z7
 have q':=q H Gro.refl
 rw[e]at q'
 exact q'
inductive spKsI(n:Nat)(vs:List V)(H:Hp)(Q:VK):Prop
 |mk (v:V) (p:Pat) (G:Int) (_:vs=[v,.int G]) (_:PatW H n v p) (_:∀H',Gro [] H H'->Q (.bl (p.keeps G)) H')
def spKs(n:Nat):Sp:=fun vs H Q _=>spKsI n vs H Q
abbrev s_all_keep:Stmt:=top 14
theorem sc_all_keep:FnScope ["pattern","groups"] ["pattern","groups"] (defScope s_all_keep):=fsc
theorem ok_all_keep{n:Nat}(T:Blt mg)(O_parts_of:Own P w K mg base 1 "parts_of" ["pattern"] spPartsOf)(O_keeps:Own P w K mg base 2 "keeps" ["pattern","groups"] (spKe (n+1)))(O_all_keep:Own P w K mg base (2+n) "all_keep" ["pattern","groups"] (spKs n))(F:Fun K "all_keep" "all_keep" s_all_keep f fd) :
  FnOk P w K mg base CX0 (2+n+1) f fd ["pattern","groups"] (spKs (n+1)):=by
 refine F.ok sc_all_keep (fun vs H Q E h=>?_) (fun cdv A outer s H vs Q E hr h=>?_)
 ·obtain⟨v,p,G,rfl,_⟩:=h
  rfl
 obtain⟨v,⟨h,ks⟩,G,rfl,hp,q⟩:=h
 refine ltX ?_
 intro Xz
 refine⟨_,(pss_cons (ps_if (pt_not (pt_val (pe_own (O_keeps.mono (by omega)) hr rfl (pa_cons (pv 0) (pa_cons (pv 1) pa_nil))))) (pss_one (ps_ret pe_bl)) pss_nil)
  (pss_one (ps_ret (pe_callB (call_all rfl) rfl T.b_all PyProof.Rows.Boot.«all» (pa_cons (pe_lcomp rfl (show CScope _ ["pattern","groups"] (defScope s_all_keep) _ from⟨rfl,by decide +kernel,rfl,by decide +kernel,by decide +kernel,by decide +kernel,by decide +kernel⟩) (pi_tup (pe_own (O_parts_of.mono (by omega)) hr rfl (pa_cons (pv 0) pa_nil))) (fun _ _ _ _=>pts_nil) (fun _ _ _ _=>(pe_own (O_all_keep.mono (by omega)) hr rfl (pa_cons (pv 0) (pa_cons (pv 2) pa_nil))))) pa_nil))))),?_⟩
 refine qfcacd ?_
 intro Ez Az1 Az2
 rw[keeps_node]at q
 refine exA rfl (exA rfl ⟨v,h,ks,G,rfl,hp,fun H1 g1=>exA rfl ?_⟩)
 cases hh:h.keeps G ks.length with
 |false =>
  rw[hh,Bool.false_and]at q
  exact ite_yes rfl (q H1 g1)
 |true =>
 rw[hh,Bool.true_and]at q
 refine ite_no (by decide) ?_
 refine exA rfl ⟨n,v,h,ks,rfl,hp.mono g1.tups,fun r kv H2 hr hlen hk g2=>⟨r,rfl,⟨kv,SqT.of hr⟩,?_⟩⟩
 have hkl:=Paired.length hk
 refine lc_tup (xs:=kv) (fun i ys H'=>ys=((ks.take i).map (Pat.keeps G)).map V.bl/\Gro [] H2 H') ⟨rfl,Gro.refl⟩ (bgl (by omega)) (fun i ys H' ⟨e1,_⟩=>by rw[e1];simp;omega) (fun i ys H' ⟨_,g⟩=>SqT.of (g.tups _ _ hr)) ?_ ?_
 ·rintro i ys H3 x hx ⟨rfl,g3⟩
  obtain⟨p,hpi,hpx⟩:=paired_get hk hx
  refine exA rfl (exA rfl ⟨x,p,G,rfl,hpx.mono g3.tups,fun H4 g4=>⟨?_,g3.trans g4⟩⟩)
  rw[take_snoc hpi]
  simp
 ·rintro ys H3 ⟨rfl,g3⟩ l hl
  rw[hkl,List.take_length]at *
  refine⟨l,ks.map (Pat.keeps G),rfl,SqL.of upd_same,?_⟩
  have:=q _ (((g1.trans g2).trans g3).tup (o:=.lst ((ks.map (Pat.keeps G)).map V.bl)) hl)
  rw[show ks.all (Pat.keeps G)=(ks.map (Pat.keeps G)).all id by rw[List.all_map];rfl]at this
  exact this
inductive spKbI(n:Nat)(vs:List V)(H:Hp)(Q:VK):Prop
 |mk (v:V) (p:Pat) (_:vs=[v]) (_:PatW H n v p) (_:∀H',Gro [] H H'->Q (.bl (kbB p)) H')
def spKb(n:Nat):Sp:=fun vs H Q _=>spKbI n vs H Q
abbrev s_keeps_bounds:Stmt:=top 11
theorem sc_keeps_bounds:FnScope ["pattern","groups"] ["pattern"] (defScope s_keeps_bounds):=fsc
theorem ok_kb{t1 t2 t3:Tok}(c_MOST_GROUPS:mg "MOST_GROUPS" = some (.int 9 t1))(c_MOST_PATTERNS:mg "MOST_PATTERNS" = some (.int 60 t2))(c_MOST_DEEP:mg "MOST_DEEP" = some (.int 8 t3))(O_groups_in:Own P w K mg base 38 "groups_in" ["pattern"] (spG 36))(O_patterns_in:Own P w K mg base 38 "patterns_in" ["pattern"] (spZ 36))
  (O_depth:Own P w K mg base 38 "depth" ["pattern"] (spDp 36)) (O_all_keep:Own P w K mg base 38 "all_keep" ["pattern","groups"] (spKs 36)) (F:Fun K "keeps_bounds" "keeps_bounds" s_keeps_bounds f fd):FnOk P w K mg base CX0 39 f fd ["pattern"] (spKb 36):=by
 refine F.ok sc_keeps_bounds (fun vs H Q E h=>?_) (fun cdv A outer s H vs Q E hr h=>?_)
 ·obtain⟨v,p,rfl,_⟩:=h
  rfl
 obtain⟨v,p,rfl,hp,q⟩:=h
 refine ltX ?_
 intro Xz
 refine⟨_,(pss_cons (pS 1 sc_keeps_bounds.nd (pe_own (O_groups_in.mono (by omega)) hr rfl (pa_cons (pv 0) pa_nil)))
  (pss_cons (ps_if (PW.pt (pw_or (pt_cmpR op_gt (pv 1) (pe_glob (v:=.int _) rfl c_MOST_GROUPS ⟨_,rfl⟩) (nomark _)) (pw_or (pt_cmpR op_gt (pe_own (O_patterns_in.mono (by omega)) hr rfl (pa_cons (pv 0) pa_nil)) (pe_glob (v:=.int _) rfl c_MOST_PATTERNS ⟨_,rfl⟩) (nomark _)) (pw_or1 (pt_cmpR op_gt (pe_own (O_depth.mono (by omega)) hr rfl (pa_cons (pv 0) pa_nil)) (pe_glob (v:=.int _) rfl c_MOST_DEEP ⟨_,rfl⟩) (nomark _)))))) (pss_one (ps_ret pe_bl)) pss_nil)
  (pss_one (ps_ret (pe_own (O_all_keep.mono (by omega)) hr rfl (pa_cons (pv 0) (pa_cons (pv 1) pa_nil))))))),?_⟩
 refine qf76fd ?_
 intro Ez Az1 Az2 Az3
 have no:¬(p.groups<=9/\(p.size:Int)<=60/\p.dp<=8)->∀H',Gro [] H H'->Q (.bl false) H':=fun z H' g=>by
  have:=q H' g
  unfold kbB at this
  rw[decide_eq_false z,Bool.false_and]at this
  exact this
 refine exA rfl ⟨v,p,rfl,hp,fun H1 g1=>?_⟩
 refine exA rfl (exB rfl rfl (exA rfl ?_))
 by_cases c1:9<p.groups
 ·exact ite_yes (decide_eq_true c1) (iteT (no (by omega) H1 g1))
 refine ite_no (fun z=>c1 (of_decide_eq_true z)) ?_
 have hp1:=hp.mono g1.tups
 refine exA rfl ⟨v,p,rfl,hp1,fun H2 g2=>exB rfl rfl (exA rfl ?_)⟩
 by_cases c2:60<(p.size:Int)
 ·exact ite_yes (decide_eq_true c2) (iteT (no (by omega) H2 (g1.trans g2)))
 refine ite_no (fun z=>c2 (of_decide_eq_true z)) ?_
 have hp2:=hp1.mono g2.tups
 refine exA rfl ⟨v,p,rfl,hp2,fun H3 g3=>exB rfl rfl (exA rfl ?_)⟩
 have g13:=(g1.trans g2).trans g3
 by_cases c3:8<p.dp
 ·exact ite_yes (decide_eq_true c3) (no (by omega) H3 g13)
 refine ite_no (fun z=>c3 (of_decide_eq_true z)) ?_
 have hp3:=hp2.mono g3.tups
 refine exA rfl (exA rfl ⟨v,p,_,rfl,hp3,fun H4 g4=>?_⟩)
 have:=q H4 (g13.trans g4)
 unfold kbB at this
 rw[decide_eq_true (by omega),Bool.true_and]at this
 exact this
def spSg:Sp:=fun vs H Q _=>∃(s st:Str),vs=[.str s,.str st]/\s.length=1/\Q (.str (sg s st)) H
def spRnT:Sp:=fun vs H Q _=>∃(r:Str×Str),vs=[.str r.1,.str r.2]/\r.1.length=1/\r.2.length=1/\Q (.str (runT r)) H
def spTurnsT:Sp:=fun vs H Q _=>∃(lo:Int) (hi:Option Int) (how:How),vs=[.int lo,optV hi,.str how.text]/\(0<=lo/\lo<=20/\∀h,hi=some h->0<=h/\h<=20)/\Q (.str (turnsT lo hi how)) H
def spTxt(n:Nat):Sp:=fun vs H Q _=>∃(v:V) (p:Pat),vs=[v]/\PatAt H n v p/\p.size<=20000/\∀H',Gro [] H H'->Q (.str p.txt) H'
def spWr(K:W.Frag)(n:Nat):Sp:=fun vs H Q _=>∃(v:V) (p:Pat) (t:Addr) (ws:List V),vs=[v,.ref t]/\PatAt H n v p/\p.size<=20000/\(∀H',Gro [] H H'->SqT K H' t ws)/\ws.all flatV=true/\∀H',Gro [] H H'->Q (.str (wrT ws p.wt)) H'
abbrev s_sign_text:Stmt:=top 40
theorem sc_sign_text:FnScope ["sign","stroked"] ["sign","stroked"] (defScope s_sign_text):=fsc
theorem ok_sign_text(F:Fun K "sign_text" "sign_text" s_sign_text f fd):FnOk P w K mg base CX0 1 f fd ["sign","stroked"] spSg:=by
 refine F.ok sc_sign_text (fun vs H Q E h=>?_) (fun cdv A outer s H vs Q E hr h=>?_)
 ·obtain⟨s,st,rfl,_⟩:=h
  rfl
 obtain⟨x,st,rfl,h1,q⟩:=h
 refine ltX ?_
 intro Xz
 refine⟨_,(pss_one (ps_ret (pe_ifExp (pt_cmpR op_in_str (pv 0) (pv 1) (by with_unfolding_all rfl)) (pe_op op_add_str pe_str (pv 0)) (pv 0)))),?_⟩
 refine⟨_,rfl,_,rfl,_,_,rfl,rfl,_,rfl,?_⟩
 show if within x st=true then _ else _
 unfold sg at q
 refine ite2 (fun z=>?_) (fun z=>?_)
 ·rw[if_pos z]at q
  exact⟨_,rfl,_,_,rfl,rfl,big2 (by rw[l_bs];omega),q⟩
 ·rw[if_neg z]at q
  exact⟨_,rfl,q⟩
abbrev s_run_text:Stmt:=top 41
theorem sc_run_text:FnScope ["low","high","first"] ["low","high"] (defScope s_run_text):=fsc
theorem ok_run_text{ts:Tok}(c_STROKED_IN_RUNS:mg "STROKED_IN_RUNS" = some (.str strokedR ts))(O_sign_text:Own P w K mg base 1 "sign_text" ["sign","stroked"] spSg)(F:Fun K "run_text" "run_text" s_run_text f fd):FnOk P w K mg base CX0 2 f fd ["low","high"] spRnT:=by
 refine F.ok sc_run_text (fun vs H Q E h=>?_) (fun cdv A outer s H vs Q E hr h=>?_)
 ·obtain⟨r,rfl,_⟩:=h
  rfl
 obtain⟨⟨x,y⟩,rfl,h1,h2,q⟩:=h
 refine ltX ?_
 intro Xz
 refine⟨_,(pss_cons (pS 2 sc_run_text.nd (pe_own (O_sign_text.mono (by omega)) hr rfl (pa_cons (pv 0) (pa_cons (pe_glob (v:=.str _) rfl c_STROKED_IN_RUNS ⟨_,rfl⟩) pa_nil))))
  (pss_cons (ps_if (pt_cmpR op_eq (pv 0) (pv 1) (nomark _)) (pss_one (ps_ret (pv 2))) pss_nil)
  (pss_one (ps_ret (pe_op op_add_str (pe_op op_add_str (pv 2) pe_str) (pe_own (O_sign_text.mono (by omega)) hr rfl (pa_cons (pv 1) (pa_cons (pe_glob (v:=.str _) rfl c_STROKED_IN_RUNS ⟨_,rfl⟩) pa_nil)))))))),?_⟩
 refine qf76fd ?_
 intro Ez Az1 Az2 Az3
 have a:(sg x strokedR).length<=2:=sg_len h1
 have b:(sg y strokedR).length<=2:=sg_len h2
 refine⟨_,rfl,x,strokedR,rfl,h1,?_⟩
 unfold runT at q
 refine⟨_,rfl,_,rfl,rfl,_,rfl,ite2 (fun z=>?_) (fun z=>?_)⟩
 ·rw[if_pos z]at q
  exact⟨_,rfl,q⟩
 ·rw[if_neg z]at q
  exact⟨_,rfl,_,_,rfl,rfl,big2 (by rw[l_dash];omega),_,rfl,y,strokedR,rfl,h2,_,_,rfl,rfl,big2 (by rw[len_app,l_dash];omega),q⟩
abbrev s_turns_text:Stmt:=top 43
theorem sc_turns_text:FnScope ["low","high","how"] ["low","high","how"] (defScope s_turns_text):=fsc
theorem ok_turns_text{hw:Addr}(T:Blt mg)(c_HOWS:mg "HOWS" = some (.ref hw))(hHW:DcK K w hw howsT)(F:Fun K "turns_text" "turns_text" s_turns_text f fd):FnOk P w K mg base CX0 1 f fd ["low","high","how"] spTurnsT:=by
 refine F.ok sc_turns_text (fun vs H Q E h=>?_) (fun cdv A outer s H vs Q E hr h=>?_)
 ·obtain⟨lo,hi,how,rfl,_⟩:=h
  rfl
 obtain⟨lo,hi,how,rfl,⟨h0,h1,hh⟩,q⟩:=h
 refine ltX ?_
 intro Xz
 refine⟨_,(pss_one (ps_ret (pe_op op_add_str (pe_op op_add_str (pe_op op_add_str (pe_op op_add_str (pe_op op_add_str pe_str (pe_callTy call_str_int rfl T.b_str PyProof.Rows.Boot.«str» (pa_cons (pv 0) pa_nil))) pe_str) (pe_ifExp (pt_cmp (pc_isN (pv 1))) pe_str (pe_callTy call_str_int rfl T.b_str PyProof.Rows.Boot.«str» (pa_cons (pv 1) pa_nil)))) (pe_cget (pe_glob (v:=.ref _) rfl c_HOWS rfl) (pv 2) (fun _ _=>rfl))) pe_str))),?_⟩
 have a:=num_len h0 h1
 have b:=hi_len hh
 have c:=how_len how
 refine⟨_,rfl,lo,rfl,lg h0 h1,_,_,rfl,rfl,big2 (by show _+(num lo).length<=_;rw[l_lb];omega),_,_,rfl,rfl,big2 (by show("{" ++ num lo:Str).length+_<=_;rw[len_app,l_lb,l_comma];omega),?_⟩
 have fin:∀x:Str,x=hiT hi->(tOp (fun x y H Q=>∃i j,x=.str i/\y=.str j/\i.length+j.length<=sizeLine/\Q (.str (i++j)) H) (tOp (fun x y H Q=>∃i j,x=.str i/\y=.str j/\i.length+j.length<=sizeLine/\Q (.str (i++j)) H) (tC (.str (("{" ++ num lo:Str)++"," ++ x))) (tCGet K w (tC (.ref hw)) (tVar 2))) (tC (.str "}"))) [some (.int lo),some (optV hi),some (.str how.text)] H Q:=by
  rintro x rfl
  refine⟨_,rfl,hw,howsT,Sum.inr how.text,_,rfl,hHW,rfl,hows_at how,_,_,rfl,rfl,big2 (by rw[len_app,len_app,len_app,l_lb,l_comma];omega),_,_,rfl,rfl,big2 (by rw[len_app,len_app,len_app,len_app,l_lb,l_comma,l_rb];omega),q⟩
 cases hi with
 |none =>
  refine⟨_,rfl,_,rfl,ite_yes (by show decide (V.non=V.non)=true;simp) ?_⟩
  exact⟨_,_,rfl,rfl,big2 (by show(("{" ++ num lo:Str)++",").length+("":Str).length<=_;rw[len_app,len_app,l_lb,l_comma,l_e];omega),fin "" rfl⟩
 |some x =>
  refine⟨_,rfl,_,rfl,ite_no (by show ¬decide (V.int x=V.non)=true;simp) ?_⟩
  have b':(num x).length<=2:=b
  exact⟨_,rfl,x,rfl,lg (hh x rfl).1 (hh x rfl).2,_,_,rfl,rfl,big2 (by show(("{" ++ num lo:Str)++",").length+(num x).length<=_;rw[len_app,len_app,l_lb,l_comma];omega),fin (num x) rfl⟩
abbrev s_wrapped_text:Stmt:=top 42
theorem sc_wrapped_text:FnScope ["part","kinds","text"] ["part","kinds"] (defScope s_wrapped_text):=fsc
theorem ok_wrapped_text{n k:Nat}(O_pattern_text:Own P w K mg base (2+k) "pattern_text" ["pattern"] (spTxt n))(F:Fun K "wrapped_text" "wrapped_text" s_wrapped_text f fd):FnOk P w K mg base CX0 (2+k+1) f fd ["part","kinds"] (spWr K n):=by
 refine F.ok sc_wrapped_text (fun vs H Q E h=>?_) (fun cdv A outer s H vs Q E hr h=>?_)
 ·obtain⟨v,p,t,ws,rfl,_⟩:=h
  rfl
 obtain⟨v,p,t,ws,rfl,hp,hz,hw,hf,q⟩:=h
 refine ltX ?_
 intro Xz
 refine⟨_,(pss_cons (pS 2 sc_wrapped_text.nd (pe_own (O_pattern_text.mono (by omega)) hr rfl (pa_cons (pv 0) pa_nil)))
  (pss_one (ps_ret (pe_ifExp (pt_cmpR op_in_seq (pe_ix ix_tup (pv 0) pe_int (fun _ _=>rfl)) (pv 1) (by with_unfolding_all rfl)) (pe_op op_add_str (pe_op op_add_str pe_str (pv 2)) pe_str) (pv 2))))),?_⟩
 refine qe465e ?_
 intro Ez Az1
 have hs:=hp.short
 unfold Short at hs
 refine⟨_,rfl,v,p,rfl,hp,hz,fun H1 g1=>?_⟩
 have hp1:=hp.mono g1.tups
 have e:∃(a:Addr) (r:List V),v=.ref a/\H1 a=some (.tup (.str p.word::r)):=by
  cases n with
  |zero=>exact hp.elim
  |succ d =>
   obtain⟨h,ks⟩:=p
   obtain⟨a,kv,e,l,_⟩:=hp1
   obtain⟨r,q⟩:=l.head
   exact⟨a,r,e,q⟩
 obtain⟨a,r,rfl,ea⟩:=e
 have q':=q H1 g1
 unfold wrT at q'
 refine⟨_,rfl,a,_,_,_,rfl,rfl,SqT.of ea,at0,_,rfl,t,ws,rfl,.inr (hw H1 g1),rfl,hf,_,rfl,?_⟩
 show if inV (.str p.word) ws=true then _ else _
 refine ite2 (fun z=>?_) (fun z=>?_)
 ·rw[if_pos (show inV (.str p.wt.1) ws=true from z)]at q'
  exact⟨_,rfl,_,_,rfl,rfl,big2 (by rw[l_lc];omega),_,_,rfl,rfl,big2 (by rw[len_app,l_lc,l_gt];omega),q'⟩
 ·rw[if_neg (show ¬inV (.str p.wt.1) ws=true from z)]at q'
  exact⟨_,rfl,q'⟩
inductive spIsI(vs:List V)(H:Hp)(Q:VK):Prop
 |mk (c:Nat) (_:vs=[.str ⟨#[c]⟩]) (_:Q (.bl (cpB c)) H)
def spIs:Sp:=fun vs H Q _=>spIsI vs H Q
abbrev s_is_sign:Stmt:=top 45
theorem sc_is_sign:FnScope ["sign","number"] ["sign"] (defScope s_is_sign):=fsc
theorem ok_is_sign{t1 t2 t3:Tok}(T:Blt mg)(c_BLANK:mg "BLANK" = some (.int 32 t1))(c_LAST_SIGN:mg "LAST_SIGN" = some (.int 126 t2))(c_PERCENT:mg "PERCENT" = some (.int 37 t3))(F:Fun K "is_sign" "is_sign" s_is_sign f fd):FnOk P w K mg base CX0 1 f fd ["sign"] spIs:=by
 refine F.ok sc_is_sign (fun vs H Q E h=>?_) (fun cdv A outer s H vs Q E hr h=>?_)
 ·obtain⟨c,rfl,_⟩:=h
  rfl
 obtain⟨c,rfl,q⟩:=h
 refine ltX ?_
 intro Xz
 refine⟨_,(pss_cons (pS 1 sc_is_sign.nd (pe_callB call_ord rfl T.b_ord PyProof.Rows.Boot.«ord» (pa_cons (pv 0) pa_nil)))
  (pss_one (ps_ret (pe_and (pe_cmpR op_le (pe_glob (v:=.int _) rfl c_BLANK ⟨_,rfl⟩) (pv 1) (nomark _)) (pe_and (pe_cmpR op_le (pv 1) (pe_glob (v:=.int _) rfl c_LAST_SIGN ⟨_,rfl⟩) (nomark _)) (pe_one (pe_cmpR op_ne (pv 1) (pe_glob (v:=.int _) rfl c_PERCENT ⟨_,rfl⟩) (nomark _)))))))),?_⟩
 refine qe465e ?_
 intro Ez Az1
 unfold cpB at q
 refine exA rfl ⟨_,rfl,rfl,?_⟩
 refine exA rfl (exB rfl rfl (exA rfl ?_))
 by_cases h1:32<=c
 ·refine ite_yes (decide_eq_true (by show(32:Int)<=(c:Nat);omega)) ?_
  refine exA rfl (exB rfl rfl (exA rfl ?_))
  by_cases h2:c<=126
  ·refine ite_yes (decide_eq_true (by show((c:Nat):Int)<=126;omega)) ?_
   refine exA rfl ⟨rfl,?_⟩
   show Q (V.bl (!decide (V.int (c:Nat)=V.int 37))) H
   have e:decide (32<=c/\c<=126/\c≠37) = !decide (V.int (c:Nat)=V.int 37):=by
    by_cases h3:c=37
    ·rw[h3];decide
    ·rw[decide_eq_true ⟨h1,h2,h3⟩,decide_eq_false (fun z=>by injection z with z';omega)];rfl
   rw[← e]
   exact q
  ·rw[decide_eq_false (by omega)]at q
   exact ite_no (by intro z;have z':((c:Nat):Int)<=126:=of_decide_eq_true z;omega) q
 ·rw[decide_eq_false (by omega)]at q
  exact ite_no (by intro z;have z':(32:Int)<=(c:Nat):=of_decide_eq_true z;omega) q
inductive spRInI(CR:Addr)(vs:List V)(H:Hp)(Q:VK):Prop
 |mk (m dx:Addr) (t:Str) (_:vs=[.ref m,.str t]) (_:H m=some (.ins CR dx [])) (_:∀H',H' m=some (.ins CR dx (rfs t 0 0 0))->Gro [m] H H'->Q .non H')
def spRIn(CR:Addr):Sp:=fun vs H Q _=>spRInI CR vs H Q
abbrev s_Reader___init__:Stmt:=inClass (top 46) 0
theorem sc_Reader___init__:FnScope ["self","text"] ["self","text"] (defScope s_Reader___init__):=fsc
theorem ok_rin(MTR:TxtR K CR)(F:Fun K "__init__" "Reader.__init__" s_Reader___init__ f fd):FnOk P w K mg base CX0 1 f fd ["self","text"] (spRIn CR):=by
 refine F.ok sc_Reader___init__ (fun vs H Q E h=>?_) (fun cdv A outer s H vs Q E hr h=>?_)
 ·obtain⟨m,dx,t,rfl,_⟩:=h
  rfl
 obtain⟨m,dx,t,rfl,h0,q⟩:=h
 refine ltX ?_
 intro Xz
 refine⟨_,(pss_cons (ps_fld (pv 0) (pv 1) rfl)
  (pss_cons (ps_fld (pv 0) pe_int rfl)
  (pss_cons (ps_fld (pv 0) pe_int rfl)
  (pss_one (ps_fld (pv 0) pe_int rfl))))),?_⟩
 refine q657b2 ?_
 intro Ez Az1 Az2 Az3
 refine exA rfl (exA rfl ⟨m,CR,dx,_,rfl,h0,MTR.cl,MTR.a1,by show 0<1000;decide,?_⟩)
 refine exA rfl ⟨m,CR,dx,_,rfl,upd_same,MTR.cl,MTR.a2,by show 1<1000;decide,?_⟩
 refine exA rfl ⟨m,CR,dx,_,rfl,upd_same,MTR.cl,MTR.a3,by show 2<1000;decide,?_⟩
 refine exA rfl ⟨m,CR,dx,_,rfl,upd_same,MTR.cl,MTR.a4,by show 3<1000;decide,?_⟩
 rw[upd_upd,upd_upd,upd_upd]
 exact q _ (by rw[upd_same];rfl) (Gro.ins (by simp) h0 _)
inductive spRpI(CU:Addr)(vs:List V)(H:Hp)(Q:VK)(E:XK):Prop
 |mk (t:Str) (_:vs=[.str t]) (_:t.length<=2000000) (_:∀p,rAll t=some p->∀(v:V) (H':Hp),PatAt H' 8 v p->Gro [] H H'->Q v H') (_:rAll t=none->∀H',Gro [] H H'->E (.ref CU) none H')
def spRp(CU:Addr):Sp:=fun vs H Q E=>spRpI CU vs H Q E
theorem all_take{x:Str}{i:Nat}{c:Nat}(hc:x.cps[i]? = some c):((cs x).take (i+1)).map cpB=((cs x).take i).map cpB++[cpB c]:=by
 have:(cs x)[i]? = some c:=by unfold cs;rw[Array.getElem?_toList];exact hc
 rw[take_snoc this,List.map_append]
 rfl
abbrev s_read_pattern:Stmt:=top 44
theorem sc_read_pattern:FnScope ["text","reader","pattern"] ["text"] (defScope s_read_pattern):=fsc
theorem ok_rp(T:Blt mg)(MTR:TxtR K CR)(XC_Unread:XC K mg "Unread" CU CE)(O_is_sign:Own P w K mg base 1 "is_sign" ["sign"] spIs)(O_Reader:OwnC P w K mg base 1 CR "Reader" ["self","text"] (spRIn CR))(O_Reader_branches:OwnMX P w K mg base 70 CR "branches" ["self"] (spBr CR CU 9))(O_Reader_need:OwnMX P w K mg base 3 CR "need" ["self","sign"] (spNeed CR CU))
  (O_keeps_bounds:Own P w K mg base 39 "keeps_bounds" ["pattern"] (spKb 36)) (O_pattern_text:Own P w K mg base 18 "pattern_text" ["pattern"] (spTxt 8)) (F:Fun K "read_pattern" "read_pattern" s_read_pattern f fd):FnOk P w K mg base (CX1 P w) 71 f fd ["text"] (spRp CU):=by
 refine F.okX sc_read_pattern (fun vs H Q E h=>?_) (fun cdv A outer s H vs Q E hr h LX=>?_)
 ·obtain⟨t,rfl,_⟩:=h
  rfl
 obtain⟨t,rfl,hl,q,qx⟩:=h
 refine ltX ?_
 intro Xz
 refine⟨_,(pss_cons (ps_if (pt_not (pt_val (pe_callB (call_all rfl) rfl T.b_all PyProof.Rows.Boot.«all» (pa_cons (pe_lcomp rfl (show CScope _ ["text","reader","pattern"] (defScope s_read_pattern) _ from⟨rfl,by decide +kernel,rfl,by decide +kernel,by decide +kernel,by decide +kernel,by decide +kernel⟩) (pi_str (pv 0)) (fun _ _ _ _=>pts_nil) (fun _ _ _ _=>(pe_own (O_is_sign.mono (by omega)) hr rfl (pa_cons (pv 0) pa_nil)))) pa_nil)))) (pss_one (ps_raise LX rfl XC_Unread rfl (pa_cons pe_str pa_nil))) pss_nil)
  (pss_cons (pS 1 sc_read_pattern.nd (pe_ownc (O_Reader.mono (by omega)) hr rfl (pa_cons (pv 0) pa_nil)))
  (pss_cons (pS 2 sc_read_pattern.nd (pe_ownm0X LX.pass (O_Reader_branches.mono (by omega)) MTR.cl hr (pv 1)))
  (pss_cons (ps_expr (pe_ownmX LX.pass (O_Reader_need.mono (by omega)) MTR.cl hr (pv 1) (pa_cons pe_str pa_nil)))
  (pss_cons (ps_if (pt_not (pt_val (pe_own (O_keeps_bounds.mono (by omega)) hr rfl (pa_cons (pv 2) pa_nil)))) (pss_one (ps_raise LX rfl XC_Unread rfl (pa_cons pe_str pa_nil))) pss_nil)
  (pss_cons (ps_if (pt_cmpR op_ne (pe_own (O_pattern_text.mono (by omega)) hr rfl (pa_cons (pv 2) pa_nil)) (pv 0) (nomark _)) (pss_one (ps_raise LX rfl XC_Unread rfl (pa_cons pe_str pa_nil))) pss_nil)
  (pss_one (ps_ret (pv 2))))))))),?_⟩
 refine q323f7 ?_
 intro Ez Az1 Az2 Az3 Az4 Az5 Az6 Az7 Az8 Az9
 have hsz:t.cps.size=t.length:=rfl
 have hcs:(cs t).length=t.length:=cs_len t
 unfold rAll at q qx
 refine exA rfl ⟨t,rfl,?_⟩
 refine lc_str (fun i ys H'=>ys=(((cs t).take i).map cpB).map V.bl/\H'=H) ⟨rfl,rfl⟩ (by rw[hsz];exact bgl (by omega)) (fun i ys H' ⟨e1,_⟩=>by rw[e1];simp;omega) ?_ ?_
 ·rintro i ys H' c hc ⟨rfl,rfl⟩
  refine exA rfl ⟨c,rfl,?_,rfl⟩
  rw[all_take hc,List.map_append]
  rfl
 rintro ys H' ⟨rfl,rfl⟩ l hl'
 rw[hsz,← hcs,List.take_length]at *
 refine⟨l,(cs t).map cpB,rfl,SqL.of upd_same,exA rfl ?_⟩
 have gl:=Gro.new (S:=[]) hl' (.lst (((cs t).map cpB).map V.bl))
 have eall:((cs t).map cpB).all id=(cs t).all cpB:=by rw[List.all_map];rfl
 generalize upd H' l (.lst (((cs t).map cpB).map V.bl))=H1 at *
 rw[eall]
 by_cases h0:(cs t).all cpB=true
 case neg =>
  rw[if_neg h0]at qx
  exact ite_yes (by rw[Bool.eq_false_iff.mpr h0];rfl) ⟨sz,qx rfl H1 gl⟩
 simp only[if_pos h0]at q qx
 refine ite_no (by rw[h0];decide) ?_
 refine exA rfl fun m dx hm hdx hne=>?_
 refine⟨m,dx,t,rfl,upd_same,fun H2 hm2 g2=>⟨rfl,?_⟩⟩
 have gA:∀b o,H' b=some o->b≠m/\H2 b=some o:=fun b o h=>by
  have h1:=gl.keep b o h (by simp)
  have bm:=ne_of_none h1 hm
  have bd:=ne_of_none h1 hdx
  exact⟨bm,g2.keep b o (by rw[upd_ne bm,upd_ne bd];exact h1) (by simpa using bm)⟩
 have gM:∀H3,Gro [m] H2 H3->Gro [] H' H3:=fun H3 g=>by
  have k:∀b o,H' b=some o->H3 b=some o:=fun b o h=>by
   obtain⟨bm,h2⟩:=gA b o h
   exact g.keep b o h2 (by simpa using bm)
  exact⟨fun b o h _=>k b o h,fun b xs h=>k b _ h⟩
 have hR:RdA CR H2 m dx t (0:Nat) 0 0:=⟨hm2,by omega,by omega⟩
 refine exA rfl ⟨m,dx,exA rfl ⟨hR.1,rf_no (by decide +kernel),m,dx,t,0,0,0,rfl,hR,Nat.zero_le _,by omega,fun p j c' e v H3 hP hR3 g3=>?_,fun e H3 g3=>qx (by rw[show rBr t 9 0 0=none from e]) H3 (gM H3 g3)⟩⟩
 have e:rBr t 9 0 0=some (p,j,c'):=e
 obtain⟨_,jt,hsh,_⟩:=rBr_ok 9 (Nat.zero_le _) e
 simp only[e]at q qx
 refine exA rfl ⟨m,dx,exA rfl ⟨hR3.1,rf_no (by decide +kernel),m,dx,t,_,_,c',0,rfl,hR3,by omega,fun h2 H4 hR4 g4=>?_,fun h2 H4 g4=>qx (if_neg h2) H4 (gM H4 (g3.trans g4))⟩⟩
 simp only[if_pos h2]at q qx
 have hP4:=hP.mono g4.tups
 refine exA rfl ⟨v,p,rfl,hP4,fun H5 g5=>exA rfl ?_⟩
 have g25:Gro [] H' H5:=gM H5 ((g3.trans g4).trans (g5.mono (by simp)))
 by_cases h3:kbB p=true
 case neg =>
  rw[if_neg h3]at qx
  exact ite_yes (by rw[Bool.eq_false_iff.mpr h3];rfl) ⟨sz,qx rfl H5 g25⟩
 simp only[if_pos h3]at q qx
 refine ite_no (by rw[h3];decide) ?_
 obtain⟨b1,b2,b3,b4⟩:=kb_ok h3
 have hgr:=hsh.grs
 have hA:PatAt H5 8 v p:=PatW.toAt b1 8 (hP4.mono g5.tups) hsh b3 b4 (Int.le_refl 0) (by omega)
 refine exA rfl ⟨v,p,rfl,hA,by omega,fun H6 g6=>exA rfl ⟨rfl,exA rfl ?_⟩⟩
 have g26:Gro [] H' H6:=g25.trans g6
 by_cases h4:p.txt=t
 ·rw[if_pos h4]at q
  exact ite_no (by rw[h4];simp) (exA rfl (q p rfl v H6 (hA.mono g6.tups) g26))
 ·rw[if_neg h4]at qx
  exact ite_yes (by simp[h4]) ⟨sz,qx rfl H6 g26⟩
end
theorem w_bare(h:Hd):(valV bareT (Sum.inr h.word)).isSome=(match h.wd with | .any=>true | .beg=>true | .fin=>true | _=>false):=by rw[h.word_wd];cases h.wd <;> decide +kernel
theorem w_lists(h:Hd):(valV listsT (Sum.inr h.word)).isSome=(match h.wd with | .inn=>true | .out=>true | _=>false):=by rw[h.word_wd];cases h.wd <;> decide +kernel
theorem size_at{ks:List Pat}{i:Nat}{p:Pat}(h:ks[i]? = some p):p.size<=sizeL ks:=by
 induction ks generalizing i with
 |nil=>simp at h
 |cons k ks ih =>
  rw[sizeL]
  cases i with
  |zero=>simp at h;subst h;omega
  |succ i=>have:=ih (i:=i) (by simpa using h);omega
section
variable{P:Program}{w:World}{K:W.Frag}{mg:Str->Option Value}{base:Heap}{f:Addr}{fd:FuncData}
theorem runs_lc{H:Hp}{r:Addr}{rs:List (Str×Str)}{σ:L2.St}{Fin:List V->Hp->Prop}(hr:RunsAt H r rs)(q:Fin ((rs.map runT).map V.str) H) :
  LCWN 2 (gTup K 2 (gCons (gName 0) (gCons (gName 1) gNil))) (Itt K r) σ tYes (tCall spRnT [] E0 (tCons (tVar 0) (tCons (tVar 1) tNil))) Fin H:=by
 obtain⟨vs,hv,hp,hz⟩:=hr
 have hl:=Paired.length hp
 refine lcN_tup (xs:=vs) (fun i ys H'=>ys=((rs.take i).map runT).map V.str/\H'=H) ⟨rfl,rfl⟩ (small1000 (by omega)) (fun i ys H' ⟨e,_⟩=>by rw[e];simp;omega) (fun i ys H' ⟨_,e⟩=>by rw[e];exact SqT.of hv) ?_ ?_
 ·rintro i ys H' x hx ⟨rfl,rfl⟩ τ hτ
  obtain⟨p,hpi,h1,h2,a,rfl,ha⟩:=paired_get hp hx
  match τ,hτ with
  | [t1,t2],_ =>
   refine⟨a,_,rfl,SqT.of ha,rfl,_,_,rfl,_,_,rfl,rfl,⟨[some (.str p.1),some (.str p.2)],rfl,rfl⟩,?_⟩
   refine⟨_,rfl,_,rfl,p,rfl,h1,h2,?_,rfl⟩
   rw[lift_map hpi,List.map_append]
   rfl
 ·rintro ys H' ⟨rfl,rfl⟩
  rw[hl,List.take_length]
  exact q
abbrev s_pattern_text:Stmt:=top 39
theorem sc_pattern_text:FnScope ["pattern","kind"] ["pattern"] (defScope s_pattern_text):=fsc
theorem ok_pattern_text{n k:Nat}{bt lt bk wr wt:Addr}{ts:Tok}(T:Blt mg)(c_STROKED:mg "STROKED" = some (.str stroked ts))(c_BARE:mg "BARE" = some (.ref bt))(hBT:DcK K w bt bareT)(c_LISTS:mg "LISTS" = some (.ref lt))(hLT:DcK K w lt listsT)(c_BRACKETS:mg "BRACKETS" = some (.ref bk))(hBK:DcK K w bk bracketsT)
  (c_WRAPPED_IN_ROW:mg "WRAPPED_IN_ROW" = some (.ref wr)) (hWR:∀H,SqT K H wr wrapRow) (c_WRAPPED_IN_TIMES:mg "WRAPPED_IN_TIMES" = some (.ref wt)) (hWT:∀H,SqT K H wt wrapTimes)
  (O_sign_text:Own P w K mg base 1 "sign_text" ["sign","stroked"] spSg) (O_run_text:Own P w K mg base 2 "run_text" ["low","high"] spRnT) (O_turns_text:Own P w K mg base 1 "turns_text" ["low","high","how"] spTurnsT) (O_wrapped_text:Own P w K mg base (2+k+1) "wrapped_text" ["part","kinds"] (spWr K n))
  (O_pattern_text:Own P w K mg base (2+k) "pattern_text" ["pattern"] (spTxt n)) (F:Fun K "pattern_text" "pattern_text" s_pattern_text f fd):FnOk P w K mg base CX0 (2+k+2) f fd ["pattern"] (spTxt (n+1)):=by
 refine F.ok sc_pattern_text (fun vs H Q E h=>?_) (fun cdv A outer s H vs Q E hr h=>?_)
 ·obtain⟨v,p,rfl,_⟩:=h
  rfl
 obtain⟨v,⟨h,ks⟩,rfl,hp,hz,q⟩:=h
 refine ltX ?_
 intro Xz
 refine⟨_,(pss_cons (pS 1 sc_pattern_text.nd (pe_ix ix_tup (pv 0) pe_int (fun _ _=>rfl)))
  (pss_cons (ps_if (pt_cmpR op_eq (pv 1) pe_str (nomark _)) (pss_one (ps_ret (pe_own (O_sign_text.mono (by omega)) hr rfl (pa_cons (pe_ix ix_tup (pv 0) pe_int (fun _ _=>rfl)) (pa_cons (pe_glob (v:=.str _) rfl c_STROKED ⟨_,rfl⟩) pa_nil))))) pss_nil)
  (pss_cons (ps_if (pt_cmpR op_cin (pv 1) (pe_glob (v:=.ref _) rfl c_BARE rfl) (by with_unfolding_all rfl)) (pss_one (ps_ret (pe_cget (pe_glob (v:=.ref _) rfl c_BARE rfl) (pv 1) (fun _ _=>rfl)))) pss_nil)
  (pss_cons (ps_if (pt_cmpR op_cin (pv 1) (pe_glob (v:=.ref _) rfl c_LISTS rfl) (by with_unfolding_all rfl)) (pss_one (ps_ret (pe_op op_add_str (pe_op op_add_str (pe_cget (pe_glob (v:=.ref _) rfl c_LISTS rfl) (pv 1) (fun _ _=>rfl)) (pe_bm PySem.F.plainAttrs_str PySem.F.slot_str_join PySem.F.type_str_join mt_join pe_str (pa_cons (pe_lcomp2 rfl (show CScopeN ["low","high"] ["pattern","kind"] (defScope s_pattern_text) _ from⟨rfl,by decide +kernel,by decide +kernel,by decide +kernel,by decide +kernel,by decide +kernel,by decide +kernel⟩) (pi_tup (pe_ix ix_tup (pv 0) pe_int (fun _ _=>rfl))) (fun _ _ _ _=>pts_nil) (fun _ _ _ _=>(pe_own (O_run_text.mono (by omega)) hr rfl (pa_cons (pv 0) (pa_cons (pv 1) pa_nil))))) pa_nil))) pe_str))) pss_nil)
  (pss_cons (ps_if (pt_cmpR op_eq (pv 1) pe_str (nomark _)) (pss_one (ps_ret (pe_bm PySem.F.plainAttrs_str PySem.F.slot_str_join PySem.F.type_str_join mt_join pe_str (pa_cons (pe_lcomp rfl (show CScope _ ["pattern","kind"] (defScope s_pattern_text) _ from⟨rfl,by decide +kernel,rfl,by decide +kernel,by decide +kernel,by decide +kernel,by decide +kernel⟩) (pi_tup (pe_ix ix_tup (pv 0) pe_int (fun _ _=>rfl))) (fun _ _ _ _=>pts_nil) (fun _ _ _ _=>(pe_own (O_wrapped_text.mono (by omega)) hr rfl (pa_cons (pv 0) (pa_cons (pe_glob (v:=.ref _) rfl c_WRAPPED_IN_ROW rfl) pa_nil))))) pa_nil)))) pss_nil)
  (pss_cons (ps_if (pt_cmpR op_eq (pv 1) pe_str (nomark _)) (pss_one (ps_ret (pe_bm PySem.F.plainAttrs_str PySem.F.slot_str_join PySem.F.type_str_join mt_join pe_str (pa_cons (pe_lcomp rfl (show CScope _ ["pattern","kind"] (defScope s_pattern_text) _ from⟨rfl,by decide +kernel,rfl,by decide +kernel,by decide +kernel,by decide +kernel,by decide +kernel⟩) (pi_tup (pe_ix ix_tup (pv 0) pe_int (fun _ _=>rfl))) (fun _ _ _ _=>pts_nil) (fun _ _ _ _=>(pe_own (O_pattern_text.mono (by omega)) hr rfl (pa_cons (pv 0) pa_nil)))) pa_nil)))) pss_nil)
  (pss_cons (ps_if (pt_cmpR op_eq (pv 1) pe_str (nomark _)) (pss_one (ps_ret (pe_op op_add_str (pe_own (O_wrapped_text.mono (by omega)) hr rfl (pa_cons (pe_ix ix_tup (pv 0) pe_int (fun _ _=>rfl)) (pa_cons (pe_glob (v:=.ref _) rfl c_WRAPPED_IN_TIMES rfl) pa_nil))) (pe_own (O_turns_text.mono (by omega)) hr rfl (pa_cons (pe_ix ix_tup (pv 0) pe_int (fun _ _=>rfl)) (pa_cons (pe_ix ix_tup (pv 0) pe_int (fun _ _=>rfl)) (pa_cons (pe_ix ix_tup (pv 0) pe_int (fun _ _=>rfl)) pa_nil))))))) pss_nil)
  (pss_cons (ps_if (pt_cmpR op_eq (pv 1) pe_str (nomark _)) (pss_one (ps_ret (pe_op op_add_str (pe_op op_add_str pe_str (pe_own (O_pattern_text.mono (by omega)) hr rfl (pa_cons (pe_ix ix_tup (pv 0) pe_int (fun _ _=>rfl)) pa_nil))) pe_str))) pss_nil)
  (pss_cons (ps_if (pt_cmpR op_eq (pv 1) pe_str (nomark _)) (pss_one (ps_ret (pe_op op_add_str pe_str (pe_callTy call_str_int rfl T.b_str PyProof.Rows.Boot.«str» (pa_cons (pe_ix ix_tup (pv 0) pe_int (fun _ _=>rfl)) pa_nil))))) pss_nil)
  (pss_cons (ps_if (pt_cmpR op_eq (pv 1) pe_str (nomark _)) (pss_one (ps_ret (pe_op op_add_str (pe_op op_add_str (pe_op op_add_str (pe_op op_add_str (pe_op op_add_str pe_str (pe_callTy call_str_int rfl T.b_str PyProof.Rows.Boot.«str» (pa_cons (pe_ix ix_tup (pv 0) pe_int (fun _ _=>rfl)) pa_nil))) (pe_own (O_pattern_text.mono (by omega)) hr rfl (pa_cons (pe_ix ix_tup (pv 0) pe_int (fun _ _=>rfl)) pa_nil))) pe_str) (pe_own (O_pattern_text.mono (by omega)) hr rfl (pa_cons (pe_ix ix_tup (pv 0) pe_int (fun _ _=>rfl)) pa_nil))) pe_str))) pss_nil)
  (pss_one (ps_ret (pe_op op_add_str (pe_op op_add_str (pe_op op_add_str pe_str (pe_cget (pe_glob (v:=.ref _) rfl c_BRACKETS rfl) (pv 1) (fun _ _=>rfl))) (pe_own (O_pattern_text.mono (by omega)) hr rfl (pa_cons (pe_ix ix_tup (pv 0) pe_int (fun _ _=>rfl)) pa_nil))) pe_str))))))))))))),?_⟩
 refine q823c0 ?_
 intro Ez Az1 Az2 Az3 Az4 Az5 Az6 Az7 Az8 Az9 Az10 Az11 Az12 Az13 Az14 Az15 Az16 Az17 Az18 Az19
 rw[txt_node]at q
 have hsh:=hp.short
 unfold Short at hsh
 rw[txt_node]at hsh
 rw[size_node]at hz hsh
 obtain⟨a,kv,rfl,lay,hk⟩:=id hp
 obtain⟨r0,ea⟩:=lay.head
 have hkl:=Paired.length hk
 have few:=lay.few
 refine⟨_,rfl,a,_,_,_,rfl,rfl,SqT.of ea,at0,?_⟩
 have bare:=w_bare h
 have lists:=w_lists h
 cases h with
 |sign x =>
  refine⟨_,rfl,rfl,_,rfl,ite_yes (show isw "sign" "sign" = true by decide +kernel) ?_⟩
  exact⟨_,rfl,a,_,_,_,rfl,rfl,SqT.of lay.2.2,rfl,x,stroked,rfl,lay.2.1,q H Gro.refl⟩
 |any =>
  refine⟨_,rfl,rfl,_,rfl,ite_no (show ¬isw "any" "sign" = true by decide +kernel) ?_⟩
  refine⟨_,rfl,bt,bareT,Sum.inr "any",rfl,hBT,rfl,_,rfl,ite_yes bare ?_⟩
  exact⟨_,rfl,bt,bareT,Sum.inr "any",_,rfl,hBT,rfl,(by decide +kernel:valV bareT (Sum.inr "any")=some (.str ".")),q H Gro.refl⟩
 |beg =>
  refine⟨_,rfl,rfl,_,rfl,ite_no (show ¬isw "begin" "sign" = true by decide +kernel) ?_⟩
  refine⟨_,rfl,bt,bareT,Sum.inr "begin",rfl,hBT,rfl,_,rfl,ite_yes bare ?_⟩
  exact⟨_,rfl,bt,bareT,Sum.inr "begin",_,rfl,hBT,rfl,(by decide +kernel:valV bareT (Sum.inr "begin")=some (.str "^")),q H Gro.refl⟩
 |fin =>
  refine⟨_,rfl,rfl,_,rfl,ite_no (show ¬isw "end" "sign" = true by decide +kernel) ?_⟩
  refine⟨_,rfl,bt,bareT,Sum.inr "end",rfl,hBT,rfl,_,rfl,ite_yes bare ?_⟩
  exact⟨_,rfl,bt,bareT,Sum.inr "end",_,rfl,hBT,rfl,(by decide +kernel:valV bareT (Sum.inr "end")=some (.str "$")),q H Gro.refl⟩
 |inn rs =>
  obtain⟨_,r,e,hr'⟩:=lay
  have hrt:=hr'.tame
  have h1:=runs_sum hrt
  have h2:=runs_join hrt
  refine⟨_,rfl,rfl,_,rfl,ite_no (show ¬isw "in" "sign" = true by decide +kernel) ?_⟩
  refine⟨_,rfl,bt,bareT,Sum.inr "in",rfl,hBT,rfl,_,rfl,ite_no (by rw[show(valV bareT (Sum.inr "in")).isSome=false from bare];decide) ?_⟩
  refine⟨_,rfl,lt,listsT,Sum.inr "in",rfl,hLT,rfl,_,rfl,ite_yes lists ?_⟩
  refine⟨_,rfl,lt,listsT,Sum.inr "in",_,rfl,hLT,rfl,(by decide +kernel:valV listsT (Sum.inr "in")=some (.str "[")),rfl,?_⟩
  obtain⟨vs,hv,hpv,hvz⟩:=id hr'
  refine⟨_,rfl,a,_,_,_,rfl,rfl,SqT.of e,rfl,r,rfl,⟨vs,SqT.of hv⟩,runs_lc (K:=K) hr' fun l hl=>?_⟩
  refine⟨"",l,rs.map runT,rfl,rfl,SqL.of upd_same,by rw[l_e];omega,_,_,rfl,rfl,big2 (by rw[l_ls];omega),_,_,rfl,rfl,big2 (by rw[len_app,l_ls,l_rs];omega),q _ (Gro.new hl _)⟩
 |out rs =>
  obtain⟨_,r,e,hr'⟩:=lay
  have hrt:=hr'.tame
  have h1:=runs_sum hrt
  have h2:=runs_join hrt
  refine⟨_,rfl,rfl,_,rfl,ite_no (show ¬isw "out" "sign" = true by decide +kernel) ?_⟩
  refine⟨_,rfl,bt,bareT,Sum.inr "out",rfl,hBT,rfl,_,rfl,ite_no (by rw[show(valV bareT (Sum.inr "out")).isSome=false from bare];decide) ?_⟩
  refine⟨_,rfl,lt,listsT,Sum.inr "out",rfl,hLT,rfl,_,rfl,ite_yes lists ?_⟩
  refine⟨_,rfl,lt,listsT,Sum.inr "out",_,rfl,hLT,rfl,(by decide +kernel:valV listsT (Sum.inr "out")=some (.str "[^")),rfl,?_⟩
  obtain⟨vs,hv,hpv,hvz⟩:=id hr'
  refine⟨_,rfl,a,_,_,_,rfl,rfl,SqT.of e,rfl,r,rfl,⟨vs,SqT.of hv⟩,runs_lc (K:=K) hr' fun l hl=>?_⟩
  refine⟨"",l,rs.map runT,rfl,rfl,SqL.of upd_same,by rw[l_e];omega,_,_,rfl,rfl,big2 (by rw[l_lsh];omega),_,_,rfl,rfl,big2 (by rw[len_app,l_lsh,l_rs];omega),q _ (Gro.new hl _)⟩
 |row =>
  obtain⟨_,r,e,er⟩:=lay
  have ih:∀k∈ks,Short k:=fun k hk'=>by
   obtain⟨x,_,z⟩:=paired_mem hk k hk'
   exact z.short
  have hsum:=wr_sum wrapRow ih
  refine⟨_,rfl,rfl,_,rfl,ite_no (by decide +kernel) ?_⟩
  refine⟨_,rfl,bt,bareT,Sum.inr "row",rfl,hBT,rfl,_,rfl,ite_no (by rw[show(valV bareT (Sum.inr "row")).isSome=false from bare];decide) ?_⟩
  refine⟨_,rfl,lt,listsT,Sum.inr "row",rfl,hLT,rfl,_,rfl,ite_no (by rw[show(valV listsT (Sum.inr "row")).isSome=false from lists];decide) ?_⟩
  refine⟨_,rfl,rfl,_,rfl,ite_yes (by decide +kernel) ?_⟩
  refine⟨rfl,_,rfl,a,_,_,_,rfl,rfl,SqT.of e,rfl,r,rfl,⟨_,SqT.of er⟩,?_⟩
  refine lc_tup (xs:=kv) (fun i ys H'=>ys=(((ks.take i).map Pat.wt).map (wrT wrapRow)).map V.str/\Gro [] H H') ⟨rfl,Gro.refl⟩ (small1000 (by omega)) (fun i ys H' ⟨e,_⟩=>by rw[e];simp;omega) (fun i ys H' ⟨_,g⟩=>SqT.of (g.tups _ _ er)) ?_ ?_
  ·rintro i ys H1 x hx ⟨rfl,g1⟩
   obtain⟨p,hpi,hpx⟩:=paired_get hk hx
   have hsp:=size_at hpi
   refine⟨_,rfl,x,p,wr,wrapRow,rfl,hpx.mono g1.tups,by omega,fun H' _=>hWR H',rfl,fun H2 g2=>⟨?_,g1.trans g2⟩⟩
   rw[take_snoc hpi]
   simp
  ·rintro ys H1 ⟨rfl,g1⟩ l hl
   rw[hkl,List.take_length]
   refine⟨"",l,(ks.map Pat.wt).map (wrT wrapRow),rfl,rfl,SqL.of upd_same,by rw[l_e];omega,q _ (g1.trans (Gro.new hl _))⟩
 |alt =>
  obtain⟨_,_,r,e,er⟩:=lay
  have ih:∀k∈ks,Short k:=fun k hk'=>by
   obtain⟨x,_,z⟩:=paired_mem hk k hk'
   exact z.short
  have hsum:=tx_sum ih
  refine⟨_,rfl,rfl,_,rfl,ite_no (by decide +kernel) ?_⟩
  refine⟨_,rfl,bt,bareT,Sum.inr "or",rfl,hBT,rfl,_,rfl,ite_no (by rw[show(valV bareT (Sum.inr "or")).isSome=false from bare];decide) ?_⟩
  refine⟨_,rfl,lt,listsT,Sum.inr "or",rfl,hLT,rfl,_,rfl,ite_no (by rw[show(valV listsT (Sum.inr "or")).isSome=false from lists];decide) ?_⟩
  refine⟨_,rfl,rfl,_,rfl,ite_no (by decide +kernel) ?_⟩
  refine⟨_,rfl,rfl,_,rfl,ite_yes (by decide +kernel) ?_⟩
  refine⟨rfl,_,rfl,a,_,_,_,rfl,rfl,SqT.of e,rfl,r,rfl,⟨_,SqT.of er⟩,?_⟩
  refine lc_tup (xs:=kv) (fun i ys H'=>ys=(((ks.take i).map Pat.wt).map (·.2)).map V.str/\Gro [] H H') ⟨rfl,Gro.refl⟩ (small1000 (by omega)) (fun i ys H' ⟨e,_⟩=>by rw[e];simp;omega) (fun i ys H' ⟨_,g⟩=>SqT.of (g.tups _ _ er)) ?_ ?_
  ·rintro i ys H1 x hx ⟨rfl,g1⟩
   obtain⟨p,hpi,hpx⟩:=paired_get hk hx
   have hsp:=size_at hpi
   refine⟨_,rfl,x,p,rfl,hpx.mono g1.tups,by omega,fun H2 g2=>⟨?_,g1.trans g2⟩⟩
   rw[take_snoc hpi]
   simp[Pat.wt]
  ·rintro ys H1 ⟨rfl,g1⟩ l hl
   rw[hkl,List.take_length]
   refine⟨"|",l,(ks.map Pat.wt).map (·.2),rfl,rfl,SqL.of upd_same,by rw[l_bar];simp only[List.length_map,Nat.mul_one];omega,?_⟩
   exact q _ (g1.trans (Gro.new hl (.lst (((ks.map Pat.wt).map (·.2)).map V.str))))
 |times lo hi how =>
  obtain⟨hb,k,e0,e⟩:=lay
  subst e0
  refine⟨_,rfl,rfl,_,rfl,ite_no (show ¬isw "times" "sign" = true by decide +kernel) ?_⟩
  refine⟨_,rfl,bt,bareT,Sum.inr "times",rfl,hBT,rfl,_,rfl,ite_no (by rw[show(valV bareT (Sum.inr "times")).isSome=false from bare];decide) ?_⟩
  refine⟨_,rfl,lt,listsT,Sum.inr "times",rfl,hLT,rfl,_,rfl,ite_no (by rw[show(valV listsT (Sum.inr "times")).isSome=false from lists];decide) ?_⟩
  refine⟨_,rfl,rfl,_,rfl,ite_no (show ¬isw "times" "row" = true by decide +kernel) ?_⟩
  refine⟨_,rfl,rfl,_,rfl,ite_no (show ¬isw "times" "or" = true by decide +kernel) ?_⟩
  refine⟨_,rfl,rfl,_,rfl,ite_yes (show isw "times" "times" = true by decide +kernel) ?_⟩
  match ks,hk with
  | [p],.cons hpk .nil =>
   rw[sizeL_one]at hz hsh
   have hsh':(wrT wrapTimes p.wt++turnsT lo hi how:Str).length+10<=150*(1+p.size):=hsh
   rw[len_app]at hsh'
   refine⟨_,rfl,a,_,_,_,rfl,rfl,SqT.of e,rfl,k,p,wt,wrapTimes,rfl,hpk,by omega,fun H' _=>hWT H',rfl,fun H1 g1=>?_⟩
   have e1:=g1.tups _ _ e
   exact⟨_,rfl,a,_,_,_,rfl,rfl,SqT.of e1,rfl,_,rfl,a,_,_,_,rfl,rfl,SqT.of e1,rfl,_,rfl,a,_,_,_,rfl,rfl,SqT.of e1,rfl,lo,hi,how,rfl,hb,_,_,rfl,rfl,big2 (by omega),q H1 g1⟩
 |grp j =>
  obtain⟨_,k,e0,e⟩:=lay
  subst e0
  refine⟨_,rfl,rfl,_,rfl,ite_no (show ¬isw "group" "sign" = true by decide +kernel) ?_⟩
  refine⟨_,rfl,bt,bareT,Sum.inr "group",rfl,hBT,rfl,_,rfl,ite_no (by rw[show(valV bareT (Sum.inr "group")).isSome=false from bare];decide) ?_⟩
  refine⟨_,rfl,lt,listsT,Sum.inr "group",rfl,hLT,rfl,_,rfl,ite_no (by rw[show(valV listsT (Sum.inr "group")).isSome=false from lists];decide) ?_⟩
  refine⟨_,rfl,rfl,_,rfl,ite_no (show ¬isw "group" "row" = true by decide +kernel) ?_⟩
  refine⟨_,rfl,rfl,_,rfl,ite_no (show ¬isw "group" "or" = true by decide +kernel) ?_⟩
  refine⟨_,rfl,rfl,_,rfl,ite_no (show ¬isw "group" "times" = true by decide +kernel) ?_⟩
  refine⟨_,rfl,rfl,_,rfl,ite_yes (show isw "group" "group" = true by decide +kernel) ?_⟩
  match ks,hk with
  | [p],.cons hpk .nil =>
   rw[sizeL_one]at hz hsh
   have hs1:=hpk.short
   unfold Short at hs1
   refine⟨_,rfl,a,_,_,_,rfl,rfl,SqT.of e,rfl,k,p,rfl,hpk,by omega,fun H1 g1=>?_⟩
   exact⟨_,_,rfl,rfl,big2 (by rw[l_lp];omega),_,_,rfl,rfl,big2 (by rw[len_app,l_lp,l_rp];omega),q H1 g1⟩
 |again j =>
  obtain⟨hb,_,e⟩:=lay
  have hn:=num_len hb.1 hb.2
  refine⟨_,rfl,rfl,_,rfl,ite_no (show ¬isw "again" "sign" = true by decide +kernel) ?_⟩
  refine⟨_,rfl,bt,bareT,Sum.inr "again",rfl,hBT,rfl,_,rfl,ite_no (by rw[show(valV bareT (Sum.inr "again")).isSome=false from bare];decide) ?_⟩
  refine⟨_,rfl,lt,listsT,Sum.inr "again",rfl,hLT,rfl,_,rfl,ite_no (by rw[show(valV listsT (Sum.inr "again")).isSome=false from lists];decide) ?_⟩
  refine⟨_,rfl,rfl,_,rfl,ite_no (show ¬isw "again" "row" = true by decide +kernel) ?_⟩
  refine⟨_,rfl,rfl,_,rfl,ite_no (show ¬isw "again" "or" = true by decide +kernel) ?_⟩
  refine⟨_,rfl,rfl,_,rfl,ite_no (show ¬isw "again" "times" = true by decide +kernel) ?_⟩
  refine⟨_,rfl,rfl,_,rfl,ite_no (show ¬isw "again" "group" = true by decide +kernel) ?_⟩
  refine⟨_,rfl,rfl,_,rfl,ite_yes (show isw "again" "again" = true by decide +kernel) ?_⟩
  exact⟨_,rfl,a,_,_,_,rfl,rfl,SqT.of e,rfl,j,rfl,lg hb.1 hb.2,_,_,rfl,rfl,big2 (by show _+(num j).length<=_;rw[l_amp];omega),q H Gro.refl⟩
 |hav j =>
  obtain⟨hb,y,z',e0,e⟩:=lay
  subst e0
  have hn:=num_len hb.1 hb.2
  refine⟨_,rfl,rfl,_,rfl,ite_no (show ¬isw "have" "sign" = true by decide +kernel) ?_⟩
  refine⟨_,rfl,bt,bareT,Sum.inr "have",rfl,hBT,rfl,_,rfl,ite_no (by rw[show(valV bareT (Sum.inr "have")).isSome=false from bare];decide) ?_⟩
  refine⟨_,rfl,lt,listsT,Sum.inr "have",rfl,hLT,rfl,_,rfl,ite_no (by rw[show(valV listsT (Sum.inr "have")).isSome=false from lists];decide) ?_⟩
  refine⟨_,rfl,rfl,_,rfl,ite_no (show ¬isw "have" "row" = true by decide +kernel) ?_⟩
  refine⟨_,rfl,rfl,_,rfl,ite_no (show ¬isw "have" "or" = true by decide +kernel) ?_⟩
  refine⟨_,rfl,rfl,_,rfl,ite_no (show ¬isw "have" "times" = true by decide +kernel) ?_⟩
  refine⟨_,rfl,rfl,_,rfl,ite_no (show ¬isw "have" "group" = true by decide +kernel) ?_⟩
  refine⟨_,rfl,rfl,_,rfl,ite_no (show ¬isw "have" "again" = true by decide +kernel) ?_⟩
  refine⟨_,rfl,rfl,_,rfl,ite_yes (show isw "have" "have" = true by decide +kernel) ?_⟩
  match ks,hk with
  | [p,p'],.cons hpk (.cons hpk' .nil) =>
   rw[sizeL,sizeL_one]at hz hsh
   have hs1:=hpk.short
   have hs2:=hpk'.short
   unfold Short at hs1 hs2
   refine⟨_,rfl,a,_,_,_,rfl,rfl,SqT.of e,rfl,j,rfl,lg hb.1 hb.2,_,_,rfl,rfl,big2 (by show _+(num j).length<=_;rw[l_lt];omega),?_⟩
   refine⟨_,rfl,a,_,_,_,rfl,rfl,SqT.of e,rfl,y,p,rfl,hpk,by omega,fun H1 g1=>?_⟩
   have e1:=g1.tups _ _ e
   refine⟨_,_,rfl,rfl,big2 (by show("<" ++ num j:Str).length+_<=_;rw[len_app,l_lt];omega),_,_,rfl,rfl,big2 (by show(("<" ++ num j:Str)++p.txt).length+_<=_;rw[len_app,len_app,l_lt,l_til];omega),?_⟩
   refine⟨_,rfl,a,_,_,_,rfl,rfl,SqT.of e1,rfl,z',p',rfl,hpk'.mono g1.tups,by omega,fun H2 g2=>?_⟩
   exact⟨_,_,rfl,rfl,big2 (by show((("<" ++ num j:Str)++p.txt)++"~").length+_<=_;rw[len_app,len_app,len_app,l_lt,l_til];omega),_,_,rfl,rfl,big2 (by show(((("<" ++ num j:Str)++p.txt)++"~")++p'.txt).length+_<=_;rw[len_app,len_app,len_app,len_app,l_lt,l_til,l_gt];omega),q H2 (g1.trans g2)⟩
 |look lk =>
  obtain⟨k,e0,e⟩:=lay
  subst e0
  have t:isw lk.text "sign" = false/\isw lk.text "row" = false/\isw lk.text "or" = false/\isw lk.text "times" = false/\isw lk.text "group" = false/\isw lk.text "again" = false/\isw lk.text "have" = false/\(valV bareT (Sum.inr lk.text)).isSome=false/\(valV listsT (Sum.inr lk.text)).isSome=false:=by cases lk <;> decide +kernel
  obtain⟨t0,t1,t2,t3,t4,t5,t6,t7,t8⟩:=t
  refine⟨_,rfl,rfl,_,rfl,ite_no (show ¬isw lk.text "sign" = true by rw[t0];decide) ?_⟩
  refine⟨_,rfl,bt,bareT,Sum.inr lk.text,rfl,hBT,rfl,_,rfl,ite_no (by rw[t7];decide) ?_⟩
  refine⟨_,rfl,lt,listsT,Sum.inr lk.text,rfl,hLT,rfl,_,rfl,ite_no (by rw[t8];decide) ?_⟩
  refine⟨_,rfl,rfl,_,rfl,ite_no (show ¬isw lk.text "row" = true by rw[t1];decide) ?_⟩
  refine⟨_,rfl,rfl,_,rfl,ite_no (show ¬isw lk.text "or" = true by rw[t2];decide) ?_⟩
  refine⟨_,rfl,rfl,_,rfl,ite_no (show ¬isw lk.text "times" = true by rw[t3];decide) ?_⟩
  refine⟨_,rfl,rfl,_,rfl,ite_no (show ¬isw lk.text "group" = true by rw[t4];decide) ?_⟩
  refine⟨_,rfl,rfl,_,rfl,ite_no (show ¬isw lk.text "again" = true by rw[t5];decide) ?_⟩
  refine⟨_,rfl,rfl,_,rfl,ite_no (show ¬isw lk.text "have" = true by rw[t6];decide) ?_⟩
  match ks,hk with
  | [p],.cons hpk .nil =>
   rw[sizeL_one]at hz hsh
   have hs1:=hpk.short
   unfold Short at hs1
   have hll:=lk_len lk
   refine⟨_,rfl,bk,bracketsT,Sum.inr lk.text,_,rfl,hBK,rfl,brackets_at lk,_,_,rfl,rfl,big2 (by rw[l_lt];omega),?_⟩
   refine⟨_,rfl,a,_,_,_,rfl,rfl,SqT.of e,rfl,k,p,rfl,hpk,by omega,fun H1 g1=>?_⟩
   exact⟨_,_,rfl,rfl,big2 (by rw[len_app,l_lt];omega),_,_,rfl,rfl,big2 (by rw[len_app,len_app,l_lt,l_gt];omega),q H1 g1⟩
end
abbrev looksT:List (Key×V):=[(.inr "once",.str "<!"),(.inr "ahead",.str "<+"),(.inr "notahead",.str "<-"),(.inr "behind",.str "<*"),(.inr "notbehind",.str "</")]
abbrev howsB:List (Key×V):=[(.inr "much",.str "}"),(.inr "little",.str "?}"),(.inr "keep",.str "!}")]
theorem looks_at(l:Lk):valV (mergeK [] looksT) (Sum.inr l.text)=some (.str ("<" ++ l.sign)):=by cases l <;> decide +kernel
theorem howsB_at(how:How):valV (mergeK [] howsB) (Sum.inr how.text)=some (.str (how.sign++"}")):=by cases how <;> decide +kernel
theorem bareM_at(h:Hd)(s:Str)(e:(h=.any/\s=".")∨(h=.beg/\s="^")∨(h=.fin/\s="$")):valV (mergeK [] bareT) (Sum.inr h.word)=some (.str s):=by
 rcases e with⟨rfl,rfl⟩ | ⟨rfl,rfl⟩ | ⟨rfl,rfl⟩ <;> decide +kernel
def Wd.lkT:Wd->Bool
 |.once=>true | .ahead=>true | .notahead=>true | .behind=>true | .notbehind=>true | _=>false
theorem w_looksT(h:Hd):(valV (mergeK [] looksT) (Sum.inr h.word)).isSome=h.wd.lkT:=by rw[h.word_wd];cases h.wd <;> decide +kernel
section
variable{P:Program}{w:World}{K:W.Frag}{mg:Str->Option Value}{base:Heap}{f:Addr}{fd:FuncData}
abbrev s_l_signed:Stmt:=top 60
theorem sc_l_signed:FnScope ["_law_sign_here","_law_special"] ["_law_sign_here","_law_special"] (defScope s_l_signed):=fsc
theorem ok_l_signed(F:Fun K "_law_signed" "_law_signed" s_l_signed f fd):FnOk P w K mg base CX0 1 f fd ["_law_sign_here","_law_special"] spSg:=by
 refine F.ok sc_l_signed (fun vs H Q E h=>?_) (fun cdv A outer s H vs Q E hr h=>?_)
 ·obtain⟨s,st,rfl,_⟩:=h
  rfl
 obtain⟨x,st,rfl,h1,q⟩:=h
 refine ltX ?_
 intro Xz
 refine⟨_,(pss_cons (ps_if (pt_cmpR op_in_str (pv 0) (pv 1) (by with_unfolding_all rfl)) (pss_one (ps_ret (pe_op op_add_str pe_str (pv 0)))) pss_nil)
  (pss_one (ps_ret (pv 0)))),?_⟩
 refine qfcacd ?_
 intro Ez Az1 Az2
 refine⟨_,rfl,_,rfl,_,_,rfl,rfl,_,rfl,?_⟩
 show if within x st=true then _ else _
 unfold sg at q
 refine ite2 (fun z=>?_) (fun z=>?_)
 ·rw[if_pos z]at q
  exact⟨_,rfl,_,_,rfl,rfl,big2 (by rw[l_bs];omega),q⟩
 ·rw[if_neg z]at q
  exact⟨_,rfl,q⟩
def spLRun:Sp:=fun vs H Q _=>∃(a:Addr) (r:Str×Str),vs=[.ref a]/\H a=some (.tup [.str r.1,.str r.2])/\r.1.length=1/\r.2.length=1/\Q (.str (runT r)) H
abbrev s_l_run_text:Stmt:=top 61
theorem sc_l_run_text:FnScope ["_law_run","_law_low"] ["_law_run"] (defScope s_l_run_text):=fsc
theorem ok_l_run_text(O_l_signed:Own P w K mg base 1 "_law_signed" ["_law_sign_here","_law_special"] spSg)(F:Fun K "_law_run_text" "_law_run_text" s_l_run_text f fd):FnOk P w K mg base CX0 2 f fd ["_law_run"] spLRun:=by
 refine F.ok sc_l_run_text (fun vs H Q E h=>?_) (fun cdv A outer s H vs Q E hr h=>?_)
 ·obtain⟨a,r,rfl,_⟩:=h
  rfl
 obtain⟨a,⟨x,y⟩,rfl,ha,h1,h2,q⟩:=h
 refine ltX ?_
 intro Xz
 refine⟨_,(pss_cons (pS 1 sc_l_run_text.nd (pe_own (O_l_signed.mono (by omega)) hr rfl (pa_cons (pe_ix ix_tup (pv 0) pe_int (fun _ _=>rfl)) (pa_cons pe_str pa_nil))))
  (pss_cons (ps_if (pt_cmpR op_eq (pe_ix ix_tup (pv 0) pe_int (fun _ _=>rfl)) (pe_ix ix_tup (pv 0) pe_int (fun _ _=>rfl)) (nomark _)) (pss_one (ps_ret (pv 1))) pss_nil)
  (pss_one (ps_ret (pe_op op_add_str (pe_op op_add_str (pv 1) pe_str) (pe_own (O_l_signed.mono (by omega)) hr rfl (pa_cons (pe_ix ix_tup (pv 0) pe_int (fun _ _=>rfl)) (pa_cons pe_str pa_nil)))))))),?_⟩
 refine qf76fd ?_
 intro Ez Az1 Az2 Az3
 have ha':H a=some (.tup [.str x,.str y]):=ha
 have l1:(sg x strokedR).length<=2:=sg_len h1
 have l2:(sg y strokedR).length<=2:=sg_len h2
 refine⟨_,rfl,a,_,_,_,rfl,rfl,SqT.of ha',at0,x,strokedR,rfl,h1,?_⟩
 unfold runT at q
 refine⟨_,rfl,a,_,_,_,rfl,rfl,SqT.of ha',at0,_,rfl,a,_,_,_,rfl,rfl,SqT.of ha',rfl,rfl,_,rfl,ite2 (fun z=>?_) (fun z=>?_)⟩
 ·rw[if_pos z]at q
  exact⟨_,rfl,q⟩
 ·rw[if_neg z]at q
  exact⟨_,rfl,_,_,rfl,rfl,big2 (by rw[l_dash];omega),_,rfl,a,_,_,_,rfl,rfl,SqT.of ha',rfl,y,strokedR,rfl,h2,_,_,rfl,rfl,big2 (by rw[len_app,l_dash];omega),q⟩
abbrev s_l_inner:Stmt:=top 62
theorem sc_l_inner:FnScope ["_law_p","_law_words"] ["_law_p","_law_words"] (defScope s_l_inner):=fsc
theorem ok_l_inner{n k:Nat}(O_l_written:Own P w K mg base (2+k) "_law_written" ["_law_p"] (spTxt n))(F:Fun K "_law_inner" "_law_inner" s_l_inner f fd):FnOk P w K mg base CX0 (2+k+1) f fd ["_law_p","_law_words"] (spWr K n):=by
 refine F.ok sc_l_inner (fun vs H Q E h=>?_) (fun cdv A outer s H vs Q E hr h=>?_)
 ·obtain⟨v,p,t,ws,rfl,_⟩:=h
  rfl
 obtain⟨v,p,t,ws,rfl,hp,hz,hw,hf,q⟩:=h
 refine ltX ?_
 intro Xz
 refine⟨_,(pss_cons (ps_if (pt_cmpR op_in_seq (pe_ix ix_tup (pv 0) pe_int (fun _ _=>rfl)) (pv 1) (by with_unfolding_all rfl)) (pss_one (ps_ret (pe_op op_add_str (pe_op op_add_str pe_str (pe_own (O_l_written.mono (by omega)) hr rfl (pa_cons (pv 0) pa_nil))) pe_str))) pss_nil)
  (pss_one (ps_ret (pe_own (O_l_written.mono (by omega)) hr rfl (pa_cons (pv 0) pa_nil))))),?_⟩
 refine qfcacd ?_
 intro Ez Az1 Az2
 have hs:=hp.short
 unfold Short at hs
 have e:∃(a:Addr) (r:List V),v=.ref a/\H a=some (.tup (.str p.word::r)):=by
  cases n with
  |zero=>exact hp.elim
  |succ d =>
   obtain⟨h,ks⟩:=p
   obtain⟨a,kv,e,l,_⟩:=id hp
   obtain⟨r,q⟩:=l.head
   exact⟨a,r,e,q⟩
 obtain⟨a,r,rfl,ea⟩:=e
 unfold wrT at q
 refine⟨_,rfl,a,_,_,_,rfl,rfl,SqT.of ea,at0,_,rfl,t,ws,rfl,.inr (hw H Gro.refl),rfl,hf,_,rfl,?_⟩
 show if inV (.str p.word) ws=true then _ else _
 refine ite2 (fun z=>?_) (fun z=>?_)
 ·refine⟨_,rfl,.ref a,p,rfl,hp,hz,fun H1 g1=>?_⟩
  have q':=q H1 g1
  rw[if_pos (show inV (.str p.wt.1) ws=true from z)]at q'
  exact⟨_,_,rfl,rfl,big2 (by rw[l_lc];omega),_,_,rfl,rfl,big2 (by rw[len_app,l_lc,l_gt];omega),q'⟩
 ·refine⟨_,rfl,.ref a,p,rfl,hp,hz,fun H1 g1=>?_⟩
  have q':=q H1 g1
  rw[if_neg (show ¬inV (.str p.wt.1) ws=true from z)]at q'
  exact q'
def spLeafT:Sp:=fun vs H Q _=>∃(v:V) (h:Hd),vs=[v]/\PatAt H 1 v (.node h [])/\h.wd.lkT=false/\h.wd≠.row/\∀H',Gro [] H H'->Q (.str (h.txt [])) H'
abbrev s_l_leaf_text:Stmt:=top 63
theorem sc_l_leaf_text:FnScope ["_law_p"] ["_law_p"] (defScope s_l_leaf_text):=fsc
theorem ok_l_leaf_text(T:Blt mg)(O_l_signed:Own P w K mg base 1 "_law_signed" ["_law_sign_here","_law_special"] spSg)(O_l_run_text:Own P w K mg base 2 "_law_run_text" ["_law_run"] spLRun)(F:Fun K "_law_leaf_text" "_law_leaf_text" s_l_leaf_text f fd):FnOk P w K mg base CX0 3 f fd ["_law_p"] spLeafT:=by
 refine F.ok sc_l_leaf_text (fun vs H Q E h=>?_) (fun cdv A outer s H vs Q E hr h=>?_)
 ·obtain⟨v,h,rfl,_⟩:=h
  rfl
 obtain⟨v,h,rfl,hp,hlk,hrow,q⟩:=h
 refine ltX ?_
 intro Xz
 refine⟨_,(pss_cons (ps_if (pt_cmpR op_eq (pe_ix ix_tup (pv 0) pe_int (fun _ _=>rfl)) pe_str (nomark _)) (pss_one (ps_ret (pe_own (O_l_signed.mono (by omega)) hr rfl (pa_cons (pe_ix ix_tup (pv 0) pe_int (fun _ _=>rfl)) (pa_cons pe_str pa_nil))))) pss_nil)
  (pss_cons (ps_if (pt_cmpR op_in_seq (pe_ix ix_tup (pv 0) pe_int (fun _ _=>rfl)) (pe_tup (pa_cons pe_str (pa_cons pe_str pa_nil))) (by with_unfolding_all rfl)) (pss_one (ps_ret (pe_op op_add_str (pe_op op_add_str (pe_ix ix_list (pe_lst (pa_cons pe_str (pa_cons pe_str pa_nil))) (pe_callTy call_int1 rfl T.b_int PyProof.Rows.Boot.«int» (pa_cons (pe_cmpR op_eq (pe_ix ix_tup (pv 0) pe_int (fun _ _=>rfl)) pe_str (nomark _)) pa_nil)) (fun _ _=>rfl)) (pe_bm PySem.F.plainAttrs_str PySem.F.slot_str_join PySem.F.type_str_join mt_join pe_str (pa_cons (pe_lcomp rfl (show CScope _ ["_law_p"] (defScope s_l_leaf_text) _ from⟨rfl,by decide +kernel,rfl,by decide +kernel,by decide +kernel,by decide +kernel,by decide +kernel⟩) (pi_tup (pe_ix ix_tup (pv 0) pe_int (fun _ _=>rfl))) (fun _ _ _ _=>pts_nil) (fun _ _ _ _=>(pe_own (O_l_run_text.mono (by omega)) hr rfl (pa_cons (pv 0) pa_nil)))) pa_nil))) pe_str))) pss_nil)
  (pss_cons (ps_if (pt_cmpR op_eq (pe_ix ix_tup (pv 0) pe_int (fun _ _=>rfl)) pe_str (nomark _)) (pss_one (ps_ret (pe_op op_add_str pe_str (pe_callTy call_str_int rfl T.b_str PyProof.Rows.Boot.«str» (pa_cons (pe_ix ix_tup (pv 0) pe_int (fun _ _=>rfl)) pa_nil))))) pss_nil)
  (pss_one (ps_ret (pe_dget (hu_of hr) (pe_disp (pps_cons pe_str pe_str (pps_cons pe_str pe_str (pps_cons pe_str pe_str pps_nil))) rfl rfl (by simp) (by decide)) (pe_ix ix_tup (pv 0) pe_int (fun _ _=>rfl)) (fun _ _=>rfl))))))),?_⟩
 refine q0c1a2 ?_
 intro Ez Az1 Az2 Az3 Az4 Az5 Az6
 obtain⟨a,kv,rfl,lay,hk⟩:=id hp
 cases hk
 obtain⟨r0,ea⟩:=lay.head
 have runs:∀(word:Str) (rs:List (Str×Str)) (r t:Addr) (b:Bool),H a=some (.tup [.str word,.ref r])->RunsAt H r rs->H t=none->decide (V.str word=V.str "out")=b->(∀H',Gro [] H H'->Q (.str (((if b=true then "[^" else "[")++Txt.join "" (rs.map runT))++"]")) H') ->
   (tOp (fun x y H Q=>∃i j,x=.str i/\y=.str j/\i.length+j.length<=sizeLine/\Q (.str (i++j)) H) (tOp (fun x y H Q=>∃i j,x=.str i/\y=.str j/\i.length+j.length<=sizeLine/\Q (.str (i++j)) H)
    (tOp (rIxL K) (tLst (tCons (tC (.str "[")) (tCons (tC (.str "[^")) tNil))) (tCB (fun xs H Q=>(∃i,xs=[.int i]/\Q (.int i) H)∨∃k,xs=[.bl k]/\Q (.int (if k=true then 1 else 0)) H) (tCons (tOp rEq (tOp (rIxT K) (tVar 0) (tC (.int 0))) (tC (.str "out"))) tNil)))
    (tBM K "str" (rJoin K) (tC (.str "")) (tCons (tLC (iTup K (tOp (rIxT K) (tVar 0) (tC (.int 1)))) tYes (tCall spLRun [] E0 (tCons (tVar 0) tNil))) tNil))) (tC (.str "]"))) [some (.ref a)] (upd H t (.tup [.str "in",.str "out"])) Q:=by
  intro word rs r t b e hrs ht hb q
  have g0:Gro [] H (upd H t (.tup [.str "in",.str "out"])):=Gro.new ht _
  generalize upd H t (.tup [.str "in",.str "out"])=H0 at g0
  have e0:=g0.tups _ _ e
  have hrs0:=hrs.mono g0.tups
  refine⟨sz,fun l hl=>?_⟩
  have g1:Gro [] H0 (upd H0 l (.lst [.str "[",.str "[^"])):=Gro.new hl _
  have f1:(upd H0 l (.lst [.str "[",.str "[^"])) l=some (.lst [.str "[",.str "[^"]):=upd_same
  generalize upd H0 l (.lst [.str "[",.str "[^"])=H1 at g1 f1
  have e1:=g1.tups _ _ e0
  have hrs1:=hrs0.mono g1.tups
  refine⟨_,rfl,a,_,_,_,rfl,rfl,SqT.of e1,at0,rfl,.inr ⟨_,rfl,?_⟩⟩
  rw[hb]
  obtain⟨vs,hv,hpv,hvz⟩:=id hrs1
  have hvl:=Paired.length hpv
  have hrt:=hrs1.tame
  have h1:=runs_sum hrt
  have h2:=runs_join hrt
  have fin:∀x:Str,x.length<=2->(∀H',Gro [] H1 H'->Q (.str ((x++Txt.join "" (rs.map runT))++"]")) H') ->
    (tOp (fun x y H Q=>∃i j,x=.str i/\y=.str j/\i.length+j.length<=sizeLine/\Q (.str (i++j)) H) (tOp (fun x y H Q=>∃i j,x=.str i/\y=.str j/\i.length+j.length<=sizeLine/\Q (.str (i++j)) H) (tC (.str x))
    (tBM K "str" (rJoin K) (tC (.str "")) (tCons (tLC (iTup K (tOp (rIxT K) (tVar 0) (tC (.int 1)))) tYes (tCall spLRun [] E0 (tCons (tVar 0) tNil))) tNil))) (tC (.str "]"))) [some (.ref a)] H1 Q:=by
   intro x hx q
   refine⟨rfl,_,rfl,a,_,_,_,rfl,rfl,SqT.of e1,rfl,r,rfl,⟨vs,SqT.of hv⟩,?_⟩
   refine lc_tup (xs:=vs) (fun i ys H'=>ys=((rs.take i).map runT).map V.str/\H'=H1) ⟨rfl,rfl⟩ (small1000 (by omega)) (fun i ys H' ⟨e,_⟩=>by rw[e];simp;omega) (fun i ys H' ⟨_,e⟩=>by rw[e];exact SqT.of hv) ?_ ?_
   ·rintro i ys H' y hy ⟨rfl,rfl⟩
    obtain⟨p,hpi,p1,p2,c,rfl,hc⟩:=paired_get hpv hy
    refine⟨_,rfl,c,p,rfl,hc,p1,p2,?_,rfl⟩
    rw[lift_map hpi,List.map_append]
    rfl
   ·rintro ys H' ⟨rfl,rfl⟩ l2 hl2
    rw[hvl,List.take_length]
    exact⟨"",l2,rs.map runT,rfl,rfl,SqL.of upd_same,by rw[l_e];omega,_,_,rfl,rfl,big2 (by omega),_,_,rfl,rfl,big2 (by rw[len_app,l_rs];omega),q _ (Gro.new hl2 _)⟩
  have gg:=g0.trans g1
  cases b with
  |true=>exact⟨l,_,_,_,rfl,rfl,SqL.of f1,rfl,fin "[^" (by decide +kernel) fun H' g=>q H' (gg.trans g)⟩
  |false=>exact⟨l,_,_,_,rfl,rfl,SqL.of f1,rfl,fin "[" (by decide +kernel) fun H' g=>q H' (gg.trans g)⟩
 refine⟨_,rfl,a,_,_,_,rfl,rfl,SqT.of ea,at0,rfl,_,rfl,?_⟩
 have tbl:∀(x:Str) (r1:List V),H a=some (.tup (.str h.word::r1))->(h=.any/\x=".")∨(h=.beg/\x="^")∨(h=.fin/\x="$")->h.txt []=x->∀H0,Gro [] H H0 ->
   (tDGet (tDisp [(tC (.str "any"),tC (.str ".")),(tC (.str "begin"),tC (.str "^")),(tC (.str "end"),tC (.str "$"))]) (tOp (rIxT K) (tVar 0) (tC (.int 0)))) [some (.ref a)] H0 Q:=by
  intro x r1 e hx hx2 H0 g0 p hp0
  have g1:Gro [] H0 (upd (upd H0 p (.dK [])) p (.dK (mergeK [] bareT))):=⟨fun c o q _=>by rw[upd_upd,upd_ne (ne_of_none q hp0)];exact q,fun c zs q=>by rw[upd_upd,upd_ne (ne_of_none q hp0)];exact q⟩
  refine⟨upd_same,bareT,rfl,by decide,?_⟩
  refine⟨_,rfl,a,_,_,_,rfl,rfl,SqT.of (g1.tups _ _ (g0.tups _ _ e)),at0,p,.str x,rfl,?_,by rw[← hx2];exact q _ (g0.trans g1)⟩
  rw[← bareM_at h x hx]
  exact DGet.k (k:=Sum.inr h.word) upd_same
 cases h with
 |sign x=>exact ite_yes (show isw "sign" "sign" = true by decide +kernel) ⟨_,rfl,a,_,_,_,rfl,rfl,SqT.of lay.2.2,rfl,x,stroked,rfl,lay.2.1,q H Gro.refl⟩
 |inn rs =>
  obtain⟨_,r,e,hr'⟩:=lay
  refine ite_no (show ¬isw "in" "sign" = true by decide +kernel) ?_
  refine⟨_,rfl,a,_,_,_,rfl,rfl,SqT.of e,at0,sz,fun t ht=>⟨t,_,rfl,.inr (SqT.of upd_same),rfl,rfl,_,rfl,ite_yes (show inV (.str "in") [.str "in",.str "out"]=true by decide +kernel) ?_⟩⟩
  exact runs "in" rs r t false e hr' ht (by decide +kernel) (fun H' g=>q H' g)
 |out rs =>
  obtain⟨_,r,e,hr'⟩:=lay
  refine ite_no (show ¬isw "out" "sign" = true by decide +kernel) ?_
  refine⟨_,rfl,a,_,_,_,rfl,rfl,SqT.of e,at0,sz,fun t ht=>⟨t,_,rfl,.inr (SqT.of upd_same),rfl,rfl,_,rfl,ite_yes (show inV (.str "out") [.str "in",.str "out"]=true by decide +kernel) ?_⟩⟩
  exact runs "out" rs r t true e hr' ht (by decide +kernel) (fun H' g=>q H' g)
 |again j =>
  obtain⟨hb,_,e⟩:=lay
  have hn:=num_len hb.1 hb.2
  refine ite_no (show ¬isw "again" "sign" = true by decide +kernel) ?_
  refine⟨_,rfl,a,_,_,_,rfl,rfl,SqT.of e,at0,sz,fun t ht=>⟨t,_,rfl,.inr (SqT.of upd_same),rfl,rfl,_,rfl,ite_no (show ¬inV (.str "again") [.str "in",.str "out"]=true by decide +kernel) ?_⟩⟩
  have e1:=(Gro.new (S:=[]) ht (.tup [.str "in",.str "out"])).tups _ _ e
  refine⟨_,rfl,a,_,_,_,rfl,rfl,SqT.of e1,at0,rfl,_,rfl,ite_yes (show isw "again" "again" = true by decide +kernel) ?_⟩
  exact⟨_,rfl,a,_,_,_,rfl,rfl,SqT.of e1,rfl,j,rfl,lg hb.1 hb.2,_,_,rfl,rfl,big2 (by show _+(num j).length<=_;rw[l_amp];omega),q _ (Gro.new ht _)⟩
 |any =>
  refine ite_no (show ¬isw "any" "sign" = true by decide +kernel) ?_
  refine⟨_,rfl,a,_,_,_,rfl,rfl,SqT.of lay.2,at0,sz,fun t ht=>⟨t,_,rfl,.inr (SqT.of upd_same),rfl,rfl,_,rfl,ite_no (show ¬inV (.str "any") [.str "in",.str "out"]=true by decide +kernel) ?_⟩⟩
  refine⟨_,rfl,a,_,_,_,rfl,rfl,SqT.of ((Gro.new (S:=[]) ht (.tup [.str "in",.str "out"])).tups _ _ lay.2),at0,rfl,_,rfl,ite_no (show ¬isw "any" "again" = true by decide +kernel) ?_⟩
  exact tbl "." _ lay.2 (.inl ⟨rfl,rfl⟩) rfl _ (Gro.new ht _)
 |beg =>
  refine ite_no (show ¬isw "begin" "sign" = true by decide +kernel) ?_
  refine⟨_,rfl,a,_,_,_,rfl,rfl,SqT.of lay.2,at0,sz,fun t ht=>⟨t,_,rfl,.inr (SqT.of upd_same),rfl,rfl,_,rfl,ite_no (show ¬inV (.str "begin") [.str "in",.str "out"]=true by decide +kernel) ?_⟩⟩
  refine⟨_,rfl,a,_,_,_,rfl,rfl,SqT.of ((Gro.new (S:=[]) ht (.tup [.str "in",.str "out"])).tups _ _ lay.2),at0,rfl,_,rfl,ite_no (show ¬isw "begin" "again" = true by decide +kernel) ?_⟩
  exact tbl "^" _ lay.2 (.inr (.inl ⟨rfl,rfl⟩)) rfl _ (Gro.new ht _)
 |fin =>
  refine ite_no (show ¬isw "end" "sign" = true by decide +kernel) ?_
  refine⟨_,rfl,a,_,_,_,rfl,rfl,SqT.of lay.2,at0,sz,fun t ht=>⟨t,_,rfl,.inr (SqT.of upd_same),rfl,rfl,_,rfl,ite_no (show ¬inV (.str "end") [.str "in",.str "out"]=true by decide +kernel) ?_⟩⟩
  refine⟨_,rfl,a,_,_,_,rfl,rfl,SqT.of ((Gro.new (S:=[]) ht (.tup [.str "in",.str "out"])).tups _ _ lay.2),at0,rfl,_,rfl,ite_no (show ¬isw "end" "again" = true by decide +kernel) ?_⟩
  exact tbl "$" _ lay.2 (.inr (.inr ⟨rfl,rfl⟩)) rfl _ (Gro.new ht _)
 |row=>exact absurd rfl hrow
 |alt=>exact absurd lay.1 (by simp)
 |times _ _ _=>obtain⟨_,k,e,_⟩:=lay;cases e
 |grp _=>obtain⟨_,k,e,_⟩:=lay;cases e
 |hav _=>obtain⟨_,k,_,e,_⟩:=lay;cases e
 |look _=>obtain⟨k,e,_⟩:=lay;cases e
end
theorem turns_eq(x:Str)(lo:Int)(hi:Option Int)(how:How):(((x++"{")++num lo)++",")++(hiT hi++(how.sign++"}"))=x++turnsT lo hi how:=by
 unfold turnsT
 simp only[app_assoc]
section
variable{P:Program}{w:World}{K:W.Frag}{mg:Str->Option Value}{base:Heap}{f:Addr}{fd:FuncData}
theorem Gro.dict{H:Hp}{p:Addr}{o o':HO}(h:H p=none):Gro [] H (upd (upd H p o) p o'):=⟨fun c u q _=>by rw[upd_upd,upd_ne (ne_of_none q h)];exact q,fun c zs q=>by rw[upd_upd,upd_ne (ne_of_none q h)];exact q⟩
def cutW(Q:VK)(H:Hp)(a:Addr)(h:Hd)(kv:List V):TS:=fun D σ H1=>σ=[some (.ref a),some (.str h.word),none,none]/\H1=H/\D.rt=Q/\((∃lk,h=.look lk)∨(kv=[]/\h.wd.lkT=false/\h.wd≠.row))
abbrev s_l_written:Stmt:=top 64
theorem sc_l_written:FnScope ["_law_p","_law_word","_law_high","_law_looks"] ["_law_p"] (defScope s_l_written):=fsc
theorem ok_l_written{n k:Nat}(T:Blt mg)(O_l_leaf_text:Own P w K mg base 3 "_law_leaf_text" ["_law_p"] spLeafT)(O_l_inner:Own P w K mg base (2+k+2) "_law_inner" ["_law_p","_law_words"] (spWr K n))(O_l_written:Own P w K mg base (2+k+1) "_law_written" ["_law_p"] (spTxt n))
  (F:Fun K "_law_written" "_law_written" s_l_written f fd):FnOk P w K mg base CX0 (2+k+3) f fd ["_law_p"] (spTxt (n+1)):=by
 refine F.ok sc_l_written (fun vs H Q E h=>?_) (fun cdv A outer s H vs Q E hr h=>?_)
 ·obtain⟨v,p,rfl,_⟩:=h
  rfl
 obtain⟨v,⟨h,ks⟩,rfl,hp,hz,q⟩:=h
 rw[txt_node]at q
 have hsh:=hp.short
 unfold Short at hsh
 rw[txt_node]at hsh
 rw[size_node]at hz hsh
 obtain⟨a,kv,rfl,lay,hk⟩:=id hp
 obtain⟨r0,ea⟩:=lay.head
 have hkl:=Paired.length hk
 have few:=lay.few
 have looks:=w_looksT h
 refine ltX ?_
 intro Xz
 refine⟨_,(pss_cons (pS 1 sc_l_written.nd (pe_ix ix_tup (pv 0) pe_int (fun _ _=>rfl)))
  (pss_cons (ps_if (pt_cmpR op_eq (pv 1) pe_str (nomark _)) (pss_one (ps_ret (pe_bm PySem.F.plainAttrs_str PySem.F.slot_str_join PySem.F.type_str_join mt_join pe_str (pa_cons (pe_lcomp rfl (show CScope _ ["_law_p","_law_word","_law_high","_law_looks"] (defScope s_l_written) _ from⟨rfl,by decide +kernel,rfl,by decide +kernel,by decide +kernel,by decide +kernel,by decide +kernel⟩) (pi_tup (pe_ix ix_tup (pv 0) pe_int (fun _ _=>rfl))) (fun _ _ _ _=>pts_nil) (fun _ _ _ _=>(pe_own (O_l_inner.mono (by omega)) hr rfl (pa_cons (pv 0) (pa_cons (pe_tup (pa_cons pe_str pa_nil)) pa_nil))))) pa_nil)))) pss_nil)
  (pss_cons (ps_if (pt_cmpR op_eq (pv 1) pe_str (nomark _)) (pss_one (ps_ret (pe_bm PySem.F.plainAttrs_str PySem.F.slot_str_join PySem.F.type_str_join mt_join pe_str (pa_cons (pe_lcomp rfl (show CScope _ ["_law_p","_law_word","_law_high","_law_looks"] (defScope s_l_written) _ from⟨rfl,by decide +kernel,rfl,by decide +kernel,by decide +kernel,by decide +kernel,by decide +kernel⟩) (pi_tup (pe_ix ix_tup (pv 0) pe_int (fun _ _=>rfl))) (fun _ _ _ _=>pts_nil) (fun _ _ _ _=>(pe_own (O_l_written.mono (by omega)) hr rfl (pa_cons (pv 0) pa_nil)))) pa_nil)))) pss_nil)
  (pss_cons (ps_if (pt_cmpR op_eq (pv 1) pe_str (nomark _)) (pss_cons (pS 2 sc_l_written.nd pe_str)
  (pss_cons (ps_if (pt_cmp (pc_notN (pe_ix ix_tup (pv 0) pe_int (fun _ _=>rfl)))) (pss_one (pS 2 sc_l_written.nd (pe_callTy call_str_int rfl T.b_str PyProof.Rows.Boot.«str» (pa_cons (pe_ix ix_tup (pv 0) pe_int (fun _ _=>rfl)) pa_nil)))) pss_nil)
  (pss_cons (pS 2 sc_l_written.nd (pe_op op_add_str (pv 2) (pe_dget (hu_of hr) (pe_disp (pps_cons pe_str pe_str (pps_cons pe_str pe_str (pps_cons pe_str pe_str pps_nil))) rfl rfl (by simp) (by decide)) (pe_ix ix_tup (pv 0) pe_int (fun _ _=>rfl)) (fun _ _=>rfl))))
  (pss_one (ps_ret (pe_op op_add_str (pe_op op_add_str (pe_op op_add_str (pe_op op_add_str (pe_own (O_l_inner.mono (by omega)) hr rfl (pa_cons (pe_ix ix_tup (pv 0) pe_int (fun _ _=>rfl)) (pa_cons (pe_tup (pa_cons pe_str (pa_cons pe_str (pa_cons pe_str pa_nil)))) pa_nil))) pe_str) (pe_callTy call_str_int rfl T.b_str PyProof.Rows.Boot.«str» (pa_cons (pe_ix ix_tup (pv 0) pe_int (fun _ _=>rfl)) pa_nil))) pe_str) (pv 2))))))) pss_nil)
  (pss_cons (ps_if (pt_cmpR op_eq (pv 1) pe_str (nomark _)) (pss_one (ps_ret (pe_op op_add_str (pe_op op_add_str pe_str (pe_own (O_l_written.mono (by omega)) hr rfl (pa_cons (pe_ix ix_tup (pv 0) pe_int (fun _ _=>rfl)) pa_nil))) pe_str))) pss_nil)
  (pss_cons (ps_if (pt_cmpR op_eq (pv 1) pe_str (nomark _)) (pss_one (ps_ret (pe_op op_add_str (pe_op op_add_str (pe_op op_add_str (pe_op op_add_str (pe_op op_add_str pe_str (pe_callTy call_str_int rfl T.b_str PyProof.Rows.Boot.«str» (pa_cons (pe_ix ix_tup (pv 0) pe_int (fun _ _=>rfl)) pa_nil))) (pe_own (O_l_written.mono (by omega)) hr rfl (pa_cons (pe_ix ix_tup (pv 0) pe_int (fun _ _=>rfl)) pa_nil))) pe_str) (pe_own (O_l_written.mono (by omega)) hr rfl (pa_cons (pe_ix ix_tup (pv 0) pe_int (fun _ _=>rfl)) pa_nil))) pe_str))) pss_nil)
  (pss_cut (cutW Q H a h kv) (pss_cons (pS 3 sc_l_written.nd (pe_disp (pps_cons pe_str pe_str (pps_cons pe_str pe_str (pps_cons pe_str pe_str (pps_cons pe_str pe_str (pps_cons pe_str pe_str pps_nil))))) rfl rfl (by simp) (by decide)))
  (pss_cons (ps_if (pt_cmp (pc_din (hu_of hr) (pv 1) (pv 3))) (pss_one (ps_ret (pe_op op_add_str (pe_op op_add_str (pe_dget (hu_of hr) (pv 3) (pv 1) (fun _ _=>rfl)) (pe_own (O_l_written.mono (by omega)) hr rfl (pa_cons (pe_ix ix_tup (pv 0) pe_int (fun _ _=>rfl)) pa_nil))) pe_str))) pss_nil)
  (pss_one (ps_ret (pe_own (O_l_leaf_text.mono (by omega)) hr rfl (pa_cons (pv 0) pa_nil)))))) (fun D1 σ1 H1 hcut=>?cut6)))))))),?_⟩
 case cut6 =>
  refine qf76fd ?_
  intro Ez Az1 Az2 Az3
  obtain⟨rfl,rfl,hD,hcase⟩:=hcut
  intro d hd
  have g1:Gro [] H1 (upd (upd H1 d (.dK [])) d (.dK (mergeK [] looksT))):=Gro.dict hd
  refine⟨upd_same,looksT,rfl,by decide,?_⟩
  have hd1:(upd (upd H1 d (.dK [])) d (.dK (mergeK [] looksT))) d=some (.dK (mergeK [] looksT)):=upd_same
  generalize upd (upd H1 d (.dK [])) d (.dK (mergeK [] looksT))=H2 at g1 hd1
  refine⟨_,rfl,_,rfl,d,_,rfl,DGet.k (k:=Sum.inr h.word) hd1,_,rfl,?_⟩
  rw[looks]
  rcases hcase with⟨lk,rfl⟩ | ⟨hkv,hlk,hrow⟩
  ·refine ite_yes (by cases lk <;> rfl) ?_
   obtain⟨k,e0,e⟩:=lay
   subst e0
   match ks,hk with
   | [p],.cons hpk .nil =>
    rw[sizeL_one]at hz hsh
    have hs1:=hpk.short
    unfold Short at hs1
    have hll:=lk_len lk
    have hdg:DGet H2 d (.str lk.text) (some (.str ("<" ++ lk.sign))):=by
     rw[← looks_at lk]
     exact DGet.k (k:=Sum.inr lk.text) hd1
    refine⟨_,rfl,_,rfl,d,_,rfl,hdg,?_⟩
    refine⟨_,rfl,a,_,_,_,rfl,rfl,SqT.of (g1.tups _ _ e),rfl,k,p,rfl,hpk.mono g1.tups,by omega,fun H3 g3=>?_⟩
    refine⟨_,_,rfl,rfl,big2 (by rw[len_app,l_lt];omega),_,_,rfl,rfl,big2 (by rw[len_app,len_app,l_lt,l_gt];omega),?_⟩
    rw[hD]
    exact q H3 (g1.trans g3)
  ·rw[hlk]
   refine iteF ?_
   have hks:ks=[]:=by
    rw[hkv]at hkl
    exact List.length_eq_zero_iff.mp hkl.symm
   subst hks
   refine⟨_,rfl,.ref a,h,rfl,?_,hlk,hrow,fun H3 g3=>?_⟩
   ·obtain⟨a',kv',e',l',k'⟩:=hp.mono g1.tups
    cases k'
    exact⟨a',[],e',l',.nil⟩
   ·show D1.rt _ _
    rw[hD]
    exact q H3 (g1.trans g3)
 refine qa972a ?_
 intro Ez Az1 Az2 Az3 Az4 Az5 Az6 Az7 Az8 Az9 Az10 Az11 Az12 Az13 Az14 Az15
 refine⟨_,rfl,a,_,_,_,rfl,rfl,SqT.of ea,at0,?_⟩
 have leaf:kv=[]->h.wd.lkT=false->h.wd≠.row->cutW Q H a h kv { nx:=fun _ H'=>Q .non H',rt:=Q } [some (.ref a),some (.str h.word),none,none] H:=fun h1 h2 h3=>⟨rfl,rfl,rfl,.inr ⟨h1,h2,h3⟩⟩
 cases h with
 |row =>
  obtain⟨_,r,e,er⟩:=lay
  have ih:∀k∈ks,Short k:=fun k hk'=>by
   obtain⟨x,_,z⟩:=paired_mem hk k hk'
   exact z.short
  have hsum:=wr_sum wrapRow ih
  refine⟨_,rfl,rfl,_,rfl,ite_yes (by decide +kernel) ?_⟩
  refine⟨rfl,_,rfl,a,_,_,_,rfl,rfl,SqT.of e,rfl,r,rfl,⟨_,SqT.of er⟩,?_⟩
  refine lc_tup (xs:=kv) (fun i ys H'=>ys=(((ks.take i).map Pat.wt).map (wrT wrapRow)).map V.str/\Gro [] H H') ⟨rfl,Gro.refl⟩ (small1000 (by omega)) (fun i ys H' ⟨e,_⟩=>by rw[e];simp;omega) (fun i ys H' ⟨_,g⟩=>SqT.of (g.tups _ _ er)) ?_ ?_
  ·rintro i ys H1 x hx ⟨rfl,g1⟩
   obtain⟨p,hpi,hpx⟩:=paired_get hk hx
   have hsp:=size_at hpi
   refine⟨_,rfl,sz,fun t ht=>?_⟩
   have g0:Gro [] H1 (upd H1 t (.tup wrapRow)):=Gro.new ht _
   refine⟨x,p,t,wrapRow,rfl,hpx.mono (g1.trans g0).tups,by omega,fun H' g=>SqT.of (g.tups _ _ upd_same),rfl,fun H2 g2=>⟨?_,(g1.trans g0).trans g2⟩⟩
   rw[take_snoc hpi]
   simp
  ·rintro ys H1 ⟨rfl,g1⟩ l hl
   rw[hkl,List.take_length]
   refine⟨"",l,(ks.map Pat.wt).map (wrT wrapRow),rfl,rfl,SqL.of upd_same,by rw[l_e];omega,?_⟩
   exact q _ (g1.trans (Gro.new hl (.lst (((ks.map Pat.wt).map (wrT wrapRow)).map V.str))))
 |alt =>
  obtain⟨_,_,r,e,er⟩:=lay
  have ih:∀k∈ks,Short k:=fun k hk'=>by
   obtain⟨x,_,z⟩:=paired_mem hk k hk'
   exact z.short
  have hsum:=tx_sum ih
  refine⟨_,rfl,rfl,_,rfl,ite_no (by decide +kernel) ?_⟩
  refine⟨_,rfl,rfl,_,rfl,ite_yes (by decide +kernel) ?_⟩
  refine⟨rfl,_,rfl,a,_,_,_,rfl,rfl,SqT.of e,rfl,r,rfl,⟨_,SqT.of er⟩,?_⟩
  refine lc_tup (xs:=kv) (fun i ys H'=>ys=(((ks.take i).map Pat.wt).map (·.2)).map V.str/\Gro [] H H') ⟨rfl,Gro.refl⟩ (small1000 (by omega)) (fun i ys H' ⟨e,_⟩=>by rw[e];simp;omega) (fun i ys H' ⟨_,g⟩=>SqT.of (g.tups _ _ er)) ?_ ?_
  ·rintro i ys H1 x hx ⟨rfl,g1⟩
   obtain⟨p,hpi,hpx⟩:=paired_get hk hx
   have hsp:=size_at hpi
   refine⟨_,rfl,x,p,rfl,hpx.mono g1.tups,by omega,fun H2 g2=>⟨?_,g1.trans g2⟩⟩
   rw[take_snoc hpi]
   simp[Pat.wt]
  ·rintro ys H1 ⟨rfl,g1⟩ l hl
   rw[hkl,List.take_length]
   refine⟨"|",l,(ks.map Pat.wt).map (·.2),rfl,rfl,SqL.of upd_same,by rw[l_bar];simp only[List.length_map,Nat.mul_one];omega,?_⟩
   exact q _ (g1.trans (Gro.new hl (.lst (((ks.map Pat.wt).map (·.2)).map V.str))))
 |times lo hi how =>
  obtain⟨hb,k,e0,e⟩:=lay
  subst e0
  refine⟨_,rfl,rfl,_,rfl,ite_no (show ¬isw "times" "row" = true by decide +kernel) ?_⟩
  refine⟨_,rfl,rfl,_,rfl,ite_no (show ¬isw "times" "or" = true by decide +kernel) ?_⟩
  refine⟨_,rfl,rfl,_,rfl,ite_yes (show isw "times" "times" = true by decide +kernel) ?_⟩
  match ks,hk with
  | [p],.cons hpk .nil =>
   rw[sizeL_one]at hz hsh
   have hsh':(wrT wrapTimes p.wt++turnsT lo hi how:Str).length+10<=150*(1+p.size):=hsh
   rw[len_app]at hsh'
   have l1:=num_len hb.1 hb.2.1
   have l2:=hi_len hb.2.2
   have l3:=how_len how
   have core:∀(D:Ends) (hT:Str),D.rt=Q->hT=hiT hi ->
     (tSeq (tAsg (tOp (fun x y H Q=>∃i j,x=.str i/\y=.str j/\i.length+j.length<=sizeLine/\Q (.str (i++j)) H) (tVar 2) (tDGet (tDisp [(tC (.str "much"),tC (.str "}")),(tC (.str "little"),tC (.str "?}")),(tC (.str "keep"),tC (.str "!}"))]) (tOp (rIxT K) (tVar 0) (tC (.int 3))))) (gName 2))
      (tRet (tOp (fun x y H Q=>∃i j,x=.str i/\y=.str j/\i.length+j.length<=sizeLine/\Q (.str (i++j)) H) (tOp (fun x y H Q=>∃i j,x=.str i/\y=.str j/\i.length+j.length<=sizeLine/\Q (.str (i++j)) H) (tOp (fun x y H Q=>∃i j,x=.str i/\y=.str j/\i.length+j.length<=sizeLine/\Q (.str (i++j)) H)
       (tOp (fun x y H Q=>∃i j,x=.str i/\y=.str j/\i.length+j.length<=sizeLine/\Q (.str (i++j)) H) (tCall (spWr K n) [] E0 (tCons (tOp (rIxT K) (tVar 0) (tC (.int 4))) (tCons (tTup (tCons (tC (.str "row")) (tCons (tC (.str "or")) (tCons (tC (.str "times")) tNil)))) tNil))) (tC (.str "{")))
       (tCB (fun xs H Q=>∃i,xs=[.int i]/\i.natAbs.log2<1920/\Q (.str (toString i)) H) (tCons (tOp (rIxT K) (tVar 0) (tC (.int 1))) tNil))) (tC (.str ","))) (tVar 2)))) D [some (.ref a),some (.str "times"),some (.str hT),none] H:=by
    rintro D hT hD rfl
    refine⟨_,rfl,fun d hd=>⟨upd_same,howsB,rfl,by decide,?_⟩⟩
    have g1:Gro [] H (upd (upd H d (.dK [])) d (.dK (mergeK [] howsB))):=Gro.dict hd
    have hd1:(upd (upd H d (.dK [])) d (.dK (mergeK [] howsB))) d=some (.dK (mergeK [] howsB)):=upd_same
    generalize upd (upd H d (.dK [])) d (.dK (mergeK [] howsB))=H1 at g1 hd1
    have e1:=g1.tups _ _ e
    have hdg:DGet H1 d (.str how.text) (some (.str (how.sign++"}"))):=by
     rw[← howsB_at how]
     exact DGet.k (k:=Sum.inr how.text) hd1
    refine⟨_,rfl,a,_,_,_,rfl,rfl,SqT.of e1,rfl,d,_,rfl,hdg,_,_,rfl,rfl,big2 (by rw[len_app,l_rb];omega),?_⟩
    refine⟨_,rfl,a,_,_,_,rfl,rfl,SqT.of e1,rfl,sz,fun t ht=>?_⟩
    have g2:Gro [] H1 (upd H1 t (.tup wrapTimes)):=Gro.new ht _
    refine⟨k,p,t,wrapTimes,rfl,hpk.mono (g1.trans g2).tups,by omega,fun H' g=>SqT.of (g.tups _ _ upd_same),rfl,fun H3 g3=>?_⟩
    have g13:=(g1.trans g2).trans g3
    refine⟨_,_,rfl,rfl,big2 (by rw[l_lb];omega),?_⟩
    refine⟨_,rfl,a,_,_,_,rfl,rfl,SqT.of (g13.tups _ _ e),rfl,lo,rfl,lg hb.1 hb.2.1,_,_,rfl,rfl,big2 (by show _+(num lo).length<=_;rw[len_app,l_lb];omega),?_⟩
    refine⟨_,_,rfl,rfl,big2 (by show((wrT wrapTimes p.wt++"{":Str)++num lo).length+_<=_;rw[len_app,len_app,l_lb,l_comma];omega),?_⟩
    refine⟨_,rfl,_,_,rfl,rfl,big2 (by show(((wrT wrapTimes p.wt++"{":Str)++num lo)++",").length+_<=_;rw[len_app,len_app,len_app,len_app,len_app,l_lb,l_comma,l_rb];omega),?_⟩
    show D.rt (.str ((((wrT wrapTimes p.wt++"{":Str)++num lo)++",")++(hiT hi++(how.sign++"}")))) H3
    rw[turns_eq,hD]
    exact q H3 g13
   cases hi with
   |none =>
    refine⟨_,rfl,a,_,_,_,rfl,rfl,SqT.of e,rfl,_,rfl,ite_no (by show ¬(!decide (V.non=V.non))=true;simp) ?_⟩
    exact core _ "" rfl rfl
   |some x =>
    refine⟨_,rfl,a,_,_,_,rfl,rfl,SqT.of e,rfl,_,rfl,ite_yes (by show(!decide (V.int x=V.non))=true;simp) ?_⟩
    exact⟨_,rfl,a,_,_,_,rfl,rfl,SqT.of e,rfl,x,rfl,lg (hb.2.2 x rfl).1 (hb.2.2 x rfl).2,core _ (num x) rfl rfl⟩
 |grp j =>
  obtain⟨_,k,e0,e⟩:=lay
  subst e0
  refine⟨_,rfl,rfl,_,rfl,ite_no (show ¬isw "group" "row" = true by decide +kernel) ?_⟩
  refine⟨_,rfl,rfl,_,rfl,ite_no (show ¬isw "group" "or" = true by decide +kernel) ?_⟩
  refine⟨_,rfl,rfl,_,rfl,ite_no (show ¬isw "group" "times" = true by decide +kernel) ?_⟩
  refine⟨_,rfl,rfl,_,rfl,ite_yes (show isw "group" "group" = true by decide +kernel) ?_⟩
  match ks,hk with
  | [p],.cons hpk .nil =>
   rw[sizeL_one]at hz hsh
   have hs1:=hpk.short
   unfold Short at hs1
   refine⟨_,rfl,a,_,_,_,rfl,rfl,SqT.of e,rfl,k,p,rfl,hpk,by omega,fun H1 g1=>?_⟩
   exact⟨_,_,rfl,rfl,big2 (by rw[l_lp];omega),_,_,rfl,rfl,big2 (by rw[len_app,l_lp,l_rp];omega),q H1 g1⟩
 |hav j =>
  obtain⟨hb,y,z',e0,e⟩:=lay
  subst e0
  have hn:=num_len hb.1 hb.2
  refine⟨_,rfl,rfl,_,rfl,ite_no (show ¬isw "have" "row" = true by decide +kernel) ?_⟩
  refine⟨_,rfl,rfl,_,rfl,ite_no (show ¬isw "have" "or" = true by decide +kernel) ?_⟩
  refine⟨_,rfl,rfl,_,rfl,ite_no (show ¬isw "have" "times" = true by decide +kernel) ?_⟩
  refine⟨_,rfl,rfl,_,rfl,ite_no (show ¬isw "have" "group" = true by decide +kernel) ?_⟩
  refine⟨_,rfl,rfl,_,rfl,ite_yes (show isw "have" "have" = true by decide +kernel) ?_⟩
  match ks,hk with
  | [p,p'],.cons hpk (.cons hpk' .nil) =>
   rw[sizeL,sizeL_one]at hz hsh
   have hs1:=hpk.short
   have hs2:=hpk'.short
   unfold Short at hs1 hs2
   refine⟨_,rfl,a,_,_,_,rfl,rfl,SqT.of e,rfl,j,rfl,lg hb.1 hb.2,_,_,rfl,rfl,big2 (by show _+(num j).length<=_;rw[l_lt];omega),?_⟩
   refine⟨_,rfl,a,_,_,_,rfl,rfl,SqT.of e,rfl,y,p,rfl,hpk,by omega,fun H1 g1=>?_⟩
   have e1:=g1.tups _ _ e
   refine⟨_,_,rfl,rfl,big2 (by show("<" ++ num j:Str).length+_<=_;rw[len_app,l_lt];omega),_,_,rfl,rfl,big2 (by show(("<" ++ num j:Str)++p.txt).length+_<=_;rw[len_app,len_app,l_lt,l_til];omega),?_⟩
   refine⟨_,rfl,a,_,_,_,rfl,rfl,SqT.of e1,rfl,z',p',rfl,hpk'.mono g1.tups,by omega,fun H2 g2=>?_⟩
   exact⟨_,_,rfl,rfl,big2 (by show((("<" ++ num j:Str)++p.txt)++"~").length+_<=_;rw[len_app,len_app,len_app,l_lt,l_til];omega),_,_,rfl,rfl,big2 (by show(((("<" ++ num j:Str)++p.txt)++"~")++p'.txt).length+_<=_;rw[len_app,len_app,len_app,len_app,l_lt,l_til,l_gt];omega),q H2 (g1.trans g2)⟩
 |look lk =>
  have t:isw lk.text "row" = false/\isw lk.text "or" = false/\isw lk.text "times" = false/\isw lk.text "group" = false/\isw lk.text "have" = false:=by cases lk <;> decide +kernel
  obtain⟨t1,t2,t3,t4,t6⟩:=t
  refine⟨_,rfl,rfl,_,rfl,ite_no (show ¬isw lk.text "row" = true by rw[t1];decide) ?_⟩
  refine⟨_,rfl,rfl,_,rfl,ite_no (show ¬isw lk.text "or" = true by rw[t2];decide) ?_⟩
  refine⟨_,rfl,rfl,_,rfl,ite_no (show ¬isw lk.text "times" = true by rw[t3];decide) ?_⟩
  refine⟨_,rfl,rfl,_,rfl,ite_no (show ¬isw lk.text "group" = true by rw[t4];decide) ?_⟩
  refine⟨_,rfl,rfl,_,rfl,ite_no (show ¬isw lk.text "have" = true by rw[t6];decide) ?_⟩
  exact⟨rfl,rfl,rfl,.inl ⟨lk,rfl⟩⟩
 |sign x=>exact⟨_,rfl,rfl,_,rfl,ite_no (show ¬isw "sign" "row" = true by decide +kernel) ⟨_,rfl,rfl,_,rfl,ite_no (show ¬isw "sign" "or" = true by decide +kernel) ⟨_,rfl,rfl,_,rfl,ite_no (show ¬isw "sign" "times" = true by decide +kernel) ⟨_,rfl,rfl,_,rfl,ite_no (show ¬isw "sign" "group" = true by decide +kernel) ⟨_,rfl,rfl,_,rfl,ite_no (show ¬isw "sign" "have" = true by decide +kernel) (leaf lay.1 rfl (by simp[Hd.wd]))⟩⟩⟩⟩⟩
 |any=>exact⟨_,rfl,rfl,_,rfl,ite_no (show ¬isw "any" "row" = true by decide +kernel) ⟨_,rfl,rfl,_,rfl,ite_no (show ¬isw "any" "or" = true by decide +kernel) ⟨_,rfl,rfl,_,rfl,ite_no (show ¬isw "any" "times" = true by decide +kernel) ⟨_,rfl,rfl,_,rfl,ite_no (show ¬isw "any" "group" = true by decide +kernel) ⟨_,rfl,rfl,_,rfl,ite_no (show ¬isw "any" "have" = true by decide +kernel) (leaf lay.1 rfl (by simp[Hd.wd]))⟩⟩⟩⟩⟩
 |beg=>exact⟨_,rfl,rfl,_,rfl,ite_no (show ¬isw "begin" "row" = true by decide +kernel) ⟨_,rfl,rfl,_,rfl,ite_no (show ¬isw "begin" "or" = true by decide +kernel) ⟨_,rfl,rfl,_,rfl,ite_no (show ¬isw "begin" "times" = true by decide +kernel) ⟨_,rfl,rfl,_,rfl,ite_no (show ¬isw "begin" "group" = true by decide +kernel) ⟨_,rfl,rfl,_,rfl,ite_no (show ¬isw "begin" "have" = true by decide +kernel) (leaf lay.1 rfl (by simp[Hd.wd]))⟩⟩⟩⟩⟩
 |fin=>exact⟨_,rfl,rfl,_,rfl,ite_no (show ¬isw "end" "row" = true by decide +kernel) ⟨_,rfl,rfl,_,rfl,ite_no (show ¬isw "end" "or" = true by decide +kernel) ⟨_,rfl,rfl,_,rfl,ite_no (show ¬isw "end" "times" = true by decide +kernel) ⟨_,rfl,rfl,_,rfl,ite_no (show ¬isw "end" "group" = true by decide +kernel) ⟨_,rfl,rfl,_,rfl,ite_no (show ¬isw "end" "have" = true by decide +kernel) (leaf lay.1 rfl (by simp[Hd.wd]))⟩⟩⟩⟩⟩
 |inn rs=>exact⟨_,rfl,rfl,_,rfl,ite_no (show ¬isw "in" "row" = true by decide +kernel) ⟨_,rfl,rfl,_,rfl,ite_no (show ¬isw "in" "or" = true by decide +kernel) ⟨_,rfl,rfl,_,rfl,ite_no (show ¬isw "in" "times" = true by decide +kernel) ⟨_,rfl,rfl,_,rfl,ite_no (show ¬isw "in" "group" = true by decide +kernel) ⟨_,rfl,rfl,_,rfl,ite_no (show ¬isw "in" "have" = true by decide +kernel) (leaf lay.1 rfl (by simp[Hd.wd]))⟩⟩⟩⟩⟩
 |out rs=>exact⟨_,rfl,rfl,_,rfl,ite_no (show ¬isw "out" "row" = true by decide +kernel) ⟨_,rfl,rfl,_,rfl,ite_no (show ¬isw "out" "or" = true by decide +kernel) ⟨_,rfl,rfl,_,rfl,ite_no (show ¬isw "out" "times" = true by decide +kernel) ⟨_,rfl,rfl,_,rfl,ite_no (show ¬isw "out" "group" = true by decide +kernel) ⟨_,rfl,rfl,_,rfl,ite_no (show ¬isw "out" "have" = true by decide +kernel) (leaf lay.1 rfl (by simp[Hd.wd]))⟩⟩⟩⟩⟩
 |again j=>exact⟨_,rfl,rfl,_,rfl,ite_no (show ¬isw "again" "row" = true by decide +kernel) ⟨_,rfl,rfl,_,rfl,ite_no (show ¬isw "again" "or" = true by decide +kernel) ⟨_,rfl,rfl,_,rfl,ite_no (show ¬isw "again" "times" = true by decide +kernel) ⟨_,rfl,rfl,_,rfl,ite_no (show ¬isw "again" "group" = true by decide +kernel) ⟨_,rfl,rfl,_,rfl,ite_no (show ¬isw "again" "have" = true by decide +kernel) (leaf lay.2.1 rfl (by simp[Hd.wd]))⟩⟩⟩⟩⟩
def spRuns:Sp:=fun vs H Q _=>∃b l:Addr,vs=[.ref b,.ref l]/\BoxAt H b/\LetAt H l/\∀(r:Addr) (rs:List (Str×Str)) (H':Hp),BoxAt H' b->RunsAt H' r rs->1<=rs.length->rs.length<=2->Gro [b] H H'->Q (.ref r) H'
abbrev s_l_runs:Stmt:=top 51
theorem sc_l_runs:FnScope ["_law_box","_law_letters_here","_law_runs_here","_law_k","_law_one","_law_two"] ["_law_box","_law_letters_here"] (defScope s_l_runs):=fsc
theorem ok_runs(T:Blt mg)(O_l_take:Own P w K mg base 1 "_law_take" ["_law_box","_law_many"] spTake)(F:Fun K "_law_runs" "_law_runs" s_l_runs f fd) :
  FnOk P w K mg base CX0 2 f fd ["_law_box","_law_letters_here"] spRuns:=by
 refine F.ok sc_l_runs (fun vs H Q E h=>?_) (fun cdv A outer s H vs Q E hr h=>?_)
 ·obtain⟨b,l,rfl,_⟩:=h
  rfl
 obtain⟨b,l,rfl,hb,hl,q⟩:=h
 refine ltX ?_
 intro Xz
 refine⟨_,(pss_cons (pS 2 sc_l_runs.nd (pe_lst pa_nil))
  (pss_cons (ps_for PassesOwn.never rfl (pi_range1 rfl T.b_range (pa_cons (pe_op op_add pe_int (pe_own (O_l_take.mono (by omega)) hr rfl (pa_cons (pv 0) (pa_cons pe_int pa_nil)))) pa_nil)) (pN 3 sc_l_runs.nd) (pss_cons (pS 4 sc_l_runs.nd (pe_ix ix_list (pv 1) (pe_own (O_l_take.mono (by omega)) hr rfl (pa_cons (pv 0) (pa_cons pe_int pa_nil))) (fun _ _=>rfl)))
  (pss_cons (pS 5 sc_l_runs.nd (pe_ix ix_list (pv 1) (pe_own (O_l_take.mono (by omega)) hr rfl (pa_cons (pv 0) (pa_cons pe_int pa_nil))) (fun _ _=>rfl)))
  (pss_one (ps_if (pt_cmpR op_gt (pe_callB call_ord rfl T.b_ord PyProof.Rows.Boot.«ord» (pa_cons (pv 4) pa_nil)) (pe_callB call_ord rfl T.b_ord PyProof.Rows.Boot.«ord» (pa_cons (pv 5) pa_nil)) (nomark _)) (pss_one (ps_expr (pe_bm PySem.F.plainAttrs_list PySem.F.slot_list_append PySem.F.type_list_append mt_append (pv 2) (pa_cons (pe_tup (pa_cons (pv 5) (pa_cons (pv 4) pa_nil))) pa_nil)))) (pss_one (ps_expr (pe_bm PySem.F.plainAttrs_list PySem.F.slot_list_append PySem.F.type_list_append mt_append (pv 2) (pa_cons (pe_tup (pa_cons (pv 4) (pa_cons (pv 5) pa_nil))) pa_nil)))))))))
  (pss_one (ps_ret (pe_callTy call_tuple_of rfl T.b_tuple PyProof.Rows.Boot.«tuple» (pa_cons (pv 2) pa_nil)))))),?_⟩
 refine q426bf ?_
 intro Ez Az1 Az2 Az3 Az4 Az5 Az6 Az7
 have bl:b≠l:=hb.ne_let hl
 refine⟨sz,fun a ha=>?_⟩
 refine⟨_,rfl,b,2,rfl,hb.new ha,by decide,by decide,fun r H1 h0 h1 hb1 g1=>?_⟩
 refine⟨_,_,rfl,rfl,_,rfl,by omega,by omega,?_⟩
 have g1':Gro [b] H H1:=(Gro.new ha _).trans g1
 have ha1:H1 a=some (.lst []):=g1.keep a _ upd_same (by rw[List.mem_singleton];exact Ne.symm (ne_of_none hb.choose_spec.1 ha))
 refine for_range (fun i σ H'=>∃(vs:List V) (rs:List (Str×Str)) (k o t:Option V),σ=[some (.ref b),some (.ref l),some (.ref a),k,o,t]/\H' a=some (.lst vs)/\Paired (RunP H') vs rs/\rs.length=i/\BoxAt H' b/\Gro [b] H H')
  ⟨[],[],none,none,none,rfl,ha1,.nil,rfl,hb1,g1'⟩ ?_ ?_
 ·rintro i σ H2 hi ⟨vs,rs,k,o,t,rfl,ha2,hp2,hl2,hb2,g2⟩
  have ba:b≠a:=ne_of_none hb.choose_spec.1 ha
  have l2:LetAt H2 l:=hl.gro g2 (by simpa using Ne.symm bl)
  refine⟨_,rfl,_,rfl,b,3,rfl,hb2,by decide,by decide,fun r3 H3 h30 h31 hb3 g3=>?_⟩
  have l3:LetAt H3 l:=l2.gro g3 (by simpa using Ne.symm bl)
  refine letS l3 h30 h31 fun s1 hs1=>?_
  refine⟨_,rfl,_,rfl,b,3,rfl,hb3,by decide,by decide,fun r4 H4 h40 h41 hb4 g4=>?_⟩
  have l4:LetAt H4 l:=l3.gro g4 (by simpa using Ne.symm bl)
  refine letS l4 h40 h41 fun s2 hs2=>?_
  have g24:=g3.trans g4
  have ha4:H4 a=some (.lst vs):=g24.keep a _ ha2 (by simpa using Ne.symm ba)
  have hp4:Paired (RunP H4) vs rs:=paired_mono g24.tups hp2
  have hvl:vs.length<=2:=by have:=Paired.length hp2;omega
  refine⟨_,rfl,s1,rfl,hs1,_,rfl,s2,rfl,hs2,_,_,rfl,rfl,_,rfl,?_⟩
  have fin:∀(x y:Str),x.length=1->y.length=1->∀p,H4 p=none->∃(vs':List V) (rs':List (Str×Str)) (k o t:Option V),
    [some (V.ref b),some (.ref l),some (.ref a),some (.int (0+(i:Int))),some (.str s1),some (.str s2)]=[some (.ref b),some (.ref l),some (.ref a),k,o,t]/\(upd (upd H4 p (.tup [.str x,.str y])) a (.lst (vs++[.ref p]))) a=some (.lst vs') /\
    Paired (RunP (upd (upd H4 p (.tup [.str x,.str y])) a (.lst (vs++[.ref p])))) vs' rs'/\rs'.length=i+1/\BoxAt (upd (upd H4 p (.tup [.str x,.str y])) a (.lst (vs++[.ref p]))) b/\Gro [b] H (upd (upd H4 p (.tup [.str x,.str y])) a (.lst (vs++[.ref p]))):=by
   intro x y hx hy p hp
   have hpa:p≠a:=Ne.symm (ne_of_none ha4 hp)
   have ha5:(upd H4 p (.tup [.str x,.str y])) a=some (.lst vs):=by rw[upd_ne (Ne.symm hpa)];exact ha4
   have t5:Gro [a] H4 (upd (upd H4 p (.tup [.str x,.str y])) a (.lst (vs++[.ref p]))):=(Gro.new hp _).trans (Gro.set (by simp) ha5 _)
   refine⟨vs++[.ref p],rs++[(x,y)],_,_,_,rfl,upd_same,?_,by simp[hl2],?_,?_⟩
   ·exact(paired_mono t5.tups hp4).snoc ⟨hx,hy,p,rfl,by rw[upd_ne hpa];exact upd_same⟩
   ·exact(hb4.new hp).gro (S:=[a]) (Gro.set (by simp) ha5 _) (by simpa using ba)
   ·exact((g2.trans g24).tup hp).fresh ha _
  refine ite2 (fun c=>?_) (fun c=>?_)
  ·refine⟨_,rfl,.inl ⟨rfl,_,SqL.of ha4⟩,_,rfl,_,rfl,sz,fun p hp=>?_⟩
   refine⟨a,vs,_,rfl,rfl,by rw[upd_ne (ne_of_none ha4 hp)];exact ha4,small1000 (by omega),?_⟩
   exact fin s2 s1 hs2 hs1 p hp
  ·refine⟨_,rfl,.inl ⟨rfl,_,SqL.of ha4⟩,_,rfl,_,rfl,sz,fun p hp=>?_⟩
   refine⟨a,vs,_,rfl,rfl,by rw[upd_ne (ne_of_none ha4 hp)];exact ha4,small1000 (by omega),?_⟩
   exact fin s1 s2 hs1 hs2 p hp
 ·rintro σ H2 ⟨vs,rs,k,o,t,rfl,ha2,hp2,hl2,hb2,g2⟩
  refine⟨_,rfl,a,_,rfl,.inl ⟨SqL.of ha2,fun r hr=>?_⟩⟩
  exact q r rs _ (hb2.new hr) ⟨vs,upd_same,paired_mono (Gro.new (S:=[]) hr _).tups hp2,by omega⟩ (by omega) (by omega) (g2.tup hr)
def spLeaf:Sp:=fun vs H Q _=>∃b l c:Addr,vs=[.ref b,.ref l,.ref c]/\BoxAt H b/\LetAt H l/\CntAt H c/\b≠c/\∀(v:V) (p:Pat) (H':Hp),BoxAt H' b->PatAt H' 1 v p->Gro [b] H H'->Q v H'
abbrev s_l_leaf:Stmt:=top 52
theorem sc_l_leaf:FnScope ["_law_box","_law_letters_here","_law_count","_law_kind"] ["_law_box","_law_letters_here","_law_count"] (defScope s_l_leaf):=fsc
theorem ok_leaf(T:Blt mg)(O_l_take:Own P w K mg base 1 "_law_take" ["_law_box","_law_many"] spTake)(O_l_runs:Own P w K mg base 2 "_law_runs" ["_law_box","_law_letters_here"] spRuns)(F:Fun K "_law_leaf" "_law_leaf" s_l_leaf f fd) :
  FnOk P w K mg base CX0 3 f fd ["_law_box","_law_letters_here","_law_count"] spLeaf:=by
 refine F.ok sc_l_leaf (fun vs H Q E h=>?_) (fun cdv A outer s H vs Q E hr h=>?_)
 ·obtain⟨b,l,c,rfl,_⟩:=h
  rfl
 obtain⟨b,l,c,rfl,hb,hl,hc,bc,q⟩:=h
 refine ltX ?_
 intro Xz
 refine⟨_,(pss_cons (pS 3 sc_l_leaf.nd (pe_own (O_l_take.mono (by omega)) hr rfl (pa_cons (pv 0) (pa_cons pe_int pa_nil))))
  (pss_cons (ps_if (pt_cmpR op_lt (pv 3) pe_int (nomark _)) (pss_one (ps_ret (pe_tup (pa_cons pe_str (pa_cons (pe_ix ix_list (pv 1) (pe_own (O_l_take.mono (by omega)) hr rfl (pa_cons (pv 0) (pa_cons pe_int pa_nil))) (fun _ _=>rfl)) pa_nil))))) pss_nil)
  (pss_cons (ps_if (pt_cmpR op_eq (pv 3) pe_int (nomark _)) (pss_one (ps_ret (pe_tup (pa_cons pe_str pa_nil)))) pss_nil)
  (pss_cons (ps_if (pt_cmpR op_lt (pv 3) pe_int (nomark _)) (pss_one (ps_ret (pe_tup (pa_cons (pe_ix ix_list (pe_lst (pa_cons pe_str (pa_cons pe_str pa_nil))) (pe_op op_sub (pv 3) pe_int) (fun _ _=>rfl)) (pa_cons (pe_own (O_l_runs.mono (by omega)) hr rfl (pa_cons (pv 0) (pa_cons (pv 1) pa_nil))) pa_nil))))) pss_nil)
  (pss_cons (ps_if (PW.pt (pw_or (pt_cmpR op_eq (pv 3) pe_int (nomark _)) (pw_or (pt_cmpR op_eq (pe_ix ix_list (pv 2) pe_int (fun _ _=>rfl)) pe_int (nomark _)) (pw_or1 (pt_cmpR op_eq (pe_ix ix_list (pv 2) pe_int (fun _ _=>rfl)) pe_int (nomark _)))))) (pss_one (ps_ret (pe_tup (pa_cons (pe_ix ix_list (pe_lst (pa_cons pe_str (pa_cons pe_str pa_nil))) (pe_own (O_l_take.mono (by omega)) hr rfl (pa_cons (pv 0) (pa_cons pe_int pa_nil))) (fun _ _=>rfl)) pa_nil)))) pss_nil)
  (pss_one (ps_ret (pe_tup (pa_cons pe_str (pa_cons (pe_op op_add pe_int (pe_own (O_l_take.mono (by omega)) hr rfl (pa_cons (pv 0) (pa_cons (pe_ix ix_list (pv 2) pe_int (fun _ _=>rfl)) pa_nil)))) pa_nil)))))))))),?_⟩
 refine q8c691 ?_
 intro Ez Az1 Az2 Az3 Az4 Az5 Az6 Az7 Az8 Az9
 have bl:b≠l:=hb.ne_let hl
 have lS:l∉[b]:=by simpa using Ne.symm bl
 have cS:c∉[b]:=by simpa using Ne.symm bc
 refine⟨_,rfl,b,8,rfl,hb,by decide,by decide,fun k H1 h0 h1 hb1 g1=>?_⟩
 have l1:=hl.gro g1 lS
 have c1:=hc.gro g1 cS
 refine⟨_,rfl,_,_,rfl,rfl,_,rfl,ite2 (fun _=>?_) (fun k3=>?_)⟩
 ·refine⟨_,rfl,_,rfl,b,3,rfl,hb1,by decide,by decide,fun r H2 h20 h21 hb2 g2=>?_⟩
  refine letS (l1.gro g2 lS) h20 h21 fun s hs=>⟨sz,fun p hp=>?_⟩
  exact q _ (.node (.sign s) []) _ (hb2.new hp) ⟨p,[],rfl,⟨rfl,hs,upd_same⟩,.nil⟩ ((g1.trans g2).tup hp)
 refine⟨_,rfl,rfl,_,rfl,ite2 (fun _=>?_) (fun k4=>?_)⟩
 ·exact⟨sz,fun p hp=>q _ (.node .any []) _ (hb1.new hp) ⟨p,[],rfl,⟨rfl,upd_same⟩,.nil⟩ (g1.tup hp)⟩
 refine⟨_,rfl,_,_,rfl,rfl,_,rfl,ite2 (fun k6=>?_) (fun k6=>?_)⟩
 ·refine⟨sz,fun a ha=>⟨_,rfl,_,_,rfl,rfl,?_⟩⟩
  have hk3:¬k<3:=fun z=>k3 (decide_eq_true z)
  have hk4:¬k=3:=fun z=>k4 (decide_eq_true (by rw[z]))
  have hk6:k<6:=of_decide_eq_true k6
  have e45:k=4∨k=5:=by omega
  have run:∀(word:Str) (hd:List (Str×Str)->Hd),(∀H' p r rs,H' p=some (.tup [.str word,.ref r])->RunsAt H' r rs->Lay H' p (hd rs) [])->∀H2:Hp,H2=upd H1 a (.lst [.str "in",.str "out"]) ->
    (tCall spRuns [] E0 (tCons (tVar 0) (tCons (tVar 1) tNil))) [some (.ref b),some (.ref l),some (.ref c),some (.int k)] H2 (fun x H3=>(tNil) [some (.ref b),some (.ref l),some (.ref c),some (.int k)] H3 fun xs H4=>(V.str word::x::xs).length<=sizeLine/\∀p,H4 p=none->Q (.ref p) (upd H4 p (.tup (V.str word::x::xs)))):=by
   rintro word hd lay H2 rfl
   refine⟨_,rfl,_,rfl,b,l,rfl,hb1.new ha,l1.new ha,fun r rs H3 hb3 hr3 _ _ g3=>⟨sz,fun p hp=>?_⟩⟩
   exact q _ (.node (hd rs) []) _ (hb3.new hp) ⟨p,[],rfl,lay _ _ _ _ upd_same (hr3.mono (Gro.new (S:=[]) hp _).tups),.nil⟩ (((g1.tup ha).trans g3).tup hp)
  rcases e45 with rfl | rfl
  ·exact⟨a,_,_,_,rfl,rfl,SqL.of upd_same,rfl,run "in" .inn (fun H' p r rs e h=>⟨rfl,r,e,h⟩) _ rfl⟩
  ·exact⟨a,_,_,_,rfl,rfl,SqL.of upd_same,rfl,run "out" .out (fun H' p r rs e h=>⟨rfl,r,e,h⟩) _ rfl⟩
 obtain⟨cn,cp,hcl,hcn⟩:=c1
 have bare:(tTup (tCons (tOp (rIxL K) (tLst (tCons (tC (.str "begin")) (tCons (tC (.str "end")) tNil))) (tCall spTake [] E0 (tCons (tVar 0) (tCons (tC (.int 2)) tNil)))) tNil)) [some (.ref b),some (.ref l),some (.ref c),some (.int k)] H1 Q:=by
  refine⟨sz,fun a ha=>⟨_,rfl,b,2,rfl,hb1.new ha,by decide,by decide,fun r H2 h20 h21 hb2 g2=>?_⟩⟩
  have ha2:H2 a=some (.lst [.str "begin",.str "end"]):=g2.keep a _ upd_same (by simpa using Ne.symm (ne_of_none hb1.choose_spec.1 ha))
  have e01:r=0∨r=1:=by omega
  rcases e01 with rfl | rfl
  ·exact⟨a,_,_,_,rfl,rfl,SqL.of ha2,rfl,sz,fun p hp=>q _ (.node .beg []) _ (hb2.new hp) ⟨p,[],rfl,⟨rfl,upd_same⟩,.nil⟩ (((g1.tup ha).trans g2).tup hp)⟩
  ·exact⟨a,_,_,_,rfl,rfl,SqL.of ha2,rfl,sz,fun p hp=>q _ (.node .fin []) _ (hb2.new hp) ⟨p,[],rfl,⟨rfl,upd_same⟩,.nil⟩ (((g1.tup ha).trans g2).tup hp)⟩
 refine⟨_,rfl,rfl,_,rfl,ite2 (fun _=>iteT bare) (fun _=>?_)⟩
 refine⟨_,rfl,c,_,_,_,rfl,rfl,SqL.of hcl,rfl,rfl,_,rfl,ite2 (fun _=>iteT bare) (fun c0=>?_)⟩
 refine⟨_,rfl,c,_,_,_,rfl,rfl,SqL.of hcl,rfl,rfl,_,rfl,ite2 (fun _=>bare) (fun _=>?_)⟩
 have cn0:¬cn=0:=fun z=>c0 (decide_eq_true (by rw[z]))
 refine⟨_,rfl,_,rfl,c,_,_,_,rfl,rfl,SqL.of hcl,rfl,b,cn,rfl,hb1,by omega,by omega,fun r H2 h20 h21 hb2 g2=>?_⟩
 refine⟨_,_,rfl,rfl,sz,fun p hp=>?_⟩
 exact q _ (.node (.again (1+r)) []) _ (hb2.new hp) ⟨p,[],rfl,⟨⟨by omega,by omega⟩,rfl,upd_same⟩,.nil⟩ ((g1.trans g2).tup hp)
def spPat(n:Nat):Sp:=fun vs H Q _=>∃(b l c:Addr) (d:Nat),d<n/\vs=[.ref b,.ref l,.ref c,.int d]/\BoxAt H b/\LetAt H l/\CntAt H c/\b≠c /\
 ∀(v:V) (p:Pat) (H':Hp),BoxAt H' b->CntAt H' c->PatS H' (2*d+1) v p->Gro [b,c] H H'->Q v H'
def spParts(n:Nat):Sp:=fun vs H Q _=>∃(b l c:Addr) (d:Nat) (wd:Str),d<n/\vs=[.ref b,.ref l,.ref c,.int ((d:Int)+1),.str wd]/\(wd="row" ∨ wd="or")/\BoxAt H b/\LetAt H l/\CntAt H c/\b≠c /\
 ∀(v:V) (p:Pat) (H':Hp),BoxAt H' b->CntAt H' c->PatS H' (2*d+3) v p->Gro [b,c] H H'->Q v H'
def spTimes(n:Nat):Sp:=fun vs H Q _=>∃(b l c:Addr) (d:Nat),d<n/\vs=[.ref b,.ref l,.ref c,.int ((d:Int)+1)]/\BoxAt H b/\LetAt H l/\CntAt H c/\b≠c /\
 ∀(v:V) (p:Pat) (H':Hp),BoxAt H' b->CntAt H' c->PatS H' (2*d+3) v p->Gro [b,c] H H'->Q v H'
abbrev s_l_parts:Stmt:=top 53
theorem sc_l_parts:FnScope ["_law_box","_law_letters_here","_law_count","_law_deep","_law_word","_law_parts_here","_law_k","_law_part"] ["_law_box","_law_letters_here","_law_count","_law_deep","_law_word"] (defScope s_l_parts):=fsc
theorem ok_parts{n:Nat}(T:Blt mg)(O_l_take:Own P w K mg base 1 "_law_take" ["_law_box","_law_many"] spTake)(O_l_pattern:Own P w K mg base (4+2*n) "_law_pattern" ["_law_box","_law_letters_here","_law_count","_law_deep"] (spPat n))(F:Fun K "_law_parts" "_law_parts" s_l_parts f fd) :
  FnOk P w K mg base CX0 (4+2*n+1) f fd ["_law_box","_law_letters_here","_law_count","_law_deep","_law_word"] (spParts n):=by
 refine F.ok sc_l_parts (fun vs H Q E h=>?_) (fun cdv A outer s H vs Q E hr h=>?_)
 ·obtain⟨b,l,c,d,wd,_,rfl,_⟩:=h
  rfl
 obtain⟨b,l,c,d,wd,hd,rfl,hwd,hb,hl,hc,bc,q⟩:=h
 refine ltX ?_
 intro Xz
 refine⟨_,(pss_cons (pS 5 sc_l_parts.nd (pe_lst pa_nil))
  (pss_cons (ps_for PassesOwn.never rfl (pi_range1 rfl T.b_range (pa_cons (pe_op op_add pe_int (pe_op op_mul (pe_callTy call_int1 rfl T.b_int PyProof.Rows.Boot.«int» (pa_cons (pe_cmpR op_gt (pv 3) pe_int (nomark _)) pa_nil)) (pe_own (O_l_take.mono (by omega)) hr rfl (pa_cons (pv 0) (pa_cons pe_int pa_nil))))) pa_nil)) (pN 6 sc_l_parts.nd) (pss_cons (pS 7 sc_l_parts.nd (pe_own (O_l_pattern.mono (by omega)) hr rfl (pa_cons (pv 0) (pa_cons (pv 1) (pa_cons (pv 2) (pa_cons (pe_op op_sub (pv 3) pe_int) pa_nil))))))
  (pss_cons (ps_if (pt_cmpR op_eq (pe_ix ix_tup (pv 7) pe_int (fun _ _=>rfl)) (pv 4) (nomark _)) (pss_one (pS 7 sc_l_parts.nd (pe_tup (pa_cons pe_str (pa_cons pe_int (pa_cons pe_int (pa_cons pe_str (pa_cons (pv 7) pa_nil)))))))) pss_nil)
  (pss_one (ps_expr (pe_bm PySem.F.plainAttrs_list PySem.F.slot_list_append PySem.F.type_list_append mt_append (pv 5) (pa_cons (pv 7) pa_nil)))))))
  (pss_one (ps_ret (pe_tup (pa_cons (pv 4) (pa_cons (pe_callTy call_tuple_of rfl T.b_tuple PyProof.Rows.Boot.«tuple» (pa_cons (pv 5) pa_nil)) pa_nil))))))),?_⟩
 refine q31d9a ?_
 intro Ez Az1 Az2 Az3 Az4 Az5 Az6
 have bl:b≠l:=hb.ne_let hl
 have cl:c≠l:=hc.ne_let hl
 have lS:l∉[b,c]:=by simp only[List.mem_cons,List.not_mem_nil,or_false,not_or];exact⟨Ne.symm bl,Ne.symm cl⟩
 have hd1:(d:Int)+1-1=d:=by omega
 refine⟨sz,fun a ha=>?_⟩
 have ba:b≠a:=ne_of_none hb.choose_spec.1 ha
 have ca:c≠a:=by obtain⟨_,_,e,_⟩:=hc;exact ne_of_none e ha
 have aS:a∉[b,c]:=by simp only[List.mem_cons,List.not_mem_nil,or_false,not_or];exact⟨Ne.symm ba,Ne.symm ca⟩
 refine⟨_,rfl,_,_,rfl,rfl,.inr ⟨_,rfl,_,rfl,b,2,rfl,hb.new ha,by decide,by decide,fun r H1 h0 h1 hb1 g1=>?_⟩⟩
 have g1':Gro [b,c] H H1:=(Gro.new ha _).trans (g1.mono (by simp))
 have ha1:H1 a=some (.lst []):=g1.keep a _ upd_same (by simpa using Ne.symm ba)
 have hc1:CntAt H1 c:=(hc.new ha).gro g1 (by simpa using Ne.symm bc)
 generalize hj:(if decide ((2:Int)<(d:Int)+1)=true then(1:Int) else 0)=jj
 have hjj:jj=0∨jj=1:=by rw[← hj];split <;> simp
 refine⟨_,_,rfl,rfl,.inl (by rcases hjj with z | z <;> rw[z] <;> constructor <;> decide),_,_,rfl,rfl,?_⟩
 have hm:0<=jj*r/\jj*r<=1:=by rcases hjj with z | z <;> rw[z] <;> omega
 generalize hmm:jj*r=mm at hm
 refine⟨_,rfl,by omega,by omega,?_⟩
 refine for_range (fun i σ H'=>∃(vs:List V) (ps:List Pat) (k pt:Option V),σ=[some (.ref b),some (.ref l),some (.ref c),some (.int ((d:Int)+1)),some (.str wd),some (.ref a),k,pt]/\H' a=some (.lst vs) /\
   Paired (PatAt H' (2*d+2)) vs ps/\sizeL ps<=i*(B (2*d+1)+1)/\vs.length=i/\BoxAt H' b/\CntAt H' c/\Gro [b,c] H H')
  ⟨[],[],none,none,rfl,ha1,.nil,by simp[sizeL],rfl,hb1,hc1,g1'⟩ ?_ ?_
 ·rintro i σ H2 hi ⟨vs,ps,k,pt,rfl,ha2,hp2,hsz,hl2,hb2,hc2,g2⟩
  have l2:LetAt H2 l:=hl.gro g2 lS
  refine⟨_,rfl,_,rfl,_,rfl,_,rfl,_,_,rfl,rfl,b,l,c,d,hd,congrArg (fun z=>[V.ref b,V.ref l,V.ref c,V.int z]) hd1,hb2,l2,hc2,bc,fun v p H3 hb3 hc3 hp3 g3=>?_⟩
  have g23:=g2.trans g3
  have ha3:H3 a=some (.lst vs):=g3.keep a _ ha2 aS
  have hps3:=pats_mono g3.tups hp2
  obtain⟨hp3,hs3⟩:=hp3
  obtain⟨av,x,r',rfl,hv⟩:=hp3.head
  have fin:∀(v':V) (p':Pat) (H4:Hp),H4 a=some (.lst vs)->Gro [b,c] H H4->BoxAt H4 b->CntAt H4 c->(∀b xs,H3 b=some (.tup xs)->H4 b=some (.tup xs))->PatAt H4 (2*d+2) v' p'->p'.size<=B (2*d+1)+1 ->
    ∃(vs':List V) (ps':List Pat) (k' pt':Option V),[some (V.ref b),some (.ref l),some (.ref c),some (.int ((d:Int)+1)),some (.str wd),some (.ref a),some (.int (0+(i:Int))),some v']=[some (V.ref b),some (.ref l),some (.ref c),some (.int ((d:Int)+1)),some (.str wd),some (.ref a),k',pt'] /\
     (upd H4 a (.lst (vs++[v']))) a=some (.lst vs')/\Paired (PatAt (upd H4 a (.lst (vs++[v']))) (2*d+2)) vs' ps'/\sizeL ps'<=(i+1)*(B (2*d+1)+1)/\vs'.length=i+1/\BoxAt (upd H4 a (.lst (vs++[v']))) b/\CntAt (upd H4 a (.lst (vs++[v']))) c/\Gro [b,c] H (upd H4 a (.lst (vs++[v']))):=by
   intro v' p' H4 ha4 g4 hb4 hc4 t4 hp4 hs4
   have t5:Gro [a] H4 (upd H4 a (.lst (vs++[v']))):=Gro.set (by simp) ha4 _
   refine⟨vs++[v'],ps++[p'],_,_,rfl,upd_same,(pats_mono t5.tups (pats_mono t4 hps3)).snoc (hp4.mono t5.tups),by rw[sizeL_append,sizeL_one,Nat.add_mul];omega,by simp[hl2],hb4.gro t5 (by simpa using ba),hc4.gro t5 (by simpa using ca),g4.fresh ha _⟩
  refine⟨_,rfl,av,_,_,_,rfl,rfl,SqT.of hv,at0,_,rfl,rfl,_,rfl,ite2 (fun _=>?_) (fun _=>?_)⟩
  ·refine⟨_,rfl,sz,fun p1 hp1=>?_⟩
   have ha4:(upd H3 p1 (.tup [.str "times",.int 1,.int 1,.str "much",.ref av])) a=some (.lst vs):=by rw[upd_ne (ne_of_none ha3 hp1)];exact ha3
   refine⟨_,rfl,.inl ⟨rfl,_,SqL.of ha4⟩,_,rfl,a,vs,_,rfl,rfl,ha4,small1000 (by omega),?_⟩
   refine fin _ (.node (.times 1 (some 1) .much) [p]) _ ha4 (g23.tup hp1) (hb3.new hp1) (hc3.new hp1) (Gro.new (S:=[]) hp1 _).tups ⟨p1,[.ref av],rfl,⟨⟨by decide,by decide,fun h e=>by cases e;decide⟩,_,rfl,upd_same⟩,.cons (hp3.mono (Gro.new (S:=[]) hp1 _).tups) .nil⟩ (by rw[size_node,sizeL_one];omega)
  ·refine⟨_,rfl,.inl ⟨rfl,_,SqL.of ha3⟩,_,rfl,a,vs,_,rfl,rfl,ha3,small1000 (by omega),?_⟩
   exact fin _ p _ ha3 g23 hb3 hc3 (fun _ _ e=>e) (hp3.deep (by omega)) (by omega)
 ·rintro σ H2 ⟨vs,ps,k,pt,rfl,ha2,hp2,hsz,hl2,hb2,hc2,g2⟩
  refine⟨_,rfl,_,rfl,a,_,rfl,.inl ⟨SqL.of ha2,fun r2 hr2=>⟨sz,fun p1 hp1=>?_⟩⟩⟩
  have g3:Gro [] H2 (upd (upd H2 r2 (.tup vs)) p1 (.tup [.str wd,.ref r2])):=(Gro.new hr2 _).tup hp1
  have e1:(upd (upd H2 r2 (.tup vs)) p1 (.tup [.str wd,.ref r2])) r2=some (.tup vs):=by rw[upd_ne (ne_of_none upd_same hp1)];exact upd_same
  have hps:1+sizeL ps<=B (2*d+3):=by
   have h1:=B_pos (2*d+1)
   rw[show 2*d+3=2*d+1+1+1 from rfl,B_succ,B_succ]
   have h3:sizeL ps<=3*(B (2*d+1)+1):=Nat.le_trans hsz (Nat.mul_le_mul_right _ (by omega))
   omega
  rcases hwd with rfl | rfl
  ·exact q _ (.node .row ps) _ (hb2.gro g3 (by simp)) (hc2.gro g3 (by simp)) ⟨⟨p1,vs,rfl,⟨by omega,r2,upd_same,e1⟩,pats_mono g3.tups hp2⟩,by rw[size_node];exact hps⟩ ((g2.tup hr2).tup hp1)
  ·exact q _ (.node .alt ps) _ (hb2.gro g3 (by simp)) (hc2.gro g3 (by simp)) ⟨⟨p1,vs,rfl,⟨by omega,by omega,r2,upd_same,e1⟩,pats_mono g3.tups hp2⟩,by rw[size_node];exact hps⟩ ((g2.tup hr2).tup hp1)
def cutTimes(b l c:Addr)(d:Nat)(H:Hp):TS:=fun D σ H1=>∃(lo:Int) (hi:Option Int) (how:How),σ=[some (.ref b),some (.ref l),some (.ref c),some (.int ((d:Int)+1)),some (.int lo),some (optV hi),some (.str how.text)] /\
 0<=lo/\lo<=2/\(∀h,hi=some h->1<=h/\h<=4)/\BoxAt H1 b/\LetAt H1 l/\CntAt H1 c/\Gro [b] H H1/\∀(v:V) (p:Pat) (H':Hp),BoxAt H' b->CntAt H' c->PatS H' (2*d+3) v p->Gro [b,c] H H'->D.rt v H'
abbrev s_l_times:Stmt:=top 54
theorem sc_l_times:FnScope ["_law_box","_law_letters_here","_law_count","_law_deep","_law_low","_law_high","_law_how"] ["_law_box","_law_letters_here","_law_count","_law_deep"] (defScope s_l_times):=fsc
theorem ok_times{n:Nat}(T:Blt mg)(O_l_take:Own P w K mg base 1 "_law_take" ["_law_box","_law_many"] spTake)(O_l_pattern:Own P w K mg base (4+2*n) "_law_pattern" ["_law_box","_law_letters_here","_law_count","_law_deep"] (spPat n))(F:Fun K "_law_times" "_law_times" s_l_times f fd) :
  FnOk P w K mg base CX0 (4+2*n+1) f fd ["_law_box","_law_letters_here","_law_count","_law_deep"] (spTimes n):=by
 refine F.ok sc_l_times (fun vs H Q E h=>?_) (fun cdv A outer s H vs Q E hr h=>?_)
 ·obtain⟨b,l,c,d,_,rfl,_⟩:=h
  rfl
 obtain⟨b,l,c,d,hd,rfl,hb,hl,hc,bc,q⟩:=h
 have bl:b≠l:=hb.ne_let hl
 have lS:l∉[b]:=by simpa using Ne.symm bl
 have cS:c∉[b]:=by simpa using Ne.symm bc
 have hd1:(d:Int)+1-1=d:=by omega
 refine ltX ?_
 intro Xz
 refine⟨_,(pss_cons (pS 4 sc_l_times.nd (pe_own (O_l_take.mono (by omega)) hr rfl (pa_cons (pv 0) (pa_cons pe_int pa_nil))))
  (pss_cons (pS 5 sc_l_times.nd (pe_ix ix_list (pe_lst (pa_cons pe_non (pa_cons (pe_op op_add (pv 4) pe_int) (pa_cons (pe_op op_add (pv 4) pe_int) (pa_cons (pe_callB (call_max2 rfl) rfl T.b_max PyProof.Rows.Boot.«max» (pa_cons (pv 4) (pa_cons pe_int pa_nil))) pa_nil))))) (pe_own (O_l_take.mono (by omega)) hr rfl (pa_cons (pv 0) (pa_cons pe_int pa_nil))) (fun _ _=>rfl)))
  (pss_cons (pS 6 sc_l_times.nd (pe_ix ix_list (pe_lst (pa_cons pe_str (pa_cons pe_str (pa_cons pe_str pa_nil)))) (pe_own (O_l_take.mono (by omega)) hr rfl (pa_cons (pv 0) (pa_cons pe_int pa_nil))) (fun _ _=>rfl)))
  (pss_cons (ps_if (PW.pt (pw_and (pt_cmpR op_eq (pv 6) pe_str (nomark _)) (pw_and1 (pt_cmpR op_eq (pe_ix ix_list (pv 2) pe_int (fun _ _=>rfl)) pe_int (nomark _))))) (pss_one (pS 6 sc_l_times.nd pe_str)) pss_nil)
  (pss_cut (cutTimes b l c d H) (pss_one (ps_ret (pe_tup (pa_cons pe_str (pa_cons (pv 4) (pa_cons (pv 5) (pa_cons (pv 6) (pa_cons (pe_own (O_l_pattern.mono (by omega)) hr rfl (pa_cons (pv 0) (pa_cons (pv 1) (pa_cons (pv 2) (pa_cons (pe_op op_sub (pv 3) pe_int) pa_nil))))) pa_nil)))))))) (fun D1 σ1 H1 hcut=>?cut4)))))),?_⟩
 case cut4 =>
  obtain⟨lo,hi,how,rfl,h0,h1,hh,hb1,hl1,hc1,g1,q⟩:=hcut
  refine⟨_,rfl,_,rfl,_,rfl,_,rfl,_,rfl,_,rfl,_,rfl,_,_,rfl,rfl,b,l,c,d,hd,congrArg (fun z=>[V.ref b,V.ref l,V.ref c,V.int z]) hd1,hb1,hl1,hc1,bc,fun v p H3 hb3 hc3 hp3 g3=>⟨sz,fun p1 hp1=>?_⟩⟩
  refine q _ (.node (.times lo hi how) [p]) _ (hb3.new hp1) (hc3.new hp1) ⟨⟨p1,[v],rfl,⟨⟨h0,by omega,fun h e=>by have:=hh h e;omega⟩,v,rfl,upd_same⟩,.cons ((hp3.1.mono (Gro.new (S:=[]) hp1 _).tups).deep (by omega)) .nil⟩,one_size hp3.2 (by omega)⟩ (((g1.mono (by simp)).trans g3).tup hp1)
 refine q375c0 ?_
 intro Ez Az1 Az2 Az3 Az4 Az5
 refine⟨_,rfl,b,3,rfl,hb,by decide,by decide,fun lo H1 h0 h1 hb1 g1=>?_⟩
 refine⟨_,rfl,_,_,rfl,rfl,_,rfl,_,_,rfl,rfl,_,rfl,_,_,rfl,sz,fun a ha=>?_⟩
 have ba:b≠a:=ne_of_none hb1.choose_spec.1 ha
 refine⟨_,rfl,b,4,rfl,hb1.new ha,by decide,by decide,fun r H2 h20 h21 hb2 g2=>?_⟩
 have ha2:=g2.keep a _ (upd_same (H:=H1)) (by simpa using Ne.symm ba)
 have high:∃hi:Option Int,(∀h,hi=some h->1<=h/\h<=4)/\atI [V.non,V.int (lo+1),V.int (lo+2),V.int (if(1:Int)>lo then 1 else lo)] r=some (optV hi):=by
  have:r=0∨r=1∨r=2∨r=3:=by omega
  rcases this with rfl | rfl | rfl | rfl
  ·exact⟨none,(fun h e=>by cases e),rfl⟩
  ·exact⟨some (lo+1),(fun h e=>by cases e;omega),rfl⟩
  ·exact⟨some (lo+2),(fun h e=>by cases e;omega),rfl⟩
  ·exact⟨some (if(1:Int)>lo then 1 else lo),(fun h e=>by cases e;split <;> omega),rfl⟩
 obtain⟨hi,hhi,ehi⟩:=high
 refine⟨a,_,_,_,rfl,rfl,SqL.of ha2,ehi,sz,fun a2 ha2n=>?_⟩
 have ba2:b≠a2:=ne_of_none hb2.choose_spec.1 ha2n
 refine⟨_,rfl,b,3,rfl,hb2.new ha2n,by decide,by decide,fun r2 H3 h30 h31 hb3 g3=>?_⟩
 have ha3:=g3.keep a2 _ (upd_same (H:=H2)) (by simpa using Ne.symm ba2)
 have g13:Gro [b] H H3:=((g1.tup ha).trans (g2.tup ha2n)).trans g3
 have hl3:=hl.gro g13 lS
 have hc3:=hc.gro g13 cS
 obtain⟨cn,cp,hcl,hcn⟩:=id hc3
 have howE:∃how:How,atI [V.str "much",V.str "little",V.str "keep"] r2=some (.str how.text):=by
  have:r2=0∨r2=1∨r2=2:=by omega
  rcases this with rfl | rfl | rfl
  ·exact⟨.much,rfl⟩
  ·exact⟨.little,rfl⟩
  ·exact⟨.keep,rfl⟩
 obtain⟨how,ehow⟩:=howE
 refine⟨a2,_,_,_,rfl,rfl,SqL.of ha3,ehow,?_⟩
 have q':∀(v:V) (p:Pat) (H':Hp),BoxAt H' b->CntAt H' c->PatS H' (2*d+3) v p->Gro [b,c] H H'->Q v H':=q
 refine⟨_,rfl,rfl,_,rfl,ite2 (fun _=>?_) (fun _=>iteF ⟨lo,hi,how,rfl,h0,by omega,hhi,hb3,hl3,hc3,g13,q'⟩)⟩
 refine⟨_,rfl,c,_,_,_,rfl,rfl,SqL.of hcl,rfl,rfl,_,rfl,ite2 (fun _=>?_) (fun _=>⟨lo,hi,how,rfl,h0,by omega,hhi,hb3,hl3,hc3,g13,q'⟩)⟩
 exact⟨lo,hi,.much,rfl,h0,by omega,hhi,hb3,hl3,hc3,g13,q'⟩
def cutPat(b l c:Addr)(d:Nat)(H:Hp):TS:=fun D σ H1=>∃k:Int,σ=[some (.ref b),some (.ref l),some (.ref c),some (.int d),some (.int k),none,none,none]/\2<=k/\k<12/\1<=d/\BoxAt H1 b/\LetAt H1 l/\CntAt H1 c/\Gro [b] H H1 /\
 ∀(v:V) (p:Pat) (H':Hp),BoxAt H' b->CntAt H' c->PatS H' (2*d+1) v p->Gro [b,c] H H'->D.rt v H'
abbrev s_l_pattern:Stmt:=top 55
theorem sc_l_pattern:FnScope ["_law_box","_law_letters_here","_law_count","_law_deep","_law_kind","_law_number_here","_law_yes","_law_word"] ["_law_box","_law_letters_here","_law_count","_law_deep"] (defScope s_l_pattern):=fsc
theorem ok_pattern{n:Nat}(T:Blt mg)(O_l_take:Own P w K mg base 1 "_law_take" ["_law_box","_law_many"] spTake)(O_l_leaf:Own P w K mg base 3 "_law_leaf" ["_law_box","_law_letters_here","_law_count"] spLeaf)(O_l_parts:Own P w K mg base (4+2*n+1) "_law_parts" ["_law_box","_law_letters_here","_law_count","_law_deep","_law_word"] (spParts n))
  (O_l_times:Own P w K mg base (4+2*n+1) "_law_times" ["_law_box","_law_letters_here","_law_count","_law_deep"] (spTimes n)) (O_l_pattern:Own P w K mg base (4+2*n) "_law_pattern" ["_law_box","_law_letters_here","_law_count","_law_deep"] (spPat n)) (F:Fun K "_law_pattern" "_law_pattern" s_l_pattern f fd) :
  FnOk P w K mg base CX0 (4+2*n+1+1) f fd ["_law_box","_law_letters_here","_law_count","_law_deep"] (spPat (n+1)):=by
 refine F.ok sc_l_pattern (fun vs H Q E h=>?_) (fun cdv A outer s H vs Q E hr h=>?_)
 ·obtain⟨b,l,c,d,_,rfl,_⟩:=h
  rfl
 obtain⟨b,l,c,d,hd,rfl,hb,hl,hc,bc,q⟩:=h
 have bl:b≠l:=hb.ne_let hl
 have cl:c≠l:=hc.ne_let hl
 have lS:l∉[b]:=by simpa using Ne.symm bl
 have cS:c∉[b]:=by simpa using Ne.symm bc
 have lS2:l∉[b,c]:=by simp only[List.mem_cons,List.not_mem_nil,or_false,not_or];exact⟨Ne.symm bl,Ne.symm cl⟩
 refine ltX ?_
 intro Xz
 refine⟨_,(pss_cons (pS 4 sc_l_pattern.nd (pe_own (O_l_take.mono (by omega)) hr rfl (pa_cons (pv 0) (pa_cons pe_int pa_nil))))
  (pss_cons (ps_if (PW.pt (pw_or (pt_cmpR op_eq (pv 3) pe_int (nomark _)) (pw_or1 (pt_cmpR op_lt (pv 4) pe_int (nomark _))))) (pss_one (ps_ret (pe_own (O_l_leaf.mono (by omega)) hr rfl (pa_cons (pv 0) (pa_cons (pv 1) (pa_cons (pv 2) pa_nil)))))) pss_nil)
  (pss_cons (ps_if (PW.pt (pw_and (pt_cmpR op_eq (pv 4) pe_int (nomark _)) (pw_and1 (pt_cmpR op_eq (pe_own (O_l_take.mono (by omega)) hr rfl (pa_cons (pv 0) (pa_cons pe_int pa_nil))) pe_int (nomark _))))) (pss_one (ps_ret (pe_tup (pa_cons pe_str (pa_cons (pe_tup pa_nil) pa_nil))))) pss_nil)
  (pss_cut (cutPat b l c d H) (pss_cons (ps_if (pt_cmpR op_lt (pv 4) pe_int (nomark _)) (pss_one (ps_ret (pe_own (O_l_parts.mono (by omega)) hr rfl (pa_cons (pv 0) (pa_cons (pv 1) (pa_cons (pv 2) (pa_cons (pv 3) (pa_cons (pe_ix ix_list (pe_lst (pa_cons pe_str (pa_cons pe_str pa_nil))) (pe_op op_fdiv (pv 4) pe_int) (fun _ _=>rfl)) pa_nil)))))))) pss_nil)
  (pss_cons (ps_if (pt_cmpR op_lt (pv 4) pe_int (nomark _)) (pss_one (ps_ret (pe_own (O_l_times.mono (by omega)) hr rfl (pa_cons (pv 0) (pa_cons (pv 1) (pa_cons (pv 2) (pa_cons (pv 3) pa_nil))))))) pss_nil)
  (pss_cons (ps_if (PW.pt (pw_or (pt_cmpR op_eq (pv 4) pe_int (nomark _)) (pw_or1 (pt_cmpR op_eq (pe_ix ix_list (pv 2) pe_int (fun _ _=>rfl)) pe_int (nomark _))))) (pss_cons (ps_if (pt_cmpR op_eq (pe_ix ix_list (pv 2) pe_int (fun _ _=>rfl)) pe_int (nomark _)) (pss_one (ps_ret (pe_tup (pa_cons pe_str pa_nil)))) pss_nil)
  (pss_cons (ps_asg (pe_op op_add (pe_ix ix_list (pv 2) pe_int (fun _ _=>rfl)) pe_int) (pg_sub (pv 2) pe_int set_list))
  (pss_cons (pS 5 sc_l_pattern.nd (pe_ix ix_list (pv 2) pe_int (fun _ _=>rfl)))
  (pss_one (ps_ret (pe_tup (pa_cons pe_str (pa_cons (pv 5) (pa_cons (pe_own (O_l_pattern.mono (by omega)) hr rfl (pa_cons (pv 0) (pa_cons (pv 1) (pa_cons (pv 2) (pa_cons (pe_op op_sub (pv 3) pe_int) pa_nil))))) pa_nil))))))))) pss_nil)
  (pss_cons (ps_if (PW.pt (pw_and (pt_cmpR op_eq (pv 4) pe_int (nomark _)) (pw_and1 (pt_cmpR op_gt (pe_ix ix_list (pv 2) pe_int (fun _ _=>rfl)) pe_int (nomark _))))) (pss_cons (pS 5 sc_l_pattern.nd (pe_op op_add pe_int (pe_own (O_l_take.mono (by omega)) hr rfl (pa_cons (pv 0) (pa_cons (pe_ix ix_list (pv 2) pe_int (fun _ _=>rfl)) pa_nil)))))
  (pss_cons (pS 6 sc_l_pattern.nd (pe_own (O_l_pattern.mono (by omega)) hr rfl (pa_cons (pv 0) (pa_cons (pv 1) (pa_cons (pv 2) (pa_cons (pe_op op_sub (pv 3) pe_int) pa_nil))))))
  (pss_one (ps_ret (pe_tup (pa_cons pe_str (pa_cons (pv 5) (pa_cons (pv 6) (pa_cons (pe_own (O_l_pattern.mono (by omega)) hr rfl (pa_cons (pv 0) (pa_cons (pv 1) (pa_cons (pv 2) (pa_cons (pe_op op_sub (pv 3) pe_int) pa_nil))))) pa_nil))))))))) pss_nil)
  (pss_cons (pS 7 sc_l_pattern.nd (pe_ix ix_list (pe_lst (pa_cons pe_str (pa_cons pe_str (pa_cons pe_str (pa_cons pe_str (pa_cons pe_str pa_nil)))))) (pe_own (O_l_take.mono (by omega)) hr rfl (pa_cons (pv 0) (pa_cons pe_int pa_nil))) (fun _ _=>rfl)))
  (pss_one (ps_ret (pe_tup (pa_cons (pv 7) (pa_cons (pe_own (O_l_pattern.mono (by omega)) hr rfl (pa_cons (pv 0) (pa_cons (pv 1) (pa_cons (pv 2) (pa_cons (pe_op op_sub (pv 3) pe_int) pa_nil))))) pa_nil)))))))))) (fun D1 σ1 H1 hcut=>?cut3))))),?_⟩
 case cut3 =>
  refine qdc433 ?_
  intro Ez Az1 Az2 Az3 Az4 Az5 Az6 Az7 Az8 Az9 Az10 Az11 Az12 Az13 Az14 Az15
  obtain⟨k,rfl,hk2,hk12,hd1,hb1,hl1,hc1,g1,q⟩:=hcut
  obtain⟨e,rfl⟩:∃e,d=e+1:=⟨d-1,by omega⟩
  have he:e<n:=by omega
  have ea:((e+1:Nat):Int)-1=e:=by omega
  have g1c:Gro [b,c] H H1:=g1.mono (by simp)
  obtain⟨cn,cp,hcl,hcn⟩:=id hc1
  refine⟨_,rfl,_,_,rfl,rfl,_,rfl,ite2 (fun k6=>?_) (fun k6=>?_)⟩
  ·have hk6:k<6:=of_decide_eq_true k6
   refine⟨_,rfl,_,rfl,_,rfl,_,rfl,sz,fun a ha=>⟨_,rfl,_,_,rfl,rfl,⟨by decide,by decide⟩,?_⟩⟩
   have e01:k / 4=0∨k / 4=1:=by omega
   have go:∀wd:Str,(wd="row" ∨ wd="or")->spParts n ([V.ref b,V.ref l,V.ref c,V.int ((e+1:Nat):Int),V.str wd]++[]) (upd H1 a (.lst [.str "row",.str "or"])) D1.rt E0:=fun wd hwd =>
    ⟨b,l,c,e,wd,he,rfl,hwd,hb1.new ha,hl1.new ha,hc1.new ha,bc,fun v p H' hb' hc' hp' g'=>q v p H' hb' hc' (hp'.deep (by omega)) ((g1c.tup ha).trans g')⟩
   rcases e01 with z | z
   ·exact⟨a,_,_,_,rfl,rfl,SqL.of upd_same,(by rw[z];rfl),go "row" (.inl rfl)⟩
   ·exact⟨a,_,_,_,rfl,rfl,SqL.of upd_same,(by rw[z];rfl),go "or" (.inr rfl)⟩
  refine⟨_,rfl,_,_,rfl,rfl,_,rfl,ite2 (fun _=>?_) (fun _=>?_)⟩
  ·exact⟨_,rfl,_,rfl,_,rfl,_,rfl,b,l,c,e,he,rfl,hb1,hl1,hc1,bc,fun v p H' hb' hc' hp' g'=>q v p H' hb' hc' (hp'.deep (by omega)) (g1c.trans g')⟩
  dsimp only[tNext,tSeq,tIfS]
  refine or_any (fun R h1 h2=>⟨_,rfl,rfl,_,rfl,bool2 h1 h2⟩) (fun R h1 h2=>⟨_,rfl,c,_,_,_,rfl,rfl,SqL.of hcl,rfl,rfl,_,rfl,bool2 h1 h2⟩) (iteT ?_) (iteF ?_)
  ·refine⟨_,rfl,c,_,_,_,rfl,rfl,SqL.of hcl,rfl,rfl,_,rfl,ite2 (fun _=>?_) (fun c9=>?_)⟩
   ·exact⟨sz,fun p hp=>q _ (.node .any []) _ (hb1.new hp) (hc1.new hp) ⟨⟨p,[],rfl,⟨rfl,upd_same⟩,.nil⟩,nil_size⟩ (g1c.tup hp)⟩
   have hcn9:¬cn=9:=fun z=>c9 (decide_eq_true (by rw[z]))
   refine⟨_,rfl,c,_,_,_,rfl,rfl,SqL.of hcl,rfl,_,_,rfl,rfl,_,rfl,c,_,_,0,rfl,rfl,hcl,rfl,?_⟩
   have gs:Gro [c] H1 (upd H1 c (.lst [.int (cn+1),.int cp])):=Gro.set (by simp) hcl _
   have hc2:CntAt (upd H1 c (.lst [.int (cn+1),.int cp])) c:=⟨cn+1,cp,upd_same,by omega,by omega⟩
   have hb2:BoxAt (upd H1 c (.lst [.int (cn+1),.int cp])) b:=hb1.gro gs (by simpa using bc)
   have hl2:LetAt (upd H1 c (.lst [.int (cn+1),.int cp])) l:=hl1.gro gs (by simpa using Ne.symm cl)
   refine⟨_,rfl,c,_,_,_,rfl,rfl,SqL.of upd_same,rfl,?_⟩
   refine⟨_,rfl,_,rfl,_,rfl,_,rfl,_,rfl,_,_,rfl,rfl,b,l,c,e,he,congrArg (fun z=>[V.ref b,V.ref l,V.ref c,V.int z]) ea,hb2,hl2,hc2,bc,fun v p H' hb' hc' hp' g'=>⟨sz,fun p1 hp1=>?_⟩⟩
   exact q _ (.node (.grp (cn+1)) [p]) _ (hb'.new hp1) (hc'.new hp1) ⟨⟨p1,[v],rfl,⟨⟨by omega,by omega⟩,v,rfl,upd_same⟩,.cons ((hp'.1.mono (Gro.new (S:=[]) hp1 _).tups).deep (by omega)) .nil⟩,one_size hp'.2 (by omega)⟩ (((g1c.trans (gs.mono (by simp))).trans g').tup hp1)
  have looks:∀(H2:Hp),BoxAt H2 b->LetAt H2 l->CntAt H2 c->Gro [b] H H2->∀kk:Option V,(tSeq (tAsg (tOp (rIxL K) (tLst (tCons (tC (.str "once")) (tCons (tC (.str "ahead")) (tCons (tC (.str "notahead")) (tCons (tC (.str "behind")) (tCons (tC (.str "notbehind")) tNil)))))) (tCall spTake [] E0 (tCons (tVar 0) (tCons (tC (.int 5)) tNil)))) (gName 7))
    (tRet (tTup (tCons (tVar 7) (tCons (tCall (spPat n) [] E0 (tCons (tVar 0) (tCons (tVar 1) (tCons (tVar 2) (tCons (tOp (rI0 fun i j=>.int (i-j)) (tVar 3) (tC (.int 1))) tNil))))) tNil))))) D1 [some (.ref b),some (.ref l),some (.ref c),some (.int ((e+1:Nat):Int)),kk,none,none,none] H2:=by
   intro H2 hb2 hl2 hc2 g2 kk
   refine⟨sz,fun a ha=>⟨_,rfl,b,5,rfl,hb2.new ha,by decide,by decide,fun r H3 h30 h31 hb3 g3=>?_⟩⟩
   have ba:b≠a:=ne_of_none hb2.choose_spec.1 ha
   have ha3:=g3.keep a _ (upd_same (H:=H2)) (by simpa using Ne.symm ba)
   have lw:∃lk:Lk,atI [V.str "once",V.str "ahead",V.str "notahead",V.str "behind",V.str "notbehind"] r=some (.str lk.text):=by
    have:r=0∨r=1∨r=2∨r=3∨r=4:=by omega
    rcases this with rfl | rfl | rfl | rfl | rfl
    ·exact⟨.once,rfl⟩
    ·exact⟨.ahead,rfl⟩
    ·exact⟨.notahead,rfl⟩
    ·exact⟨.behind,rfl⟩
    ·exact⟨.notbehind,rfl⟩
   obtain⟨lk,elk⟩:=lw
   have g23:Gro [b] H H3:=(g2.tup ha).trans g3
   refine⟨a,_,_,_,rfl,rfl,SqL.of ha3,elk,_,rfl,_,rfl,_,rfl,_,rfl,_,rfl,_,_,rfl,rfl,b,l,c,e,he,congrArg (fun z=>[V.ref b,V.ref l,V.ref c,V.int z]) ea,hb3,hl.gro g23 lS,hc.gro g23 cS,bc,fun v p H' hb' hc' hp' g'=>⟨sz,fun p1 hp1=>?_⟩⟩
   exact q _ (.node (.look lk) [p]) _ (hb'.new hp1) (hc'.new hp1) ⟨⟨p1,[v],rfl,⟨v,rfl,upd_same⟩,.cons ((hp'.1.mono (Gro.new (S:=[]) hp1 _).tups).deep (by omega)) .nil⟩,one_size hp'.2 (by omega)⟩ (((g23.mono (by simp)).trans g').tup hp1)
  refine⟨_,rfl,rfl,_,rfl,ite2 (fun _=>?_) (fun _=>iteF (looks H1 hb1 hl1 hc1 g1 _))⟩
  refine⟨_,rfl,c,_,_,_,rfl,rfl,SqL.of hcl,rfl,_,_,rfl,rfl,_,rfl,ite2 (fun c0=>?_) (fun _=>looks H1 hb1 hl1 hc1 g1 _)⟩
  have hc0:0<cn:=of_decide_eq_true c0
  refine⟨_,rfl,_,rfl,c,_,_,_,rfl,rfl,SqL.of hcl,rfl,b,cn,rfl,hb1,hc0,by omega,fun r H2 h20 h21 hb2 g2=>⟨_,_,rfl,rfl,?_⟩⟩
  have g12:=g1.trans g2
  refine⟨_,rfl,_,rfl,_,rfl,_,rfl,_,_,rfl,rfl,b,l,c,e,he,congrArg (fun z=>[V.ref b,V.ref l,V.ref c,V.int z]) ea,hb2,hl.gro g12 lS,hc.gro g12 cS,bc,fun v1 p1 H3 hb3 hc3 hp3 g3=>?_⟩
  have g13:Gro [b,c] H H3:=(g12.mono (by simp)).trans g3
  refine⟨_,rfl,_,rfl,_,rfl,_,rfl,_,rfl,_,rfl,_,_,rfl,rfl,b,l,c,e,he,congrArg (fun z=>[V.ref b,V.ref l,V.ref c,V.int z]) ea,hb3,hl.gro g13 lS2,hc3,bc,fun v2 p2 H4 hb4 hc4 hp4 g4=>⟨sz,fun p5 hp5=>?_⟩⟩
  have t5:=(Gro.new (S:=[]) hp5 (.tup [.str "have",.int (1+r),v1,v2])).tups
  exact q _ (.node (.hav (1+r)) [p1,p2]) _ (hb4.new hp5) (hc4.new hp5) ⟨⟨p5,[v1,v2],rfl,⟨⟨by omega,by omega⟩,v1,v2,rfl,upd_same⟩,.cons (((hp3.1.mono g4.tups).mono t5).deep (by omega)) (.cons ((hp4.1.mono t5).deep (by omega)) .nil)⟩,two_size hp3.2 hp4.2 (by omega)⟩ ((g13.trans g4).tup hp5)
 refine q1d9fb ?_
 intro Ez Az1 Az2 Az3 Az4 Az5
 refine⟨_,rfl,b,12,rfl,hb,by decide,by decide,fun k H1 h0 h1 hb1 g1=>?_⟩
 have l1:=hl.gro g1 lS
 have c1:=hc.gro g1 cS
 have lf:(tCall spLeaf [] E0 (tCons (tVar 0) (tCons (tVar 1) (tCons (tVar 2) tNil)))) [some (.ref b),some (.ref l),some (.ref c),some (.int d),some (.int k),none,none,none] H1 Q :=
  ⟨_,rfl,_,rfl,_,rfl,b,l,c,rfl,hb1,l1,c1,bc,fun v p H' hb' hp g=>q v p H' hb' (c1.gro g cS) (hp.leafS.deep (by omega)) ((g1.trans g).mono (by simp))⟩
 refine⟨_,rfl,rfl,_,rfl,ite2 (fun _=>iteT lf) (fun d0=>⟨_,rfl,_,_,rfl,rfl,_,rfl,ite2 (fun _=>lf) (fun k2=>?_)⟩)⟩
 have hd1:1<=d:=by
  cases d with
  |zero=>exact absurd (decide_eq_true rfl) d0
  |succ e=>omega
 have hk2:2<=k:=by
  have:¬k<2:=fun z=>k2 (decide_eq_true z)
  omega
 refine⟨_,rfl,rfl,_,rfl,ite2 (fun _=>?_) (fun _=>iteF ⟨k,rfl,hk2,h1,hd1,hb1,l1,c1,g1,q⟩)⟩
 refine⟨_,rfl,b,5,rfl,hb1,by decide,by decide,fun r H2 h20 h21 hb2 g2=>⟨rfl,_,rfl,ite2 (fun _=>?_) (fun _=>⟨k,rfl,hk2,h1,hd1,hb2,l1.gro g2 lS,c1.gro g2 cS,g1.trans g2,q⟩)⟩⟩
 refine⟨sz,fun r1 hr1=>⟨sz,fun p1 hp1=>?_⟩⟩
 have g3:Gro [b,c] H2 (upd (upd H2 r1 (.tup [])) p1 (.tup [.str "row",.ref r1])):=(Gro.new hr1 _).tup hp1
 refine q _ (.node .row []) _ ((hb2.new hr1).new hp1) (((c1.gro g2 cS).new hr1).new hp1) ⟨⟨p1,[],rfl,⟨by simp,r1,upd_same,by rw[upd_ne (ne_of_none upd_same hp1)];exact upd_same⟩,.nil⟩,nil_size⟩ (((g1.trans g2).mono (by simp)).trans g3)
theorem own_pattern(T:Blt mg)(O_l_take:Own P w K mg base 1 "_law_take" ["_law_box","_law_many"] spTake)(O_l_leaf:Own P w K mg base 3 "_law_leaf" ["_law_box","_law_letters_here","_law_count"] spLeaf)(D1:Def K mg "_law_parts" s_l_parts ["_law_box","_law_letters_here","_law_count","_law_deep","_law_word"])(D2:Def K mg "_law_times" s_l_times ["_law_box","_law_letters_here","_law_count","_law_deep"])(D3:Def K mg "_law_pattern" s_l_pattern ["_law_box","_law_letters_here","_law_count","_law_deep"]) :
  ∀n,Own P w K mg base (4+2*n) "_law_pattern" ["_law_box","_law_letters_here","_law_count","_law_deep"] (spPat n)
 |0=>D3.own fun f fd F=>FnOk.never fun vs H Q E h=>by
  obtain⟨_,_,_,d,hd,_⟩:=h
  omega
 |n+1=>by
  have ih:=own_pattern T O_l_take O_l_leaf D1 D2 D3 n
  exact D3.own fun f fd F=>ok_pattern T O_l_take O_l_leaf (D1.own fun f fd F=>ok_parts T O_l_take ih F) (D2.own fun f fd F=>ok_times T O_l_take ih F) ih F
def spDrawn:Sp:=fun vs H Q _=>∃(b l:Addr) (pl:Int),vs=[.ref b,.ref l,.int pl]/\BoxAt H b/\LetAt H l/\∀(t g:Addr) (v:V) (p:Pat) (n:Nat) (H':Hp),BoxAt H' b->H' t=some (.tup [v,.ref g])->H' g=some (.tup (List.replicate n .non))->n<=9->PatS H' 7 v p->Gro [b] H H'->Q (.ref t) H'
def cutDrawn(b l c:Addr)(pl:Int)(H:Hp):TS:=fun D σ H1=>∃(v:V) (p:Pat) (one two:Option V),σ=[some (.ref b),some (.ref l),some (.int pl),some (.ref c),some v,one,two]/\PatS H1 7 v p/\BoxAt H1 b/\CntAt H1 c/\Gro [b] H H1 /\
 ∀(t g:Addr) (v:V) (p:Pat) (n:Nat) (H':Hp),BoxAt H' b->H' t=some (.tup [v,.ref g])->H' g=some (.tup (List.replicate n .non))->n<=9->PatS H' 7 v p->Gro [b] H H'->D.rt (.ref t) H'
abbrev s_l_drawn:Stmt:=top 56
theorem sc_l_drawn:FnScope ["_law_box","_law_letters_here","_law_plain","_law_count","_law_p","_law_one","_law_two"] ["_law_box","_law_letters_here","_law_plain"] (defScope s_l_drawn):=fsc
theorem ok_drawn(T:Blt mg)(O_l_take:Own P w K mg base 1 "_law_take" ["_law_box","_law_many"] spTake)(O_l_runs:Own P w K mg base 2 "_law_runs" ["_law_box","_law_letters_here"] spRuns)(O_l_pattern:Own P w K mg base 12 "_law_pattern" ["_law_box","_law_letters_here","_law_count","_law_deep"] (spPat 4))(F:Fun K "_law_drawn" "_law_drawn" s_l_drawn f fd) :
  FnOk P w K mg base CX0 13 f fd ["_law_box","_law_letters_here","_law_plain"] spDrawn:=by
 refine F.ok sc_l_drawn (fun vs H Q E h=>?_) (fun cdv A outer s H vs Q E hr h=>?_)
 ·obtain⟨b,l,pl,rfl,_⟩:=h
  rfl
 obtain⟨b,l,pl,rfl,hb,hl,q⟩:=h
 have bl:b≠l:=hb.ne_let hl
 have lS:l∉[b]:=by simpa using Ne.symm bl
 refine ltX ?_
 intro Xz
 refine⟨_,(pss_cons (pS 3 sc_l_drawn.nd (pe_lst (pa_cons pe_int (pa_cons (pv 2) pa_nil))))
  (pss_cons (pS 4 sc_l_drawn.nd (pe_own (O_l_pattern.mono (by omega)) hr rfl (pa_cons (pv 0) (pa_cons (pv 1) (pa_cons (pv 3) (pa_cons pe_int pa_nil))))))
  (pss_cons (by refine' ps_if ?h1 ?h2 ?h3;(case h1=>exact(PW.pt (pw_and (pt_cmpR op_eq (pe_own (O_l_take.mono (by omega)) hr rfl (pa_cons (pv 0) (pa_cons pe_int pa_nil))) pe_int (nomark _)) (pw_and1 (pt_cmpR op_eq (pv 2) pe_int (nomark _))))));(case h3=>exact pss_nil);case h2=>refine' pss_cons ?h4 ?h5;(case h4=>exact(pS 5 sc_l_drawn.nd (by refine' pe_tup ?h6;case h6=>refine' pa_consC ?h8 ?h7;(case h8=>exact pe_str);case h7=>refine' pa_consT ?h10 ?h9;(case h10=>refine' pe_tup ?h11;case h11=>refine' pa_consT ?h13 ?h12;(case h13=>refine' pe_tup ?h14;case h14=>refine' pa_consC ?h16 ?h15;(case h16=>exact pe_str);case h15=>refine' pa_consC ?h18 ?h17;(case h18=>exact pe_int);case h17=>exact pa_nil);case h12=>refine' pa_consT ?h20 ?h19;(case h20=>refine' pe_tup ?h21;case h21=>refine' pa_consC ?h23 ?h22;(case h23=>exact pe_str);case h22=>refine' pa_cons ?h25 ?h24;(case h25=>exact(pe_ix ix_list (pv 1) (pe_own (O_l_take.mono (by omega)) hr rfl (pa_cons (pv 0) (pa_cons pe_int pa_nil))) (fun _ _=>rfl)));case h24=>exact pa_nil);case h19=>exact pa_nil);case h9=>exact pa_nil)));case h5=>refine' pss_cons ?h26 ?h27;(case h26=>exact(pS 6 sc_l_drawn.nd (pe_tup (pa_cons pe_str (pa_cons pe_int (pa_cons (pe_tup (pa_cons pe_str (pa_cons (pe_own (O_l_runs.mono (by omega)) hr rfl (pa_cons (pv 0) (pa_cons (pv 1) pa_nil))) pa_nil))) pa_nil))))));case h27=>refine' pss_cons ?h28 ?h29;(case h28=>exact(pS 4 sc_l_drawn.nd (by refine' pe_tup ?h30;case h30=>refine' pa_consC ?h32 ?h31;(case h32=>exact pe_str);case h31=>refine' pa_consC ?h34 ?h33;(case h34=>exact pe_int);case h33=>refine' pa_consC ?h36 ?h35;(case h36=>exact pe_non);case h35=>refine' pa_cons ?h38 ?h37;(case h38=>exact(pe_ix ix_list (pe_lst (pa_cons pe_str (pa_cons pe_str pa_nil))) (pe_own (O_l_take.mono (by omega)) hr rfl (pa_cons (pv 0) (pa_cons pe_int pa_nil))) (fun _ _=>rfl)));case h37=>refine' pa_consT ?h40 ?h39;(case h40=>refine' pe_tup ?h41;case h41=>refine' pa_consC ?h43 ?h42;(case h43=>exact pe_str);case h42=>refine' pa_consT ?h45 ?h44;(case h45=>refine' pe_tup ?h46;case h46=>refine' pa_consN ?h48 ?h47;(case h48=>exact(pv 5));case h47=>refine' pa_consN ?h50 ?h49;(case h50=>exact(pv 6));case h49=>exact pa_nil);case h44=>exact pa_nil);case h39=>exact pa_nil)));case h29=>refine' pss_one ?h51;case h51=>exact(ps_asg pe_int (pg_sub (pv 3) pe_int set_list)))
  (pss_cut (fun D σ H1=>∃c,cutDrawn b l c pl H D σ H1) (pss_one (ps_ret (pe_tup (pa_cons (pv 4) (pa_cons (pe_callTy call_tuple_of rfl T.b_tuple PyProof.Rows.Boot.«tuple» (pa_cons (pe_lcomp rfl (show CScope _ ["_law_box","_law_letters_here","_law_plain","_law_count","_law_p","_law_one","_law_two"] (defScope s_l_drawn) _ from⟨rfl,by decide +kernel,rfl,by decide +kernel,by decide +kernel,by decide +kernel,by decide +kernel⟩) (pi_range1 rfl T.b_range (pa_cons (pe_ix ix_list (pv 3) pe_int (fun _ _=>rfl)) pa_nil)) (fun _ _ _ _=>pts_nil) (fun _ _ _ _=>pe_non)) pa_nil)) pa_nil))))) (fun D1 σ1 H1 hcut=>?cut3))))),?_⟩
 case cut3 =>
  obtain⟨c,v,p,one,two,rfl,hp,hb1,⟨cn,cp,hcl,hcn⟩,g1,q⟩:=hcut
  refine⟨_,rfl,_,rfl,c,_,_,_,rfl,rfl,SqL.of hcl,rfl,_,rfl,by omega,by omega,?_⟩
  refine lc_range (n:=cn.toNat) (fun i ys H'=>ys=List.replicate i V.non/\H'=H1) ⟨rfl,rfl⟩ (small1000 (by omega)) (fun i ys H' ⟨e,_⟩=>by rw[e,List.length_replicate];exact Nat.le_refl _) ?_ ?_
  ·rintro i ys H2 hi ⟨rfl,rfl⟩
   exact⟨by rw[List.replicate_succ'],rfl⟩
  ·rintro ys H2 ⟨rfl,rfl⟩ a ha
   refine⟨a,_,rfl,.inl ⟨SqL.of upd_same,fun g hg=>⟨sz,fun t ht=>?_⟩⟩⟩
   have gg:Gro [b] H2 (upd (upd (upd H2 a (.lst (List.replicate cn.toNat .non))) g (.tup (List.replicate cn.toNat .non))) t (.tup [v,.ref g])):=((Gro.new ha _).tup hg).tup ht
   exact q t g v p cn.toNat _ (((hb1.new ha).new hg).new ht) upd_same (by rw[upd_ne (ne_of_none upd_same ht)];exact upd_same) (by omega) (hp.mono gg.tups) (g1.trans gg)
 refine q94be3 ?_
 intro Ez Az1 Az2 Az3 Az4 Az5 Az6 Az7
 refine⟨_,rfl,sz,fun c hc=>?_⟩
 have bc:b≠c:=ne_of_none hb.choose_spec.1 hc
 have cS:c∉[b]:=by simpa using Ne.symm bc
 refine⟨_,rfl,_,rfl,_,rfl,b,l,c,3,by decide,rfl,hb.new hc,hl.new hc,⟨0,pl,upd_same,by decide,by decide⟩,bc,fun v p H1 hb1 hc1 hp1 g1=>?_⟩
 have g1':Gro [b] H H1:=g1.drop hc
 refine⟨_,rfl,b,8,rfl,hb1,by decide,by decide,fun r H2 h20 h21 hb2 g2=>⟨rfl,_,rfl,?_⟩⟩
 have base2:cutDrawn b l c pl H { nx:=fun _ H'=>Q .non H',rt:=Q } [some (.ref b),some (.ref l),some (.int pl),some (.ref c),some v,none,none] H2:=⟨v,p,none,none,rfl,hp1.mono g2.tups,hb2,hc1.gro g2 cS,g1'.trans g2,q⟩
 refine ite2 (fun _=>⟨_,rfl,rfl,_,rfl,ite2 (fun _=>?_) (fun _=>⟨c,base2⟩)⟩) (fun _=>iteF ⟨c,base2⟩)
 have l2:LetAt H2 l:=(hl.gro g1' lS).gro g2 lS
 refine⟨sz,fun p1 hp1n=>⟨_,rfl,_,rfl,b,3,rfl,hb2.new hp1n,by decide,by decide,fun r3 H3 h30 h31 hb3 g3=>?_⟩⟩
 refine letS ((l2.new hp1n).gro g3 lS) h30 h31 fun s hs=>⟨sz,fun p2 hp2=>⟨sz,fun p3 hp3=>⟨sz,fun p4 hp4=>?_⟩⟩⟩
 have e1:H3 p1=some (.tup [.str "again",.int 1]):=g3.tups _ _ upd_same
 generalize hH4:upd (upd (upd H3 p2 (.tup [.str "sign",.str s])) p3 (.tup [.ref p1,.ref p2])) p4 (.tup [.str "row",.ref p3])=H4
 have g34:Gro [b] H3 H4:=by rw[← hH4];exact((Gro.new hp2 _).tup hp3).tup hp4
 have e4:H4 p4=some (.tup [.str "row",.ref p3]):=by rw[← hH4];exact upd_same
 have e3:H4 p3=some (.tup [.ref p1,.ref p2]):=by rw[← hH4,upd_ne (ne_of_none upd_same hp4)];exact upd_same
 have e2:H4 p2=some (.tup [.str "sign",.str s]):=by rw[← hH4,upd_ne (ne_of_none (by rw[upd_ne (ne_of_none upd_same hp3)];exact upd_same) hp4),upd_ne (ne_of_none upd_same hp3)];exact upd_same
 have g24:Gro [b] H2 H4:=((Gro.new hp1n _).trans g3).trans g34
 have hb4:BoxAt H4 b:=by rw[← hH4];exact((hb3.new hp2).new hp3).new hp4
 have l4:=l2.gro g24 lS
 have P1:PatAt H4 4 (.ref p4) (.node .row [.node (.again 1) [],.node (.sign s) []]) :=
  ⟨p4,[.ref p1,.ref p2],rfl,⟨by simp,p3,e4,e3⟩,.cons ⟨p1,[],rfl,⟨⟨by decide,by decide⟩,rfl,g34.tups _ _ e1⟩,.nil⟩ (.cons ⟨p2,[],rfl,⟨rfl,hs,e2⟩,.nil⟩ .nil)⟩
 refine⟨_,rfl,_,rfl,b,l,rfl,hb4,l4,fun rr rs H5 hb5 hr5 _ _ g5=>⟨sz,fun p5 hp5=>⟨sz,fun p6 hp6=>?_⟩⟩⟩
 generalize hH6:upd (upd H5 p5 (.tup [.str "in",.ref rr])) p6 (.tup [.str "group",.int 1,.ref p5])=H6
 have g56:Gro [b] H5 H6:=by rw[← hH6];exact(Gro.new hp5 _).tup hp6
 have e6:H6 p6=some (.tup [.str "group",.int 1,.ref p5]):=by rw[← hH6];exact upd_same
 have e5:H6 p5=some (.tup [.str "in",.ref rr]):=by rw[← hH6,upd_ne (ne_of_none upd_same hp6)];exact upd_same
 have hb6:BoxAt H6 b:=by rw[← hH6];exact(hb5.new hp5).new hp6
 have P2:PatAt H6 4 (.ref p6) (.node (.grp 1) [.node (.inn rs) []]):=⟨p6,[.ref p5],rfl,⟨⟨by decide,by decide⟩,_,rfl,e6⟩,.cons ⟨p5,[],rfl,⟨rfl,rr,e5,hr5.mono g56.tups⟩,.nil⟩ .nil⟩
 refine⟨sz,fun a ha=>⟨_,rfl,b,2,rfl,hb6.new ha,by decide,by decide,fun r7 H7 h70 h71 hb7 g7=>?_⟩⟩
 have ba:b≠a:=ne_of_none hb6.choose_spec.1 ha
 have ha7:=g7.keep a _ (upd_same (H:=H6)) (by simpa using Ne.symm ba)
 have howE:∃how:How,atI [V.str "much",V.str "little"] r7=some (.str how.text):=by
  have:r7=0∨r7=1:=by omega
  rcases this with rfl | rfl
  ·exact⟨.much,rfl⟩
  ·exact⟨.little,rfl⟩
 obtain⟨how,ehow⟩:=howE
 refine⟨a,_,_,_,rfl,rfl,SqL.of ha7,ehow,_,rfl,_,rfl,sz,fun p8 hp8=>⟨sz,fun p9 hp9=>⟨sz,fun p10 hp10=>?_⟩⟩⟩
 generalize hH10:upd (upd (upd H7 p8 (.tup [.ref p4,.ref p6])) p9 (.tup [.str "or",.ref p8])) p10 (.tup [.str "times",.int 0,.non,.str how.text,.ref p9])=H10
 have g710:Gro [b] H7 H10:=by rw[← hH10];exact((Gro.new hp8 _).tup hp9).tup hp10
 have e10:H10 p10=some (.tup [.str "times",.int 0,.non,.str how.text,.ref p9]):=by rw[← hH10];exact upd_same
 have e9:H10 p9=some (.tup [.str "or",.ref p8]):=by rw[← hH10,upd_ne (ne_of_none upd_same hp10)];exact upd_same
 have e8:H10 p8=some (.tup [.ref p4,.ref p6]):=by rw[← hH10,upd_ne (ne_of_none (by rw[upd_ne (ne_of_none upd_same hp9)];exact upd_same) hp10),upd_ne (ne_of_none upd_same hp9)];exact upd_same
 have g67:Gro [b] H6 H7:=(Gro.new ha _).trans g7
 have g410:Gro [b] H4 H10:=((g5.trans g56).trans g67).trans g710
 have g610:Gro [b] H6 H10:=g67.trans g710
 have hb10:BoxAt H10 b:=by rw[← hH10];exact((hb7.new hp8).new hp9).new hp10
 have P3:PatAt H10 7 (.ref p10) (.node (.times 0 none how) [.node .alt [.node .row [.node (.again 1) [],.node (.sign s) []],.node (.grp 1) [.node (.inn rs) []]]]) :=
  ⟨p10,[.ref p9],rfl,⟨⟨by decide,by decide,fun h e=>by cases e⟩,_,rfl,e10⟩,.cons ⟨p9,[.ref p4,.ref p6],rfl,⟨by simp,by simp,p8,e9,e8⟩,.cons ((P1.mono g410.tups).deep (by decide)) (.cons ((P2.mono g610.tups).deep (by decide)) .nil)⟩ .nil⟩
 have hc10:CntAt H10 c:=hc1.gro ((g2.trans g24).trans g410) cS
 obtain⟨cn,cp,hcl,hcn⟩:=id hc10
 refine⟨_,rfl,c,_,_,0,rfl,rfl,hcl,rfl,?_⟩
 have gs:Gro [c] H10 (upd H10 c (.lst [.int 1,.int cp])):=Gro.set (by simp) hcl _
 refine⟨c,_,_,_,_,rfl,⟨P3.mono gs.tups,by simp[size_node,sizeL,B]⟩,hb10.gro gs (by simpa using bc),⟨1,cp,upd_same,by decide,by decide⟩,?_,q⟩
 exact(((g1'.trans g2).trans g24).trans g410).fresh hc _
def PatN(H:Hp)(d:Nat)(v:V)(p:Pat):Prop:=PatAt H d v p/\p.size<=d
theorem PatN.mono{H H':Hp}(t:∀b xs,H b=some (.tup xs)->H' b=some (.tup xs)){d:Nat}{v:V}{p:Pat}(h:PatN H d v p):PatN H' d v p:=⟨h.1.mono t,h.2⟩
theorem one_sizeN{h:Hd}{p:Pat}{d:Nat}(s:p.size<=d):(Pat.node h [p]).size<=d+1:=by
 rw[size_node,sizeL_one]
 omega
theorem one_nil{h:Hd}:(Pat.node h []).size<=1:=by
 rw[size_node,sizeL]
 omega
def spNested:Sp:=fun vs H Q _=>∃(b l:Addr) (d:Int),vs=[.ref b,.ref l,.int d]/\1<=d/\d<=10/\BoxAt H b/\LetAt H l/\∀(v:V) (p:Pat) (H':Hp),BoxAt H' b->PatAt H' 10 v p/\p.size<=1000->Gro [b] H H'->Q v H'
abbrev s_l_nested:Stmt:=top 57
theorem sc_l_nested:FnScope ["_law_box","_law_letters_here","_law_deep","_law_p","_law_k","_law_kind"] ["_law_box","_law_letters_here","_law_deep"] (defScope s_l_nested):=fsc
theorem ok_nested(T:Blt mg)(O_l_take:Own P w K mg base 1 "_law_take" ["_law_box","_law_many"] spTake)(F:Fun K "_law_nested" "_law_nested" s_l_nested f fd):FnOk P w K mg base CX0 2 f fd ["_law_box","_law_letters_here","_law_deep"] spNested:=by
 refine F.ok sc_l_nested (fun vs H Q E h=>?_) (fun cdv A outer s H vs Q E hr h=>?_)
 ·obtain⟨b,l,d,rfl,_⟩:=h
  rfl
 obtain⟨b,l,d,rfl,hd1,hd8,hb,hl,q⟩:=h
 have bl:b≠l:=hb.ne_let hl
 refine ltX ?_
 intro Xz
 refine⟨_,(pss_cons (pS 3 sc_l_nested.nd (pe_tup (pa_cons pe_str (pa_cons (pe_ix ix_list (pv 1) pe_int (fun _ _=>rfl)) pa_nil))))
  (pss_cons (ps_for PassesOwn.never rfl (pi_range1 rfl T.b_range (pa_cons (pe_op op_sub (pv 2) pe_int) pa_nil)) (pN 4 sc_l_nested.nd) (pss_cons (pS 5 sc_l_nested.nd (pe_own (O_l_take.mono (by omega)) hr rfl (pa_cons (pv 0) (pa_cons pe_int pa_nil))))
  (pss_cons (ps_if (pt_cmpR op_eq (pv 5) pe_int (nomark _)) (pss_one (pS 3 sc_l_nested.nd (pe_tup (pa_cons pe_str (pa_cons (pv 3) pa_nil))))) pss_nil)
  (pss_cons (ps_if (pt_cmpR op_eq (pv 5) pe_int (nomark _)) (pss_one (pS 3 sc_l_nested.nd (pe_tup (pa_cons pe_str (pa_cons (pe_own (O_l_take.mono (by omega)) hr rfl (pa_cons (pv 0) (pa_cons pe_int pa_nil))) (pa_cons pe_non (pa_cons pe_str (pa_cons (pv 3) pa_nil)))))))) pss_nil)
  (pss_cons (ps_if (pt_cmpR op_eq (pv 5) pe_int (nomark _)) (pss_one (pS 3 sc_l_nested.nd (pe_tup (pa_cons pe_str (pa_cons pe_int (pa_cons (pe_op op_add pe_int (pe_own (O_l_take.mono (by omega)) hr rfl (pa_cons (pv 0) (pa_cons pe_int pa_nil)))) (pa_cons pe_str (pa_cons (pv 3) pa_nil)))))))) pss_nil)
  (pss_one (ps_if (pt_cmpR op_eq (pv 5) pe_int (nomark _)) (pss_one (pS 3 sc_l_nested.nd (pe_tup (pa_cons pe_str (pa_cons (pv 3) pa_nil))))) pss_nil)))))))
  (pss_one (ps_ret (pv 3))))),?_⟩
 refine q4fd3b ?_
 intro Ez Az1 Az2 Az3 Az4 Az5 Az6 Az7 Az8 Az9 Az10 Az11
 refine⟨_,rfl,letS hl (by decide) (by decide) fun s hs=>⟨sz,fun p0 hp0=>?_⟩⟩
 refine⟨_,rfl,_,_,rfl,rfl,_,rfl,by omega,by omega,?_⟩
 refine for_range (fun i σ H'=>∃(v:V) (p:Pat) (k kk:Option V),σ=[some (.ref b),some (.ref l),some (.int d),some v,k,kk]/\i<=9/\PatN H' (i+1) v p/\BoxAt H' b/\Gro [b] H H')
  ⟨.ref p0,.node (.sign s) [],none,none,rfl,by decide,⟨⟨p0,[],rfl,⟨rfl,hs,upd_same⟩,.nil⟩,one_nil⟩,hb.new hp0,Gro.new hp0 _⟩ ?_ ?_
 ·rintro i σ H2 hi ⟨v,p,k,kk,rfl,hi7,hp2,hb2,g2⟩
  refine⟨_,rfl,b,4,rfl,hb2,by decide,by decide,fun r H3 h30 h31 hb3 g3=>?_⟩
  have hp3:=hp2.mono g3.tups
  have g23:=g2.trans g3
  have:r=0∨r=1∨r=2∨r=3:=by omega
  rcases this with rfl | rfl | rfl | rfl
  ·refine⟨_,rfl,rfl,_,rfl,iteT ⟨_,rfl,sz,fun p1 hp1=>?_⟩⟩
   refine⟨_,rfl,rfl,_,rfl,iteF ⟨_,rfl,rfl,_,rfl,iteF ⟨_,rfl,rfl,_,rfl,iteF ?_⟩⟩⟩
   exact⟨_,.node (.look .once) [p],_,_,rfl,by omega,⟨⟨p1,[v],rfl,⟨v,rfl,upd_same⟩,.cons (hp3.1.mono (Gro.new (S:=[]) hp1 _).tups) .nil⟩,one_sizeN hp3.2⟩,hb3.new hp1,g23.tup hp1⟩
  ·refine⟨_,rfl,rfl,_,rfl,iteF ⟨_,rfl,rfl,_,rfl,iteT ?_⟩⟩
   refine⟨_,rfl,b,10,rfl,hb3,by decide,by decide,fun r4 H4 h40 h41 hb4 g4=>⟨_,rfl,sz,fun p1 hp1=>?_⟩⟩
   refine⟨_,rfl,rfl,_,rfl,iteF ⟨_,rfl,rfl,_,rfl,iteF ?_⟩⟩
   exact⟨_,.node (.times r4 none .little) [p],_,_,rfl,by omega,⟨⟨p1,[v],rfl,⟨⟨h40,by omega,fun h e=>by cases e⟩,v,rfl,upd_same⟩,.cons ((hp3.1.mono g4.tups).mono (Gro.new (S:=[]) hp1 _).tups) .nil⟩,one_sizeN hp3.2⟩,hb4.new hp1,(g23.trans g4).tup hp1⟩
  ·refine⟨_,rfl,rfl,_,rfl,iteF ⟨_,rfl,rfl,_,rfl,iteF ⟨_,rfl,rfl,_,rfl,iteT ?_⟩⟩⟩
   refine⟨_,rfl,b,9,rfl,hb3,by decide,by decide,fun r4 H4 h40 h41 hb4 g4=>⟨_,_,rfl,rfl,_,rfl,sz,fun p1 hp1=>?_⟩⟩
   refine⟨_,rfl,rfl,_,rfl,iteF ?_⟩
   exact⟨_,.node (.times 0 (some (1+r4)) .much) [p],_,_,rfl,by omega,⟨⟨p1,[v],rfl,⟨⟨by decide,by decide,fun h e=>by cases e;omega⟩,v,rfl,upd_same⟩,.cons ((hp3.1.mono g4.tups).mono (Gro.new (S:=[]) hp1 _).tups) .nil⟩,one_sizeN hp3.2⟩,hb4.new hp1,(g23.trans g4).tup hp1⟩
  ·refine⟨_,rfl,rfl,_,rfl,iteF ⟨_,rfl,rfl,_,rfl,iteF ⟨_,rfl,rfl,_,rfl,iteF ⟨_,rfl,rfl,_,rfl,iteT ⟨_,rfl,sz,fun p1 hp1=>?_⟩⟩⟩⟩⟩
   exact⟨_,.node (.look .notbehind) [p],_,_,rfl,by omega,⟨⟨p1,[v],rfl,⟨v,rfl,upd_same⟩,.cons (hp3.1.mono (Gro.new (S:=[]) hp1 _).tups) .nil⟩,one_sizeN hp3.2⟩,hb3.new hp1,g23.tup hp1⟩
 ·rintro σ H2 ⟨v,p,k,kk,rfl,hi7,hp2,hb2,g2⟩
  exact⟨_,rfl,q v p H2 hb2 ⟨hp2.1.deep (by omega),Nat.le_trans hp2.2 (by omega)⟩ g2⟩
def spWide:Sp:=fun vs H Q _=>∃(b l:Addr) (x y:Int),vs=[.ref b,.ref l,.int x,.int y]/\0<=x/\x<=9/\1<=y/\y<=9/\BoxAt H b/\LetAt H l/\∀(v:V) (p:Pat) (H':Hp),BoxAt H' b->PatAt H' 3 v p->Gro [b] H H'->Q v H'
abbrev s_l_wide:Stmt:=top 58
theorem sc_l_wide:FnScope ["_law_box","_law_letters_here","_law_one","_law_two","_law_rows","_law_k","_law_branches","_law_j"] ["_law_box","_law_letters_here","_law_one","_law_two"] (defScope s_l_wide):=fsc
theorem ok_wide(T:Blt mg)(O_l_take:Own P w K mg base 1 "_law_take" ["_law_box","_law_many"] spTake)(F:Fun K "_law_wide" "_law_wide" s_l_wide f fd):FnOk P w K mg base CX0 2 f fd ["_law_box","_law_letters_here","_law_one","_law_two"] spWide:=by
 refine F.ok sc_l_wide (fun vs H Q E h=>?_) (fun cdv A outer s H vs Q E hr h=>?_)
 ·obtain⟨b,l,x,y,rfl,_⟩:=h
  rfl
 obtain⟨b,l,x,y,rfl,hx0,hx8,hy1,hy9,hb,hl,q⟩:=h
 have bl:b≠l:=hb.ne_let hl
 have lS:l∉[b]:=by simpa using Ne.symm bl
 refine ltX ?_
 intro Xz
 refine⟨_,(pss_cons (pS 4 sc_l_wide.nd (pe_lst pa_nil))
  (pss_cons (ps_for PassesOwn.never rfl (pi_range1 rfl T.b_range (pa_cons (pv 2) pa_nil)) (pN 5 sc_l_wide.nd) (pss_cons (pS 6 sc_l_wide.nd (pe_lst pa_nil))
  (pss_cons (ps_for PassesOwn.never rfl (pi_range1 rfl T.b_range (pa_cons (pv 3) pa_nil)) (pN 7 sc_l_wide.nd) (pss_one (ps_expr (pe_bm PySem.F.plainAttrs_list PySem.F.slot_list_append PySem.F.type_list_append mt_append (pv 6) (pa_cons (pe_tup (pa_cons pe_str (pa_cons (pe_ix ix_list (pv 1) (pe_own (O_l_take.mono (by omega)) hr rfl (pa_cons (pv 0) (pa_cons pe_int pa_nil))) (fun _ _=>rfl)) pa_nil))) pa_nil)))))
  (pss_one (ps_expr (pe_bm PySem.F.plainAttrs_list PySem.F.slot_list_append PySem.F.type_list_append mt_append (pv 4) (pa_cons (pe_tup (pa_cons pe_str (pa_cons (pe_callTy call_tuple_of rfl T.b_tuple PyProof.Rows.Boot.«tuple» (pa_cons (pv 6) pa_nil)) pa_nil))) pa_nil)))))))
  (pss_one (ps_ret (pe_tup (pa_cons pe_str (pa_cons (pe_callTy call_tuple_of rfl T.b_tuple PyProof.Rows.Boot.«tuple» (pa_cons (pv 4) pa_nil)) pa_nil))))))),?_⟩
 refine q79bdc ?_
 intro Ez Az1 Az2 Az3 Az4 Az5 Az6
 refine⟨sz,fun a ha=>?_⟩
 have ba:b≠a:=ne_of_none hb.choose_spec.1 ha
 refine⟨_,rfl,_,rfl,by omega,by omega,?_⟩
 refine for_range (fun i σ H'=>∃(vs:List V) (ps:List Pat) (k br j:Option V),σ=[some (.ref b),some (.ref l),some (.int x),some (.int y),some (.ref a),k,br,j]/\H' a=some (.lst vs)/\Paired (PatAt H' 2) vs ps/\vs.length=i/\BoxAt H' b/\Gro [b] H H')
  ⟨[],[],none,none,none,rfl,upd_same,.nil,rfl,hb.new ha,Gro.new ha _⟩ ?_ ?_
 ·rintro i σ H2 hi ⟨vs,ps,k,br,j,rfl,ha2,hp2,hl2,hb2,g2⟩
  refine⟨sz,fun e he=>?_⟩
  have be:b≠e:=ne_of_none hb2.choose_spec.1 he
  have ae:a≠e:=ne_of_none ha2 he
  refine⟨_,rfl,_,rfl,by omega,by omega,?_⟩
  refine for_range (fun i2 σ H'=>∃(us:List V) (qs:List Pat) (j:Option V),σ=[some (.ref b),some (.ref l),some (.int x),some (.int y),some (.ref a),some (.int (0+(i:Int))),some (.ref e),j]/\H' e=some (.lst us)/\H' a=some (.lst vs)/\Paired (PatAt H' 1) us qs/\us.length=i2/\BoxAt H' b/\Gro [b] H2 H')
   ⟨[],[],_,rfl,upd_same,by rw[upd_ne ae];exact ha2,.nil,rfl,hb2.new he,Gro.new he _⟩ ?_ ?_
  ·rintro i2 σ H3 hi2 ⟨us,qs,j,rfl,he3,ha3,hq3,hl3,hb3,g3⟩
   refine⟨_,rfl,.inl ⟨rfl,_,SqL.of he3⟩,_,rfl,_,rfl,b,3,rfl,hb3,by decide,by decide,fun r H4 h40 h41 hb4 g4=>?_⟩
   refine letS (((hl.gro g2 lS).gro g3 lS).gro g4 lS) h40 h41 fun s hs=>⟨sz,fun p1 hp1=>?_⟩
   have he4:H4 e=some (.lst us):=g4.keep e _ he3 (by simpa using Ne.symm be)
   have ha4:H4 a=some (.lst vs):=g4.keep a _ ha3 (by simpa using Ne.symm ba)
   have he5:(upd H4 p1 (.tup [.str "sign",.str s])) e=some (.lst us):=by rw[upd_ne (ne_of_none he4 hp1)];exact he4
   have ha5:(upd H4 p1 (.tup [.str "sign",.str s])) a=some (.lst vs):=by rw[upd_ne (ne_of_none ha4 hp1)];exact ha4
   refine⟨e,us,_,rfl,rfl,he5,small1000 (by omega),?_⟩
   have t1:Gro [e] (upd H4 p1 (.tup [.str "sign",.str s])) (upd (upd H4 p1 (.tup [.str "sign",.str s])) e (.lst (us++[.ref p1]))):=Gro.set (by simp) he5 _
   have tt:∀c xs,H3 c=some (.tup xs)->(upd (upd H4 p1 (.tup [.str "sign",.str s])) e (.lst (us++[.ref p1]))) c=some (.tup xs):=fun c xs hc=>t1.tups c xs ((Gro.new (S:=[]) hp1 _).tups c xs (g4.tups c xs hc))
   refine⟨us++[.ref p1],qs++[.node (.sign s) []],_,rfl,upd_same,by rw[upd_ne ae];exact ha5,(pats_mono tt hq3).snoc (show PatAt _ 1 (.ref p1) (.node (.sign s) []) from⟨p1,[],rfl,⟨rfl,hs,t1.tups _ _ upd_same⟩,.nil⟩),by simp[hl3],(hb4.new hp1).gro t1 (by simpa using be),((g3.trans g4).tup hp1).fresh he _⟩
  ·rintro σ H3 ⟨us,qs,j,rfl,he3,ha3,hq3,hl3,hb3,g3⟩
   refine⟨_,rfl,.inl ⟨rfl,_,SqL.of ha3⟩,_,rfl,e,_,rfl,.inl ⟨SqL.of he3,fun r hr2=>⟨sz,fun p1 hp1=>?_⟩⟩⟩
   have g35:Gro [b] H3 (upd (upd H3 r (.tup us)) p1 (.tup [.str "or",.ref r])):=(Gro.new hr2 _).tup hp1
   have ha5:=g35.keep a _ ha3 (by simpa using Ne.symm ba)
   have er:(upd (upd H3 r (.tup us)) p1 (.tup [.str "or",.ref r])) r=some (.tup us):=by rw[upd_ne (ne_of_none upd_same hp1)];exact upd_same
   refine⟨a,vs,_,rfl,rfl,ha5,small1000 (by omega),?_⟩
   have t1:=Gro.set (S:=[a]) (by simp) ha5 (.lst (vs++[V.ref p1]))
   have g25:Gro [b] H2 _:=g3.trans g35
   refine⟨vs++[.ref p1],ps++[.node .alt qs],_,_,_,rfl,upd_same,(pats_mono t1.tups (pats_mono g25.tups hp2)).snoc (show PatAt _ 2 (.ref p1) (.node .alt qs) from⟨p1,us,rfl,⟨by omega,by omega,r,t1.tups _ _ upd_same,t1.tups _ _ er⟩,pats_mono t1.tups (pats_mono g35.tups hq3)⟩),by simp[hl2],?_,(g2.trans g25).fresh ha _⟩
   exact(((hb3.new hr2).new hp1)).gro t1 (by simpa using ba)
 ·rintro σ H2 ⟨vs,ps,k,br,j,rfl,ha2,hp2,hl2,hb2,g2⟩
  refine⟨_,rfl,a,_,rfl,.inl ⟨SqL.of ha2,fun r hr2=>⟨sz,fun p1 hp1=>?_⟩⟩⟩
  have g35:Gro [b] H2 (upd (upd H2 r (.tup vs)) p1 (.tup [.str "row",.ref r])):=(Gro.new hr2 _).tup hp1
  exact q _ (.node .row ps) _ ((hb2.new hr2).new hp1) ⟨p1,vs,rfl,⟨by omega,r,upd_same,by rw[upd_ne (ne_of_none upd_same hp1)];exact upd_same⟩,pats_mono g35.tups hp2⟩ (g2.trans g35)
end
theorem run_ord{r:Str×Str}(h1:r.1.length=1)(h2:r.2.length=1)(hk:runK r=true):¬r.2.cps.getD 0 0<r.1.cps.getD 0 0:=by
 obtain⟨⟨⟨a⟩⟩,⟨⟨b⟩⟩⟩:=r
 match a,b,h1,h2 with
 | [x],[y],_,_ =>
  have h:(!decide ([y]<[x]))=true:=hk
  show ¬y<x
  intro z
  have:decide ([y]<[x])=true:=decide_eq_true (List.cons_lt_cons_iff.mpr (.inl z))
  rw[this]at h
  cases h
section
variable{P:Program}{w:World}{K:W.Frag}{mg:Str->Option Value}{base:Heap}{f:Addr}{fd:FuncData}
inductive spTlI(vs:List V)(H:Hp)(Q:VK):Prop
 |mk (s:Str) (_:vs=[.str s,.int 1]) (_:s.length=1) (_:Q (.bl true) H)
def spTl:Sp:=fun vs H Q _=>spTlI vs H Q
abbrev s_l_text_like:Stmt:=top 66
theorem sc_l_text_like:FnScope ["_law_found","_law_size_here"] ["_law_found","_law_size_here"] (defScope s_l_text_like):=fsc
theorem ok_tlk(T:Blt mg)(F:Fun K "_law_text_like" "_law_text_like" s_l_text_like f fd):FnOk P w K mg base CX0 1 f fd ["_law_found","_law_size_here"] spTl:=by
 refine F.ok sc_l_text_like (fun vs H Q E h=>?_) (fun cdv A outer s H vs Q E hr h=>?_)
 ·obtain⟨s,rfl,_⟩:=h
  rfl
 obtain⟨x,rfl,h1,q⟩:=h
 refine ltX ?_
 intro Xz
 refine⟨_,(pss_one (ps_ret (pe_and (pe_callB (call_isinst (T:="str") (isT_ok (by simp))) rfl T.b_isinstance PyProof.Rows.Boot.«isinstance» (pa_cons (pv 0) (pa_cons (pe_bltn (v:=.ty "str") rfl T.b_str PyProof.Rows.Boot.«str» rfl) pa_nil))) (pe_one (pe_cmpR op_eq (pe_callB call_len_str rfl T.b_len PyProof.Rows.Boot.«len» (pa_cons (pv 0) pa_nil)) (pv 1) (nomark _)))))),?_⟩
 refine exA rfl ⟨_,true,rfl,rfl,exA rfl (iteT ?_)⟩
 refine exA rfl ⟨x,rfl,small (by omega),exA rfl ⟨rfl,?_⟩⟩
 show Q (V.bl (decide (V.int (x.length:Int)=V.int 1))) H
 rw[decide_eq_true (by rw[h1];rfl)]
 exact q
inductive spNbI(vs:List V)(H:Hp)(Q:VK):Prop
 |mk (i lo hi:Int) (_:vs=[.int i,.int lo,.int hi]) (_:Q (.bl (decide (lo<=i/\i<=hi))) H)
def spNb:Sp:=fun vs H Q _=>spNbI vs H Q
abbrev s_l_number:Stmt:=top 67
theorem sc_l_number:FnScope ["_law_found","_law_low","_law_high"] ["_law_found","_law_low","_law_high"] (defScope s_l_number):=fsc
theorem ok_nb(T:Blt mg)(F:Fun K "_law_number" "_law_number" s_l_number f fd):FnOk P w K mg base CX0 1 f fd ["_law_found","_law_low","_law_high"] spNb:=by
 refine F.ok sc_l_number (fun vs H Q E h=>?_) (fun cdv A outer s H vs Q E hr h=>?_)
 ·obtain⟨i,lo,hi,rfl,_⟩:=h
  rfl
 obtain⟨i,lo,hi,rfl,q⟩:=h
 refine ltX ?_
 intro Xz
 refine⟨_,(pss_one (ps_ret (pe_and (pe_callB (call_isinst (T:="int") (isT_ok (by simp))) rfl T.b_isinstance PyProof.Rows.Boot.«isinstance» (pa_cons (pv 0) (pa_cons (pe_bltn (v:=.ty "int") rfl T.b_int PyProof.Rows.Boot.«int» rfl) pa_nil))) (pe_and (pe_not (pe_callB (call_isinst (T:="bool") (isT_ok (by simp))) rfl T.b_isinstance PyProof.Rows.Boot.«isinstance» (pa_cons (pv 0) (pa_cons (pe_bltn (v:=.ty "bool") rfl T.b_bool PyProof.Rows.Boot.«bool» rfl) pa_nil)))) (pe_and (pe_cmpR op_le (pv 1) (pv 0) (nomark _)) (pe_one (pe_cmpR op_le (pv 0) (pv 2) (nomark _)))))))),?_⟩
 refine exA rfl ⟨_,true,rfl,rfl,exA rfl (iteT ?_)⟩
 refine exA rfl ⟨_,false,rfl,rfl,exA rfl (exA rfl (iteT ?_))⟩
 refine exA rfl (exA rfl (exB rfl rfl (exA rfl ?_)))
 by_cases h1:lo<=i
 ·refine ite_yes (decide_eq_true h1) ?_
  refine exA rfl (exA rfl (exB rfl rfl ?_))
  show Q (V.bl (decide (i<=hi))) H
  rw[show decide (lo<=i/\i<=hi)=decide (i<=hi) by rw[decide_eq_decide];omega]at q
  exact q
 ·rw[decide_eq_false (by omega)]at q
  exact ite_no (fun z=>h1 (of_decide_eq_true z)) q
inductive spGrnI(vs:List V)(H:Hp)(Q:VK):Prop
 |mk (r:Addr) (rs:List (Str×Str)) (_:vs=[.ref r]) (_:RunsAt H r rs) (_:runsK rs=true) (_:Q (.bl true) H)
def spGrn:Sp:=fun vs H Q _=>spGrnI vs H Q
abbrev s_l_good_runs:Stmt:=top 68
theorem sc_l_good_runs:FnScope ["_law_runs_here","_law_run"] ["_law_runs_here"] (defScope s_l_good_runs):=fsc
theorem ok_grn(T:Blt mg)(O_l_text_like:Own P w K mg base 1 "_law_text_like" ["_law_found","_law_size_here"] spTl)(F:Fun K "_law_good_runs" "_law_good_runs" s_l_good_runs f fd):FnOk P w K mg base CX0 2 f fd ["_law_runs_here"] spGrn:=by
 refine F.ok sc_l_good_runs (fun vs H Q E h=>?_) (fun cdv A outer s H vs Q E hr h=>?_)
 ·obtain⟨r,rs,rfl,_⟩:=h
  rfl
 obtain⟨r,rs,rfl,hR,hk,q⟩:=h
 refine ltX ?_
 intro Xz
 refine⟨_,(pss_cons (ps_if (PW.pt (pw_or (pt_not (pt_val (pe_callB (call_isinst (T:="tuple") (isT_ok (by simp))) rfl T.b_isinstance PyProof.Rows.Boot.«isinstance» (pa_cons (pv 0) (pa_cons (pe_bltn (v:=.ty "tuple") rfl T.b_tuple PyProof.Rows.Boot.«tuple» rfl) pa_nil))))) (pw_or (pt_cmpR op_lt (pe_callB call_len_seq rfl T.b_len PyProof.Rows.Boot.«len» (pa_cons (pv 0) pa_nil)) pe_int (nomark _)) (pw_or1 (pt_cmpR op_gt (pe_callB call_len_seq rfl T.b_len PyProof.Rows.Boot.«len» (pa_cons (pv 0) pa_nil)) pe_int (nomark _)))))) (pss_one (ps_ret pe_bl)) pss_nil)
  (pss_cons (ps_for PassesOwn.never rfl (pi_tup (pv 0)) (pN 1 sc_l_good_runs.nd) (pss_cons (ps_if (PW.pt (pw_or (pt_not (pt_val (pe_callB (call_isinst (T:="tuple") (isT_ok (by simp))) rfl T.b_isinstance PyProof.Rows.Boot.«isinstance» (pa_cons (pv 1) (pa_cons (pe_bltn (v:=.ty "tuple") rfl T.b_tuple PyProof.Rows.Boot.«tuple» rfl) pa_nil))))) (pw_or1 (pt_cmpR op_ne (pe_callB call_len_seq rfl T.b_len PyProof.Rows.Boot.«len» (pa_cons (pv 1) pa_nil)) pe_int (nomark _))))) (pss_one (ps_ret pe_bl)) pss_nil)
  (pss_one (ps_if (PW.pt (pw_or (pt_not (pt_val (pe_own (O_l_text_like.mono (by omega)) hr rfl (pa_cons (pe_ix ix_tup (pv 1) pe_int (fun _ _=>rfl)) (pa_cons pe_int pa_nil))))) (pw_or (pt_not (pt_val (pe_own (O_l_text_like.mono (by omega)) hr rfl (pa_cons (pe_ix ix_tup (pv 1) pe_int (fun _ _=>rfl)) (pa_cons pe_int pa_nil))))) (pw_or1 (pt_cmpR op_gt (pe_callB call_ord rfl T.b_ord PyProof.Rows.Boot.«ord» (pa_cons (pe_ix ix_tup (pv 1) pe_int (fun _ _=>rfl)) pa_nil)) (pe_callB call_ord rfl T.b_ord PyProof.Rows.Boot.«ord» (pa_cons (pe_ix ix_tup (pv 1) pe_int (fun _ _=>rfl)) pa_nil)) (nomark _)))))) (pss_one (ps_ret pe_bl)) pss_nil))))
  (pss_one (ps_ret pe_bl)))),?_⟩
 refine q00cc1 ?_
 intro Ez Az1 Az2 Az3 Az4 Az5 Az6 Az7
 obtain⟨us,hv,hp,hz⟩:=hR
 have hul:=Paired.length hp
 unfold runsK at hk
 rw[Bool.and_eq_true]at hk
 have hk1:=of_decide_eq_true hk.1
 refine exA rfl ⟨_,true,rfl,.inl ⟨us,hv,rfl⟩,exA rfl (ite_no (by decide) ?_)⟩
 refine exA rfl ⟨r,us,rfl,.inr (SqT.of hv),exB rfl rfl (exA rfl (ite_no (by intro z;have z':(us.length:Int)<1:=of_decide_eq_true z;omega) ?_))⟩
 refine exA rfl ⟨r,us,rfl,.inr (SqT.of hv),exB rfl rfl (exA rfl (ite_no (by intro z;have z':(8:Int)<us.length:=of_decide_eq_true z;omega) ?_))⟩
 refine exA rfl ⟨r,rfl,⟨us,SqT.of hv⟩,?_⟩
 refine for_tup (xs:=us) (fun i σ H'=>(∃u:Option V,σ=[some (.ref r),u])/\H'=H) ⟨⟨none,rfl⟩,rfl⟩ (fun i σ H' _ ⟨_,e⟩=>by rw[e];exact SqT.of hv) ?_ ?_
 ·rintro i x σ H' hx ⟨⟨u,rfl⟩,rfl⟩
  obtain⟨p,hpi,h1,h2,a,rfl,ha⟩:=paired_get hp hx
  have hm:=List.mem_of_getElem? hpi
  have ho:=run_ord h1 h2 (List.all_eq_true.mp hk.2 p hm)
  refine exA rfl ⟨_,true,rfl,.inl ⟨_,ha,rfl⟩,exA rfl (ite_no (by decide) ?_)⟩
  refine exA rfl ⟨a,_,rfl,.inr (SqT.of ha),rfl,exA rfl (ite_no (by show ¬(!decide (V.int (2:Int)=V.int 2))=true;decide) ?_)⟩
  refine ixT ha rfl ⟨p.1,rfl,h1,exA rfl (ite_no (by decide) ?_)⟩
  refine ixT ha rfl ⟨p.2,rfl,h2,exA rfl (ite_no (by decide) ?_)⟩
  refine ixT ha rfl ⟨p.1,rfl,h1,ixT ha rfl ⟨p.2,rfl,h2,exB rfl rfl (exA rfl (ite_no ?_ ?_))⟩⟩
  ·intro z
   have z':((p.2.cps.getD 0 0:Nat):Int)<((p.1.cps.getD 0 0:Nat):Int):=of_decide_eq_true z
   omega
  ·exact⟨⟨_,rfl⟩,rfl⟩
 ·rintro σ H' ⟨⟨u,rfl⟩,rfl⟩
  exact q
inductive spGtuI(vs:List V)(H:Hp)(Q:VK):Prop
 |mk (a:Addr) (lo:Int) (hi:Option Int) (how:How) (k:V) (_:vs=[.ref a]) (_:H a=some (.tup [.str "times",.int lo,optV hi,.str how.text,k])) (_:turnsK lo hi=true) (_:∀H',Gro [] H H'->Q (.bl true) H')
def spGtu:Sp:=fun vs H Q _=>spGtuI vs H Q
abbrev howsW:List V:=[.str "much",.str "little",.str "keep"]
abbrev s_l_good_turns:Stmt:=top 69
theorem sc_l_good_turns:FnScope ["_law_p"] ["_law_p"] (defScope s_l_good_turns):=fsc
theorem ok_gtu(T:Blt mg)(O_l_number:Own P w K mg base 1 "_law_number" ["_law_found","_law_low","_law_high"] spNb)(F:Fun K "_law_good_turns" "_law_good_turns" s_l_good_turns f fd):FnOk P w K mg base CX0 2 f fd ["_law_p"] spGtu:=by
 refine F.ok sc_l_good_turns (fun vs H Q E h=>?_) (fun cdv A outer s H vs Q E hr h=>?_)
 ·obtain⟨a,lo,hi,how,k,rfl,_⟩:=h
  rfl
 obtain⟨a,lo,hi,how,k,rfl,e,hk,q⟩:=h
 refine ltX ?_
 intro Xz
 refine⟨_,(pss_cons (ps_if (PW.pt (pw_or (pt_cmpR op_ne (pe_callB call_len_seq rfl T.b_len PyProof.Rows.Boot.«len» (pa_cons (pv 0) pa_nil)) pe_int (nomark _)) (pw_or1 (pt_not (pt_val (pe_own (O_l_number.mono (by omega)) hr rfl (pa_cons (pe_ix ix_tup (pv 0) pe_int (fun _ _=>rfl)) (pa_cons pe_int (pa_cons pe_int pa_nil))))))))) (pss_one (ps_ret pe_bl)) pss_nil)
  (pss_cons (ps_if (PW.pt (pw_and (pt_cmp (pc_notN (pe_ix ix_tup (pv 0) pe_int (fun _ _=>rfl)))) (pw_and1 (pt_not (pt_val (pe_own (O_l_number.mono (by omega)) hr rfl (pa_cons (pe_ix ix_tup (pv 0) pe_int (fun _ _=>rfl)) (pa_cons (pe_callB (call_max2 rfl) rfl T.b_max PyProof.Rows.Boot.«max» (pa_cons pe_int (pa_cons (pe_ix ix_tup (pv 0) pe_int (fun _ _=>rfl)) pa_nil))) (pa_cons pe_int pa_nil))))))))) (pss_one (ps_ret pe_bl)) pss_nil)
  (pss_one (ps_ret (pe_and (pe_callB (call_isinst (T:="str") (isT_ok (by simp))) rfl T.b_isinstance PyProof.Rows.Boot.«isinstance» (pa_cons (pe_ix ix_tup (pv 0) pe_int (fun _ _=>rfl)) (pa_cons (pe_bltn (v:=.ty "str") rfl T.b_str PyProof.Rows.Boot.«str» rfl) pa_nil))) (pe_one (pe_cmpR op_in_seq (pe_ix ix_tup (pv 0) pe_int (fun _ _=>rfl)) (pe_tup (pa_cons pe_str (pa_cons pe_str (pa_cons pe_str pa_nil)))) (by with_unfolding_all rfl)))))))),?_⟩
 refine q049a3 ?_
 intro Ez Az1 Az2 Az3 Az4
 unfold turnsK at hk
 rw[Bool.and_eq_true]at hk
 have hk1:=of_decide_eq_true hk.1
 refine exA rfl ⟨a,_,rfl,.inr (SqT.of e),rfl,exA rfl (ite_no (by show ¬(!decide (V.int (5:Int)=V.int 5))=true;decide) ?_)⟩
 refine ixT e rfl ⟨lo,0,9,rfl,exA rfl (ite_no (by rw[decide_eq_true hk1];decide) ?_)⟩
 have fin:Az3 Ez [some (.ref a)] H:=by
  refine ixT e rfl ⟨_,true,rfl,rfl,exA rfl (iteT ?_)⟩
  refine ixT e rfl ⟨sz,fun t ht=>⟨t,howsW,rfl,.inr (SqT.of upd_same),rfl,rfl,?_⟩⟩
  have:inV (.str how.text) howsW=true:=by cases how <;> decide +kernel
  rw[this]
  exact q _ (Gro.new ht _)
 cases hi with
 |none =>
  refine ixT e rfl (exA rfl (ite_no (by decide) ?_))
  exact fin
 |some x =>
  have hx:decide (1<=x/\lo<=x/\x<=9)=true:=hk.2
  have hx:=of_decide_eq_true hx
  refine ixT e rfl (exA rfl (ite_yes (show(!decide (V.int x=V.non))=true by rw[decide_eq_false (fun z=>by cases z)];rfl) ?_))
  refine ixT e rfl (ixT e rfl ⟨1,lo,rfl,x,_,9,rfl,exA rfl (ite_no ?_ ?_)⟩)
  ·have:(if lo>1 then lo else 1)<=x/\x<=9:=by split <;> omega
   rw[decide_eq_true this]
   decide
  ·exact fin
end
abbrev lookW5:List V:=[.str "once",.str "ahead",.str "notahead",.str "behind",.str "notbehind"]
abbrev bareW:List V:=[.str "any",.str "begin",.str "end"]
def SeenAt(H:Hp)(s:Addr)(c:Nat):Prop:=H s=some (.lst (List.replicate c (.int 0)))/\c<=1000000
theorem SeenAt.new0{H:Hp}{s t:Addr}{c:Nat}{o:HO}(h:SeenAt H s c)(ht:H t=none):SeenAt (upd H t o) s c:=⟨by rw[upd_ne (ne_of_none h.1 ht)];exact h.1,h.2⟩
theorem SeenAt.gro0{H H':Hp}{s:Addr}{c:Nat}(h:SeenAt H s c)(g:Gro [] H H'):SeenAt H' s c:=⟨g.keep _ _ h.1 (by simp),h.2⟩
def Hd.ownN:Hd->Nat
 |.grp _=>1
 |_=>0
section
variable{P:Program}{w:World}{K:W.Frag}{mg:Str->Option Value}{base:Heap}{f:Addr}{fd:FuncData}
inductive spGhI(vs:List V)(H:Hp)(Q:VK):Prop
 |mk (a s0:Addr) (T0 G:Int) (h:Hd) (kv:List V) (c:Nat) (_:vs=[.ref a,.ref s0,.int T0]) (_:Lay H a h kv) (_:h.keeps G kv.length=true) (_:SeenAt H s0 c) (_:c<=900000) (_:∀(b:Bool) (H':Hp),Gro [s0] H H'->SeenAt H' s0 (c+h.ownN)->(h.keeps T0 kv.length=true/\(∀j,h=.grp j->j=(c:Int)+1)->b=true)->(h.keeps T0 kv.length=false->b=false)->Q (.bl b) H')
def spGh:Sp:=fun vs H Q _=>spGhI vs H Q
abbrev s_l_good_head:Stmt:=top 70
theorem sc_l_good_head:FnScope ["_law_p","_law_seen","_law_total","_law_word"] ["_law_p","_law_seen","_law_total"] (defScope s_l_good_head):=fsc
theorem ok_gh(T:Blt mg)(O_l_text_like:Own P w K mg base 1 "_law_text_like" ["_law_found","_law_size_here"] spTl)(O_l_number:Own P w K mg base 1 "_law_number" ["_law_found","_law_low","_law_high"] spNb)(O_l_good_runs:Own P w K mg base 2 "_law_good_runs" ["_law_runs_here"] spGrn)(O_l_good_turns:Own P w K mg base 2 "_law_good_turns" ["_law_p"] spGtu)
  (F:Fun K "_law_good_head" "_law_good_head" s_l_good_head f fd):FnOk P w K mg base CX0 3 f fd ["_law_p","_law_seen","_law_total"] spGh:=by
 refine F.ok sc_l_good_head (fun vs H Q E h=>?_) (fun cdv A outer s H vs Q E hr h=>?_)
 ·obtain⟨a,s0,T0,G,h,kv,c,rfl,_⟩:=h
  rfl
 obtain⟨a,s0,T0,G,h,kv,c,rfl,lay,hst,hs,hc,q⟩:=h
 refine ltX ?_
 intro Xz
 refine⟨_,(pss_cons (pS 3 sc_l_good_head.nd (pe_ix ix_tup (pv 0) pe_int (fun _ _=>rfl)))
  (pss_cons (ps_if (pt_cmpR op_eq (pv 3) pe_str (nomark _)) (pss_one (ps_ret (pe_and (pe_cmpR op_eq (pe_callB call_len_seq rfl T.b_len PyProof.Rows.Boot.«len» (pa_cons (pv 0) pa_nil)) pe_int (nomark _)) (pe_one (pe_own (O_l_text_like.mono (by omega)) hr rfl (pa_cons (pe_ix ix_tup (pv 0) pe_int (fun _ _=>rfl)) (pa_cons pe_int pa_nil))))))) pss_nil)
  (pss_cons (ps_if (pt_cmpR op_in_seq (pv 3) (pe_tup (pa_cons pe_str (pa_cons pe_str (pa_cons pe_str pa_nil)))) (by with_unfolding_all rfl)) (pss_one (ps_ret (pe_cmpR op_eq (pe_callB call_len_seq rfl T.b_len PyProof.Rows.Boot.«len» (pa_cons (pv 0) pa_nil)) pe_int (nomark _)))) pss_nil)
  (pss_cons (ps_if (PW.pt (pw_or (pt_cmpR op_eq (pv 3) pe_str (nomark _)) (pw_or1 (pt_cmpR op_eq (pv 3) pe_str (nomark _))))) (pss_one (ps_ret (pe_and (pe_cmpR op_eq (pe_callB call_len_seq rfl T.b_len PyProof.Rows.Boot.«len» (pa_cons (pv 0) pa_nil)) pe_int (nomark _)) (pe_one (pe_own (O_l_good_runs.mono (by omega)) hr rfl (pa_cons (pe_ix ix_tup (pv 0) pe_int (fun _ _=>rfl)) pa_nil)))))) pss_nil)
  (pss_cons (ps_if (pt_cmpR op_eq (pv 3) pe_str (nomark _)) (pss_one (ps_ret (pe_and (pe_cmpR op_eq (pe_callB call_len_seq rfl T.b_len PyProof.Rows.Boot.«len» (pa_cons (pv 0) pa_nil)) pe_int (nomark _)) (pe_one (pe_own (O_l_number.mono (by omega)) hr rfl (pa_cons (pe_ix ix_tup (pv 0) pe_int (fun _ _=>rfl)) (pa_cons pe_int (pa_cons (pv 2) pa_nil)))))))) pss_nil)
  (pss_cons (ps_if (pt_cmpR op_eq (pv 3) pe_str (nomark _)) (pss_one (ps_ret (pe_and (pe_cmpR op_eq (pe_callB call_len_seq rfl T.b_len PyProof.Rows.Boot.«len» (pa_cons (pv 0) pa_nil)) pe_int (nomark _)) (pe_one (pe_own (O_l_number.mono (by omega)) hr rfl (pa_cons (pe_ix ix_tup (pv 0) pe_int (fun _ _=>rfl)) (pa_cons pe_int (pa_cons (pv 2) pa_nil)))))))) pss_nil)
  (pss_cons (ps_if (pt_cmpR op_eq (pv 3) pe_str (nomark _)) (pss_one (ps_ret (pe_own (O_l_good_turns.mono (by omega)) hr rfl (pa_cons (pv 0) pa_nil)))) pss_nil)
  (pss_cons (ps_if (pt_cmpR op_eq (pv 3) pe_str (nomark _)) (pss_cons (ps_expr (pe_bm PySem.F.plainAttrs_list PySem.F.slot_list_append PySem.F.type_list_append mt_append (pv 1) (pa_cons pe_int pa_nil)))
  (pss_one (ps_ret (pe_and (pe_cmpR op_eq (pe_callB call_len_seq rfl T.b_len PyProof.Rows.Boot.«len» (pa_cons (pv 0) pa_nil)) pe_int (nomark _)) (pe_one (pe_own (O_l_number.mono (by omega)) hr rfl (pa_cons (pe_ix ix_tup (pv 0) pe_int (fun _ _=>rfl)) (pa_cons (pe_callB call_len_seq rfl T.b_len PyProof.Rows.Boot.«len» (pa_cons (pv 1) pa_nil)) (pa_cons (pe_callB call_len_seq rfl T.b_len PyProof.Rows.Boot.«len» (pa_cons (pv 1) pa_nil)) pa_nil))))))))) pss_nil)
  (pss_cons (ps_if (PW.pt (pw_or (pt_cmpR op_eq (pv 3) pe_str (nomark _)) (pw_or1 (pt_cmpR op_eq (pv 3) pe_str (nomark _))))) (pss_cons (ps_if (PW.pt (pw_or (pt_cmpR op_ne (pe_callB call_len_seq rfl T.b_len PyProof.Rows.Boot.«len» (pa_cons (pv 0) pa_nil)) pe_int (nomark _)) (pw_or (pt_not (pt_val (pe_callB (call_isinst (T:="tuple") (isT_ok (by simp))) rfl T.b_isinstance PyProof.Rows.Boot.«isinstance» (pa_cons (pe_ix ix_tup (pv 0) pe_int (fun _ _=>rfl)) (pa_cons (pe_bltn (v:=.ty "tuple") rfl T.b_tuple PyProof.Rows.Boot.«tuple» rfl) pa_nil))))) (pw_or (pt_cmpR op_gt (pe_callB call_len_seq rfl T.b_len PyProof.Rows.Boot.«len» (pa_cons (pe_ix ix_tup (pv 0) pe_int (fun _ _=>rfl)) pa_nil)) pe_int (nomark _)) (pw_or1 (pt_cmpR op_eq (pe_callB call_len_seq rfl T.b_len PyProof.Rows.Boot.«len» (pa_cons (pe_ix ix_tup (pv 0) pe_int (fun _ _=>rfl)) pa_nil)) pe_int (nomark _))))))) (pss_one (ps_ret pe_bl)) pss_nil)
  (pss_one (ps_ret (pe_or (pe_cmpR op_eq (pv 3) pe_str (nomark _)) (pe_one (pe_cmpR op_gt (pe_callB call_len_seq rfl T.b_len PyProof.Rows.Boot.«len» (pa_cons (pe_ix ix_tup (pv 0) pe_int (fun _ _=>rfl)) pa_nil)) pe_int (nomark _))))))) pss_nil)
  (pss_one (ps_ret (pe_and (pe_cmpR op_eq (pe_callB call_len_seq rfl T.b_len PyProof.Rows.Boot.«len» (pa_cons (pv 0) pa_nil)) pe_int (nomark _)) (pe_one (pe_cmpR op_in_seq (pv 3) (pe_tup (pa_cons pe_str (pa_cons pe_str (pa_cons pe_str (pa_cons pe_str (pa_cons pe_str pa_nil)))))) (by with_unfolding_all rfl))))))))))))))),?_⟩
 refine q71614 ?_
 intro Ez Az1 Az2 Az3 Az4 Az5 Az6 Az7 Az8 Az9 Az10 Az11 Az12 Az13 Az14 Az15 Az16 Az17 Az18 Az19 Az20
 generalize hkn:kv.length=n at *
 cases h with
 |sign s1 =>
  have ea:=lay.2.2
  refine ixT ea at0 ?_
  refine exA rfl ⟨rfl,exA rfl (ite_yes (show isw "sign" "sign" = true by decide +kernel) ?_)⟩
  refine exA rfl ⟨a,_,rfl,.inr (SqT.of ea),rfl,exA rfl (iteT ?_)⟩
  exact ixT ea rfl ⟨s1,rfl,lay.2.1,q true H Gro.refl hs (fun _=>rfl) (fun z=>Bool.noConfusion (show true=false from z))⟩
 |any =>
  have ea:=lay.2
  refine ixT ea at0 ?_
  refine exA rfl ⟨rfl,exA rfl (ite_no (show ¬isw "any" "sign" = true by decide +kernel) ?_)⟩
  refine exA rfl ⟨sz,fun t0 ht0=>⟨t0,bareW,rfl,.inr (SqT.of upd_same),rfl,rfl,exA rfl ?_⟩⟩
  have g0:=Gro.new (S:=[s0]) ht0 (.tup bareW)
  have ea:=g0.tups _ _ ea
  have hs:=hs.new0 (o:=.tup bareW) ht0
  generalize upd H t0 (.tup bareW)=H1 at *
  refine ite_yes (show inV (.str "any") bareW=true by decide +kernel) ?_
  refine exA rfl ⟨a,_,rfl,.inr (SqT.of ea),rfl,?_⟩
  exact q true H1 g0 hs (fun _=>rfl) (fun z=>Bool.noConfusion (show true=false from z))
 |beg =>
  have ea:=lay.2
  refine ixT ea at0 ?_
  refine exA rfl ⟨rfl,exA rfl (ite_no (show ¬isw "begin" "sign" = true by decide +kernel) ?_)⟩
  refine exA rfl ⟨sz,fun t0 ht0=>⟨t0,bareW,rfl,.inr (SqT.of upd_same),rfl,rfl,exA rfl ?_⟩⟩
  have g0:=Gro.new (S:=[s0]) ht0 (.tup bareW)
  have ea:=g0.tups _ _ ea
  have hs:=hs.new0 (o:=.tup bareW) ht0
  generalize upd H t0 (.tup bareW)=H1 at *
  refine ite_yes (show inV (.str "begin") bareW=true by decide +kernel) ?_
  refine exA rfl ⟨a,_,rfl,.inr (SqT.of ea),rfl,?_⟩
  exact q true H1 g0 hs (fun _=>rfl) (fun z=>Bool.noConfusion (show true=false from z))
 |fin =>
  have ea:=lay.2
  refine ixT ea at0 ?_
  refine exA rfl ⟨rfl,exA rfl (ite_no (show ¬isw "end" "sign" = true by decide +kernel) ?_)⟩
  refine exA rfl ⟨sz,fun t0 ht0=>⟨t0,bareW,rfl,.inr (SqT.of upd_same),rfl,rfl,exA rfl ?_⟩⟩
  have g0:=Gro.new (S:=[s0]) ht0 (.tup bareW)
  have ea:=g0.tups _ _ ea
  have hs:=hs.new0 (o:=.tup bareW) ht0
  generalize upd H t0 (.tup bareW)=H1 at *
  refine ite_yes (show inV (.str "end") bareW=true by decide +kernel) ?_
  refine exA rfl ⟨a,_,rfl,.inr (SqT.of ea),rfl,?_⟩
  exact q true H1 g0 hs (fun _=>rfl) (fun z=>Bool.noConfusion (show true=false from z))
 |inn rs =>
  obtain⟨_,rr,ea,hrr⟩:=lay
  refine ixT ea at0 ?_
  refine exA rfl ⟨rfl,exA rfl (ite_no (show ¬isw "in" "sign" = true by decide +kernel) ?_)⟩
  refine exA rfl ⟨sz,fun t0 ht0=>⟨t0,bareW,rfl,.inr (SqT.of upd_same),rfl,rfl,exA rfl ?_⟩⟩
  have g0:=Gro.new (S:=[s0]) ht0 (.tup bareW)
  have ea:=g0.tups _ _ ea
  have hs:=hs.new0 (o:=.tup bareW) ht0
  have hrr:=hrr.mono g0.tups
  generalize upd H t0 (.tup bareW)=H1 at *
  refine ite_no (show ¬inV (.str "in") bareW=true by decide +kernel) ?_
  refine exA rfl ⟨rfl,exA rfl (ite_yes (show isw "in" "in" = true by decide +kernel) (iteT ?_))⟩
  refine exA rfl ⟨a,_,rfl,.inr (SqT.of ea),rfl,exA rfl (iteT ?_)⟩
  exact ixT ea rfl ⟨rr,rs,rfl,hrr,hst,q true H1 g0 hs (fun _=>rfl) (fun z=>absurd (show runsK rs=false from z) (by rw[show runsK rs=true from hst];decide))⟩
 |out rs =>
  obtain⟨_,rr,ea,hrr⟩:=lay
  refine ixT ea at0 ?_
  refine exA rfl ⟨rfl,exA rfl (ite_no (show ¬isw "out" "sign" = true by decide +kernel) ?_)⟩
  refine exA rfl ⟨sz,fun t0 ht0=>⟨t0,bareW,rfl,.inr (SqT.of upd_same),rfl,rfl,exA rfl ?_⟩⟩
  have g0:=Gro.new (S:=[s0]) ht0 (.tup bareW)
  have ea:=g0.tups _ _ ea
  have hs:=hs.new0 (o:=.tup bareW) ht0
  have hrr:=hrr.mono g0.tups
  generalize upd H t0 (.tup bareW)=H1 at *
  refine ite_no (show ¬inV (.str "out") bareW=true by decide +kernel) ?_
  refine exA rfl ⟨rfl,exA rfl (ite_no (show ¬isw "out" "in" = true by decide +kernel) (exA rfl ⟨rfl,exA rfl (ite_yes (show isw "out" "out" = true by decide +kernel) ?_)⟩))⟩
  refine exA rfl ⟨a,_,rfl,.inr (SqT.of ea),rfl,exA rfl (iteT ?_)⟩
  exact ixT ea rfl ⟨rr,rs,rfl,hrr,hst,q true H1 g0 hs (fun _=>rfl) (fun z=>absurd (show runsK rs=false from z) (by rw[show runsK rs=true from hst];decide))⟩
 |again j =>
  have ea:=lay.2.2
  refine ixT ea at0 ?_
  refine exA rfl ⟨rfl,exA rfl (ite_no (show ¬isw "again" "sign" = true by decide +kernel) ?_)⟩
  refine exA rfl ⟨sz,fun t0 ht0=>⟨t0,bareW,rfl,.inr (SqT.of upd_same),rfl,rfl,exA rfl ?_⟩⟩
  have g0:=Gro.new (S:=[s0]) ht0 (.tup bareW)
  have ea:=g0.tups _ _ ea
  have hs:=hs.new0 (o:=.tup bareW) ht0
  generalize upd H t0 (.tup bareW)=H1 at *
  refine ite_no (show ¬inV (.str "again") bareW=true by decide +kernel) ?_
  refine exA rfl ⟨rfl,exA rfl (ite_no (show ¬isw "again" "in" = true by decide +kernel) (exA rfl ⟨rfl,exA rfl (ite_no (show ¬isw "again" "out" = true by decide +kernel) ?_)⟩))⟩
  refine exA rfl ⟨rfl,exA rfl (ite_yes (show isw "again" "again" = true by decide +kernel) ?_)⟩
  refine exA rfl ⟨a,_,rfl,.inr (SqT.of ea),rfl,exA rfl (iteT ?_)⟩
  exact ixT ea rfl (exA rfl ⟨j,1,T0,rfl,q _ H1 g0 hs (fun z=>z.1) (fun z=>z)⟩)
 |hav j =>
  obtain⟨_,y0,z0,_,ea⟩:=lay
  refine ixT ea at0 ?_
  refine exA rfl ⟨rfl,exA rfl (ite_no (show ¬isw "have" "sign" = true by decide +kernel) ?_)⟩
  refine exA rfl ⟨sz,fun t0 ht0=>⟨t0,bareW,rfl,.inr (SqT.of upd_same),rfl,rfl,exA rfl ?_⟩⟩
  have g0:=Gro.new (S:=[s0]) ht0 (.tup bareW)
  have ea:=g0.tups _ _ ea
  have hs:=hs.new0 (o:=.tup bareW) ht0
  generalize upd H t0 (.tup bareW)=H1 at *
  refine ite_no (show ¬inV (.str "have") bareW=true by decide +kernel) ?_
  refine exA rfl ⟨rfl,exA rfl (ite_no (show ¬isw "have" "in" = true by decide +kernel) (exA rfl ⟨rfl,exA rfl (ite_no (show ¬isw "have" "out" = true by decide +kernel) ?_)⟩))⟩
  refine exA rfl ⟨rfl,exA rfl (ite_no (show ¬isw "have" "again" = true by decide +kernel) ?_)⟩
  refine exA rfl ⟨rfl,exA rfl (ite_yes (show isw "have" "have" = true by decide +kernel) ?_)⟩
  refine exA rfl ⟨a,_,rfl,.inr (SqT.of ea),rfl,exA rfl (iteT ?_)⟩
  exact ixT ea rfl (exA rfl ⟨j,1,T0,rfl,q _ H1 g0 hs (fun z=>z.1) (fun z=>z)⟩)
 |times lo hi how =>
  obtain⟨_,k0,_,ea⟩:=lay
  refine ixT ea at0 ?_
  refine exA rfl ⟨rfl,exA rfl (ite_no (show ¬isw "times" "sign" = true by decide +kernel) ?_)⟩
  refine exA rfl ⟨sz,fun t0 ht0=>⟨t0,bareW,rfl,.inr (SqT.of upd_same),rfl,rfl,exA rfl ?_⟩⟩
  have g0:=Gro.new (S:=[s0]) ht0 (.tup bareW)
  have ea:=g0.tups _ _ ea
  have hs:=hs.new0 (o:=.tup bareW) ht0
  generalize upd H t0 (.tup bareW)=H1 at *
  refine ite_no (show ¬inV (.str "times") bareW=true by decide +kernel) ?_
  refine exA rfl ⟨rfl,exA rfl (ite_no (show ¬isw "times" "in" = true by decide +kernel) (exA rfl ⟨rfl,exA rfl (ite_no (show ¬isw "times" "out" = true by decide +kernel) ?_)⟩))⟩
  refine exA rfl ⟨rfl,exA rfl (ite_no (show ¬isw "times" "again" = true by decide +kernel) ?_)⟩
  refine exA rfl ⟨rfl,exA rfl (ite_no (show ¬isw "times" "have" = true by decide +kernel) ?_)⟩
  refine exA rfl ⟨rfl,exA rfl (ite_yes (show isw "times" "times" = true by decide +kernel) ?_)⟩
  exact exA rfl ⟨a,lo,hi,how,k0,rfl,ea,hst,fun H2 g2=>q true H2 (g0.trans (g2.mono (by simp))) (hs.gro0 g2) (fun _=>rfl) (fun z=>absurd (show turnsK lo hi=false from z) (by rw[show turnsK lo hi=true from hst];decide))⟩
 |grp j =>
  obtain⟨_,k0,_,ea⟩:=lay
  refine ixT ea at0 ?_
  refine exA rfl ⟨rfl,exA rfl (ite_no (show ¬isw "group" "sign" = true by decide +kernel) ?_)⟩
  refine exA rfl ⟨sz,fun t0 ht0=>⟨t0,bareW,rfl,.inr (SqT.of upd_same),rfl,rfl,exA rfl ?_⟩⟩
  have g0:=Gro.new (S:=[s0]) ht0 (.tup bareW)
  have ea:=g0.tups _ _ ea
  have hs:=hs.new0 (o:=.tup bareW) ht0
  generalize upd H t0 (.tup bareW)=H1 at *
  refine ite_no (show ¬inV (.str "group") bareW=true by decide +kernel) ?_
  refine exA rfl ⟨rfl,exA rfl (ite_no (show ¬isw "group" "in" = true by decide +kernel) (exA rfl ⟨rfl,exA rfl (ite_no (show ¬isw "group" "out" = true by decide +kernel) ?_)⟩))⟩
  refine exA rfl ⟨rfl,exA rfl (ite_no (show ¬isw "group" "again" = true by decide +kernel) ?_)⟩
  refine exA rfl ⟨rfl,exA rfl (ite_no (show ¬isw "group" "have" = true by decide +kernel) ?_)⟩
  refine exA rfl ⟨rfl,exA rfl (ite_no (show ¬isw "group" "times" = true by decide +kernel) ?_)⟩
  refine exA rfl ⟨rfl,exA rfl (ite_yes (show isw "group" "group" = true by decide +kernel) ?_)⟩
  refine exA rfl ⟨.inl ⟨rfl,_,SqL.of hs.1⟩,s0,_,_,rfl,rfl,hs.1,bgl (by rw[List.length_replicate];have:=hs.2;omega),?_⟩
  have g1:Gro [s0] H1 _:=Gro.set (by simp) hs.1 (.lst (List.replicate c (.int 0)++[.int 0]))
  have ea:=g1.tups _ _ ea
  have hs2:(upd H1 s0 (.lst (List.replicate c (.int 0)++[.int 0]))) s0=some (.lst (List.replicate (c+1) (.int 0))):=by rw[upd_same,List.replicate_succ']
  generalize upd H1 s0 (.lst (List.replicate c (.int 0)++[.int 0]))=H2 at *
  refine exA rfl ⟨a,_,rfl,.inr (SqT.of ea),rfl,exA rfl (iteT ?_)⟩
  refine ixT ea rfl (exA rfl ⟨s0,_,rfl,.inl (SqL.of hs2),exA rfl ⟨s0,_,rfl,.inl (SqL.of hs2),j,_,_,rfl,?_⟩⟩)
  rw[List.length_replicate]
  refine q _ H2 (g0.trans g1) ⟨hs2,by show c+1<=1000000;omega⟩ (fun z=>decide_eq_true ?_) (fun z=>Bool.noConfusion (show true=false from z))
  have:=z.2 j rfl
  omega
 |row =>
  obtain⟨_,rr,ea,er⟩:=lay
  have hst':(decide (n=0)||partsK n)=true:=hst
  have hn:kv.length≠1/\kv.length<=8:=by
   rw[Bool.or_eq_true]at hst'
   rcases hst' with z | z
   ·have:=of_decide_eq_true z;omega
   ·have:=of_decide_eq_true z;omega
  refine ixT ea at0 ?_
  refine exA rfl ⟨rfl,exA rfl (ite_no (show ¬isw "row" "sign" = true by decide +kernel) ?_)⟩
  refine exA rfl ⟨sz,fun t0 ht0=>⟨t0,bareW,rfl,.inr (SqT.of upd_same),rfl,rfl,exA rfl ?_⟩⟩
  have g0:=Gro.new (S:=[s0]) ht0 (.tup bareW)
  have ea:=g0.tups _ _ ea
  have hs:=hs.new0 (o:=.tup bareW) ht0
  have er:=g0.tups _ _ er
  generalize upd H t0 (.tup bareW)=H1 at *
  refine ite_no (show ¬inV (.str "row") bareW=true by decide +kernel) ?_
  refine exA rfl ⟨rfl,exA rfl (ite_no (show ¬isw "row" "in" = true by decide +kernel) (exA rfl ⟨rfl,exA rfl (ite_no (show ¬isw "row" "out" = true by decide +kernel) ?_)⟩))⟩
  refine exA rfl ⟨rfl,exA rfl (ite_no (show ¬isw "row" "again" = true by decide +kernel) ?_)⟩
  refine exA rfl ⟨rfl,exA rfl (ite_no (show ¬isw "row" "have" = true by decide +kernel) ?_)⟩
  refine exA rfl ⟨rfl,exA rfl (ite_no (show ¬isw "row" "times" = true by decide +kernel) ?_)⟩
  refine exA rfl ⟨rfl,exA rfl (ite_no (show ¬isw "row" "group" = true by decide +kernel) ?_)⟩
  refine exA rfl ⟨rfl,exA rfl (ite_yes (show isw "row" "row" = true by decide +kernel) (iteT ?_))⟩
  refine exA rfl ⟨a,_,rfl,.inr (SqT.of ea),rfl,exA rfl (ite_no (by show ¬(!decide (V.int (2:Int)=V.int 2))=true;decide) ?_)⟩
  refine ixT ea rfl ⟨_,true,rfl,.inl ⟨kv,er,rfl⟩,exA rfl (ite_no (by decide) ?_)⟩
  refine ixT ea rfl ⟨rr,kv,rfl,.inr (SqT.of er),exB rfl rfl (exA rfl (ite_no (by intro z;have z':(8:Int)<kv.length:=of_decide_eq_true z;omega) ?_))⟩
  refine ixT ea rfl ⟨rr,kv,rfl,.inr (SqT.of er),rfl,exA rfl (ite_no (by intro z;have z':(V.int (kv.length:Int))=V.int 1:=of_decide_eq_true z;injection z' with z'';omega) ?_)⟩
  exact exA rfl ⟨rfl,exA rfl (ite_yes (show isw "row" "row" = true by decide +kernel) (q true H1 g0 hs (fun _=>rfl) (fun z=>absurd (show(decide (n=0)||partsK n)=false from z) (by rw[hst'];decide))))⟩
 |alt =>
  obtain⟨_,_,rr,ea,er⟩:=lay
  have hst':partsK n=true:=hst
  have hn:kv.length≠1/\kv.length<=8/\2<=kv.length:=by have:=of_decide_eq_true hst';omega
  refine ixT ea at0 ?_
  refine exA rfl ⟨rfl,exA rfl (ite_no (show ¬isw "or" "sign" = true by decide +kernel) ?_)⟩
  refine exA rfl ⟨sz,fun t0 ht0=>⟨t0,bareW,rfl,.inr (SqT.of upd_same),rfl,rfl,exA rfl ?_⟩⟩
  have g0:=Gro.new (S:=[s0]) ht0 (.tup bareW)
  have ea:=g0.tups _ _ ea
  have hs:=hs.new0 (o:=.tup bareW) ht0
  have er:=g0.tups _ _ er
  generalize upd H t0 (.tup bareW)=H1 at *
  refine ite_no (show ¬inV (.str "or") bareW=true by decide +kernel) ?_
  refine exA rfl ⟨rfl,exA rfl (ite_no (show ¬isw "or" "in" = true by decide +kernel) (exA rfl ⟨rfl,exA rfl (ite_no (show ¬isw "or" "out" = true by decide +kernel) ?_)⟩))⟩
  refine exA rfl ⟨rfl,exA rfl (ite_no (show ¬isw "or" "again" = true by decide +kernel) ?_)⟩
  refine exA rfl ⟨rfl,exA rfl (ite_no (show ¬isw "or" "have" = true by decide +kernel) ?_)⟩
  refine exA rfl ⟨rfl,exA rfl (ite_no (show ¬isw "or" "times" = true by decide +kernel) ?_)⟩
  refine exA rfl ⟨rfl,exA rfl (ite_no (show ¬isw "or" "group" = true by decide +kernel) ?_)⟩
  refine exA rfl ⟨rfl,exA rfl (ite_no (show ¬isw "or" "row" = true by decide +kernel) (exA rfl ⟨rfl,exA rfl (ite_yes (show isw "or" "or" = true by decide +kernel) ?_)⟩))⟩
  refine exA rfl ⟨a,_,rfl,.inr (SqT.of ea),rfl,exA rfl (ite_no (by show ¬(!decide (V.int (2:Int)=V.int 2))=true;decide) ?_)⟩
  refine ixT ea rfl ⟨_,true,rfl,.inl ⟨kv,er,rfl⟩,exA rfl (ite_no (by decide) ?_)⟩
  refine ixT ea rfl ⟨rr,kv,rfl,.inr (SqT.of er),exB rfl rfl (exA rfl (ite_no (by intro z;have z':(8:Int)<kv.length:=of_decide_eq_true z;omega) ?_))⟩
  refine ixT ea rfl ⟨rr,kv,rfl,.inr (SqT.of er),rfl,exA rfl (ite_no (by intro z;have z':(V.int (kv.length:Int))=V.int 1:=of_decide_eq_true z;injection z' with z'';omega) ?_)⟩
  refine exA rfl ⟨rfl,exA rfl (ite_no (show ¬isw "or" "row" = true by decide +kernel) ?_)⟩
  refine ixT ea rfl ⟨rr,kv,rfl,.inr (SqT.of er),exB rfl rfl ?_⟩
  show Q (V.bl (decide ((0:Int)<kv.length))) H1
  rw[decide_eq_true (show(0:Int)<kv.length by omega)]
  exact q true H1 g0 hs (fun _=>rfl) (fun z=>absurd (show partsK n=false from z) (by rw[hst'];decide))
 |look lk =>
  cases lk with
  |once =>
   obtain⟨k0,_,ea⟩:=lay
   refine ixT ea at0 ?_
   refine exA rfl ⟨rfl,exA rfl (ite_no (show ¬isw "once" "sign" = true by decide +kernel) ?_)⟩
   refine exA rfl ⟨sz,fun t0 ht0=>⟨t0,bareW,rfl,.inr (SqT.of upd_same),rfl,rfl,exA rfl ?_⟩⟩
   have g0:=Gro.new (S:=[s0]) ht0 (.tup bareW)
   have ea:=g0.tups _ _ ea
   have hs:=hs.new0 (o:=.tup bareW) ht0
   generalize upd H t0 (.tup bareW)=H1 at *
   refine ite_no (show ¬inV (.str "once") bareW=true by decide +kernel) ?_
   refine exA rfl ⟨rfl,exA rfl (ite_no (show ¬isw "once" "in" = true by decide +kernel) (exA rfl ⟨rfl,exA rfl (ite_no (show ¬isw "once" "out" = true by decide +kernel) ?_)⟩))⟩
   refine exA rfl ⟨rfl,exA rfl (ite_no (show ¬isw "once" "again" = true by decide +kernel) ?_)⟩
   refine exA rfl ⟨rfl,exA rfl (ite_no (show ¬isw "once" "have" = true by decide +kernel) ?_)⟩
   refine exA rfl ⟨rfl,exA rfl (ite_no (show ¬isw "once" "times" = true by decide +kernel) ?_)⟩
   refine exA rfl ⟨rfl,exA rfl (ite_no (show ¬isw "once" "group" = true by decide +kernel) ?_)⟩
   refine exA rfl ⟨rfl,exA rfl (ite_no (show ¬isw "once" "row" = true by decide +kernel) (exA rfl ⟨rfl,exA rfl (ite_no (show ¬isw "once" "or" = true by decide +kernel) ?_)⟩))⟩
   refine exA rfl ⟨a,_,rfl,.inr (SqT.of ea),rfl,exA rfl (iteT ?_)⟩
   refine exA rfl ⟨sz,fun t1 ht1=>⟨t1,lookW5,rfl,.inr (SqT.of upd_same),rfl,rfl,?_⟩⟩
   rw[show inV (V.str Lk.once.text) lookW5=true by decide +kernel]
   exact q true _ (g0.trans (Gro.new ht1 _)) (hs.new0 ht1) (fun _=>rfl) (fun z=>Bool.noConfusion (show true=false from z))
  |ahead =>
   obtain⟨k0,_,ea⟩:=lay
   refine ixT ea at0 ?_
   refine exA rfl ⟨rfl,exA rfl (ite_no (show ¬isw "ahead" "sign" = true by decide +kernel) ?_)⟩
   refine exA rfl ⟨sz,fun t0 ht0=>⟨t0,bareW,rfl,.inr (SqT.of upd_same),rfl,rfl,exA rfl ?_⟩⟩
   have g0:=Gro.new (S:=[s0]) ht0 (.tup bareW)
   have ea:=g0.tups _ _ ea
   have hs:=hs.new0 (o:=.tup bareW) ht0
   generalize upd H t0 (.tup bareW)=H1 at *
   refine ite_no (show ¬inV (.str "ahead") bareW=true by decide +kernel) ?_
   refine exA rfl ⟨rfl,exA rfl (ite_no (show ¬isw "ahead" "in" = true by decide +kernel) (exA rfl ⟨rfl,exA rfl (ite_no (show ¬isw "ahead" "out" = true by decide +kernel) ?_)⟩))⟩
   refine exA rfl ⟨rfl,exA rfl (ite_no (show ¬isw "ahead" "again" = true by decide +kernel) ?_)⟩
   refine exA rfl ⟨rfl,exA rfl (ite_no (show ¬isw "ahead" "have" = true by decide +kernel) ?_)⟩
   refine exA rfl ⟨rfl,exA rfl (ite_no (show ¬isw "ahead" "times" = true by decide +kernel) ?_)⟩
   refine exA rfl ⟨rfl,exA rfl (ite_no (show ¬isw "ahead" "group" = true by decide +kernel) ?_)⟩
   refine exA rfl ⟨rfl,exA rfl (ite_no (show ¬isw "ahead" "row" = true by decide +kernel) (exA rfl ⟨rfl,exA rfl (ite_no (show ¬isw "ahead" "or" = true by decide +kernel) ?_)⟩))⟩
   refine exA rfl ⟨a,_,rfl,.inr (SqT.of ea),rfl,exA rfl (iteT ?_)⟩
   refine exA rfl ⟨sz,fun t1 ht1=>⟨t1,lookW5,rfl,.inr (SqT.of upd_same),rfl,rfl,?_⟩⟩
   rw[show inV (V.str Lk.ahead.text) lookW5=true by decide +kernel]
   exact q true _ (g0.trans (Gro.new ht1 _)) (hs.new0 ht1) (fun _=>rfl) (fun z=>Bool.noConfusion (show true=false from z))
  |notahead =>
   obtain⟨k0,_,ea⟩:=lay
   refine ixT ea at0 ?_
   refine exA rfl ⟨rfl,exA rfl (ite_no (show ¬isw "notahead" "sign" = true by decide +kernel) ?_)⟩
   refine exA rfl ⟨sz,fun t0 ht0=>⟨t0,bareW,rfl,.inr (SqT.of upd_same),rfl,rfl,exA rfl ?_⟩⟩
   have g0:=Gro.new (S:=[s0]) ht0 (.tup bareW)
   have ea:=g0.tups _ _ ea
   have hs:=hs.new0 (o:=.tup bareW) ht0
   generalize upd H t0 (.tup bareW)=H1 at *
   refine ite_no (show ¬inV (.str "notahead") bareW=true by decide +kernel) ?_
   refine exA rfl ⟨rfl,exA rfl (ite_no (show ¬isw "notahead" "in" = true by decide +kernel) (exA rfl ⟨rfl,exA rfl (ite_no (show ¬isw "notahead" "out" = true by decide +kernel) ?_)⟩))⟩
   refine exA rfl ⟨rfl,exA rfl (ite_no (show ¬isw "notahead" "again" = true by decide +kernel) ?_)⟩
   refine exA rfl ⟨rfl,exA rfl (ite_no (show ¬isw "notahead" "have" = true by decide +kernel) ?_)⟩
   refine exA rfl ⟨rfl,exA rfl (ite_no (show ¬isw "notahead" "times" = true by decide +kernel) ?_)⟩
   refine exA rfl ⟨rfl,exA rfl (ite_no (show ¬isw "notahead" "group" = true by decide +kernel) ?_)⟩
   refine exA rfl ⟨rfl,exA rfl (ite_no (show ¬isw "notahead" "row" = true by decide +kernel) (exA rfl ⟨rfl,exA rfl (ite_no (show ¬isw "notahead" "or" = true by decide +kernel) ?_)⟩))⟩
   refine exA rfl ⟨a,_,rfl,.inr (SqT.of ea),rfl,exA rfl (iteT ?_)⟩
   refine exA rfl ⟨sz,fun t1 ht1=>⟨t1,lookW5,rfl,.inr (SqT.of upd_same),rfl,rfl,?_⟩⟩
   rw[show inV (V.str Lk.notahead.text) lookW5=true by decide +kernel]
   exact q true _ (g0.trans (Gro.new ht1 _)) (hs.new0 ht1) (fun _=>rfl) (fun z=>Bool.noConfusion (show true=false from z))
  |behind =>
   obtain⟨k0,_,ea⟩:=lay
   refine ixT ea at0 ?_
   refine exA rfl ⟨rfl,exA rfl (ite_no (show ¬isw "behind" "sign" = true by decide +kernel) ?_)⟩
   refine exA rfl ⟨sz,fun t0 ht0=>⟨t0,bareW,rfl,.inr (SqT.of upd_same),rfl,rfl,exA rfl ?_⟩⟩
   have g0:=Gro.new (S:=[s0]) ht0 (.tup bareW)
   have ea:=g0.tups _ _ ea
   have hs:=hs.new0 (o:=.tup bareW) ht0
   generalize upd H t0 (.tup bareW)=H1 at *
   refine ite_no (show ¬inV (.str "behind") bareW=true by decide +kernel) ?_
   refine exA rfl ⟨rfl,exA rfl (ite_no (show ¬isw "behind" "in" = true by decide +kernel) (exA rfl ⟨rfl,exA rfl (ite_no (show ¬isw "behind" "out" = true by decide +kernel) ?_)⟩))⟩
   refine exA rfl ⟨rfl,exA rfl (ite_no (show ¬isw "behind" "again" = true by decide +kernel) ?_)⟩
   refine exA rfl ⟨rfl,exA rfl (ite_no (show ¬isw "behind" "have" = true by decide +kernel) ?_)⟩
   refine exA rfl ⟨rfl,exA rfl (ite_no (show ¬isw "behind" "times" = true by decide +kernel) ?_)⟩
   refine exA rfl ⟨rfl,exA rfl (ite_no (show ¬isw "behind" "group" = true by decide +kernel) ?_)⟩
   refine exA rfl ⟨rfl,exA rfl (ite_no (show ¬isw "behind" "row" = true by decide +kernel) (exA rfl ⟨rfl,exA rfl (ite_no (show ¬isw "behind" "or" = true by decide +kernel) ?_)⟩))⟩
   refine exA rfl ⟨a,_,rfl,.inr (SqT.of ea),rfl,exA rfl (iteT ?_)⟩
   refine exA rfl ⟨sz,fun t1 ht1=>⟨t1,lookW5,rfl,.inr (SqT.of upd_same),rfl,rfl,?_⟩⟩
   rw[show inV (V.str Lk.behind.text) lookW5=true by decide +kernel]
   exact q true _ (g0.trans (Gro.new ht1 _)) (hs.new0 ht1) (fun _=>rfl) (fun z=>Bool.noConfusion (show true=false from z))
  |notbehind =>
   obtain⟨k0,_,ea⟩:=lay
   refine ixT ea at0 ?_
   refine exA rfl ⟨rfl,exA rfl (ite_no (show ¬isw "notbehind" "sign" = true by decide +kernel) ?_)⟩
   refine exA rfl ⟨sz,fun t0 ht0=>⟨t0,bareW,rfl,.inr (SqT.of upd_same),rfl,rfl,exA rfl ?_⟩⟩
   have g0:=Gro.new (S:=[s0]) ht0 (.tup bareW)
   have ea:=g0.tups _ _ ea
   have hs:=hs.new0 (o:=.tup bareW) ht0
   generalize upd H t0 (.tup bareW)=H1 at *
   refine ite_no (show ¬inV (.str "notbehind") bareW=true by decide +kernel) ?_
   refine exA rfl ⟨rfl,exA rfl (ite_no (show ¬isw "notbehind" "in" = true by decide +kernel) (exA rfl ⟨rfl,exA rfl (ite_no (show ¬isw "notbehind" "out" = true by decide +kernel) ?_)⟩))⟩
   refine exA rfl ⟨rfl,exA rfl (ite_no (show ¬isw "notbehind" "again" = true by decide +kernel) ?_)⟩
   refine exA rfl ⟨rfl,exA rfl (ite_no (show ¬isw "notbehind" "have" = true by decide +kernel) ?_)⟩
   refine exA rfl ⟨rfl,exA rfl (ite_no (show ¬isw "notbehind" "times" = true by decide +kernel) ?_)⟩
   refine exA rfl ⟨rfl,exA rfl (ite_no (show ¬isw "notbehind" "group" = true by decide +kernel) ?_)⟩
   refine exA rfl ⟨rfl,exA rfl (ite_no (show ¬isw "notbehind" "row" = true by decide +kernel) (exA rfl ⟨rfl,exA rfl (ite_no (show ¬isw "notbehind" "or" = true by decide +kernel) ?_)⟩))⟩
   refine exA rfl ⟨a,_,rfl,.inr (SqT.of ea),rfl,exA rfl (iteT ?_)⟩
   refine exA rfl ⟨sz,fun t1 ht1=>⟨t1,lookW5,rfl,.inr (SqT.of upd_same),rfl,rfl,?_⟩⟩
   rw[show inV (V.str Lk.notbehind.text) lookW5=true by decide +kernel]
   exact q true _ (g0.trans (Gro.new ht1 _)) (hs.new0 ht1) (fun _=>rfl) (fun z=>Bool.noConfusion (show true=false from z))
end
theorem Lay.kinds{H:Hp}{a:Addr}{kv:List V}{h:Hd}(l:Lay H a h kv) :
  (∃(x:Str) (r:List V),kv=[]/\H a=some (.tup (.str x::r))/\isw x "row" = false/\isw x "or" = false/\isw x "times" = false/\isw x "group" = false/\isw x "have" = false/\inV (.str x) lookW5=false) ∨
  (∃(x:Str) (r:Addr),(x="row" ∨ x="or")/\kv.length<=10/\H a=some (.tup [.str x,.ref r])/\H r=some (.tup kv)) ∨
  (∃(p q r k:V),kv=[k]/\H a=some (.tup [.str "times",p,q,r,k]))∨(∃(p k:V),kv=[k]/\H a=some (.tup [.str "group",p,k]))∨(∃(p y z:V),kv=[y,z]/\H a=some (.tup [.str "have",p,y,z])) ∨
  (∃(lk:Lk) (k:V),kv=[k]/\H a=some (.tup [.str lk.text,k])):=by
 cases h with
 |sign s=>exact .inl ⟨_,_,l.1,l.2.2,by decide +kernel,by decide +kernel,by decide +kernel,by decide +kernel,by decide +kernel,by decide +kernel⟩
 |any=>exact .inl ⟨_,_,l.1,l.2,by decide +kernel,by decide +kernel,by decide +kernel,by decide +kernel,by decide +kernel,by decide +kernel⟩
 |inn rs=>obtain⟨e0,r,e,_⟩:=l;exact .inl ⟨_,_,e0,e,by decide +kernel,by decide +kernel,by decide +kernel,by decide +kernel,by decide +kernel,by decide +kernel⟩
 |out rs=>obtain⟨e0,r,e,_⟩:=l;exact .inl ⟨_,_,e0,e,by decide +kernel,by decide +kernel,by decide +kernel,by decide +kernel,by decide +kernel,by decide +kernel⟩
 |beg=>exact .inl ⟨_,_,l.1,l.2,by decide +kernel,by decide +kernel,by decide +kernel,by decide +kernel,by decide +kernel,by decide +kernel⟩
 |fin=>exact .inl ⟨_,_,l.1,l.2,by decide +kernel,by decide +kernel,by decide +kernel,by decide +kernel,by decide +kernel,by decide +kernel⟩
 |again n=>exact .inl ⟨_,_,l.2.1,l.2.2,by decide +kernel,by decide +kernel,by decide +kernel,by decide +kernel,by decide +kernel,by decide +kernel⟩
 |row=>obtain⟨z,r,e,er⟩:=l;exact .inr (.inl ⟨_,r,.inl rfl,z,e,er⟩)
 |alt=>obtain⟨_,z,r,e,er⟩:=l;exact .inr (.inl ⟨_,r,.inr rfl,z,e,er⟩)
 |times lo hi how=>obtain⟨_,k,e0,e⟩:=l;exact .inr (.inr (.inl ⟨_,_,_,k,e0,e⟩))
 |grp n=>obtain⟨_,k,e0,e⟩:=l;exact .inr (.inr (.inr (.inl ⟨_,k,e0,e⟩)))
 |hav n=>obtain⟨_,y,z,e0,e⟩:=l;exact .inr (.inr (.inr (.inr (.inl ⟨_,y,z,e0,e⟩))))
 |look lk=>obtain⟨k,e0,e⟩:=l;exact .inr (.inr (.inr (.inr (.inr ⟨lk,k,e0,e⟩))))
section
variable{P:Program}{w:World}{K:W.Frag}{mg:Str->Option Value}{base:Heap}{f:Addr}{fd:FuncData}
def spLPartsOf:Sp:=fun vs H Q _=>∃(d:Nat) (v:V) (h:Hd) (ks:List Pat),vs=[v]/\PatAt H (d+1) v (.node h ks)/\∀(r:Addr) (kv:List V) (H':Hp),H' r=some (.lst kv)->kv.length<=10->Paired (PatAt H' d) kv ks->Gro [] H H'->Q (.ref r) H'
abbrev s_l_parts_of:Stmt:=top 65
theorem sc_l_parts_of:FnScope ["_law_p","_law_word"] ["_law_p"] (defScope s_l_parts_of):=fsc
theorem ok_l_parts_of(T:Blt mg)(F:Fun K "_law_parts_of" "_law_parts_of" s_l_parts_of f fd):FnOk P w K mg base CX0 1 f fd ["_law_p"] spLPartsOf:=by
 refine F.ok sc_l_parts_of (fun vs H Q E h=>?_) (fun cdv A outer s H vs Q E hr h=>?_)
 ·obtain⟨d,v,h,ks,rfl,_⟩:=h
  rfl
 obtain⟨d,v,h,ks,rfl,hp,q⟩:=h
 refine ltX ?_
 intro Xz
 refine⟨_,(pss_cons (pS 1 sc_l_parts_of.nd (pe_ix ix_tup (pv 0) pe_int (fun _ _=>rfl)))
  (pss_cons (ps_if (PW.pt (pw_or (pt_cmpR op_eq (pv 1) pe_str (nomark _)) (pw_or1 (pt_cmpR op_eq (pv 1) pe_str (nomark _))))) (pss_one (ps_ret (pe_callTy call_list_of rfl T.b_list PyProof.Rows.Boot.«list» (pa_cons (pe_ix ix_tup (pv 0) pe_int (fun _ _=>rfl)) pa_nil)))) pss_nil)
  (pss_cons (ps_if (pt_cmpR op_eq (pv 1) pe_str (nomark _)) (pss_one (ps_ret (pe_lst (pa_cons (pe_ix ix_tup (pv 0) pe_int (fun _ _=>rfl)) pa_nil)))) pss_nil)
  (pss_cons (ps_if (pt_cmpR op_eq (pv 1) pe_str (nomark _)) (pss_one (ps_ret (pe_lst (pa_cons (pe_ix ix_tup (pv 0) pe_int (fun _ _=>rfl)) pa_nil)))) pss_nil)
  (pss_cons (ps_if (pt_cmpR op_eq (pv 1) pe_str (nomark _)) (pss_one (ps_ret (pe_lst (pa_cons (pe_ix ix_tup (pv 0) pe_int (fun _ _=>rfl)) (pa_cons (pe_ix ix_tup (pv 0) pe_int (fun _ _=>rfl)) pa_nil))))) pss_nil)
  (pss_cons (ps_if (pt_cmpR op_in_seq (pv 1) (pe_tup (pa_cons pe_str (pa_cons pe_str (pa_cons pe_str (pa_cons pe_str (pa_cons pe_str pa_nil)))))) (by with_unfolding_all rfl)) (pss_one (ps_ret (pe_lst (pa_cons (pe_ix ix_tup (pv 0) pe_int (fun _ _=>rfl)) pa_nil)))) pss_nil)
  (pss_one (ps_ret (pe_lst pa_nil))))))))),?_⟩
 refine qa0ab2 ?_
 intro Ez Az1 Az2 Az3 Az4 Az5 Az6 Az7 Az8 Az9 Az10 Az11
 obtain⟨a,kv,rfl,lay,hk⟩:=hp
 have q0:∀(r:Addr) (H':Hp),H' r=some (.lst kv)->kv.length<=10->Gro [] H H'->Q (.ref r) H':=fun r H' e z g=>q r kv H' e z (pats_mono g.tups hk) g
 rcases lay.kinds with⟨x,r,e0,e,t1,t2,t3,t4,t5,t6⟩ | ⟨x,r,hx,z,e,er⟩ | ⟨_,_,_,k,e0,e⟩ | ⟨_,k,e0,e⟩ | ⟨_,y,z,e0,e⟩ | ⟨lk,k,e0,e⟩
 ·refine⟨_,rfl,a,_,_,_,rfl,rfl,SqT.of e,at0,?_⟩
  refine⟨_,rfl,rfl,_,rfl,ite_no (show ¬isw x "row" = true by rw[t1];decide) ⟨_,rfl,rfl,_,rfl,ite_no (show ¬isw x "or" = true by rw[t2];decide) ?_⟩⟩
  refine⟨_,rfl,rfl,_,rfl,ite_no (show ¬isw x "times" = true by rw[t3];decide) ?_⟩
  refine⟨_,rfl,rfl,_,rfl,ite_no (show ¬isw x "group" = true by rw[t4];decide) ?_⟩
  refine⟨_,rfl,rfl,_,rfl,ite_no (show ¬isw x "have" = true by rw[t5];decide) ?_⟩
  refine⟨_,rfl,sz,fun t ht=>⟨t,lookW5,rfl,.inr (SqT.of upd_same),rfl,rfl,_,rfl,ite_no (show ¬inV (.str x) lookW5=true by rw[t6];decide) ?_⟩⟩
  exact⟨sz,fun p1 hp1=>q0 p1 _ (by rw[e0];exact upd_same) (by simp[e0]) ((Gro.new ht _).tup hp1)⟩
 ·refine⟨_,rfl,a,_,_,_,rfl,rfl,SqT.of e,at0,?_⟩
  rcases hx with rfl | rfl
  ·refine⟨_,rfl,rfl,_,rfl,ite_yes (by decide +kernel) (iteT ?_)⟩
   exact⟨_,rfl,a,_,_,_,rfl,rfl,SqT.of e,rfl,r,kv,rfl,.inr (SqT.of er),fun l hl=>q0 l _ upd_same z (Gro.new hl _)⟩
  ·refine⟨_,rfl,rfl,_,rfl,ite_no (by decide +kernel) ⟨_,rfl,rfl,_,rfl,ite_yes (by decide +kernel) ?_⟩⟩
   exact⟨_,rfl,a,_,_,_,rfl,rfl,SqT.of e,rfl,r,kv,rfl,.inr (SqT.of er),fun l hl=>q0 l _ upd_same z (Gro.new hl _)⟩
 ·refine⟨_,rfl,a,_,_,_,rfl,rfl,SqT.of e,at0,?_⟩
  refine⟨_,rfl,rfl,_,rfl,ite_no (by decide +kernel) ⟨_,rfl,rfl,_,rfl,ite_no (by decide +kernel) ?_⟩⟩
  refine⟨_,rfl,rfl,_,rfl,ite_yes (by decide +kernel) ?_⟩
  exact⟨_,rfl,a,_,_,_,rfl,rfl,SqT.of e,rfl,sz,fun p1 hp1=>q0 p1 _ (by rw[e0];exact upd_same) (by simp[e0]) (Gro.new hp1 _)⟩
 ·refine⟨_,rfl,a,_,_,_,rfl,rfl,SqT.of e,at0,?_⟩
  refine⟨_,rfl,rfl,_,rfl,ite_no (by decide +kernel) ⟨_,rfl,rfl,_,rfl,ite_no (by decide +kernel) ?_⟩⟩
  refine⟨_,rfl,rfl,_,rfl,ite_no (by decide +kernel) ?_⟩
  refine⟨_,rfl,rfl,_,rfl,ite_yes (by decide +kernel) ?_⟩
  exact⟨_,rfl,a,_,_,_,rfl,rfl,SqT.of e,rfl,sz,fun p1 hp1=>q0 p1 _ (by rw[e0];exact upd_same) (by simp[e0]) (Gro.new hp1 _)⟩
 ·refine⟨_,rfl,a,_,_,_,rfl,rfl,SqT.of e,at0,?_⟩
  refine⟨_,rfl,rfl,_,rfl,ite_no (by decide +kernel) ⟨_,rfl,rfl,_,rfl,ite_no (by decide +kernel) ?_⟩⟩
  refine⟨_,rfl,rfl,_,rfl,ite_no (by decide +kernel) ?_⟩
  refine⟨_,rfl,rfl,_,rfl,ite_no (by decide +kernel) ?_⟩
  refine⟨_,rfl,rfl,_,rfl,ite_yes (by decide +kernel) ?_⟩
  exact⟨_,rfl,a,_,_,_,rfl,rfl,SqT.of e,rfl,_,rfl,a,_,_,_,rfl,rfl,SqT.of e,rfl,sz,fun p1 hp1=>q0 p1 _ (by rw[e0];exact upd_same) (by simp[e0]) (Gro.new hp1 _)⟩
 ·refine⟨_,rfl,a,_,_,_,rfl,rfl,SqT.of e,at0,?_⟩
  have t:isw lk.text "row" = false/\isw lk.text "or" = false/\isw lk.text "times" = false/\isw lk.text "group" = false/\isw lk.text "have" = false/\inV (.str lk.text) lookW5=true:=by cases lk <;> decide +kernel
  obtain⟨t1,t2,t3,t4,t5,t6⟩:=t
  refine⟨_,rfl,rfl,_,rfl,ite_no (show ¬isw lk.text "row" = true by rw[t1];decide) ⟨_,rfl,rfl,_,rfl,ite_no (show ¬isw lk.text "or" = true by rw[t2];decide) ?_⟩⟩
  refine⟨_,rfl,rfl,_,rfl,ite_no (show ¬isw lk.text "times" = true by rw[t3];decide) ?_⟩
  refine⟨_,rfl,rfl,_,rfl,ite_no (show ¬isw lk.text "group" = true by rw[t4];decide) ?_⟩
  refine⟨_,rfl,rfl,_,rfl,ite_no (show ¬isw lk.text "have" = true by rw[t5];decide) ?_⟩
  refine⟨_,rfl,sz,fun t ht=>⟨t,lookW5,rfl,.inr (SqT.of upd_same),rfl,rfl,_,rfl,ite_yes (show inV (.str lk.text) lookW5=true from t6) ?_⟩⟩
  exact⟨_,rfl,a,_,_,_,rfl,rfl,SqT.of ((Gro.new (S:=[]) ht _).tups _ _ e),rfl,sz,fun p1 hp1=>q0 p1 _ (by rw[e0];exact upd_same) (by simp[e0]) ((Gro.new ht _).tup hp1)⟩
end
structure Zok(G:Int)(dp:Nat)(p:Pat):Prop where
 keeps:p.keeps G=true
 bad:p.bad=0
 dp:p.dp<=dp
theorem sumN_mem{f:Pat->Nat}:∀ {ks:List Pat} {k:Pat},k∈ks->f k<=sumN f ks
 | [],_,h=>by cases h
 |x::xs,k,h=>by
  rcases List.mem_cons.mp h with rfl | h
  ·exact Nat.le_add_right _ _
  ·exact Nat.le_trans (sumN_mem h) (Nat.le_add_left _ _)
theorem badL_mem{h:Hd}:∀ {ks:List Pat} {k:Pat},k∈ks->k.bad+h.kB k<=badL h ks
 | [],_,z=>by cases z
 |x::xs,k,z=>by
  rw[badL]
  rcases List.mem_cons.mp z with rfl | z
  ·omega
  ·have:=badL_mem (h:=h) z;omega
theorem Zok.kid{G:Int}{d:Nat}{h:Hd}{ks:List Pat}(z:Zok G (d+1) (.node h ks)){k:Pat}(hk:k∈ks):Zok G d k/\h.kB k=0:=by
 have h1:=z.keeps
 rw[keeps_node,Bool.and_eq_true]at h1
 have h2:=z.bad
 rw[bad_node]at h2
 have h3:=badL_mem (h:=h) hk
 have h4:=dp_kid (h:=h) hk
 have h5:=z.dp
 exact⟨⟨List.all_eq_true.mp h1.2 k hk,by omega,by omega⟩,by omega⟩
theorem Zok.head{G:Int}{d:Nat}{h:Hd}{ks:List Pat}(z:Zok G d (.node h ks)):h.keeps G ks.length=true:=by
 have h1:=z.keeps
 rw[keeps_node,Bool.and_eq_true]at h1
 exact h1.1
theorem ShL.take{R:Int->Pat->Int->Prop}:∀ {c:Int} {ks:List Pat} {c':Int},ShL R c ks c'->∀ {i:Nat} {k:Pat},ks[i]? = some k->∃e e',ShL R c (ks.take i) e/\R e k e'
 |_,_,_,.nil,i,k,h=>by simp at h
 |_,_,_,.cons a b,0,k,h=>by simp at h;subst h;exact⟨_,_,.nil,a⟩
 |_,_,_,.cons a b,i+1,k,h=>by
  obtain⟨e,e',h1,h2⟩:=b.take (i:=i) (k:=k) (by simpa using h)
  exact⟨e,e',.cons a h1,h2⟩
theorem ShL.fin{n:Nat}{c:Int}{ks:List Pat}{c':Int}(h:ShL (Shp n) c ks c'):c'=c+groupsL ks:=(h.grs fun _ _ _ z=>z.grs).1
theorem Shp.list{n:Nat}{c c':Int}{h:Hd}{ks:List Pat}(hs:Shp (n+1) c (.node h ks) c'):ShL (Shp n) (c+h.ownN) ks c':=by
 cases h with
 |sign _=>obtain⟨rfl,_,rfl⟩:=hs;show ShL _ (c'+((0:Nat):Int)) _ _;rw[show c'+((0:Nat):Int)=c' by omega];exact .nil
 |any=>obtain⟨rfl,rfl⟩:=hs;show ShL _ (c'+((0:Nat):Int)) _ _;rw[show c'+((0:Nat):Int)=c' by omega];exact .nil
 |beg=>obtain⟨rfl,rfl⟩:=hs;show ShL _ (c'+((0:Nat):Int)) _ _;rw[show c'+((0:Nat):Int)=c' by omega];exact .nil
 |fin=>obtain⟨rfl,rfl⟩:=hs;show ShL _ (c'+((0:Nat):Int)) _ _;rw[show c'+((0:Nat):Int)=c' by omega];exact .nil
 |inn _=>obtain⟨rfl,_,rfl⟩:=hs;show ShL _ (c'+((0:Nat):Int)) _ _;rw[show c'+((0:Nat):Int)=c' by omega];exact .nil
 |out _=>obtain⟨rfl,_,rfl⟩:=hs;show ShL _ (c'+((0:Nat):Int)) _ _;rw[show c'+((0:Nat):Int)=c' by omega];exact .nil
 |again _=>obtain⟨rfl,_,_,rfl⟩:=hs;show ShL _ (c'+((0:Nat):Int)) _ _;rw[show c'+((0:Nat):Int)=c' by omega];exact .nil
 |row=>show ShL _ (c+((0:Nat):Int)) _ _;rw[show c+((0:Nat):Int)=c by omega];exact hs.2
 |alt=>show ShL _ (c+((0:Nat):Int)) _ _;rw[show c+((0:Nat):Int)=c by omega];exact hs.2
 |times _ _ _=>obtain⟨k,rfl,_,_,h⟩:=hs;show ShL _ (c+((0:Nat):Int)) _ _;rw[show c+((0:Nat):Int)=c by omega];exact .cons h .nil
 |grp _=>obtain⟨k,rfl,_,h⟩:=hs;exact .cons h .nil
 |look _=>obtain⟨k,rfl,h⟩:=hs;show ShL _ (c+((0:Nat):Int)) _ _;rw[show c+((0:Nat):Int)=c by omega];exact .cons h .nil
 |hav _=>obtain⟨y,z,e,rfl,_,h1,h2⟩:=hs;show ShL _ (c+((0:Nat):Int)) _ _;rw[show c+((0:Nat):Int)=c by omega];exact .cons h1 (.cons h2 .nil)
theorem Shp.num{n:Nat}{c c':Int}{h:Hd}{ks:List Pat}(hs:Shp (n+1) c (.node h ks) c'):∀j,h=.grp j->j=c+1:=by
 rintro j rfl
 obtain⟨_,_,e,_⟩:=hs
 exact e
theorem kB_word{h:Hd}{k:Pat}(hz:h.kB k=0)(hw:inV (.str h.word) [.str "row",.str "or"]=true):¬decide (V.str k.hd.word=V.str h.word)=true:=by
 intro z
 have e:k.hd.word=h.word:=by have z':=of_decide_eq_true z;injection z'
 have hw':h=.row∨h=.alt:=by
  have:inV (.str h.word) [.str "row",.str "or"]=(match h.wd with | .row=>true | .alt=>true | _=>false):=by rw[h.word_wd];cases h.wd <;> decide +kernel
  rw[this]at hw
  cases h with
  |row=>exact .inl rfl
  |alt=>exact .inr rfl
  |look l=>cases l <;> cases hw
  |_=>cases hw
 rcases hw' with rfl | rfl
 ·have e2:k.hd=.row:=word_row e
  have hz:k.hd.kR=0:=hz
  rw[e2]at hz
  cases hz
 ·have e2:k.hd=.alt:=word_or e
  have hz:k.hd.kO=0:=hz
  rw[e2]at hz
  cases hz
section
variable{P:Program}{w:World}{K:W.Frag}{mg:Str->Option Value}{base:Heap}{f:Addr}{fd:FuncData}{C CE CM CN CO CU:Addr}
inductive spSzI(n:Nat)(vs:List V)(H:Hp)(Q:VK):Prop
 |mk (v:V) (p:Pat) (s0:Addr) (T0 G dp:Int) (c m:Nat) (_:vs=[v,.ref s0,.int T0,.int dp]) (_:PatAt H n v p) (_:Zok G n p) (_:dp+n<=9) (_:SeenAt H s0 c) (_:c+p.size<=900000)
  (_:∀(N:Int) (c2:Nat) (H':Hp),Gro [s0] H H'->SeenAt H' s0 c2->c2<=c+p.size->1<=N->(p.keeps T0=true->(∃c',Shp m c p c')->N=p.size/\(c2:Int)=c+p.groups)->(p.keeps T0=false->1000<=N)->Q (.int N) H')
def spSz(n:Nat):Sp:=fun vs H Q _=>spSzI n vs H Q
theorem pat_hd{H:Hp}{n:Nat}{v:V}{p:Pat}(h:PatAt H n v p):∃(a:Addr) (r:List V),v=.ref a/\H a=some (.tup (.str p.hd.word::r)):=by
 cases n with
 |zero=>exact h.elim
 |succ d =>
  obtain⟨h0,ks⟩:=p
  obtain⟨a,kv,e,l,_⟩:=h
  obtain⟨r,q⟩:=l.head
  exact⟨a,r,e,q⟩
theorem ownN_own(h:Hd)(ks:List Pat):(Pat.node h ks).groups=(h.ownN:Int)+groupsL ks:=by
 cases h <;> simp[Pat.groups,Hd.ownN]
theorem own1(h:Hd):h.ownN<=1:=by cases h <;> simp[Hd.ownN]
theorem sizeL_in{ks:List Pat}{i:Nat}{k:Pat}(h:ks[i]? = some k):sizeL (ks.take i)+k.size<=sizeL ks:=by
 have e:ks=ks.take (i+1)++ks.drop (i+1):=(List.take_append_drop _ _).symm
 have:sizeL ks=sizeL (ks.take (i+1))+sizeL (ks.drop (i+1)):=by rw[← sizeL_append,List.take_append_drop]
 rw[take_snoc h,sizeL_append,sizeL_one]at this
 omega
abbrev roW:List V:=[.str "row",.str "or"]
abbrev s_l_size:Stmt:=top 71
theorem sc_l_size:FnScope ["_law_p","_law_seen","_law_total","_law_deep","_law_size_here","_law_part"] ["_law_p","_law_seen","_law_total","_law_deep"] (defScope s_l_size):=fsc
theorem ok_sz{n:Nat}(T:Blt mg)(O_l_good_head:Own P w K mg base 3 "_law_good_head" ["_law_p","_law_seen","_law_total"] spGh)(O_l_parts_of:Own P w K mg base 1 "_law_parts_of" ["_law_p"] spLPartsOf)(O_l_size:Own P w K mg base (4+n) "_law_size" ["_law_p","_law_seen","_law_total","_law_deep"] (spSz n))(F:Fun K "_law_size" "_law_size" s_l_size f fd) :
  FnOk P w K mg base CX0 (4+n+1) f fd ["_law_p","_law_seen","_law_total","_law_deep"] (spSz (n+1)):=by
 refine F.ok sc_l_size (fun vs H Q E h=>?_) (fun cdv A outer s H vs Q E hr h=>?_)
 ·obtain⟨v,p,s0,T0,G,dp,c,m,rfl,_⟩:=h
  rfl
 obtain⟨v,⟨h,ks⟩,s0,T0,G,dp,c,m,rfl,hp,hz,hdp,hs,hc,q⟩:=h
 refine ltX ?_
 intro Xz
 refine⟨_,(pss_cons (ps_if (PW.pt (pw_or (pt_cmpR op_gt (pv 3) pe_int (nomark _)) (pw_or (pt_not (pt_val (pe_callB (call_isinst (T:="tuple") (isT_ok (by simp))) rfl T.b_isinstance PyProof.Rows.Boot.«isinstance» (pa_cons (pv 0) (pa_cons (pe_bltn (v:=.ty "tuple") rfl T.b_tuple PyProof.Rows.Boot.«tuple» rfl) pa_nil))))) (pw_or (pt_cmpR op_lt (pe_callB call_len_seq rfl T.b_len PyProof.Rows.Boot.«len» (pa_cons (pv 0) pa_nil)) pe_int (nomark _)) (pw_or1 (pt_not (pt_val (pe_callB (call_isinst (T:="str") (isT_ok (by simp))) rfl T.b_isinstance PyProof.Rows.Boot.«isinstance» (pa_cons (pe_ix ix_tup (pv 0) pe_int (fun _ _=>rfl)) (pa_cons (pe_bltn (v:=.ty "str") rfl T.b_str PyProof.Rows.Boot.«str» rfl) pa_nil)))))))))) (pss_one (ps_ret pe_int)) pss_nil)
  (pss_cons (ps_if (pt_not (pt_val (pe_own (O_l_good_head.mono (by omega)) hr rfl (pa_cons (pv 0) (pa_cons (pv 1) (pa_cons (pv 2) pa_nil)))))) (pss_one (ps_ret pe_int)) pss_nil)
  (pss_cons (pS 4 sc_l_size.nd pe_int)
  (pss_cons (ps_for PassesOwn.never rfl (pi_list (pe_own (O_l_parts_of.mono (by omega)) hr rfl (pa_cons (pv 0) pa_nil))) (pN 5 sc_l_size.nd) (pss_cons (pS 4 sc_l_size.nd (pe_op op_add (pv 4) (pe_own (O_l_size.mono (by omega)) hr rfl (pa_cons (pv 5) (pa_cons (pv 1) (pa_cons (pv 2) (pa_cons (pe_op op_add (pv 3) pe_int) pa_nil)))))))
  (pss_one (ps_if (PW.pt (pw_and (pt_cmpR op_in_seq (pe_ix ix_tup (pv 0) pe_int (fun _ _=>rfl)) (pe_tup (pa_cons pe_str (pa_cons pe_str pa_nil))) (by with_unfolding_all rfl)) (pw_and (pt_cmpR op_lt (pv 4) pe_int (nomark _)) (pw_and1 (pt_cmpR op_eq (pe_ix ix_tup (pv 5) pe_int (fun _ _=>rfl)) (pe_ix ix_tup (pv 0) pe_int (fun _ _=>rfl)) (nomark _)))))) (pss_one (ps_ret pe_int)) pss_nil))))
  (pss_one (ps_ret (pv 4))))))),?_⟩
 refine q75ca6 ?_
 intro Ez Az1 Az2 Az3 Az4 Az5 Az6 Az7 Az8 Az9
 obtain⟨a,kv,rfl,lay,hk⟩:=id hp
 obtain⟨r0,ea⟩:=lay.head
 have hkl:=Paired.length hk
 have o1:=own1 h
 rw[size_node]at hc
 refine exA rfl (exB rfl rfl (exA rfl (ite_no (by intro z;have z':(8:Int)<dp:=of_decide_eq_true z;omega) ?_)))
 refine exA rfl ⟨_,true,rfl,.inl ⟨_,ea,rfl⟩,exA rfl (ite_no (by decide) ?_)⟩
 refine exA rfl ⟨a,_,rfl,.inr (SqT.of ea),exB rfl rfl (exA rfl (ite_no (by intro z;have z':(((V.str h.word::r0).length:Nat):Int)<1:=of_decide_eq_true z;rw[List.length_cons]at z';omega) ?_))⟩
 refine ixT ea at0 ⟨_,true,rfl,rfl,exA rfl (ite_no (by decide) ?_)⟩
 refine exA rfl (exA rfl (exA rfl ⟨a,s0,T0,G,h,kv,c,rfl,lay,by rw[hkl];exact hz.head,hs,by omega,fun b H1 g1 hs1 hb1 hb0=>exA rfl ?_⟩))
 rw[hkl]at hb1 hb0
 cases b with
 |false =>
  refine ite_yes rfl (q 1000 (c+h.ownN) H1 g1 hs1 (by rw[size_node];omega) (by decide) (fun hk' ⟨c',hsh⟩=>?_) (fun _=>by decide))
  rw[keeps_node,Bool.and_eq_true]at hk'
  cases m with
  |zero=>exact hsh.elim
  |succ m'=>exact absurd (hb1 ⟨hk'.1,hsh.num⟩) (by decide)
 |true =>
 have hhd:h.keeps T0 ks.length=true:=by
  cases e:h.keeps T0 ks.length with
  |true=>rfl
  |false=>exact absurd (hb0 e) (by decide)
 refine ite_no (by decide) ?_
 have hp1:=hp.mono g1.tups
 have ea1:=g1.tups _ _ ea
 refine exA rfl ⟨n,.ref a,h,ks,rfl,hp1,fun r kv' H2 hr' hlen hk2 g2=>⟨r,rfl,⟨kv',SqL.of hr'⟩,?_⟩⟩
 have hkl2:=Paired.length hk2
 have ea2:=g2.tups _ _ ea1
 have hs2:=hs1.gro0 g2
 have rs:kv'=[]∨r≠s0:=by
  cases kv' with
  |nil=>exact .inl rfl
  |cons x xs =>
   refine .inr fun z=>?_
   rw[z]at hr'
   have e1:=hs2.1
   rw[hr']at e1
   injection e1 with e1
   injection e1 with e1
   obtain⟨pk,_,hx⟩:=paired_get hk2 (i:=0) (x:=x) rfl
   obtain⟨a',r',rfl,_⟩:=pat_hd hx
   have:(V.ref a')∈List.replicate (c+h.ownN) (V.int 0):=by rw[← e1];simp
   have:=List.eq_of_mem_replicate this
   cases this
 have g12:Gro [s0] H H2:=g1.trans (g2.mono (by simp))
 have fin:∀(N:Int) (c2:Nat) (H3:Hp),Gro [s0] H2 H3->SeenAt H3 s0 c2->c2<=c+h.ownN+sizeL ks->1<=N->((∀k∈ks,k.keeps T0=true)->(∃c',Shp m c (.node h ks) c')->N=1+sizeL ks/\(c2:Int)=c+h.ownN+groupsL ks)->((∃k∈ks,k.keeps T0=false)->1000<=N)->Q (.int N) H3:=by
  intro N c2 H3 g3 hs3 hc2 h1 hA hB
  refine q N c2 H3 (g12.trans g3) hs3 (by rw[size_node];omega) h1 (fun hk' hsh=>?_) (fun hk'=>?_)
  ·rw[keeps_node,Bool.and_eq_true]at hk'
   have:=hA (fun k hk=>List.all_eq_true.mp hk'.2 k hk) hsh
   rw[size_node,ownN_own]
   omega
  ·rw[keeps_node,hhd,Bool.true_and]at hk'
   obtain⟨k,hk,hf⟩:=List.all_eq_false.mp hk'
   exact hB ⟨k,hk,by cases e:k.keeps T0 with | true=>exact absurd e hf | false=>rfl⟩
 rcases rs with rfl | rs
 ·have hks:ks=[]:=by cases ks with | nil=>rfl | cons _ _=>cases hkl2
  refine for_list (xs:=[]) (fun i σ H'=>σ=[some (.ref a),some (.ref s0),some (.int T0),some (.int dp),some (.int 1),none]/\H'=H2) ⟨rfl,rfl⟩ (fun i σ H' _ ⟨_,e⟩=>by rw[e];exact SqL.of hr') (fun i x σ H' hx _=>by simp at hx) ?_
  rintro σ H' ⟨rfl,rfl⟩
  subst hks
  exact exA rfl (fin 1 (c+h.ownN) H' Gro.refl hs2 (by omega) (by decide) (fun _ _=>⟨by simp[sizeL],by simp[groupsL]⟩) (fun⟨k,hk,_⟩=>by cases hk))
 refine for_list (xs:=kv') (fun i σ H'=>∃(N:Int) (c2:Nat) (pt:Option V),σ=[some (.ref a),some (.ref s0),some (.int T0),some (.int dp),some (.int N),pt]/\1<=N/\SeenAt H' s0 c2/\c2<=c+h.ownN+sizeL (ks.take i)/\H' r=some (.lst kv')/\Gro [s0] H2 H'/\((∀k∈ks.take i,k.keeps T0=true)->(∃c',Shp m c (.node h ks) c')->N=1+sizeL (ks.take i)/\(c2:Int)=c+h.ownN+groupsL (ks.take i))/\((∃k∈ks.take i,k.keeps T0=false)->1000<=N))
  ⟨1,c+h.ownN,none,rfl,by decide,hs2,by omega,hr',Gro.refl,fun _ _=>⟨by simp[sizeL],by simp[groupsL]⟩,fun⟨k,hk,_⟩=>by simp at hk⟩ (fun i σ H' _ ⟨_,_,_,_,_,_,_,e,_⟩=>SqL.of e) ?_ ?_
 ·rintro i x σ H3 hx ⟨N,c2,pt,rfl,h1,hs3,hc2,hr3,g3,hA,hB⟩
  obtain⟨pk,hpi,hpx⟩:=paired_get hk2 hx
  have hmem:=List.mem_of_getElem? hpi
  obtain⟨zk,hkb⟩:=hz.kid hmem
  have hsi:=sizeL_in hpi
  have hpx3:=hpx.mono g3.tups
  refine exA rfl (exA rfl (exA rfl (exA rfl (exA rfl (exB rfl rfl ⟨x,pk,s0,T0,G,dp+1,c2,m-1,rfl,hpx3,zk,by omega,hs3,by omega,fun N2 c3 H4 g4 hs4 hc3 h1' hA' hB'=>?_⟩)))))
  refine exB rfl rfl ?_
  have hr4:=g4.keep _ _ hr3 (by simpa using rs)
  have g34:=g3.trans g4
  have ea4:=g34.tups _ _ ea2
  have step:∀H5,Gro [] H4 H5->∃(N':Int) (c2':Nat) (pt:Option V),[some (V.ref a),some (V.ref s0),some (V.int T0),some (V.int dp),some (V.int (N+N2)),some x]=[some (V.ref a),some (V.ref s0),some (V.int T0),some (V.int dp),some (V.int N'),pt]/\1<=N'/\SeenAt H5 s0 c2'/\c2'<=c+h.ownN+sizeL (ks.take (i+1))/\H5 r=some (.lst kv')/\Gro [s0] H2 H5/\((∀k∈ks.take (i+1),k.keeps T0=true)->(∃c',Shp m c (.node h ks) c')->N'=1+sizeL (ks.take (i+1))/\(c2':Int)=c+h.ownN+groupsL (ks.take (i+1)))/\((∃k∈ks.take (i+1),k.keeps T0=false)->1000<=N'):=by
   intro H5 g5
   have e1:sizeL (ks.take (i+1))=sizeL (ks.take i)+pk.size:=by rw[take_snoc hpi,sizeL_append,sizeL_one]
   refine⟨N+N2,c3,some x,rfl,by omega,hs4.gro0 g5,by omega,g5.keep _ _ hr4 (by simp),g34.trans (g5.mono (by simp)),fun hall hsh=>?_,fun hex=>?_⟩
   ·rw[take_snoc hpi]at hall
    obtain⟨a1,a2⟩:=hA (fun k hk=>hall k (by simp[hk])) hsh
    obtain⟨c',hsh⟩:=hsh
    cases m with
    |zero=>exact hsh.elim
    |succ m' =>
     obtain⟨e,e',b1,b2⟩:=hsh.list.take hpi
     have b3:=b1.fin
     have ec:(c2:Int)=e:=by omega
     have:=hA' (hall pk (by simp)) ⟨e',by rw[ec];exact b2⟩
     rw[e1,take_snoc hpi,groupsL_append,groupsL_one]
     omega
   ·rw[take_snoc hpi]at hex
    obtain⟨k,hk,hf⟩:=hex
    rcases List.mem_append.mp hk with z | z
    ·have:=hB ⟨k,z,hf⟩;omega
    ·rw[List.mem_singleton.mp z]at hf
     have:=hB' hf;omega
  refine ixT ea4 at0 ⟨sz,fun t ht=>⟨t,roW,rfl,.inr (SqT.of upd_same),rfl,rfl,exA rfl (ite2 (fun z=>?_) (fun z=>?_))⟩⟩
  ·refine exA rfl (exB rfl rfl (exA rfl (ite2 (fun z2=>?_) (fun z2=>?_))))
   ·obtain⟨a',r',rfl,ea'⟩:=pat_hd ((hpx3.mono g4.tups).mono (Gro.new (S:=[]) ht (.tup roW)).tups)
    refine ixT ea' at0 (ixT ((Gro.new (S:=[]) ht (.tup roW)).tups _ _ ea4) at0 ⟨rfl,exA rfl (ite_no (kB_word hkb z) ?_)⟩)
    exact step _ (Gro.new ht _)
   ·exact step _ (Gro.new ht _)
  ·exact step _ (Gro.new ht _)
 ·rintro σ H3 ⟨N,c2,pt,rfl,h1,hs3,hc2,hr3,g3,hA,hB⟩
  rw[hkl2,List.take_length]at hc2 hA hB
  exact exA rfl (fin N c2 H3 g3 hs3 hc2 h1 hA hB)
inductive spGdI(vs:List V)(H:Hp)(Q:VK):Prop
 |mk (v:V) (p:Pat) (t:Str) (T0:Int) (_:vs=[v,.int T0]) (_:PatAt H 8 v p) (_:RdP t p) (_:∀H',Gro [] H H'->Q (.bl (decide (T0=p.groups))) H')
def spGd:Sp:=fun vs H Q _=>spGdI vs H Q
abbrev s_l_good:Stmt:=top 72
theorem sc_l_good:FnScope ["_law_p","_law_total","_law_seen"] ["_law_p","_law_total"] (defScope s_l_good):=fsc
theorem ok_gd(T:Blt mg)(O_l_size:Own P w K mg base 12 "_law_size" ["_law_p","_law_seen","_law_total","_law_deep"] (spSz 8))(F:Fun K "_law_good" "_law_good" s_l_good f fd):FnOk P w K mg base CX0 13 f fd ["_law_p","_law_total"] spGd:=by
 refine F.ok sc_l_good (fun vs H Q E h=>?_) (fun cdv A outer s H vs Q E hr h=>?_)
 ·obtain⟨v,p,t,T0,rfl,_⟩:=h
  rfl
 obtain⟨v,p,t,T0,rfl,hp,hP,q⟩:=h
 refine ltX ?_
 intro Xz
 refine⟨_,(pss_cons (pS 2 sc_l_good.nd (pe_lst pa_nil))
  (pss_one (ps_ret (pe_and (pe_cmpR op_le (pe_own (O_l_size.mono (by omega)) hr rfl (pa_cons (pv 0) (pa_cons (pv 2) (pa_cons (pv 1) (pa_cons pe_int pa_nil))))) pe_int (nomark _)) (pe_and (pe_cmpR op_eq (pe_callB call_len_seq rfl T.b_len PyProof.Rows.Boot.«len» (pa_cons (pv 2) pa_nil)) (pv 1) (nomark _)) (pe_one (pe_cmpR op_le (pv 1) pe_int (nomark _)))))))),?_⟩
 refine qe465e ?_
 intro Ez Az1
 refine⟨sz,fun s0 hs0=>?_⟩
 have g0:=Gro.new (S:=[]) hs0 (.lst [])
 have hs:SeenAt (upd H s0 (.lst [])) s0 0:=⟨upd_same,by decide⟩
 have out:∀H',Gro [s0] (upd H s0 (.lst [])) H'->Gro [] H H':=fun H' g=>⟨fun b o hb _=>g.keep b o (g0.keep b o hb (by simp)) (by simpa using ne_of_none hb hs0),fun b xs hb=>g.tups b xs (g0.tups b xs hb)⟩
 have hp1:=hp.mono g0.tups
 generalize upd H s0 (.lst [])=H1 at *
 have hz:=hP.size
 refine exA rfl (exA rfl (exA rfl ⟨v,p,s0,T0,p.groups,1,0,36,rfl,hp1,⟨hP.keeps,hP.bad,hP.dp⟩,by decide,hs,by omega,fun N c2 H2 g2 hs2 hc2 h1 hA hB=>exB rfl rfl (exA rfl ?_)⟩))
 have g:=out H2 g2
 have q':=q H2 g
 by_cases hk:p.keeps T0=true
 ·obtain⟨eN,ec⟩:=hA hk ⟨_,hP.sh⟩
  refine ite_yes (decide_eq_true (by omega)) ?_
  refine exA rfl ⟨s0,_,rfl,.inl (SqL.of hs2.1),exA rfl ⟨rfl,exA rfl ?_⟩⟩
  show if decide (V.int ((List.replicate c2 (V.int 0)).length:Int)=V.int T0)=true then _ else _
  rw[List.length_replicate]
  have hgr:=hP.gr
  by_cases e:T0=p.groups
  ·rw[decide_eq_true e]at q'
   refine ite_yes (decide_eq_true (by rw[e,ec];simp)) ?_
   refine exA rfl (exB rfl rfl ?_)
   show Q (V.bl (decide (T0<=9))) H2
   rw[decide_eq_true (by omega)]
   exact q'
  ·rw[decide_eq_false e]at q'
   exact ite_no (by intro z;have z':=of_decide_eq_true z;injection z' with z'';omega) q'
 ·have e:T0≠p.groups:=fun e=>hk (by rw[e];exact hP.keeps)
  have:=hB (by cases e:p.keeps T0 with | true=>exact absurd e hk | false=>rfl)
  rw[decide_eq_false e]at q'
  exact ite_no (by intro z;have z':N<=60:=of_decide_eq_true z;omega) q'
inductive spByI(vs:List V)(H:Hp)(Q:VK):Prop
 |mk (b l:Addr) (_:vs=[.ref b,.ref l]) (_:BoxAt H b) (_:LetAt H l) (_:∀(v:V) (p:Pat) (H':Hp),BoxAt H' b->PatAt H' 10 v p->p.size<=1000->Gro [b] H H'->Q v H')
def spBy:Sp:=fun vs H Q _=>spByI vs H Q
theorem sizeL_le2{c:Nat}:∀ {ks:List Pat},(∀k∈ks,k.size<=c)->sizeL ks<=ks.length*c:=fun h=>sizeL_le h
abbrev s_l_beyond:Stmt:=top 74
theorem sc_l_beyond:FnScope ["_law_box","_law_letters_here","_law_kind","_law_runs_here","_law_inner_here"] ["_law_box","_law_letters_here"] (defScope s_l_beyond):=fsc
theorem ok_by(T:Blt mg)(O_l_take:Own P w K mg base 1 "_law_take" ["_law_box","_law_many"] spTake)(O_l_nested:Own P w K mg base 2 "_law_nested" ["_law_box","_law_letters_here","_law_deep"] spNested)(O_l_wide:Own P w K mg base 2 "_law_wide" ["_law_box","_law_letters_here","_law_one","_law_two"] spWide)(F:Fun K "_law_beyond" "_law_beyond" s_l_beyond f fd):FnOk P w K mg base CX0 3 f fd ["_law_box","_law_letters_here"] spBy:=by
 refine F.ok sc_l_beyond (fun vs H Q E h=>?_) (fun cdv A outer s H vs Q E hr h=>?_)
 ·obtain⟨b,l,rfl,_⟩:=h
  rfl
 obtain⟨b,l,rfl,hb,hl,q⟩:=h
 have bl:b≠l:=hb.ne_let hl
 have lS:l∉[b]:=by simpa using Ne.symm bl
 refine ltX ?_
 intro Xz
 refine⟨_,(pss_cons (pS 2 sc_l_beyond.nd (pe_own (O_l_take.mono (by omega)) hr rfl (pa_cons (pv 0) (pa_cons pe_int pa_nil))))
  (pss_cons (ps_if (pt_cmpR op_eq (pv 2) pe_int (nomark _)) (pss_one (ps_ret (pe_own (O_l_nested.mono (by omega)) hr rfl (pa_cons (pv 0) (pa_cons (pv 1) (pa_cons (pe_op op_add pe_int (pe_own (O_l_take.mono (by omega)) hr rfl (pa_cons (pv 0) (pa_cons pe_int pa_nil)))) pa_nil)))))) pss_nil)
  (pss_cons (ps_if (pt_cmpR op_eq (pv 2) pe_int (nomark _)) (pss_one (ps_ret (pe_own (O_l_wide.mono (by omega)) hr rfl (pa_cons (pv 0) (pa_cons (pv 1) (pa_cons (pe_op op_add pe_int (pe_own (O_l_take.mono (by omega)) hr rfl (pa_cons (pv 0) (pa_cons pe_int pa_nil)))) (pa_cons (pe_op op_add pe_int (pe_own (O_l_take.mono (by omega)) hr rfl (pa_cons (pv 0) (pa_cons pe_int pa_nil)))) pa_nil))))))) pss_nil)
  (pss_cons (ps_if (pt_cmpR op_eq (pv 2) pe_int (nomark _)) (pss_one (ps_ret (pe_tup (pa_cons pe_str (pa_cons (pe_callTy call_tuple_of rfl T.b_tuple PyProof.Rows.Boot.«tuple» (pa_cons (pe_lcomp rfl (show CScope _ ["_law_box","_law_letters_here","_law_kind","_law_runs_here","_law_inner_here"] (defScope s_l_beyond) _ from⟨rfl,by decide +kernel,rfl,by decide +kernel,by decide +kernel,by decide +kernel,by decide +kernel⟩) (pi_range1 rfl T.b_range (pa_cons (pe_op op_add pe_int (pe_own (O_l_take.mono (by omega)) hr rfl (pa_cons (pv 0) (pa_cons pe_int pa_nil)))) pa_nil)) (fun _ _ _ _=>pts_nil) (fun _ _ _ _=>(pe_tup (pa_cons pe_str (pa_cons (pe_op op_add (pv 0) pe_int) (pa_cons (pe_tup (pa_cons pe_str pa_nil)) pa_nil)))))) pa_nil)) pa_nil))))) pss_nil)
  (pss_cons (ps_if (pt_cmpR op_eq (pv 2) pe_int (nomark _)) (pss_cons (ps_setLC (i:=3) sc_l_beyond.nd rfl rfl rfl (show CScope _ ["_law_box","_law_letters_here","_law_kind","_law_runs_here","_law_inner_here"] (defScope s_l_beyond) _ from⟨rfl,by decide +kernel,rfl,by decide +kernel,by decide +kernel,by decide +kernel,by decide +kernel⟩) (pi_range1 rfl T.b_range (pa_cons (pe_op op_add pe_int (pe_own (O_l_take.mono (by omega)) hr rfl (pa_cons (pv 0) (pa_cons pe_int pa_nil)))) pa_nil)) (fun _ _ _ _=>pts_nil) (fun _ _ _ _=>(pe_tup (pa_cons (pe_ix (r:=rIxL K) ix_list (pv 2) pe_int (fun _ _=>rfl)) (pa_cons (pe_ix (r:=rIxL K) ix_list (pv 2) pe_int (fun _ _=>rfl)) pa_nil)))) rfl)
  (pss_one (ps_ret (pe_tup (pa_cons pe_str (pa_cons (pe_callTy call_tuple_of rfl T.b_tuple PyProof.Rows.Boot.«tuple» (pa_cons (pv 3) pa_nil)) pa_nil)))))) pss_nil)
  (pss_cons (pS 4 sc_l_beyond.nd (pe_tup (pa_cons pe_str (pa_cons pe_int (pa_cons (pe_tup (pa_cons pe_str (pa_cons (pe_own (O_l_take.mono (by omega)) hr rfl (pa_cons (pv 0) (pa_cons pe_int pa_nil))) pa_nil))) pa_nil)))))
  (pss_one (ps_ret (pe_tup (pa_cons pe_str (pa_cons (pe_own (O_l_take.mono (by omega)) hr rfl (pa_cons (pv 0) (pa_cons pe_int pa_nil))) (pa_cons (pe_own (O_l_take.mono (by omega)) hr rfl (pa_cons (pv 0) (pa_cons pe_int pa_nil))) (pa_cons pe_str (pa_cons (pv 4) pa_nil)))))))))))))),?_⟩
 refine q26ed7 ?_
 intro Ez Az1 Az2 Az3 Az4 Az5 Az6 Az7 Az8 Az9 Az10 Az11
 refine exA rfl ⟨b,5,rfl,hb,by decide,by decide,fun r H1 h0 h1 hb1 g1=>?_⟩
 have l1:=hl.gro g1 lS
 rcases(show r=0∨r=1∨r=2∨r=3∨r=4 by omega) with rfl | rfl | rfl | rfl | rfl
 ·refine exA rfl ⟨rfl,exA rfl (ite_yes (by decide) ?_)⟩
  refine exA rfl (exA rfl (exA rfl ⟨b,4,rfl,hb1,by decide,by decide,fun x H2 hx0 hx1 hb2 g2=>exB rfl rfl ⟨b,l,_,rfl,by omega,by omega,hb2,l1.gro g2 lS,fun v p H3 hb3 hp g3=>?_⟩⟩))
  exact q v p H3 hb3 hp.1 hp.2 ((g1.trans g2).trans g3)
 ·refine exA rfl ⟨rfl,exA rfl (ite_no (by decide) ?_)⟩
  refine exA rfl ⟨rfl,exA rfl (ite_yes (by decide) ?_)⟩
  refine exA rfl (exA rfl (exA rfl ⟨b,4,rfl,hb1,by decide,by decide,fun x H2 hx0 hx1 hb2 g2=>exB rfl rfl (exA rfl ⟨b,4,rfl,hb2,by decide,by decide,fun y H3 hy0 hy1 hb3 g3=>exB rfl rfl ⟨b,l,_,_,rfl,by omega,by omega,by omega,by omega,hb3,(l1.gro g2 lS).gro g3 lS,fun v p H4 hb4 hp g4=>?_⟩⟩)⟩))
  exact q v p H4 hb4 (hp.deep (by decide)) (Nat.le_trans hp.size_le (by decide)) (((g1.trans g2).trans g3).trans g4)
 ·refine exA rfl ⟨rfl,exA rfl (ite_no (by decide) ?_)⟩
  refine exA rfl ⟨rfl,exA rfl (ite_no (by decide) ?_)⟩
  refine exA rfl ⟨rfl,exA rfl (ite_yes (by decide) ?_)⟩
  refine exA rfl ⟨b,3,rfl,hb1,by decide,by decide,fun x H2 hx0 hx1 hb2 g2=>exB rfl rfl ⟨_,rfl,by omega,by omega,?_⟩⟩
  refine lc_range (n:=(8+x).toNat) (fun i ys H'=>∃ps:List Pat,Paired (PatAt H' 2) ys ps/\ys.length=i/\(∀k∈ps,k.size<=2)/\BoxAt H' b/\Gro [b] H2 H') ⟨[],.nil,rfl,(fun k hk=>by cases hk),hb2,Gro.refl⟩ (small1000 (by omega)) (fun i ys H' ⟨_,_,e,_⟩=>by rw[e];exact Nat.le_refl _) ?_ ?_
  ·rintro i ys H3 hi ⟨ps,hps,hyl,hsz,hb3,g3⟩
   refine exA rfl (exB rfl rfl ⟨sz,fun p1 hp1=>⟨sz,fun p2 hp2=>?_⟩⟩)
   have k1:Gro [b] H3 (upd H3 p1 (.tup [.str "any"])):=Gro.new hp1 _
   have e1:(upd H3 p1 (.tup [.str "any"])) p1=some (.tup [.str "any"]):=upd_same
   have hb4:=hb3.new (o:=.tup [.str "any"]) hp1
   generalize upd H3 p1 (.tup [.str "any"])=H4 at *
   have k2:=Gro.new (S:=[b]) hp2 (.tup [.str "group",.int (0+(i:Int)+1),.ref p1])
   refine⟨ps++[.node (.grp (0+(i:Int)+1)) [.node .any []]],(pats_mono (k1.trans k2).tups hps).snoc (show PatAt _ 2 (.ref p2) (.node (.grp (0+(i:Int)+1)) [.node .any []]) from⟨p2,[.ref p1],rfl,⟨⟨by omega,by omega⟩,.ref p1,rfl,upd_same⟩,.cons ⟨p1,[],rfl,⟨rfl,k2.tups _ _ e1⟩,.nil⟩ .nil⟩),by simp[hyl],fun k hk=>?_,hb4.new hp2,(g3.trans k1).trans k2⟩
   rcases List.mem_append.mp hk with z | z
   ·exact hsz k z
   ·rw[List.mem_singleton.mp z];simp[size_node,sizeL]
  ·rintro ys H3 ⟨ps,hps,hyl,hsz,hb3,g3⟩ c hc
   refine⟨c,_,rfl,.inl ⟨SqL.of upd_same,fun t ht=>⟨sz,fun o ho=>?_⟩⟩⟩
   have k0:=Gro.new (S:=[b]) hc (.lst ys)
   have hb4:=hb3.new (o:=.lst ys) hc
   generalize upd H3 c (.lst ys)=H4 at *
   have k1:=Gro.new (S:=[b]) ht (.tup ys)
   have e1:(upd H4 t (.tup ys)) t=some (.tup ys):=upd_same
   have hb5:=hb4.new (o:=.tup ys) ht
   generalize upd H4 t (.tup ys)=H5 at *
   have k2:=Gro.new (S:=[b]) ho (.tup [.str "row",.ref t])
   have hpl:=Paired.length hps
   have gA:=(k0.trans k1).trans k2
   have hs2:=sizeL_le2 hsz
   refine q (.ref o) (.node .row ps) _ (hb5.new ho) (PatAt.deep (d:=3) ⟨o,ys,rfl,⟨by omega,t,upd_same,k2.tups _ _ e1⟩,pats_mono gA.tups hps⟩ (by decide)) ?_ (((g1.trans g2).trans g3).trans gA)
   rw[size_node]
   omega
 ·refine exA rfl ⟨rfl,exA rfl (ite_no (by decide) ?_)⟩
  refine exA rfl ⟨rfl,exA rfl (ite_no (by decide) ?_)⟩
  refine exA rfl ⟨rfl,exA rfl (ite_no (by decide) ?_)⟩
  refine exA rfl ⟨rfl,exA rfl (ite_yes (by decide) ?_)⟩
  refine exA rfl ⟨b,3,rfl,hb1,by decide,by decide,fun x H2 hx0 hx1 hb2 g2=>exB rfl rfl ⟨_,rfl,by omega,by omega,?_⟩⟩
  have l2:=l1.gro g2 lS
  refine lc_range (n:=(7+x).toNat) (fun i ys H'=>∃rs:List (Str×Str),Paired (RunP H') ys rs/\ys.length=i/\BoxAt H' b/\Gro [b] H2 H') ⟨[],.nil,rfl,hb2,Gro.refl⟩ (small1000 (by omega)) (fun i ys H' ⟨_,_,e,_⟩=>by rw[e];exact Nat.le_refl _) ?_ ?_
  ·rintro i ys H3 hi ⟨rs,hrs,hyl,hb3,g3⟩
   have l3:=l2.gro g3 lS
   obtain⟨s1,y1,z1,hl3,hs1,_,_⟩:=l3
   refine exA rfl ⟨l,_,_,_,rfl,rfl,SqL.of hl3,at0,exA rfl ⟨l,_,_,_,rfl,rfl,SqL.of hl3,at0,⟨sz,fun p1 hp1=>?_⟩⟩⟩
   have k1:=Gro.new (S:=[b]) hp1 (.tup [.str s1,.str s1])
   exact⟨rs++[(s1,s1)],(paired_mono k1.tups hrs).snoc (show RunP _ (.ref p1) (s1,s1) from⟨hs1,hs1,p1,rfl,upd_same⟩),by simp[hyl],hb3.new hp1,g3.trans k1⟩
  ·rintro ys H3 ⟨rs,hrs,hyl,hb3,g3⟩ c hc
   have k0:=Gro.new (S:=[b]) hc (.lst ys)
   have e0:(upd H3 c (.lst ys)) c=some (.lst ys):=upd_same
   have hb4:=hb3.new (o:=.lst ys) hc
   generalize upd H3 c (.lst ys)=H4 at *
   refine exA rfl ⟨c,_,rfl,.inl ⟨SqL.of e0,fun t ht=>⟨sz,fun o ho=>?_⟩⟩⟩
   have k1:=Gro.new (S:=[b]) ht (.tup ys)
   have e1:(upd H4 t (.tup ys)) t=some (.tup ys):=upd_same
   have hb5:=hb4.new (o:=.tup ys) ht
   generalize upd H4 t (.tup ys)=H5 at *
   have k2:=Gro.new (S:=[b]) ho (.tup [.str "in",.ref t])
   have hpl:=Paired.length hrs
   have gA:=(k0.trans k1).trans k2
   refine q (.ref o) (.node (.inn rs) []) _ (hb5.new ho) (PatAt.deep (d:=1) ⟨o,[],rfl,⟨rfl,t,upd_same,ys,k2.tups _ _ e1,paired_mono gA.tups hrs,by omega⟩,.nil⟩ (by decide)) (by simp[size_node,sizeL]) (((g1.trans g2).trans g3).trans gA)
 ·refine exA rfl ⟨rfl,exA rfl (ite_no (by decide) ?_)⟩
  refine exA rfl ⟨rfl,exA rfl (ite_no (by decide) ?_)⟩
  refine exA rfl ⟨rfl,exA rfl (ite_no (by decide) ?_)⟩
  refine exA rfl ⟨rfl,exA rfl (ite_no (by decide) ?_)⟩
  refine exA rfl ⟨b,4,rfl,hb1,by decide,by decide,fun x H2 hx0 hx1 hb2 g2=>⟨sz,fun p1 hp1=>⟨sz,fun p2 hp2=>?_⟩⟩⟩
  have k1:=Gro.new (S:=[b]) hp1 (.tup [.str "again",.int x])
  have e1:(upd H2 p1 (.tup [.str "again",.int x])) p1=some (.tup [.str "again",.int x]):=upd_same
  have hb3:=hb2.new (o:=.tup [.str "again",.int x]) hp1
  generalize upd H2 p1 (.tup [.str "again",.int x])=H3 at *
  have k2:=Gro.new (S:=[b]) hp2 (.tup [.str "group",.int 1,.ref p1])
  have e2:(upd H3 p2 (.tup [.str "group",.int 1,.ref p1])) p2=some (.tup [.str "group",.int 1,.ref p1]):=upd_same
  have e1':=k2.tups _ _ e1
  have hb4:=hb3.new (o:=.tup [.str "group",.int 1,.ref p1]) hp2
  generalize upd H3 p2 (.tup [.str "group",.int 1,.ref p1])=H4 at *
  refine exA rfl ⟨b,4,rfl,hb4,by decide,by decide,fun y H5 hy0 hy1 hb5 g5=>exA rfl ⟨b,4,rfl,hb5,by decide,by decide,fun z H6 hz0 hz1 hb6 g6=>exA rfl ⟨sz,fun o ho=>?_⟩⟩⟩
  have k3:=Gro.new (S:=[b]) ho (.tup [.str "times",.int y,.int z,.str "little",.ref p2])
  have gT:=(g5.trans g6).trans k3
  refine q (.ref o) (.node (.times y (some z) .little) [.node (.grp 1) [.node (.again x) []]]) _ (hb6.new ho) (PatAt.deep (d:=3) ⟨o,[.ref p2],rfl,⟨⟨hy0,by omega,fun h e=>by cases e;omega⟩,.ref p2,rfl,upd_same⟩,.cons ⟨p2,[.ref p1],rfl,⟨⟨by decide,by decide⟩,.ref p1,rfl,gT.tups _ _ e2⟩,.cons ⟨p1,[],rfl,⟨⟨hx0,by omega⟩,rfl,gT.tups _ _ e1'⟩,.nil⟩ .nil⟩ .nil⟩ (by decide)) (by simp[size_node,sizeL]) ((((g1.trans g2).trans k1).trans k2).trans gT)
structure XUn(K:W.Frag)(CU CE CN CM CO:Addr):Prop where
 zn:XIs K CU
 ca:Catch K CU CE
 k1:W.kitOne K (.ref CU) (.ref CU)=some true
 k2:W.kitOne K (.ref CU) (.type "ValueError")=some true
 k3:W.kitOne K (.ref CU) (.ref CN)=some false
 k4:W.kitOne K (.ref CU) (.ref CM)=some false
 k5:W.kitOne K (.ref CU) (.ref CO)=some false
theorem tryA_split{K:W.Frag}{Cs:Addr}{n i:Nat}{tb:XK->TS}{th:TS}{D:Ends}{σ:L2.St}{H:Hp}(G:Hp->Prop){C:Addr}(ca:Catch K C Cs)(hth:∀(H':Hp) (x:Addr),G H'->H' x=none->th { nx:=fun σ' H''=>D.nx (σ'.set i none) H'',rt:=D.rt } ((List.replicate n none).set i (some (.ref x))) (upd H' x (excO x C)))
  (hb:∀Eb:XK,(∀H',G H'->Eb (.ref C) none H')->tb Eb D σ H):tTryA K Cs n i tb th D σ H:=hb _ fun H' g=>⟨C,rfl,ca,fun x hx=>hth H' x g hx⟩
inductive spRfI(vs:List V)(H:Hp)(Q:VK):Prop
 |mk (t:Str) (_:vs=[.str t]) (_:t.length<=2000000) (_:rAll t=none) (_:∀H',Gro [] H H'->Q (.bl true) H')
def spRf:Sp:=fun vs H Q _=>spRfI vs H Q
abbrev s_l_refused:Stmt:=top 73
theorem sc_l_refused:FnScope ["_law_pattern_like","_law_refused_here","e"] ["_law_pattern_like"] (defScope s_l_refused):=fsc
theorem ok_rf(T:Blt mg)(b_ValueError:mg "ValueError" = none)(XM_SeekError:mg "SeekError" = some (.ref CE))(XM_NoForm:mg "NoForm" = some (.ref CN))(XM_Memory:mg "Memory" = some (.ref CM))(XM_Over:mg "Over" = some (.ref CO))(XM_Unread:mg "Unread" = some (.ref CU))(Z:XUn K CU CE CN CM CO)
  (O_read_pattern:OwnX P w K mg base 71 "read_pattern" ["text"] (spRp CU)) (F:Fun K "_law_refused" "_law_refused" s_l_refused f fd):FnOk P w K mg base CX0 72 f fd ["_law_pattern_like"] spRf:=by
 refine F.ok sc_l_refused (fun vs H Q E h=>?_) (fun cdv A outer s H vs Q E hr h=>?_)
 ·obtain⟨t,rfl,_⟩:=h
  rfl
 obtain⟨t,rfl,ht,hn,q⟩:=h
 refine ltX ?_
 intro Xz
 refine⟨_,(pss_cons (pS 1 sc_l_refused.nd pe_bl)
  (pss_cons (ps_tryA (i:=2) sc_l_refused.nd rfl rfl rfl rfl rfl XM_SeekError (fun _ _ _ hxb=>(pss_one (ps_expr (pe_ownX hxb (O_read_pattern.mono (by omega)) hr rfl (pa_cons (pv 0) pa_nil))))) (fun _=>(pss_cons (pS 1 sc_l_refused.nd (pe_and (pe_callB (call_isX (K:=K) rfl) rfl T.b_isinstance PyProof.Rows.Boot.«isinstance» (pa_cons (pv 2) (pa_cons (pe_glob (v:=.ref _) rfl XM_Unread rfl) pa_nil))) (pe_one (pe_callB (call_isX (K:=K) rfl) rfl T.b_isinstance PyProof.Rows.Boot.«isinstance» (pa_cons (pv 2) (pa_cons (pe_bltn (v:=.ty "ValueError") rfl b_ValueError PyProof.Rows.Boot.«ValueError» rfl) pa_nil))))))
  (pss_cons (pS 1 sc_l_refused.nd (pe_and (pv 1) (pe_and (pe_not (pe_callB (call_isX (K:=K) rfl) rfl T.b_isinstance PyProof.Rows.Boot.«isinstance» (pa_cons (pv 2) (pa_cons (pe_glob (v:=.ref _) rfl XM_NoForm rfl) pa_nil)))) (pe_one (pe_not (pe_callB (call_isX (K:=K) rfl) rfl T.b_isinstance PyProof.Rows.Boot.«isinstance» (pa_cons (pv 2) (pa_cons (pe_glob (v:=.ref _) rfl XM_Memory rfl) pa_nil))))))))
  (pss_one (pS 1 sc_l_refused.nd (pe_and (pv 1) (pe_one (pe_not (pe_callB (call_isX (K:=K) rfl) rfl T.b_isinstance PyProof.Rows.Boot.«isinstance» (pa_cons (pv 2) (pa_cons (pe_glob (v:=.ref _) rfl XM_Over rfl) pa_nil))))))))))))
  (pss_one (ps_ret (pv 1))))),?_⟩
 refine qe5f44 ?_
 intro Ez Az1 Az2
 show Az2 Ez [some (.str t),some (.bl false),none] H
 refine tryA_split (n:=3) (i:=2) (fun H'=>Gro [] H H') Z.ca (fun H' e g he=>?_) (fun Eb hE=>?_)
 ·have g2:=Gro.new (S:=[]) he (excO e CU)
  have h0:(upd H' e (excO e CU)) e=some (excO e CU):=upd_same
  have gg:=g.trans g2
  generalize upd H' e (excO e CU)=H2 at *
  refine exA rfl ⟨e,CU,_,.ref CU,true,rfl,h0,Z.zn,rfl,Z.k1,exA rfl (iteT ?_)⟩
  refine exA rfl ⟨e,CU,_,.type "ValueError",true,rfl,h0,Z.zn,rfl,Z.k2,?_⟩
  refine exA rfl (exA rfl (iteT ?_))
  refine exA rfl ⟨e,CU,_,.ref CN,false,rfl,h0,Z.zn,rfl,Z.k3,exA rfl (exA rfl (iteT ?_))⟩
  refine exA rfl ⟨e,CU,_,.ref CM,false,rfl,h0,Z.zn,rfl,Z.k4,exA rfl ?_⟩
  refine exA rfl (exA rfl (iteT ?_))
  refine exA rfl ⟨e,CU,_,.ref CO,false,rfl,h0,Z.zn,rfl,Z.k5,exA rfl ?_⟩
  exact exA rfl (q _ gg)
 ·exact exA rfl ⟨t,rfl,ht,fun p e=>absurd (e.symm.trans hn) (by simp),fun _ H' g=>hE H' g⟩
inductive spSpI(vs:List V)(H:Hp)(Q:VK):Prop
 |mk (b l:Addr) (t:Str) (_:vs=[.ref b,.str t,.ref l]) (_:t.length<=1000000) (_:BoxAt H b) (_:LetAt H l) (_:∀(t':Str) (H':Hp),t'.length<=t.length+3->BoxAt H' b->Gro [b] H H'->Q (.str t') H')
def spSp:Sp:=fun vs H Q _=>spSpI vs H Q
abbrev spoilS:Str:="\\.[](){}<>|^$&~:,-!?19"
abbrev someS:Str:="\\.[](){}<>|&~:,-?01ab"
theorem l_spoil:spoilS.length=22:=by decide +kernel
theorem l_some:someS.length=21:=by decide +kernel
theorem sub_le(t:Str)(a b:Nat):(sub t a b).length<=b-a:=by
 rw[← cs_len,cs_sub,List.length_take]
 omega
theorem put_len{u s2:Str}{j d:Nat}(hj:j<=u.length)(h1:s2.length<=1):((Txt.slice u none (some (j:Int))++s2)++Txt.slice u (some ((j:Int)+d)) none).length<=u.length+1:=by
 rw[len_app,len_app,slice_to (by omega),slice_from (by omega)]
 have a1:=sub_le u 0 (j:Int).toNat
 have a2:=sub_le u ((j:Int)+d).toNat u.length
 omega
abbrev s_l_spoilt:Stmt:=top 75
theorem sc_l_spoilt:FnScope ["_law_box","_law_line_here","_law_letters_here","_law_k","_law_at","_law_sign_here","_law_way"] ["_law_box","_law_line_here","_law_letters_here"] (defScope s_l_spoilt):=fsc
theorem ok_sp(T:Blt mg)(O_l_take:Own P w K mg base 1 "_law_take" ["_law_box","_law_many"] spTake)(F:Fun K "_law_spoilt" "_law_spoilt" s_l_spoilt f fd):FnOk P w K mg base CX0 2 f fd ["_law_box","_law_line_here","_law_letters_here"] spSp:=by
 refine F.ok sc_l_spoilt (fun vs H Q E h=>?_) (fun cdv A outer s H vs Q E hr h=>?_)
 ·obtain⟨b,l,t,rfl,_⟩:=h
  rfl
 obtain⟨b,l,t,rfl,ht,hb,hl,q⟩:=h
 have bl:b≠l:=hb.ne_let hl
 have lS:l∉[b]:=by simpa using Ne.symm bl
 refine ltX ?_
 intro Xz
 refine⟨_,(pss_cons (ps_for PassesOwn.never rfl (pi_range1 rfl T.b_range (pa_cons (pe_op op_add pe_int (pe_own (O_l_take.mono (by omega)) hr rfl (pa_cons (pv 0) (pa_cons pe_int pa_nil)))) pa_nil)) (pN 3 sc_l_spoilt.nd) (pss_cons (pS 4 sc_l_spoilt.nd (pe_own (O_l_take.mono (by omega)) hr rfl (pa_cons (pv 0) (pa_cons (pe_op op_add (pe_callB call_len_str rfl T.b_len PyProof.Rows.Boot.«len» (pa_cons (pv 1) pa_nil)) pe_int) pa_nil))))
  (pss_cons (pS 5 sc_l_spoilt.nd (pe_ix ix_list (pv 2) (pe_own (O_l_take.mono (by omega)) hr rfl (pa_cons (pv 0) (pa_cons pe_int pa_nil))) (fun _ _=>rfl)))
  (pss_cons (ps_if (pt_cmpR op_eq (pe_own (O_l_take.mono (by omega)) hr rfl (pa_cons (pv 0) (pa_cons pe_int pa_nil))) pe_int (nomark _)) (pss_one (pS 5 sc_l_spoilt.nd (pe_ix ix_str pe_str (pe_own (O_l_take.mono (by omega)) hr rfl (pa_cons (pv 0) (pa_cons pe_int pa_nil))) (fun _ _=>rfl)))) pss_nil)
  (pss_cons (pS 6 sc_l_spoilt.nd (pe_own (O_l_take.mono (by omega)) hr rfl (pa_cons (pv 0) (pa_cons pe_int pa_nil))))
  (pss_one (pS 1 sc_l_spoilt.nd (pe_op op_add_str (pe_op op_add_str (pe_slice sl_str (pv 1) po_none (po_some (pv 4))) (pe_ix ix_list (pe_lst (pa_cons pe_str (pa_cons (pv 5) (pa_cons (pv 5) pa_nil)))) (pv 6) (fun _ _=>rfl))) (pe_slice sl_str (pv 1) (po_some (pe_op op_add (pv 4) (pe_ix ix_list (pe_lst (pa_cons pe_int (pa_cons pe_int (pa_cons pe_int pa_nil)))) (pv 6) (fun _ _=>rfl)))) po_none)))))))))
  (pss_one (ps_ret (pv 1)))),?_⟩
 refine q296d2 ?_
 intro Ez Az1 Az2 Az3 Az4 Az5 Az6 Az7
 refine exA rfl ⟨b,3,rfl,hb,by decide,by decide,fun r H1 h0 h1 hb1 g1=>exB rfl rfl ⟨_,rfl,by omega,by omega,?_⟩⟩
 refine for_range (fun i σ H'=>∃(u:Str) (k a' sg w':Option V),σ=[some (.ref b),some (.str u),some (.ref l),k,a',sg,w']/\u.length<=t.length+i/\i<=3/\BoxAt H' b/\Gro [b] H H')
  ⟨t,none,none,none,none,rfl,by omega,by decide,hb1,g1⟩ ?_ ?_
 ·rintro i σ H2 hi ⟨u,k,a',sg,w',rfl,hu,hi3,hb2,g2⟩
  refine exA rfl (exA rfl ⟨u,rfl,bgw (by omega),exB rfl rfl ⟨b,(u.length:Int)+1,rfl,hb2,by omega,by omega,fun j' H3 j0 j1 hb3 g3=>?_⟩⟩)
  obtain⟨j,rfl⟩:∃j:Nat,j'=j:=⟨j'.toNat,by omega⟩
  have l3:=(hl.gro g2 lS).gro g3 lS
  refine exA rfl (exA rfl ⟨b,3,rfl,hb3,by decide,by decide,fun x H4 x0 x1 hb4 g4=>letS (l3.gro g4 lS) x0 x1 fun s1 hs1=>?_⟩)
  have g24:=(g2.trans g3).trans g4
  have rest:∀(D:Ends),(∀(σ':L2.St) (H':Hp),(∃(u:Str) (k a' sg w':Option V),σ'=[some (.ref b),some (.str u),some (.ref l),k,a',sg,w']/\u.length<=t.length+(i+1)/\i+1<=3/\BoxAt H' b/\Gro [b] H H')->D.nx σ' H')->∀(s2:Str) (H5:Hp),s2.length=1->BoxAt H5 b->Gro [b] H H5->Az3 D [some (.ref b),some (.str u),some (.ref l),some (.int (0+(i:Int))),some (.int j),some (.str s2),w'] H5:=by
   intro D hD s2 H5 hs2 hb5 g5
   refine exA rfl ⟨b,3,rfl,hb5,by decide,by decide,fun w0 H6 w00 w01 hb6 g6=>?_⟩
   have l1:=Txt.slice_le u none (some (j:Int))
   have g56:=g5.trans g6
   have fin:∀(s3:Str) (d:Nat) (c1 c2:Addr),s3.length<=1->H6 c1=none->∀o1 o2:HO,(upd H6 c1 o1) c2=none->∃(u':Str) (k a' sg w':Option V),[some (V.ref b),some (V.str ((Txt.slice u none (some (j:Int))++s3)++Txt.slice u (some ((j:Int)+d)) none)),some (V.ref l),some (V.int (0+(i:Int))),some (V.int j),some (V.str s2),some (V.int w0)]=[some (V.ref b),some (V.str u'),some (V.ref l),k,a',sg,w']/\u'.length<=t.length+(i+1)/\i+1<=3/\BoxAt (upd (upd H6 c1 o1) c2 o2) b/\Gro [b] H (upd (upd H6 c1 o1) c2 o2):=by
    intro s3 d c1 c2 h3 hc1 o1 o2 hc2
    have:=put_len (u:=u) (j:=j) (d:=d) (by omega) h3
    exact⟨_,_,_,_,_,rfl,by omega,by omega,(hb6.new hc1).new hc2,(g56.tup hc1).tup hc2⟩
   have e0:("":Str).length=0:=l_e
   rcases(show w0=0∨w0=1∨w0=2 by omega) with rfl | rfl | rfl
   ·have l2:=Txt.slice_le u (some ((j:Int)+1)) none
    refine exA rfl (exA rfl (exA rfl (exA rfl ⟨bgw (by omega),exA rfl (exA rfl ⟨sz,fun c1 hc1=>exA rfl ⟨c1,_,_,_,rfl,rfl,SqL.of upd_same,at0,exB rfl rfl ⟨bgw (by omega),?_⟩⟩⟩)⟩)))
    refine exA rfl (exA rfl ⟨sz,fun c2 hc2=>exA rfl ⟨c2,_,_,_,rfl,rfl,SqL.of upd_same,at0,exB rfl rfl (exA rfl (exA rfl ⟨bgw (by omega),exB rfl rfl ⟨bgw (by rw[len_app];omega),?_⟩⟩))⟩⟩)
    exact hD _ _ (fin "" 1 c1 c2 (by omega) hc1 _ _ hc2)
   ·have l2:=Txt.slice_le u (some ((j:Int)+0)) none
    refine exA rfl (exA rfl (exA rfl (exA rfl ⟨bgw (by omega),exA rfl (exA rfl ⟨sz,fun c1 hc1=>exA rfl ⟨c1,_,_,_,rfl,rfl,SqL.of upd_same,rfl,exB rfl rfl ⟨bgw (by omega),?_⟩⟩⟩)⟩)))
    refine exA rfl (exA rfl ⟨sz,fun c2 hc2=>exA rfl ⟨c2,_,_,_,rfl,rfl,SqL.of upd_same,rfl,exB rfl rfl (exA rfl (exA rfl ⟨bgw (by omega),exB rfl rfl ⟨bgw (by rw[len_app];omega),?_⟩⟩))⟩⟩)
    exact hD _ _ (fin s2 0 c1 c2 (by omega) hc1 _ _ hc2)
   ·have l2:=Txt.slice_le u (some ((j:Int)+1)) none
    refine exA rfl (exA rfl (exA rfl (exA rfl ⟨bgw (by omega),exA rfl (exA rfl ⟨sz,fun c1 hc1=>exA rfl ⟨c1,_,_,_,rfl,rfl,SqL.of upd_same,rfl,exB rfl rfl ⟨bgw (by omega),?_⟩⟩⟩)⟩)))
    refine exA rfl (exA rfl ⟨sz,fun c2 hc2=>exA rfl ⟨c2,_,_,_,rfl,rfl,SqL.of upd_same,rfl,exB rfl rfl (exA rfl (exA rfl ⟨bgw (by omega),exB rfl rfl ⟨bgw (by rw[len_app];omega),?_⟩⟩))⟩⟩)
    exact hD _ _ (fin s2 1 c1 c2 (by omega) hc1 _ _ hc2)
  refine exA rfl ⟨b,2,rfl,hb4,by decide,by decide,fun y H5 y0 y1 hb5 g5=>⟨rfl,exA rfl (ite2 (fun _=>?_) (fun _=>?_))⟩⟩
  ·refine exA rfl ⟨b,22,rfl,hb5,by decide,by decide,fun z H6 z0 z1 hb6 g6=>?_⟩
   refine⟨spoilS,_,_,rfl,rfl,sz,chr_at z0 (by rw[l_spoil];omega),?_⟩
   exact rest _ (fun _ _ z=>z) _ H6 rfl hb6 ((g24.trans g5).trans g6)
  ·exact rest _ (fun _ _ z=>z) s1 H5 hs1 hb5 (g24.trans g5)
 ·rintro σ H2 ⟨u,k,a',sg,w',rfl,hu,hi3,hb2,g2⟩
  exact exA rfl (q u H2 (by omega) hb2 g2)
inductive spLiI(vs:List V)(H:Hp)(Q:VK):Prop
 |mk (b l:Addr) (_:vs=[.ref b,.ref l]) (_:BoxAt H b) (_:LetAt H l) (_:∀(t:Str) (H':Hp),t.length<=1500000->BoxAt H' b->Gro [b] H H'->Q (.str t) H')
def spLi:Sp:=fun vs H Q _=>spLiI vs H Q
abbrev s_l_line:Stmt:=top 76
theorem sc_l_line:FnScope ["_law_box","_law_letters_here","_law_kind","_law_some","_law_k","_law_line_here"] ["_law_box","_law_letters_here"] (defScope s_l_line):=fsc
theorem ok_li(T:Blt mg)(O_l_take:Own P w K mg base 1 "_law_take" ["_law_box","_law_many"] spTake)(O_l_beyond:Own P w K mg base 3 "_law_beyond" ["_law_box","_law_letters_here"] spBy)(O_l_drawn:Own P w K mg base 13 "_law_drawn" ["_law_box","_law_letters_here","_law_plain"] spDrawn)(O_l_written:Own P w K mg base 23 "_law_written" ["_law_p"] (spTxt 10))(O_l_spoilt:Own P w K mg base 2 "_law_spoilt" ["_law_box","_law_line_here","_law_letters_here"] spSp)
  (F:Fun K "_law_line" "_law_line" s_l_line f fd):FnOk P w K mg base CX0 24 f fd ["_law_box","_law_letters_here"] spLi:=by
 refine F.ok sc_l_line (fun vs H Q E h=>?_) (fun cdv A outer s H vs Q E hr h=>?_)
 ·obtain⟨b,l,rfl,_⟩:=h
  rfl
 obtain⟨b,l,rfl,hb,hl,q⟩:=h
 have bl:b≠l:=hb.ne_let hl
 have lS:l∉[b]:=by simpa using Ne.symm bl
 refine ltX ?_
 intro Xz
 refine⟨_,(pss_cons (pS 2 sc_l_line.nd (pe_own (O_l_take.mono (by omega)) hr rfl (pa_cons (pv 0) (pa_cons pe_int pa_nil))))
  (pss_cons (ps_if (pt_cmpR op_lt (pv 2) pe_int (nomark _)) (pss_cons (pS 3 sc_l_line.nd pe_str)
  (pss_cons (ps_for PassesOwn.never rfl (pi_range1 rfl T.b_range (pa_cons (pe_own (O_l_take.mono (by omega)) hr rfl (pa_cons (pv 0) (pa_cons pe_int pa_nil))) pa_nil)) (pN 4 sc_l_line.nd) (pss_one (pS 3 sc_l_line.nd (pe_op op_add_str (pv 3) (pe_ix ix_str pe_str (pe_own (O_l_take.mono (by omega)) hr rfl (pa_cons (pv 0) (pa_cons pe_int pa_nil))) (fun _ _=>rfl))))))
  (pss_one (ps_ret (pv 3))))) pss_nil)
  (pss_cons (ps_if (pt_cmpR op_lt (pv 2) pe_int (nomark _)) (pss_one (pS 5 sc_l_line.nd (pe_own (O_l_written.mono (by omega)) hr rfl (pa_cons (pe_own (O_l_beyond.mono (by omega)) hr rfl (pa_cons (pv 0) (pa_cons (pv 1) pa_nil))) pa_nil)))) (pss_one (pS 5 sc_l_line.nd (pe_own (O_l_written.mono (by omega)) hr rfl (pa_cons (pe_ix ix_tup (pe_own (O_l_drawn.mono (by omega)) hr rfl (pa_cons (pv 0) (pa_cons (pv 1) (pa_cons pe_int pa_nil)))) pe_int (fun _ _=>rfl)) pa_nil)))))
  (pss_cons (ps_if (PW.pt (pw_or (pt_cmpR op_eq (pe_own (O_l_take.mono (by omega)) hr rfl (pa_cons (pv 0) (pa_cons pe_int pa_nil))) pe_int (nomark _)) (pw_or1 (pt_cmpR op_eq (pv 2) pe_int (nomark _))))) (pss_one (ps_ret (pv 5))) pss_nil)
  (pss_one (ps_ret (pe_own (O_l_spoilt.mono (by omega)) hr rfl (pa_cons (pv 0) (pa_cons (pv 5) (pa_cons (pv 1) pa_nil)))))))))),?_⟩
 refine qfe22a ?_
 intro Ez Az1 Az2 Az3 Az4 Az5 Az6 Az7 Az8 Az9 Az10 Az11
 refine exA rfl ⟨b,8,rfl,hb,by decide,by decide,fun r H1 h0 h1 hb1 g1=>?_⟩
 have l1:=hl.gro g1 lS
 refine exA rfl (exB rfl rfl (exA rfl (ite2 (fun _=>?_) (fun _=>?_))))
 ·refine exA rfl ⟨b,13,rfl,hb1,by decide,by decide,fun n H2 n0 n1 hb2 g2=>⟨_,rfl,by omega,by omega,?_⟩⟩
  refine for_range (fun i σ H'=>∃(u:Str) (k:Option V),σ=[some (.ref b),some (.ref l),some (.int r),some (.str u),k,none]/\u.length<=i/\i<=13/\BoxAt H' b/\Gro [b] H H')
   ⟨"",none,rfl,Nat.zero_le _,by decide,hb2,g1.trans g2⟩ ?_ ?_
  ·rintro i σ H3 hi ⟨u,k,rfl,hu,hi2,hb3,g3⟩
   refine exA rfl (exA rfl ⟨b,21,rfl,hb3,by decide,by decide,fun z H4 z0 z1 hb4 g4=>?_⟩)
   refine⟨someS,_,_,rfl,rfl,sz,chr_at z0 (by rw[l_some];omega),?_⟩
   refine exB rfl rfl ⟨small (by show u.length+1<=1000;omega),?_⟩
   exact⟨_,_,rfl,by rw[len_app];show u.length+1<=i+1;omega,by omega,hb4,g3.trans g4⟩
  ·rintro σ H3 ⟨u,k,rfl,hu,hi2,hb3,g3⟩
   exact exA rfl (q u H3 (by omega) hb3 g3)
 have rest:∀(u:Str) (H3:Hp),u.length<=1000000->BoxAt H3 b->Gro [b] H H3->Az9 Ez [some (.ref b),some (.ref l),some (.int r),none,none,some (.str u)] H3:=by
  intro u H3 hu hb3 g3
  refine exA rfl ⟨b,8,rfl,hb3,by decide,by decide,fun y H4 y0 y1 hb4 g4=>⟨rfl,exA rfl (ite2 (fun _=>iteT ?_) (fun _=>exA rfl ⟨rfl,exA rfl (ite2 (fun _=>?_) (fun _=>?_))⟩))⟩⟩
  ·exact exA rfl (q u H4 (by omega) hb4 (g3.trans g4))
  ·exact exA rfl (q u H4 (by omega) hb4 (g3.trans g4))
  ·exact exA rfl (exA rfl (exA rfl ⟨b,l,u,rfl,hu,hb4,(hl.gro g3 lS).gro g4 lS,fun t' H5 ht hb5 g5=>q t' H5 (by omega) hb5 ((g3.trans g4).trans g5)⟩))
 refine exA rfl (exB rfl rfl (exA rfl (ite2 (fun _=>?_) (fun _=>?_))))
 ·refine exA rfl (exA rfl ⟨b,l,rfl,hb1,l1,fun v p H2 hb2 hp hz g2=>⟨v,p,rfl,hp,by omega,fun H3 g3=>?_⟩⟩)
  have hs:=hp.short
  unfold Short at hs
  exact rest p.txt H3 (by omega) (hb2.gro g3 (by simp)) ((g1.trans g2).trans (g3.mono (by simp)))
 ·refine exA rfl (exA rfl ⟨b,l,0,rfl,hb1,l1,fun t g v p n H2 hb2 ht hg hn hp g2=>⟨t,_,_,_,rfl,rfl,SqT.of ht,at0,v,p,rfl,hp.1.deep (by decide),Nat.le_trans hp.2 (by decide),fun H3 g3=>?_⟩⟩)
  have hs:=hp.1.short
  unfold Short at hs
  have hB:p.size<=6561:=Nat.le_trans hp.2 (by decide)
  exact rest p.txt H3 (by omega) (hb2.gro g3 (by simp)) ((g1.trans g2).trans (g3.mono (by simp)))
end
theorem lc_rangeF{lo:Int}{n:Nat}{σ:L2.St}{tt:TT}{te:TE}{Fin:List V->Hp->Prop}{H1:Hp}(Pv:Nat->List V->Hp->Prop)(h0:Pv 0 [] H1)(hz:n<sizeLine)(hlen:∀i ys H,Pv i ys H->ys.length<=i)
  (hs:∀i ys H,i<n->Pv i ys H->tt (some (.int (lo+i))::σ) H fun b H2=>if b=true then te (some (.int (lo+i))::σ) H2 fun y H3=>Pv (i+1) (ys++[y]) H3 else Pv (i+1) ys H2) (hd:∀ys H,Pv n ys H->Fin ys H) :
  LCW (Itr lo n) σ tt te Fin H1:=by
 refine lc_gen (n:=n) Pv h0 hz hlen (fun i ys H hi p=>hi) (fun ys H p=>Nat.le_refl n) (fun i ys H x H' hi p y=>?_) hd
 obtain⟨e,y⟩:=y
 subst e y
 exact hs i ys H' hi p
theorem cnt_take{t:Str}{i:Nat}{c:Nat}(h:(cs t)[i]? = some c):((cs t).take (i+1)).count 40=((cs t).take i).count 40+(if c=40 then 1 else 0):=by
 rw[take_snoc h,List.count_append,List.count_cons,List.count_nil,Nat.zero_add]
 by_cases e:c=40
 ·subst e;simp
 ·rw[if_neg e,if_neg (by simpa using e)]
theorem one_lp(c:Nat):decide (V.str ⟨#[c]⟩=V.str "(")=decide (c=40):=by
 by_cases e:c=40
 ·subst e;decide +kernel
 ·rw[decide_eq_false e,decide_eq_false]
  intro z
  have z1:(⟨#[c]⟩:Str)="(":=by injection z
  have z2:cs ⟨#[c]⟩=cs "(":=by rw[z1]
  rw[show cs "(" = [40] by decide +kernel]at z2
  exact e (by injection z2)
section
variable{P:Program}{w:World}{K:W.Frag}{mg:Str->Option Value}{base:Heap}{f C CE CM CN CO CU:Addr}{fd:FuncData}{h:Heap}
inductive spLawI(K:W.Frag)(vs:List V)(H:Hp)(Q:VK):Prop
 |mk (a:Addr) (ns:List Int) (_:vs=[.ref a]) (_:SqL K H a (ns.map V.int)) (_:ns.length<=63) (_:∀H',Q (.bl true) H')
def spLaw(K:W.Frag):Sp:=fun vs H Q _=>spLawI K vs H Q
abbrev s_law:Stmt:=top 77
theorem sc_law:FnScope ["_law_script","_law_box","_law_letters_here","_law_line_here","_law_total","_law_found","_law_refused_here","_law_seen"] ["_law_script"] (defScope s_law):=fsc
theorem ok_law(T:Blt mg)(XC_Unread:XC K mg "Unread" CU CE)(O_l_letters:Own P w K mg base 2 "_law_letters" ["_law_box"] spLetters)(O_l_line:Own P w K mg base 24 "_law_line" ["_law_box","_law_letters_here"] spLi)(O_read_pattern:OwnX P w K mg base 71 "read_pattern" ["text"] (spRp CU))(O_l_refused:Own P w K mg base 72 "_law_refused" ["_law_pattern_like"] spRf)
  (O_l_good:Own P w K mg base 13 "_law_good" ["_law_p","_law_total"] spGd) (O_l_written:Own P w K mg base 23 "_law_written" ["_law_p"] (spTxt 10)) (F:Fun K "law" "law" s_law f fd):FnOk P w K mg base CX0 80 f fd ["_law_script"] (spLaw K):=by
 refine F.ok sc_law (fun vs H Q E h=>?_) (fun cdv A outer s H vs Q E hr h=>?_)
 ·obtain⟨a,ns,rfl,_⟩:=h
  rfl
 obtain⟨a,ns,rfl,hS,h63,q⟩:=h
 refine ltX ?_
 intro Xz
 refine⟨_,(pss_cons (pS 1 sc_law.nd (pe_callTy call_list_of rfl T.b_list PyProof.Rows.Boot.«list» (pa_cons (pv 0) pa_nil)))
  (pss_cons (pS 2 sc_law.nd (pe_own (O_l_letters.mono (by omega)) hr rfl (pa_cons (pv 1) pa_nil)))
  (pss_cons (pS 3 sc_law.nd (pe_own (O_l_line.mono (by omega)) hr rfl (pa_cons (pv 1) (pa_cons (pv 2) pa_nil))))
  (pss_cons (pS 4 sc_law.nd (pe_callB call_len_seq rfl T.b_len PyProof.Rows.Boot.«len» (pa_cons (pe_lcomp rfl (show CScope _ ["_law_script","_law_box","_law_letters_here","_law_line_here","_law_total","_law_found","_law_refused_here","_law_seen"] (defScope s_law) _ from⟨rfl,by decide +kernel,rfl,by decide +kernel,by decide +kernel,by decide +kernel,by decide +kernel⟩) (pi_range1 rfl T.b_range (pa_cons (pe_callB call_len_str rfl T.b_len PyProof.Rows.Boot.«len» (pa_cons (pv 3) pa_nil)) pa_nil)) (fun _ _ _ _=>(pts_one (pt_cmpR op_eq (pe_ix ix_str (pv 4) (pv 0) (fun _ _=>rfl)) pe_str (nomark _)))) (fun _ _ _ _=>pe_int)) pa_nil)))
  (pss_cons (pS 5 sc_law.nd pe_non)
  (pss_cons (pS 6 sc_law.nd pe_bl)
  (pss_cons (ps_tryO (i:=5) rfl rfl rfl XC_Unread.mgx (O_read_pattern.mono (by omega)) hr rfl sc_law.nd rfl (by first | exact Or.inl rfl | exact Or.inr rfl) (fun _ _=>(pa_cons (pv 3) pa_nil)) (fun _=>(pss_one (pS 6 sc_law.nd pe_bl))))
  (pss_cons (ps_if (pt_val (pv 6)) (pss_one (ps_ret (pe_own (O_l_refused.mono (by omega)) hr rfl (pa_cons (pv 3) pa_nil)))) pss_nil)
  (pss_cons (pS 7 sc_law.nd (pe_callB call_len_seq rfl T.b_len PyProof.Rows.Boot.«len» (pa_cons (pe_lcomp rfl (show CScope _ ["_law_script","_law_box","_law_letters_here","_law_line_here","_law_total","_law_found","_law_refused_here","_law_seen"] (defScope s_law) _ from⟨rfl,by decide +kernel,rfl,by decide +kernel,by decide +kernel,by decide +kernel,by decide +kernel⟩) (pi_range1 rfl T.b_range (pa_cons (pv 4) pa_nil)) (fun _ _ _ _=>(pts_one (pt_val (pe_own (O_l_good.mono (by omega)) hr rfl (pa_cons (pv 6) (pa_cons (pe_op op_add (pv 0) pe_int) pa_nil)))))) (fun _ _ _ _=>pe_int)) pa_nil)))
  (pss_cons (ps_if (PW.pt (pw_and (pt_not (pt_val (pe_own (O_l_good.mono (by omega)) hr rfl (pa_cons (pv 5) (pa_cons pe_int pa_nil))))) (pw_and1 (pt_cmpR op_ne (pv 7) pe_int (nomark _))))) (pss_one (ps_ret pe_bl)) pss_nil)
  (pss_one (ps_ret (pe_cmpR op_eq (pe_own (O_l_written.mono (by omega)) hr rfl (pa_cons (pv 5) pa_nil)) (pv 3) (nomark _)))))))))))))),?_⟩
 refine qae127 ?_
 intro Ez Az1 Az2 Az3 Az4 Az5 Az6 Az7 Az8 Az9 Az10 Az11 Az12
 refine(exA rfl ⟨a,exA rfl ⟨.inl hS,fun b hb=>?_⟩⟩)
 refine(exA rfl ⟨b,rfl,⟨ns,upd_same,h63⟩,fun l H1 hb1 hl1 g1=>?_⟩)
 refine exA rfl (exA rfl ⟨b,l,rfl,hb1,hl1,fun t H2 ht hb2 g2=>?_⟩)
 have hcl:(cs t).length=t.length:=cs_len t
 refine exA rfl ⟨t,rfl,bgw (by omega),⟨_,rfl,by omega,by omega,?_⟩⟩
 refine lc_rangeF (n:=(t.length:Int).toNat) (fun i ys H'=>ys=List.replicate (((cs t).take i).count 40) (.int 0)/\H'=H2) ⟨rfl,rfl⟩ (bgl (by omega)) (fun i ys H' ⟨e,_⟩=>by rw[e,List.length_replicate];exact Nat.le_trans List.count_le_length (by rw[List.length_take];omega)) ?_ ?_
 ·rintro i ys H' hi ⟨rfl,rfl⟩
  have hi':i<t.length:=by omega
  have hc:(cs t)[i]? = some (t.cps.toList.getD i 0):=by
   have:i<t.cps.toList.length:=by rw[← hcl]at hi';exact hi'
   unfold cs
   rw[List.getD_eq_getElem?_getD,List.getElem?_eq_getElem this]
   rfl
  have hca:=chr_at (t:=t) (i:=(0:Int)+i) (by omega) (by omega)
  rw[show((0:Int)+i).toNat=i by omega]at hca
  refine exA rfl (exA rfl ⟨t,_,_,rfl,rfl,bgw (by omega),hca,rfl,exA rfl ?_⟩)
  rw[one_lp,cnt_take hc]
  by_cases e:t.cps.toList.getD i 0=40
  ·rw[if_pos e,List.replicate_succ']
   exact ite_yes (decide_eq_true e) ⟨rfl,rfl⟩
  ·rw[if_neg e]
   exact ite_no (fun z=>e (of_decide_eq_true z)) ⟨rfl,rfl⟩
 rintro ys H' ⟨rfl,rfl⟩ c hc
 have etk:(cs t).take (t.length:Int).toNat=cs t:=List.take_of_length_le (by omega)
 rw[etk]
 have gc:=Gro.new (S:=[]) hc (.lst (List.replicate ((cs t).count 40) (.int 0)))
 refine⟨c,_,rfl,.inl (SqL.of upd_same),?_⟩
 rw[List.length_replicate]
 generalize upd H' c (.lst (List.replicate ((cs t).count 40) (.int 0)))=H3 at *
 have hct:(cs t).count 40<=t.length:=Nat.le_trans List.count_le_length (by omega)
 refine exA rfl ⟨t,rfl,by omega,fun p hp v H4 hP g4=>?_,fun hn H4 g4=>⟨⟨CU,rfl,XC_Unread.catch1⟩,?_⟩⟩
 case refine_2 =>
  refine exA rfl (exA rfl (ite_yes rfl ?_))
  exact exA rfl ⟨t,rfl,by omega,hn,fun H5 g5=>q H5⟩
 have hR:=rAll_ok hp
 refine exA rfl (exA rfl (ite_no (by decide) ?_))
 have hcg:p.groups<=((cs t).count 40:Int):=by
  have:=cp_groups hR.sh
  rw[hR.txt]at this
  exact this
 have g0:0<=p.groups:=hR.sh.grs.2
 refine exA rfl ⟨_,rfl,by omega,by omega,?_⟩
 refine lc_rangeF (n:=(((cs t).count 40:Nat):Int).toNat) (fun i ys H'=>ys=(if 1<=p.groups/\p.groups<=i then[.int 0] else[])/\Gro [] H4 H') ⟨by rw[if_neg (by omega)],Gro.refl⟩ (bgl (by omega)) (fun i ys H' ⟨e,_⟩=>by rw[e];split <;> simp <;> omega) ?_ ?_
 ·rintro i ys H5 hi ⟨rfl,g5⟩
  refine exA rfl (exA rfl (exB rfl rfl ⟨v,p,t,_,rfl,hP.mono g5.tups,hR,fun H6 g6=>exA rfl ?_⟩))
  by_cases e:(0:Int)+i+1=p.groups
  ·refine ite_yes (decide_eq_true e) ⟨?_,g5.trans g6⟩
   rw[if_neg (by omega),if_pos (by omega)]
   rfl
  ·refine ite_no (fun z=>e (of_decide_eq_true z)) ⟨?_,g5.trans g6⟩
   by_cases e2:1<=p.groups/\p.groups<=(i:Int)
   ·rw[if_pos e2,if_pos (by omega)]
   ·rw[if_neg e2,if_neg (by omega)]
 rintro ys H5 ⟨rfl,g5⟩ c2 hc2
 have gc2:=Gro.new (S:=[]) hc2 (.lst (if 1<=p.groups/\p.groups<=(((((cs t).count 40:Nat):Int).toNat:Nat):Int) then[.int 0] else[]))
 refine⟨c2,_,rfl,.inl (SqL.of upd_same),?_⟩
 generalize upd H5 c2 _=H6 at *
 have hP6:=(hP.mono g5.tups).mono gc2.tups
 refine exA rfl ⟨v,p,t,0,rfl,hP6,hR,fun H7 g7=>exA rfl ?_⟩
 have fin:Az3 Ez [some (.ref a),some (.ref b),some (.ref l),some (.str t),some (.int ((cs t).count 40:Nat)),some v,some (.bl false),some (.int ((if 1<=p.groups/\p.groups<=(((((cs t).count 40:Nat):Int).toNat:Nat):Int) then[V.int 0] else[]).length:Nat))] H7:=by
  refine exA rfl ⟨v,p,rfl,(hP6.mono g7.tups).deep (by decide),by have:=hR.size;omega,fun H8 g8=>exA rfl ⟨rfl,?_⟩⟩
  rw[hR.txt]
  show Q (.bl (decide (V.str t=V.str t))) H8
  rw[decide_eq_true rfl]
  exact q H8
 by_cases e:(0:Int)=p.groups
 ·refine ite_no (by rw[decide_eq_true e];decide) ?_
  exact fin
 ·refine ite_yes (by rw[decide_eq_false e];rfl) ?_
  refine exA rfl ⟨rfl,exA rfl (ite_no ?_ fin)⟩
  rw[if_pos (by omega)]
  decide
def MDef(K:W.Frag)(C:Addr)(m qual:Str)(st:Stmt)(ps:List Str):Prop:=∃f fd,Fun K m qual st f fd/\Meth K C m f/\Binds K fd ps []
theorem mdef_mk{C f:Addr}{m qual:Str}{st:Stmt}{ps:List Str}{oc:Value}{od an:Option Addr}{osl:Array (Option Value)}{kV doc pm cdv ct:Value}(a:W.findIn K (.ref C) m=some (some (.ref f)))(i:W.isFn K (.ref f)=true)
  (l:K.lookup f=some ⟨oc,od,.func (W.fnOf m qual (defArgs st) (defBody st) (defScope st) .none kV doc pm an cdv ct),osl⟩) (c:W.codeIn K cdv qual=true) (k:W.keepIn K (.ref f)=true)
  (hb:∀(kV doc pm:Value) (an:Option Addr) (cdv ct:Value) (us:List Value),us.length=ps.length->bindArgs (W.fnOf m qual (defArgs st) (defBody st) (defScope st) .none kV doc pm an cdv ct) ⟨us,[]⟩=pure (ps.zip us)):MDef K C m qual st ps :=
 ⟨f,_,fun_mk (st:=st) l c k,⟨a,i,k⟩,(fun_mk (st:=st) l c k).binds hb⟩
structure RDefs(K:W.Frag)(mg:Str->Option Value)(CR:Addr):Prop where
 mg_:mg "Reader" = some (.ref CR)
 tx:TxtR K CR
 mks:W.makesIn K CR=true
 kc:W.keepIn K (.ref CR)=true
 init:MDef K CR "__init__" "Reader.__init__" s_Reader___init__ ["self","text"]
 m_seen:MDef K CR "seen" "Reader.seen" s_Reader_seen ["self"]
 m_take:MDef K CR "take" "Reader.take" s_Reader_take ["self"]
 m_passes:MDef K CR "passes" "Reader.passes" s_Reader_passes ["self","sign"]
 m_need:MDef K CR "need" "Reader.need" s_Reader_need ["self","sign"]
 m_branches:MDef K CR "branches" "Reader.branches" s_Reader_branches ["self"]
 m_line:MDef K CR "line" "Reader.line" s_Reader_line ["self"]
 m_part:MDef K CR "part" "Reader.part" s_Reader_part ["self"]
 m_single:MDef K CR "single" "Reader.single" s_Reader_single ["self"]
 m_within:MDef K CR "within" "Reader.within" s_Reader_within ["self","close"]
 m_group:MDef K CR "group" "Reader.group" s_Reader_group ["self"]
 m_bracket:MDef K CR "bracket" "Reader.bracket" s_Reader_bracket ["self"]
 m_listed:MDef K CR "listed" "Reader.listed" s_Reader_listed ["self"]
 m_run:MDef K CR "run" "Reader.run" s_Reader_run ["self"]
 m_sign:MDef K CR "sign" "Reader.sign" s_Reader_sign ["self","stroked"]
 m_digit:MDef K CR "digit" "Reader.digit" s_Reader_digit ["self"]
 m_turns:MDef K CR "turns" "Reader.turns" s_Reader_turns ["self","part"]
theorem txtR_mk{C:Addr}(pg:W.plainGet K C Str.empty=true)(hd:W.hasDictIn K C=true)(po:W.plainOver K C=true)(sa:W.findIn K (.ref C) "__setattr__" = some (some (.builtin "object.__setattr__")))
  (a1:W.findIn K (.ref C) "text" = some none) (a2:W.findIn K (.ref C) "place" = some none) (a3:W.findIn K (.ref C) "groups" = some none) (a4:W.findIn K (.ref C) "nested" = some none):TxtR K C:=⟨⟨pg,hd,po,sa⟩,a1,a2,a3,a4⟩
theorem FnOk.neverX{f:Addr}{fd:FuncData}{ps:List Str}{k:Nat}{sp:Sp}(no:∀vs H Q E,¬sp vs H Q E):FnOk P w K mg base (CX1 P w) k f fd ps sp :=
 ⟨fun vs H Q E h=>absurd h (no vs H Q E),fun A outer s H args us vs Q E _ _ _ _ h=>absurd h (no vs H Q E)⟩
theorem Def.ownX{x:Str}{st:Stmt}{ps:List Str}{k:Nat}{sp:Sp}(D:Def K mg x st ps)(h:∀f fd,Fun K x x st f fd->FnOk P w K mg base (CX1 P w) k f fd ps sp):OwnX P w K mg base k x ps sp:=by
 obtain⟨f,fd,F,m,b⟩:=D.ex
 exact⟨f,fd,h f fd F,m,F.kp,b⟩
theorem MDef.ownX{m qual:Str}{st:Stmt}{ps:List Str}{k:Nat}{sp:Sp}(D:MDef K C m qual st ps)(h:∀f fd,Fun K m qual st f fd->FnOk P w K mg base (CX1 P w) k f fd ps sp):OwnMX P w K mg base k C m ps sp:=by
 obtain⟨f,fd,F,M,b⟩:=D
 exact⟨f,fd,h f fd F,M,b⟩
theorem MDef.own{m qual:Str}{st:Stmt}{ps:List Str}{k:Nat}{sp:Sp}(D:MDef K C m qual st ps)(h:∀f fd,Fun K m qual st f fd->FnOk P w K mg base CX0 k f fd ps sp):OwnM P w K mg base k C m ps sp:=by
 obtain⟨f,fd,F,M,b⟩:=D
 exact⟨f,fd,h f fd F,M,b⟩
structure RCs(K:W.Frag)(w:World)(mg:Str->Option Value):Prop where
 deep:∃t,mg "MOST_DEEP" = some (.int 8 t)
 groups:∃t,mg "MOST_GROUPS" = some (.int 9 t)
 pats:∃t,mg "MOST_PATTERNS" = some (.int 60 t)
 parts:∃t,mg "MOST_PARTS" = some (.int 8 t)
 runs:∃t,mg "MOST_RUNS" = some (.int 8 t)
 turns:∃t,mg "MOST_TURNS" = some (.int 9 t)
 blank:∃t,mg "BLANK" = some (.int 32 t)
 last:∃t,mg "LAST_SIGN" = some (.int 126 t)
 per:∃t,mg "PERCENT" = some (.int 37 t)
 dig:∃t,mg "DIGITS" = some (.str digS t)
 str:∃t,mg "STROKED" = some (.str stroked t)
 strR:∃t,mg "STROKED_IN_RUNS" = some (.str strokedR t)
 bare:∃a,mg "BARE" = some (.ref a)/\DcK K w a bareT
 lists:∃a,mg "LISTS" = some (.ref a)/\DcK K w a listsT
 brk:∃a,mg "BRACKETS" = some (.ref a)/\DcK K w a bracketsT
 hows:∃a,mg "HOWS" = some (.ref a)/\DcK K w a howsT
 wr:∃a,mg "WRAPPED_IN_ROW" = some (.ref a)/\∀H,SqT K H a wrapRow
 wt:∃a,mg "WRAPPED_IN_TIMES" = some (.ref a)/\∀H,SqT K H a wrapTimes
 stops:∃a,mg "STOPS" = some (.ref a)/\∀H,SqT K H a stopsT
 pl:∃a,mg "PART_LAST" = some (.ref a)/\∀H,SqT K H a lastWords
theorem own_br{CR CU CE:Addr}(T:Blt mg)(C:RCs K w mg)(XU:XC K mg "Unread" CU CE)(D:RDefs K mg CR):∀n,OwnMX P w K mg base (5+6*n) CR "branches" ["self"] (spBr CR CU n)
 |0=>D.m_branches.ownX fun f fd F=>FnOk.neverX fun vs H Q E h=>by
  obtain⟨m,dx,t,i,c,d,_,_,_,hd,_⟩:=h
  exact absurd hd.2.2 (by omega)
 |n+1=>by
  have ih:=own_br T C XU D n
  obtain⟨t8,c8⟩:=C.deep
  obtain⟨t0,c0⟩:=C.dig
  obtain⟨t1,c1⟩:=C.str
  obtain⟨t2,c2⟩:=C.strR
  obtain⟨ba,cb,hb⟩:=C.bare
  obtain⟨bk,ck,hk⟩:=C.brk
  obtain⟨st,cs,hs⟩:=C.stops
  have seen:OwnM P w K mg base 1 CR "seen" ["self"] (spSeen CR):=D.m_seen.own fun _ _ F=>ok_seen D.tx F
  have take:OwnM P w K mg base 2 CR "take" ["self"] (spTakeR CR):=D.m_take.own fun _ _ F=>ok_taker D.tx seen F
  have pass:OwnM P w K mg base 2 CR "passes" ["self","sign"] (spPass CR):=D.m_passes.own fun _ _ F=>ok_pass D.tx seen F
  have need:OwnMX P w K mg base 3 CR "need" ["self","sign"] (spNeed CR CU):=D.m_need.ownX fun _ _ F=>ok_need D.tx XU take F
  have sgn:OwnMX P w K mg base 3 CR "sign" ["self","stroked"] (spSgn CR CU):=D.m_sign.ownX fun _ _ F=>ok_sgn D.tx XU pass take F
  have dig:OwnMX P w K mg base 3 CR "digit" ["self"] (spDig CR CU):=D.m_digit.ownX fun _ _ F=>ok_dig T c0 D.tx XU take F
  have run:OwnMX P w K mg base 4 CR "run" ["self"] (spRun CR CU):=D.m_run.ownX fun _ _ F=>ok_run c2 D.tx pass sgn F
  have trn:OwnMX P w K mg base 4 CR "turns" ["self","part"] (spTurn CR CU):=D.m_turns.ownX fun _ _ F=>ok_turn D.tx seen pass need dig F
  have lst:OwnMX P w K mg base 5 CR "listed" ["self"] (spList CR CU):=D.m_listed.ownX fun _ _ F=>ok_list T D.tx pass run F
  have wi:OwnMX P w K mg base (5+6*n+1) CR "within" ["self","close"] (spWi CR CU n):=D.m_within.ownX fun _ _ F=>ok_wi (by omega) c8 D.tx XU ih need F
  have gr:OwnMX P w K mg base (5+6*n+1+1) CR "group" ["self"] (spRd CR CU n (4*n+1) (fun t=>rGr (rWd t n))):=D.m_group.ownX fun _ _ F=>ok_gr D.tx wi F
  have bkt:OwnMX P w K mg base (5+6*n+1+1) CR "bracket" ["self"] (spRd CR CU n (4*n+1) (fun t=>rBk (rWd t n) t)):=D.m_bracket.ownX fun _ _ F=>ok_bk (by omega) ck hk D.tx pass dig wi F
  have si:OwnMX P w K mg base (5+6*n+1+1+1) CR "single" ["self"] (spRd CR CU n (4*n+1) (fun t=>rSi (rWd t n) t)):=D.m_single.ownX fun _ _ F=>ok_si (by omega) cb hb c1 D.tx pass dig sgn lst gr bkt F
  have pt:OwnMX P w K mg base (5+6*n+1+1+1+1) CR "part" ["self"] (spRd CR CU n (4*n+2) (fun t=>rPt (rWd t n) t)):=D.m_part.ownX fun _ _ F=>ok_pt (by omega) D.tx pass trn si F
  have ln:OwnMX P w K mg base (5+6*n+1+1+1+1+1) CR "line" ["self"] (spRd CR CU n (4*n+3) (fun t=>rLd t n)):=D.m_line.ownX fun _ _ F=>ok_ln (by omega) T cs hs D.tx seen pt F
  exact D.m_branches.ownX fun _ _ F=>ok_br (L:=5+6*n+1+1+1+1+1) (by omega) T D.tx pass ln F
theorem def_mk{x:Str}{st:Stmt}{ps:List Str}{f:Addr}{oc:Value}{od an:Option Addr}{osl:Array (Option Value)}{kV doc pm cdv ct:Value}(X:K.In h)(G:h.Ns mainGlobals mg)(a:W.nsIn K mainGlobals x=some (some (.ref f)))
  (l:K.lookup f=some ⟨oc,od,.func (W.fnOf x x (defArgs st) (defBody st) (defScope st) .none kV doc pm an cdv ct),osl⟩) (c:W.codeIn K cdv x=true) (k:W.keepIn K (.ref f)=true)
  (hb:∀(kV doc pm:Value) (an:Option Addr) (cdv ct:Value) (us:List Value),us.length=ps.length->bindArgs (W.fnOf x x (defArgs st) (defBody st) (defScope st) .none kV doc pm an cdv ct) ⟨us,[]⟩=pure (ps.zip us)):Def K mg x st ps :=
 ⟨f,_,fun_mk (st:=st) l c k,W.mg_of X G a,(fun_mk (st:=st) l c k).binds hb⟩
theorem const_mk1{x:Str}{pl:Addr}{od:Option Addr}{n:Nat}{sl:Array (Option Value)}{x1:Str}{t1:Tok}(X:K.In h)(G:h.Ns mainGlobals mg)(a:W.nsIn K mainGlobals x=some (some (.ref pl)))(l:K.lookup pl=some ⟨.type "tuple",od,.seq #[.str x1 t1] n,sl⟩) :
  ∃pl,mg x=some (.ref pl)/\∀H,SqT K H pl [.str x1]:=⟨pl,W.mg_of X G a,fun H=>.inr ⟨_,_,n,l,rfl,rfl,sz,(.cons ⟨_,rfl⟩ .nil)⟩⟩
theorem const_mk3{x:Str}{pl:Addr}{od:Option Addr}{n:Nat}{sl:Array (Option Value)}{x1 x2 x3:Str}{t1 t2 t3:Tok}(X:K.In h)(G:h.Ns mainGlobals mg)(a:W.nsIn K mainGlobals x=some (some (.ref pl)))(l:K.lookup pl=some ⟨.type "tuple",od,.seq #[.str x1 t1,.str x2 t2,.str x3 t3] n,sl⟩) :
  ∃pl,mg x=some (.ref pl)/\∀H,SqT K H pl [.str x1,.str x2,.str x3]:=⟨pl,W.mg_of X G a,fun H=>.inr ⟨_,_,n,l,rfl,rfl,sz,(.cons ⟨_,rfl⟩ (.cons ⟨_,rfl⟩ (.cons ⟨_,rfl⟩ .nil)))⟩⟩
theorem const_mk5{x:Str}{pl:Addr}{od:Option Addr}{n:Nat}{sl:Array (Option Value)}{x1 x2 x3 x4 x5:Str}{t1 t2 t3 t4 t5:Tok}(X:K.In h)(G:h.Ns mainGlobals mg)(a:W.nsIn K mainGlobals x=some (some (.ref pl)))(l:K.lookup pl=some ⟨.type "tuple",od,.seq #[.str x1 t1,.str x2 t2,.str x3 t3,.str x4 t4,.str x5 t5] n,sl⟩) :
  ∃pl,mg x=some (.ref pl)/\∀H,SqT K H pl [.str x1,.str x2,.str x3,.str x4,.str x5]:=⟨pl,W.mg_of X G a,fun H=>.inr ⟨_,_,n,l,rfl,rfl,sz,(.cons ⟨_,rfl⟩ (.cons ⟨_,rfl⟩ (.cons ⟨_,rfl⟩ (.cons ⟨_,rfl⟩ (.cons ⟨_,rfl⟩ .nil)))))⟩⟩
theorem const_mkI{x:Str}{i:Int}{t:Tok}(X:K.In h)(G:h.Ns mainGlobals mg)(a:W.nsIn K mainGlobals x=some (some (.int i t))):∃t,mg x=some (.int i t):=⟨t,W.mg_of X G a⟩
theorem const_mk7{x:Str}{pl:Addr}{od:Option Addr}{n:Nat}{sl:Array (Option Value)}{x1 x2 x3 x4 x5 x6 x7:Str}{t1 t2 t3 t4 t5 t6 t7:Tok}(X:K.In h)(G:h.Ns mainGlobals mg)(a:W.nsIn K mainGlobals x=some (some (.ref pl)))(l:K.lookup pl=some ⟨.type "tuple",od,.seq #[.str x1 t1,.str x2 t2,.str x3 t3,.str x4 t4,.str x5 t5,.str x6 t6,.str x7 t7] n,sl⟩) :
  ∃pl,mg x=some (.ref pl)/\∀H,SqT K H pl [.str x1,.str x2,.str x3,.str x4,.str x5,.str x6,.str x7]:=⟨pl,W.mg_of X G a,fun H=>.inr ⟨_,_,n,l,rfl,rfl,sz,(.cons ⟨_,rfl⟩ (.cons ⟨_,rfl⟩ (.cons ⟨_,rfl⟩ (.cons ⟨_,rfl⟩ (.cons ⟨_,rfl⟩ (.cons ⟨_,rfl⟩ (.cons ⟨_,rfl⟩ .nil)))))))⟩⟩
theorem own_rec{P:Program}{w:World}{base:Heap}{x:Str}{st:Stmt}{ps:List Str}{sp:Nat->Sp}(D:Def K mg x st ps)(no:∀vs H Q E,¬sp 0 vs H Q E)(step:∀n f fd,Own P w K mg base (2+n) x ps (sp n)->Fun K x x st f fd->FnOk P w K mg base CX0 (2+n+1) f fd ps (sp (n+1))) :
  ∀n,Own P w K mg base (2+n) x ps (sp n)
 |0=>D.own fun f fd F=>FnOk.never no
 |n+1=>D.own fun f fd F=>step n f fd (own_rec D no step n) F
theorem top_mk{l:W.OpenLaw}{w:World}{fa f:Addr}{oc:Value}{od an:Option Addr}{osl:Array (Option Value)}{kV doc pm cdv ct:Value}(X:K.In h)(G:h.Ns mainGlobals mg)(hfa:mg "law" = some (.ref fa))(a:W.nsIn K mainGlobals "law" = some (some (.ref f)))
  (lk:K.lookup f=some ⟨oc,od,.func (W.fnOf "law" "law" (defArgs s_law) (defBody s_law) (defScope s_law) .none kV doc pm an cdv ct),osl⟩) (c:W.codeIn K cdv "law" = true) (k:W.keepIn K (.ref f)=true)
  (rest:∀(base:Heap) (f:Addr) (fd:FuncData),Fun K "law" "law" s_law f fd->FnOk l.prog w K mg base CX0 80 f fd ["_law_script"] (spLaw K)) :
  ∃fd:FuncData,(∀(s:Shared) (v:Value),BindsTo s fd ⟨[v],[]⟩ [("_law_script",v)])/\∀base:Heap,K.In base->base.Ns mainGlobals mg->FnOk l.prog w K mg base CX0 80 fa fd ["_law_script"] (spLaw K):=by
 have e:=hfa.symm.trans (W.mg_of X G a)
 cases e
 exact⟨W.fnOf "law" "law" (defArgs s_law) (defBody s_law) (defScope s_law) .none kV doc pm an cdv ct,fun s v=>.of_eq rfl,fun base _ _=>rest base _ _ (fun_mk (st:=s_law) lk c k)⟩
theorem const_mkD2{w:World}{x:Str}{pl:Addr}{n:Nat}{h1 h2:Int}{k1 k2 v1 v2:Str}{t1 t2 u1 u2:Tok}(X:K.In h)(G:h.Ns mainGlobals mg)(a:W.nsIn K mainGlobals x=some (some (.ref pl)))
  (l:K.lookup pl=some ⟨.type "dict",none,.dict #[⟨h1,.str k1 t1,.str v1 u1⟩,⟨h2,.str k2 t2,.str v2 u2⟩] n,#[]⟩) (hd:(pl==sysModules)=false)
  (e:h1=PyData.keyHash w.params k1/\h2=PyData.keyHash w.params k2) (nd:([(.inr k1),(.inr k2)]:List Key).Nodup) :
  ∃pl,mg x=some (.ref pl)/\DcK K w pl [(.inr k1,.str v1),(.inr k2,.str v2)] :=
 ⟨pl,W.mg_of X G a,dcK_of l hd (.cons (dent_str e.1) (.cons (dent_str e.2) .nil)) nd⟩
theorem const_mkD3{w:World}{x:Str}{pl:Addr}{n:Nat}{h1 h2 h3:Int}{k1 k2 k3 v1 v2 v3:Str}{t1 t2 t3 u1 u2 u3:Tok}(X:K.In h)(G:h.Ns mainGlobals mg)(a:W.nsIn K mainGlobals x=some (some (.ref pl)))
  (l:K.lookup pl=some ⟨.type "dict",none,.dict #[⟨h1,.str k1 t1,.str v1 u1⟩,⟨h2,.str k2 t2,.str v2 u2⟩,⟨h3,.str k3 t3,.str v3 u3⟩] n,#[]⟩) (hd:(pl==sysModules)=false)
  (e:h1=PyData.keyHash w.params k1/\h2=PyData.keyHash w.params k2/\h3=PyData.keyHash w.params k3) (nd:([(.inr k1),(.inr k2),(.inr k3)]:List Key).Nodup) :
  ∃pl,mg x=some (.ref pl)/\DcK K w pl [(.inr k1,.str v1),(.inr k2,.str v2),(.inr k3,.str v3)] :=
 ⟨pl,W.mg_of X G a,dcK_of l hd (.cons (dent_str e.1) (.cons (dent_str e.2.1) (.cons (dent_str e.2.2) .nil))) nd⟩
theorem const_mkD5{w:World}{x:Str}{pl:Addr}{n:Nat}{h1 h2 h3 h4 h5:Int}{k1 k2 k3 k4 k5 v1 v2 v3 v4 v5:Str}{t1 t2 t3 t4 t5 u1 u2 u3 u4 u5:Tok}(X:K.In h)(G:h.Ns mainGlobals mg)(a:W.nsIn K mainGlobals x=some (some (.ref pl)))
  (l:K.lookup pl=some ⟨.type "dict",none,.dict #[⟨h1,.str k1 t1,.str v1 u1⟩,⟨h2,.str k2 t2,.str v2 u2⟩,⟨h3,.str k3 t3,.str v3 u3⟩,⟨h4,.str k4 t4,.str v4 u4⟩,⟨h5,.str k5 t5,.str v5 u5⟩] n,#[]⟩) (hd:(pl==sysModules)=false)
  (e:h1=PyData.keyHash w.params k1/\h2=PyData.keyHash w.params k2/\h3=PyData.keyHash w.params k3/\h4=PyData.keyHash w.params k4/\h5=PyData.keyHash w.params k5) (nd:([(.inr k1),(.inr k2),(.inr k3),(.inr k4),(.inr k5)]:List Key).Nodup) :
  ∃pl,mg x=some (.ref pl)/\DcK K w pl [(.inr k1,.str v1),(.inr k2,.str v2),(.inr k3,.str v3),(.inr k4,.str v4),(.inr k5,.str v5)] :=
 ⟨pl,W.mg_of X G a,dcK_of l hd (.cons (dent_str e.1) (.cons (dent_str e.2.1) (.cons (dent_str e.2.2.1) (.cons (dent_str e.2.2.2.1) (.cons (dent_str e.2.2.2.2) .nil))))) nd⟩
theorem const_mkS{x y:Str}{t:Tok}(X:K.In h)(G:h.Ns mainGlobals mg)(a:W.nsIn K mainGlobals x=some (some (.str y t))):∃t,mg x=some (.str y t):=⟨t,W.mg_of X G a⟩
section
variable{P:Program}{w:World}{base:Heap}
theorem own_text{bt lt bk hw wr wt:Addr}{t1 t2:Tok}(T:Blt mg)(c_STROKED:mg "STROKED" = some (.str stroked t1))(c_STROKED_IN_RUNS:mg "STROKED_IN_RUNS" = some (.str strokedR t2))(c_BARE:mg "BARE" = some (.ref bt))(hBT:DcK K w bt bareT)(c_LISTS:mg "LISTS" = some (.ref lt))(hLT:DcK K w lt listsT)(c_BRACKETS:mg "BRACKETS" = some (.ref bk))(hBK:DcK K w bk bracketsT)(c_HOWS:mg "HOWS" = some (.ref hw))(hHW:DcK K w hw howsT)
  (c_WRAPPED_IN_ROW:mg "WRAPPED_IN_ROW" = some (.ref wr)) (hWR:∀H,SqT K H wr wrapRow) (c_WRAPPED_IN_TIMES:mg "WRAPPED_IN_TIMES" = some (.ref wt)) (hWT:∀H,SqT K H wt wrapTimes)
  (p1:Def K mg "pattern_text" s_pattern_text ["pattern"]) (p2:Def K mg "sign_text" s_sign_text ["sign","stroked"]) (p3:Def K mg "run_text" s_run_text ["low","high"]) (p4:Def K mg "wrapped_text" s_wrapped_text ["part","kinds"]) (p5:Def K mg "turns_text" s_turns_text ["low","high","how"]) :
  ∀n,Own P w K mg base (2+2*n) "pattern_text" ["pattern"] (spTxt n)
 |0=>p1.own fun f fd F=>FnOk.never fun vs H Q E h=>by
  obtain⟨_,_,_,hp,_⟩:=h
  exact hp.elim
 |n+1=>by
  have ih:=own_text T c_STROKED c_STROKED_IN_RUNS c_BARE hBT c_LISTS hLT c_BRACKETS hBK c_HOWS hHW c_WRAPPED_IN_ROW hWR c_WRAPPED_IN_TIMES hWT p1 p2 p3 p4 p5 n
  have sg1:Own P w K mg base 1 "sign_text" ["sign","stroked"] spSg:=p2.own fun _ _ F=>ok_sign_text F
  exact p1.own fun _ _ F=>ok_pattern_text (k:=2*n) T c_STROKED c_BARE hBT c_LISTS hLT c_BRACKETS hBK c_WRAPPED_IN_ROW hWR c_WRAPPED_IN_TIMES hWT sg1 (p3.own fun _ _ F=>ok_run_text c_STROKED_IN_RUNS sg1 F) (p5.own fun _ _ F=>ok_turns_text T c_HOWS hHW F) (p4.own fun _ _ F=>ok_wrapped_text (k:=2*n) ih F) ih F
theorem own_l_text(T:Blt mg)(d1:Def K mg "_law_written" s_l_written ["_law_p"])(d2:Def K mg "_law_signed" s_l_signed ["_law_sign_here","_law_special"])(d3:Def K mg "_law_run_text" s_l_run_text ["_law_run"])(d4:Def K mg "_law_inner" s_l_inner ["_law_p","_law_words"])(d5:Def K mg "_law_leaf_text" s_l_leaf_text ["_law_p"]) :
  ∀n,Own P w K mg base (2+2*n+1) "_law_written" ["_law_p"] (spTxt n)
 |0=>d1.own fun f fd F=>FnOk.never fun vs H Q E h=>by
  obtain⟨_,_,_,hp,_⟩:=h
  exact hp.elim
 |n+1=>by
  have ih:=own_l_text T d1 d2 d3 d4 d5 n
  have sg1:Own P w K mg base 1 "_law_signed" ["_law_sign_here","_law_special"] spSg:=d2.own fun _ _ F=>ok_l_signed F
  have rt:Own P w K mg base 2 "_law_run_text" ["_law_run"] spLRun:=d3.own fun _ _ F=>ok_l_run_text sg1 F
  have lf:Own P w K mg base 3 "_law_leaf_text" ["_law_p"] spLeafT:=d5.own fun _ _ F=>ok_l_leaf_text T sg1 rt F
  have inn:Own P w K mg base (2+2*n+2) "_law_inner" ["_law_p","_law_words"] (spWr K n):=d4.own fun _ _ F=>ok_l_inner (k:=2*n+1) ih F
  exact d1.own fun _ _ F=>ok_l_written (k:=2*n) T lf inn ih F
end
theorem ns_ok{N:Addr}{oc:Value}{od:Option Addr}{es:Array DictEntry}{n:Nat}{osl:Array (Option Value)}(l:K.lookup N=some ⟨oc,od,.dict es n,osl⟩)(hs:(es.toList.all fun e=>match e.key with | .str _ _=>true | _=>false)=true):∀h,K.In h->h.Ns N (nsFind es):=fun h X=>by
 refine⟨_,es,n,X _ _ l,rfl,fun e he=>?_,fun _=>rfl⟩
 have:=List.all_eq_true.mp hs e (by simpa using he)
 cases hk:e.key with
 |str y t=>exact⟨y,t,rfl⟩
 |_=>rw[hk]at this;cases this
theorem kit_no{C D:Addr}{cd:ClassData}(a:W.clsIn K D=some cd)(b:W.typeIn K (.ref D)=some (.type "type"))(c:W.subIn K (.ref C) (.ref D)=some false)(d:(Value.ref C==Value.ref D)=false):W.kitOne K (.ref C) (.ref D)=some false:=by
 unfold W.kitOne
 rw[if_neg (by rw[d];decide)]
 show(if((W.clsIn K D).isSome&&W.typeIn K (.ref D)==some (.type "type"))=true then W.subIn K (.ref C) (.ref D) else none)=_
 rw[a,b,if_pos (by simp),c]
theorem xo_mk{CU CE CM CN CO N N':Addr}{nm q:Str}{bs:List Value}{hdct:Bool}{sn:List Str}{sub:List Value}{ab:Bool}{col:Option Bool}{dd:Option Addr}{k0 k1 k2 k3 k5:Option Value}{oc oc':Value}{od od' dd':Option Addr}{es es':Array DictEntry}{n n':Nat}{osl osl':Array (Option Value)}{nm' q':Str}{bs':List Value}{hdct':Bool}{sn':List Str}{sub':List Value}{ab':Bool}{col':Option Bool}{k0' k1' k2' k3' k5':Option Value}{ni':String}{c1 c2 c3 c4:ClassData}
  (X:K.In h) (G:h.Ns mainGlobals mg) (a1:W.nsIn K mainGlobals "Unread" = some (some (.ref CU))) (l:K.lookup CU=some ⟨.type "type",dd,.cls ⟨nm,bs,[.ref CU,.ref CE,.type "ValueError",.type "Exception",.type "BaseException",.type "object"],N,q,hdct,sn,sub,ab,col,false⟩,#[k0,k1,k2,k3,some (.builtin "ValueError.__new__"),k5]⟩) (ln:K.lookup N=some ⟨oc,od,.dict es n,osl⟩)
  (l':K.lookup CE=some ⟨.type "type",dd',.cls ⟨nm',bs',[.ref CE,.type "ValueError",.type "Exception",.type "BaseException",.type "object"],N',q',hdct',sn',sub',ab',col',false⟩,#[k0',k1',k2',k3',some (.builtin ni'),k5']⟩) (ln':K.lookup N'=some ⟨oc',od',.dict es' n',osl'⟩)
  (s1:(es.toList.all fun e=>match e.key with | .str _ _=>true | _=>false)=true) (s2:(es'.toList.all fun e=>match e.key with | .str _ _=>true | _=>false)=true) (i1:nsFind es "__init__" = none) (i2:nsFind es' "__init__" = none)
  (a2:W.nsIn K mainGlobals "SeekError" = some (some (.ref CE))) (a3:W.nsIn K mainGlobals "Memory" = some (some (.ref CM))) (a4:W.nsIn K mainGlobals "NoForm" = some (some (.ref CN))) (a5:W.nsIn K mainGlobals "Over" = some (some (.ref CO)))
  (z1:W.clsIn K CU=some c1) (z2:W.findIn K (.ref CU) "__getattribute__" = some (some (.builtin "BaseException.__getattribute__"))) (z3:W.findIn K (.ref CU) "__getattr__" = some none) (z4:W.findIn K (.ref CU) "__class__" = some (some (.builtin "object.__class__"))) (z5:W.specialIn K (.builtin "object.__class__") "__get__" = some (some (.builtin "getset_descriptor.__get__"))) (z6:W.takesIn K (.builtin "object.__class__")=some true) (z7:W.mroIn K CU (.type "object")=some true)
  (v1:W.subIn K (.ref CU) (.type "ValueError")=some true) (m1:W.clsIn K CM=some c2) (m2:W.typeIn K (.ref CM)=some (.type "type")) (m3:W.subIn K (.ref CU) (.ref CM)=some false) (m4:(Value.ref CU==Value.ref CM)=false) (o1:W.clsIn K CN=some c3) (o2:W.typeIn K (.ref CN)=some (.type "type")) (o3:W.subIn K (.ref CU) (.ref CN)=some false) (o4:(Value.ref CU==Value.ref CN)=false) (u1:W.clsIn K CO=some c4) (u2:W.typeIn K (.ref CO)=some (.type "type")) (u3:W.subIn K (.ref CU) (.ref CO)=some false) (u4:(Value.ref CU==Value.ref CO)=false) :
  ∃CU CE CM CN CO,XC K mg "Unread" CU CE/\mg "SeekError" = some (.ref CE)/\mg "Memory" = some (.ref CM)/\mg "NoForm" = some (.ref CN)/\mg "Over" = some (.ref CO)/\XUn K CU CE CN CM CO:=by
 have xc:XC K mg "Unread" CU CE:=⟨W.mg_of X G a1,nm,q,N,bs,hdct,sn,sub,ab,col,dd,k0,k1,k2,k3,k5,es,l,ns_ok ln s1,i1,fun h' X'=>.own (X' _ _ l') (ns_ok ln' s2 h' X') i2 .base⟩
 have co':XCo K CE bmV:=⟨nm',q',N',bs',hdct',sn',sub',ab',col',dd',k0',k1',k2',k3',k5',ni',l'⟩
 refine⟨CU,CE,CM,CN,CO,xc,W.mg_of X G a2,W.mg_of X G a3,W.mg_of X G a4,W.mg_of X G a5,⟨⟨_,xc.co,rfl⟩,by rw[z1];rfl,z2,z3,z4,z5,z6,z7⟩,⟨_,_,xc.co,co',rfl,.inr (by simp)⟩,?_,?_,kit_no o1 o2 o3 o4,kit_no m1 m2 m3 m4,kit_no u1 u2 u3 u4⟩
 ·unfold W.kitOne
  rw[if_pos (by simp)]
 ·unfold W.kitOne
  rw[if_neg (by intro z;cases beq_iff_eq.mp z)]
  show(if W.kitMeta "ValueError" = true then W.subIn K (.ref CU) (.type "ValueError") else none)=_
  rw[if_pos (by decide +kernel),v1]
structure DDefs(K:W.Frag)(mg:Str->Option Value):Prop where
 d_take:Def K mg "_law_take" s_l_take ["_law_box","_law_many"]
 d_sign:Def K mg "_law_sign" s_l_sign ["_law_cell"]
 d_letters:Def K mg "_law_letters" s_l_letters ["_law_box"]
 d_runs:Def K mg "_law_runs" s_l_runs ["_law_box","_law_letters_here"]
 d_leaf:Def K mg "_law_leaf" s_l_leaf ["_law_box","_law_letters_here","_law_count"]
 d_parts:Def K mg "_law_parts" s_l_parts ["_law_box","_law_letters_here","_law_count","_law_deep","_law_word"]
 d_times:Def K mg "_law_times" s_l_times ["_law_box","_law_letters_here","_law_count","_law_deep"]
 d_pattern:Def K mg "_law_pattern" s_l_pattern ["_law_box","_law_letters_here","_law_count","_law_deep"]
 d_drawn:Def K mg "_law_drawn" s_l_drawn ["_law_box","_law_letters_here","_law_plain"]
 d_nested:Def K mg "_law_nested" s_l_nested ["_law_box","_law_letters_here","_law_deep"]
 d_wide:Def K mg "_law_wide" s_l_wide ["_law_box","_law_letters_here","_law_one","_law_two"]
 d_beyond:Def K mg "_law_beyond" s_l_beyond ["_law_box","_law_letters_here"]
 d_spoilt:Def K mg "_law_spoilt" s_l_spoilt ["_law_box","_law_line_here","_law_letters_here"]
 d_line:Def K mg "_law_line" s_l_line ["_law_box","_law_letters_here"]
structure PDefs(K:W.Frag)(mg:Str->Option Value):Prop where
 p_parts_of:Def K mg "parts_of" s_parts_of ["pattern"]
 p_groups_in:Def K mg "groups_in" s_groups_in ["pattern"]
 p_patterns_in:Def K mg "patterns_in" s_patterns_in ["pattern"]
 p_depth:Def K mg "depth" s_depth ["pattern"]
 p_runs_keep:Def K mg "runs_keep" s_runs_keep ["runs"]
 p_parts_keep:Def K mg "parts_keep" s_parts_keep ["parts"]
 p_turns_keep:Def K mg "turns_keep" s_turns_keep ["low","high"]
 p_keeps:Def K mg "keeps" s_keeps ["pattern","groups"]
 p_all_keep:Def K mg "all_keep" s_all_keep ["pattern","groups"]
 p_keeps_bounds:Def K mg "keeps_bounds" s_keeps_bounds ["pattern"]
 p_is_sign:Def K mg "is_sign" s_is_sign ["sign"]
 p_read_pattern:Def K mg "read_pattern" s_read_pattern ["text"]
 p_pattern_text:Def K mg "pattern_text" s_pattern_text ["pattern"]
 p_sign_text:Def K mg "sign_text" s_sign_text ["sign","stroked"]
 p_run_text:Def K mg "run_text" s_run_text ["low","high"]
 p_wrapped_text:Def K mg "wrapped_text" s_wrapped_text ["part","kinds"]
 p_turns_text:Def K mg "turns_text" s_turns_text ["low","high","how"]
structure LDefs(K:W.Frag)(mg:Str->Option Value):Prop where
 l_written:Def K mg "_law_written" s_l_written ["_law_p"]
 l_signed:Def K mg "_law_signed" s_l_signed ["_law_sign_here","_law_special"]
 l_run_text:Def K mg "_law_run_text" s_l_run_text ["_law_run"]
 l_inner:Def K mg "_law_inner" s_l_inner ["_law_p","_law_words"]
 l_leaf_text:Def K mg "_law_leaf_text" s_l_leaf_text ["_law_p"]
 l_parts_of:Def K mg "_law_parts_of" s_l_parts_of ["_law_p"]
 l_text_like:Def K mg "_law_text_like" s_l_text_like ["_law_found","_law_size_here"]
 l_number:Def K mg "_law_number" s_l_number ["_law_found","_law_low","_law_high"]
 l_good_runs:Def K mg "_law_good_runs" s_l_good_runs ["_law_runs_here"]
 l_good_turns:Def K mg "_law_good_turns" s_l_good_turns ["_law_p"]
 l_good_head:Def K mg "_law_good_head" s_l_good_head ["_law_p","_law_seen","_law_total"]
 l_size:Def K mg "_law_size" s_l_size ["_law_p","_law_seen","_law_total","_law_deep"]
 l_good:Def K mg "_law_good" s_l_good ["_law_p","_law_total"]
 l_refused:Def K mg "_law_refused" s_l_refused ["_law_pattern_like"]
theorem own_recP{P:Program}{w:World}{base:Heap}{x:Str}{st:Stmt}{ps:List Str}{sp:Nat->Sp}(D:Def K mg x st ps)(no:∀vs H Q E,¬sp 0 vs H Q E)(step:∀n f fd,Own P w K mg base (2+n) x ps (sp n)->Fun K x x st f fd->FnOk P w K mg base CX0 (2+n+1) f fd ps (sp (n+1))) :
  ∀n,Own P w K mg base (2+n) x ps (sp n)
 |0=>D.own fun f fd F=>FnOk.never no
 |n+1=>D.own fun f fd F=>step n f fd (own_recP D no step n) F
theorem own_recQ{P:Program}{w:World}{base:Heap}{x:Str}{st:Stmt}{ps:List Str}{sp:Nat->Sp}(D:Def K mg x st ps)(no:∀vs H Q E,¬sp 0 vs H Q E)(step:∀n f fd,Own P w K mg base (4+n) x ps (sp n)->Fun K x x st f fd->FnOk P w K mg base CX0 (4+n+1) f fd ps (sp (n+1))) :
  ∀n,Own P w K mg base (4+n) x ps (sp n)
 |0=>D.own fun f fd F=>FnOk.never no
 |n+1=>D.own fun f fd F=>step n f fd (own_recQ D no step n) F
theorem law_of{P:Program}{w:World}{CR CU CE CM CN CO:Addr}(T:Blt mg)(C:RCs K w mg)(R:RDefs K mg CR)(D:DDefs K mg)(Pd:PDefs K mg)(L:LDefs K mg)(b_ValueError:mg "ValueError" = none)(xc:XC K mg "Unread" CU CE)(x1:mg "SeekError" = some (.ref CE))(x2:mg "Memory" = some (.ref CM))(x3:mg "NoForm" = some (.ref CN))(x4:mg "Over" = some (.ref CO))(Z:XUn K CU CE CN CM CO)
  (base:Heap) (f:Addr) (fd:FuncData) (F:Fun K "law" "law" s_law f fd):FnOk P w K mg base CX0 80 f fd ["_law_script"] (spLaw K):=by
 have take:Own P w K mg base 1 "_law_take" ["_law_box","_law_many"] spTake:=D.d_take.own fun _ _ F=>ok_take F
 have sign:Own P w K mg base 1 "_law_sign" ["_law_cell"] spSign:=D.d_sign.own fun _ _ F=>ok_sign F
 have letters:Own P w K mg base 2 "_law_letters" ["_law_box"] spLetters:=D.d_letters.own fun _ _ F=>ok_letters T take sign F
 have runs:Own P w K mg base 2 "_law_runs" ["_law_box","_law_letters_here"] spRuns:=D.d_runs.own fun _ _ F=>ok_runs T take F
 have leaf:Own P w K mg base 3 "_law_leaf" ["_law_box","_law_letters_here","_law_count"] spLeaf:=D.d_leaf.own fun _ _ F=>ok_leaf T take runs F
 have pat:=own_pattern T take leaf D.d_parts D.d_times D.d_pattern 4
 have drawn:Own P w K mg base 13 "_law_drawn" ["_law_box","_law_letters_here","_law_plain"] spDrawn:=D.d_drawn.own fun _ _ F=>ok_drawn T take runs pat F
 have nested:Own P w K mg base 2 "_law_nested" ["_law_box","_law_letters_here","_law_deep"] spNested:=D.d_nested.own fun _ _ F=>ok_nested T take F
 have wide:Own P w K mg base 2 "_law_wide" ["_law_box","_law_letters_here","_law_one","_law_two"] spWide:=D.d_wide.own fun _ _ F=>ok_wide T take F
 have beyond:Own P w K mg base 3 "_law_beyond" ["_law_box","_law_letters_here"] spBy:=D.d_beyond.own fun _ _ F=>ok_by T take nested wide F
 have spoilt:Own P w K mg base 2 "_law_spoilt" ["_law_box","_law_line_here","_law_letters_here"] spSp:=D.d_spoilt.own fun _ _ F=>ok_sp T take F
 obtain⟨t1,c1⟩:=C.str
 obtain⟨t2,c2⟩:=C.strR
 obtain⟨bt,c3,h3⟩:=C.bare
 obtain⟨lt,c4,h4⟩:=C.lists
 obtain⟨bk,c5,h5⟩:=C.brk
 obtain⟨hw,c6,h6⟩:=C.hows
 obtain⟨wr,c7,h7⟩:=C.wr
 obtain⟨wt,c8,h8⟩:=C.wt
 obtain⟨pl,c9,h9⟩:=C.pl
 obtain⟨u1,k1⟩:=C.deep
 obtain⟨u2,k2⟩:=C.groups
 obtain⟨u3,k3⟩:=C.pats
 obtain⟨u4,k4⟩:=C.parts
 obtain⟨u5,k5⟩:=C.runs
 obtain⟨u6,k6⟩:=C.turns
 obtain⟨u7,k7⟩:=C.blank
 obtain⟨u8,k8⟩:=C.last
 obtain⟨u9,k9⟩:=C.per
 have pt:=own_text (P:=P) (w:=w) (base:=base) T c1 c2 c3 h3 c4 h4 c5 h5 c6 h6 c7 h7 c8 h8 Pd.p_pattern_text Pd.p_sign_text Pd.p_run_text Pd.p_wrapped_text Pd.p_turns_text 8
 have lt:=own_l_text (P:=P) (w:=w) (base:=base) T L.l_written L.l_signed L.l_run_text L.l_inner L.l_leaf_text 10
 have line:Own P w K mg base 24 "_law_line" ["_law_box","_law_letters_here"] spLi:=D.d_line.own fun _ _ F=>ok_li T take beyond drawn lt spoilt F
 have po:Own P w K mg base 1 "parts_of" ["pattern"] spPartsOf:=Pd.p_parts_of.own fun _ _ F=>ok_parts_of c9 h9 F
 have noG:∀vs H Q E,¬spG 0 vs H Q E:=fun vs H Q E ⟨_,_,_,hp,_⟩=>hp.elim
 have noZ:∀vs H Q E,¬spZ 0 vs H Q E:=fun vs H Q E ⟨_,_,_,hp,_⟩=>hp.elim
 have noD:∀vs H Q E,¬spDp 0 vs H Q E:=fun vs H Q E ⟨_,_,_,hp,_⟩=>hp.elim
 have noK:∀vs H Q E,¬spKs 0 vs H Q E:=fun vs H Q E ⟨_,_,_,_,hp,_⟩=>hp.elim
 have gi:=own_recP (P:=P) (w:=w) (base:=base) (sp:=spG) Pd.p_groups_in noG (fun n f fd O F=>ok_groups_in T po O F) 36
 have pi:=own_recP (P:=P) (w:=w) (base:=base) (sp:=spZ) Pd.p_patterns_in noZ (fun n f fd O F=>ok_patterns_in T po O F) 36
 have dp:=own_recP (P:=P) (w:=w) (base:=base) (sp:=spDp) Pd.p_depth noD (fun n f fd O F=>ok_depth T po O F) 36
 have rk:Own P w K mg base 1 "runs_keep" ["runs"] spRk:=Pd.p_runs_keep.own fun _ _ F=>ok_runs_keep T k5 F
 have pk:Own P w K mg base 1 "parts_keep" ["parts"] spPk:=Pd.p_parts_keep.own fun _ _ F=>ok_parts_keep T k4 F
 have tk:Own P w K mg base 1 "turns_keep" ["low","high"] spTkp:=Pd.p_turns_keep.own fun _ _ F=>ok_turns_keep k6 F
 have ak:=own_recP (P:=P) (w:=w) (base:=base) (sp:=spKs) Pd.p_all_keep noK (fun n f fd O F=>ok_all_keep T po (Pd.p_keeps.own fun _ _ F=>ok_keeps T rk pk tk F) O F) 36
 have kb:Own P w K mg base 39 "keeps_bounds" ["pattern"] (spKb 36):=Pd.p_keeps_bounds.own fun _ _ F=>ok_kb k2 k3 k1 gi pi dp ak F
 have isg:Own P w K mg base 1 "is_sign" ["sign"] spIs:=Pd.p_is_sign.own fun _ _ F=>ok_is_sign T k7 k8 k9 F
 have br:=(own_br (P:=P) (base:=base) T C xc R 9).mono (show 5+6*9<=70 by decide)
 have seen:OwnM P w K mg base 1 CR "seen" ["self"] (spSeen CR):=R.m_seen.own fun _ _ F=>ok_seen R.tx F
 have tk2:OwnM P w K mg base 2 CR "take" ["self"] (spTakeR CR):=R.m_take.own fun _ _ F=>ok_taker R.tx seen F
 have need:OwnMX P w K mg base 3 CR "need" ["self","sign"] (spNeed CR CU):=R.m_need.ownX fun _ _ F=>ok_need R.tx xc tk2 F
 have rd:OwnC P w K mg base 1 CR "Reader" ["self","text"] (spRIn CR):=by
  obtain⟨f,fd,F,M,b⟩:=R.init
  exact⟨f,fd,ok_rin R.tx F,⟨R.mks,M.at_,M.fn,R.kc⟩,R.mg_,b⟩
 have rp:OwnX P w K mg base 71 "read_pattern" ["text"] (spRp CU):=Pd.p_read_pattern.ownX fun _ _ F=>ok_rp T R.tx xc isg rd br need kb pt F
 have rf:Own P w K mg base 72 "_law_refused" ["_law_pattern_like"] spRf:=L.l_refused.own fun _ _ F=>ok_rf T b_ValueError x1 x3 x2 x4 xc.mgx Z rp F
 have lpo:Own P w K mg base 1 "_law_parts_of" ["_law_p"] spLPartsOf:=L.l_parts_of.own fun _ _ F=>ok_l_parts_of T F
 have tlk:Own P w K mg base 1 "_law_text_like" ["_law_found","_law_size_here"] spTl:=L.l_text_like.own fun _ _ F=>ok_tlk T F
 have nb:Own P w K mg base 1 "_law_number" ["_law_found","_law_low","_law_high"] spNb:=L.l_number.own fun _ _ F=>ok_nb T F
 have grn:Own P w K mg base 2 "_law_good_runs" ["_law_runs_here"] spGrn:=L.l_good_runs.own fun _ _ F=>ok_grn T tlk F
 have gtu:Own P w K mg base 2 "_law_good_turns" ["_law_p"] spGtu:=L.l_good_turns.own fun _ _ F=>ok_gtu T nb F
 have gh:Own P w K mg base 3 "_law_good_head" ["_law_p","_law_seen","_law_total"] spGh:=L.l_good_head.own fun _ _ F=>ok_gh T tlk nb grn gtu F
 have noS:∀vs H Q E,¬spSz 0 vs H Q E:=fun vs H Q E ⟨_,_,_,_,_,_,_,_,_,hp,_,_,_,_,_⟩=>hp.elim
 have szz:=own_recQ (P:=P) (w:=w) (base:=base) (sp:=spSz) L.l_size noS (fun n f fd O F=>ok_sz T gh lpo O F) 8
 have gd:Own P w K mg base 13 "_law_good" ["_law_p","_law_total"] spGd:=L.l_good.own fun _ _ F=>ok_gd T szz F
 exact ok_law T xc letters line rp rf gd lt F
end
theorem walk{l:W.OpenLaw}{q:Program}{loose:List Str}{XP:(Str->Option Value)->Heap->Prop}{YP:World->Heap->Prop}{d:DefRec}{K:Params->W.Frag}(hn:l.most=some 63)(hdf:d.params.defaults=[])
  (hY:∀(w:World) (h:Heap),YP w h->(K w.params).In h)
  (F:∀(w:World) (mg:Str->Option Value) (fa:Addr) (h:Heap),(K w.params).In h->h.Ns mainGlobals mg->mg d.name=some (.ref fa) ->
   ∃fd:FuncData,(∀(s:Shared) (u:Value),BindsTo s fd ⟨[u],[]⟩ [("_law_script",u)])/\∀base:Heap,(K w.params).In base->base.Ns mainGlobals mg->FnOk l.prog w (K w.params) mg base CX0 80 fa fd ["_law_script"] (spLaw (K w.params))) :
  W.WalkO q loose XP YP l.row.toRowW d [] (fun f vs=>PySem.call f vs) :=
 L2.walk_of (n:=63) (k:=80) (x:="_law_script") (CX:=fun _=>CX0) (sp:=fun w=>spLaw (K w.params)) hn (by decide) hdf ⟨rfl,by decide,by decide⟩ hY F (fun _ _ a ns hl _ hS=>⟨a,ns,rfl,hS,hl,fun _=>rfl⟩) fun _ _ _ _ _ z=>z
end Seek
namespace PySem.W.Fast
def tw4591351545115129994:=0
def tw5436779250126166955:=0
def tw10747351367979674253:=0
def tw16163722190588217918:=0
def tw1460699507018127654:=0
def tw15925436466789279791:=0
def tw943414566942212381:=0
def tw105857736921273206:=0
def tw12685095042196174231:=0
def tw4567663280167382658:=0
def tw3635359182415921590:=0
def tw5120922714277779099:=0
def tw9481107883101167901:=0
def tw17839015434168608761:=0
def tw8798584345759355567:=0
def tw11448414414817274737:=0
def tw16131549860258204820:=0
def tw5036813135423638017:=0
def tw17983368441560513396:=0
def tw10939446119285657016:=0
def tw18171010808757836493:=0
def tw14559187294478032066:=0
def tw18179503223707122808:=0
def tw1602530321455304317:=0
def tw15289605902307876003:=0
def tw9192858707762138292:=0
def tw5455259056043330348:=0
def tw10437841425657954576:=0
def tw14474075743305942323:=0
def tw14945852100607531093:=0
def tw1985371930605923271:=0
def tw18269370556091207373:=0
def tw14311644989636376533:=0
def tw4349358968415868462:=0
def tw7743779201164829044:=0
def tw6130019714736513630:=0
def tw2208767403112173086:=0
def tw4957430537521441961:=0
def tw1073658910967257962:=0
def tw9707843418813509716:=0
def tw84819934877885728:=0
def tw13581658384602791449:=0
def tw6395018623725775381:=0
def tw6655301311087567897:=0
def tw13660618909052055161:=0
def tw4762619069245279325:=0
def tw6773019619791862985:=0
def tw450471014074081968:=0
def tw505573328626478772:=0
def tw907239005940288939:=0
def tw16138419168953868167:=0
def tw7219389004753663314:=0
def tw11900570596789867582:=0
def tw343326890125550981:=0
def tw2068653872058025649:=0
def tw7977904518521286023:=0
def tw16984493425414783622:=0
def tw16054204380309322685:=0
def tw18290874760648466360:=0
def tw358087424284534255:=0
def tw9147584472180175419:=0
def tw4711765520594853419:=0
def tw5013764812696169991:=0
def tw4522444845901001605:=0
def tw16953951849757270911:=0
def tw12269060175661992436:=0
def tw14931865915480124021:=0
def tw17240565432489510504:=0
def tw1044251223625025947:=0
def tw3496229690942532022:=0
def tw6092494253196356381:=0
def tw4520600506682582040:=0
def tw946286838733864525:=0
def tw17456948502474051788:=0
def tw16071911122883720749:=0
def tw32662301438147786:=0
def tw12560056998249222447:=0
def tw12710414697082881743:=0
def tw10689029939814600516:=0
def tw8413957677213586504:=0
def tw14631301087643742503:=0
def tw18400085947062784694:=0
def tw15001397503634423651:=0
def tw14965645514558915780:=0
def tw11155924731820706729:=0
def tw9067158636829924449:=0
def tw511790149042352063:=0
def tw18437757555212822268:=0
def tw11465824175613540907:=0
def tw15650522776256975530:=0
def tw709323184398439703:=0
def tw1551676157688988270:=0
def tw18002403660661415565:=0
def tw14865365148098645280:=0
def tw16623385158963203807:=0
def tw5771976187593349657:=0
def tw6571135033807667255:=0
def tw4477641096529693830:=0
def tw8596938651245776218:=0
def tw11247499841537887324:=0
def tw13786108902347577458:=0
def tw8571147893761666053:=0
def tw10390162712553191795:=0
def tw10320421911334692220:=0
def tw11975762039235332958:=0
def tw13293356528704488577:=0
def tw15279437978484987133:=0
def tw1839619419604151537:=0
def tw6066958669258280928:=0
def tw5873269755609395016:=0
def tw17320302181256545387:=0
def tw6572700686889013300:=0
def tw5874605705152288623:=0
def tw8970278690097692423:=0
def tw10997750299148868935:=0
def tw16240396464677494898:=0
def tw2388445556160122123:=0
def tw13217832773775340730:=0
def tw15082079527932646919:=0
def tw12064207498139658916:=0
def tw16965389853258821238:=0
def tw17182039749303975304:=0
def tw470643447618691115:=0
def tw12014732554926178091:=0
def tw5668510110486335408:=0
def tw8727180500632498619:=0
def tw2952847364505414539:=0
def tw6222090741909224630:=0
def tw10811176809427715892:=0
def tw5337379685653498856:=0
def tw673051061370705437:=0
def tw16005504932303288672:=0
def tw6607074104214371865:=0
def tw7817682546822500564:=0
def tw12000026073398659106:=0
def tw6570042013858969403:=0
def tw16571587647686396379:=0
def tw14702759054596953932:=0
def tw5989552392420251366:=0
def tw11327817086534652364:=0
def tw6012144338728117082:=0
def tw373874731489861336:=0
def tw8641790524944596703:=0
def tw7573675130530163027:=0
def tw13566135769569518845:=0
def tw1883255181259831103:=0
def tw8206139160624320072:=0
def tw1820706192942407085:=0
def tw15557599591189255420:=0
def tw2049968159723685997:=0
def tw8484241328809622541:=0
def tw6465608624447172120:=0
def tw1644661357637663409:=0
def tw3905950992099818575:=0
def tw1224235729571017424:=0
def tw16844095247986754281:=0
def tw10370054170144240241:=0
def tw5427568565004839924:=0
def tw9460578305645401119:=0
def tw18307313995191198522:=0
def tw4809078734066920004:=0
def tw1217490886830740774:=0
def tw11463231679658856501:=0
def tw8537043220806254146:=0
def tw17031101555861223493:=0
def tw7093823239909998735:=0
def tw5285704535004164174:=0
def tw16322218657073476241:=0
def tw4336284362903332594:=0
def tw6269338645992240696:=0
def tw7618851375331133751:=0
def tw1968815122804587807:=0
def tw15023320071324364262:=0
def tw1566336721629252592:=0
def tw62873607058626147:=0
def tw11746739847417254519:=0
def tw3490863482684753861:=0
def tw11797018832743898038:=0
def tw16815013446333581886:=0
def tw12359949030087069972:=0
def tw5262645891776499092:=0
def tw4840792747294656092:=0
def tw8558166820326619202:=0
def tw555918537022604912:=0
def tw3473913307771539963:=0
def tw10819648005920812353:=0
def tw11248790022513428973:=0
def tw16327223836769782334:=0
def tw7740915004424408149:=0
def tw2920974119244808808:=0
def tw16430500794349621942:=0
def tw4770526555726401547:=0
def tw1977611739419699356:=0
def tw15455629452651633819:=0
def tw9778697703258832664:=0
def tw1975890556718506366:=0
def tw423177274227452546:=0
def tw11899047973690451706:=0
def tw3908709596927003041:=0
def tw7955179605504038313:=0
def tw3432969590965769403:=0
def tw17342169259907655953:=0
def tw15552817838199164607:=0
def tw6026144466284684259:=0
def tw16518828883116231682:=0
def tw10025235839411784268:=0
def tw7235791099836299881:=0
def tw15834726300543360505:=0
def tw17402414956420415104:=0
def tw11715948479287061768:=0
def tw4979317893060534522:=0
def tw2218055690552791241:=0
def tw592278974404034803:=0
def tw9593615189397195988:=0
def tw8382199135111068277:=0
def tw16744076255115539007:=0
def tw14657690112767052874:=0
def tw16247155526490817911:=0
def tw1517781343848511742:=0
def tw2076417287940944347:=0
def tw17084257924479050342:=0
def tw841596124754165559:=0
def tw1295723143339623236:=0
def tw13730340123401752648:=0
def tw12145469613065574349:=0
def tw7289140953779321798:=0
def tw5870824452219004534:=0
def tw5099095112501574737:=0
def tw5004203436874099771:=0
def tw4942656288548140445:=0
def tw3722348917796534666:=0
def tw2968996181696280139:=0
def tw14720851997344377074:=0
def tw13050506066765033952:=0
def tw10816689983747601374:=0
def tw10533731803748383821:=0
def tw10878531760426725168:=0
end PySem.W.Fast
open PySem PySem.W PyProof.Rows
set_option maxRecDepth 100000 in
set_option maxHeartbeats 0 in
theorem PySem.Challenge.cw_seek_k05_whole_texts_read_holds : PySem.Challenge.rw_seek_k05_whole_texts_read.Holds := by
 w_on;o_law;k_head;(case hw=>w_witness2)
 k_fill
 refine Seek.walk (l:=PySem.Challenge.rw_seek_k05_whole_texts_read) rfl rfl (fun w h Y=>W.kIn_of Y) ?F
 case F =>
  intro w mg fa h KX G hmg
  have z:∀ {x:Str} {K:W.Frag},K.In h->W.nsIn K mainGlobals x=some none->mg x=none:=fun X e=>W.mg_none_of X G e
  have T:Seek.Blt mg:=by
   refine'⟨z KX ?b1,z KX ?b2,z KX ?b3,z KX ?b4,z KX ?b5,z KX ?b6,z KX ?b7,z KX ?b8,z KX ?b9,z KX ?b10,z KX ?b11,z KX ?b12,z KX ?b13⟩
   (case b1=>k_is);(case b2=>k_is);(case b3=>k_is);(case b4=>k_is);(case b5=>k_is);(case b6=>k_is);(case b7=>k_is);(case b8=>k_is);(case b9=>k_is);(case b10=>k_is);(case b11=>k_is);(case b12=>k_is);(case b13=>k_is)
  have rd:∃CR,Seek.RDefs (L2.KOf KX) mg CR:=by
   dsimp only[L2.KOf]
   exact(by
   refine'⟨_,⟨W.mg_of KX G ?aC,Seek.txtR_mk ?pg ?hd ?po ?sa ?na1 ?na2 ?na3 ?na4,?mk,?kc,Seek.mdef_mk (m:="__init__") (qual:="Reader.__init__") (st:=Seek.s_Reader___init__) (ps:=["self","text"]) ?m0a ?m0i ?m0l ?m0c ?m0k (fun _ _ _ _ _ _ us hl=>match us,hl with | [_,_],_=>rfl),Seek.mdef_mk (m:="seen") (qual:="Reader.seen") (st:=Seek.s_Reader_seen) (ps:=["self"]) ?m1a ?m1i ?m1l ?m1c ?m1k (fun _ _ _ _ _ _ us hl=>match us,hl with | [_],_=>rfl),Seek.mdef_mk (m:="take") (qual:="Reader.take") (st:=Seek.s_Reader_take) (ps:=["self"]) ?m2a ?m2i ?m2l ?m2c ?m2k (fun _ _ _ _ _ _ us hl=>match us,hl with | [_],_=>rfl),Seek.mdef_mk (m:="passes") (qual:="Reader.passes") (st:=Seek.s_Reader_passes) (ps:=["self","sign"]) ?m3a ?m3i ?m3l ?m3c ?m3k (fun _ _ _ _ _ _ us hl=>match us,hl with | [_,_],_=>rfl),Seek.mdef_mk (m:="need") (qual:="Reader.need") (st:=Seek.s_Reader_need) (ps:=["self","sign"]) ?m4a ?m4i ?m4l ?m4c ?m4k (fun _ _ _ _ _ _ us hl=>match us,hl with | [_,_],_=>rfl),Seek.mdef_mk (m:="branches") (qual:="Reader.branches") (st:=Seek.s_Reader_branches) (ps:=["self"]) ?m5a ?m5i ?m5l ?m5c ?m5k (fun _ _ _ _ _ _ us hl=>match us,hl with | [_],_=>rfl),Seek.mdef_mk (m:="line") (qual:="Reader.line") (st:=Seek.s_Reader_line) (ps:=["self"]) ?m6a ?m6i ?m6l ?m6c ?m6k (fun _ _ _ _ _ _ us hl=>match us,hl with | [_],_=>rfl),Seek.mdef_mk (m:="part") (qual:="Reader.part") (st:=Seek.s_Reader_part) (ps:=["self"]) ?m7a ?m7i ?m7l ?m7c ?m7k (fun _ _ _ _ _ _ us hl=>match us,hl with | [_],_=>rfl),Seek.mdef_mk (m:="single") (qual:="Reader.single") (st:=Seek.s_Reader_single) (ps:=["self"]) ?m8a ?m8i ?m8l ?m8c ?m8k (fun _ _ _ _ _ _ us hl=>match us,hl with | [_],_=>rfl),Seek.mdef_mk (m:="within") (qual:="Reader.within") (st:=Seek.s_Reader_within) (ps:=["self","close"]) ?m9a ?m9i ?m9l ?m9c ?m9k (fun _ _ _ _ _ _ us hl=>match us,hl with | [_,_],_=>rfl),Seek.mdef_mk (m:="group") (qual:="Reader.group") (st:=Seek.s_Reader_group) (ps:=["self"]) ?m10a ?m10i ?m10l ?m10c ?m10k (fun _ _ _ _ _ _ us hl=>match us,hl with | [_],_=>rfl),Seek.mdef_mk (m:="bracket") (qual:="Reader.bracket") (st:=Seek.s_Reader_bracket) (ps:=["self"]) ?m11a ?m11i ?m11l ?m11c ?m11k (fun _ _ _ _ _ _ us hl=>match us,hl with | [_],_=>rfl),Seek.mdef_mk (m:="listed") (qual:="Reader.listed") (st:=Seek.s_Reader_listed) (ps:=["self"]) ?m12a ?m12i ?m12l ?m12c ?m12k (fun _ _ _ _ _ _ us hl=>match us,hl with | [_],_=>rfl),Seek.mdef_mk (m:="run") (qual:="Reader.run") (st:=Seek.s_Reader_run) (ps:=["self"]) ?m13a ?m13i ?m13l ?m13c ?m13k (fun _ _ _ _ _ _ us hl=>match us,hl with | [_],_=>rfl),Seek.mdef_mk (m:="sign") (qual:="Reader.sign") (st:=Seek.s_Reader_sign) (ps:=["self","stroked"]) ?m14a ?m14i ?m14l ?m14c ?m14k (fun _ _ _ _ _ _ us hl=>match us,hl with | [_,_],_=>rfl),Seek.mdef_mk (m:="digit") (qual:="Reader.digit") (st:=Seek.s_Reader_digit) (ps:=["self"]) ?m15a ?m15i ?m15l ?m15c ?m15k (fun _ _ _ _ _ _ us hl=>match us,hl with | [_],_=>rfl),Seek.mdef_mk (m:="turns") (qual:="Reader.turns") (st:=Seek.s_Reader_turns) (ps:=["self","part"]) ?m16a ?m16i ?m16l ?m16c ?m16k (fun _ _ _ _ _ _ us hl=>match us,hl with | [_,_],_=>rfl)⟩⟩
   (case aC=>k_is);(case pg=>k_is);(case hd=>k_is);(case po=>k_is);(case sa=>k_is);(case na1=>k_is);(case na2=>k_is);(case na3=>k_is);(case na4=>k_is);(case mk=>k_is);(case kc=>k_is);(case m0a=>k_is);(case m0i=>k_is);(case m0l=>k_is);(case m0c=>k_is);(case m0k=>k_is);(case m1a=>k_is);(case m1i=>k_is);(case m1l=>k_is);(case m1c=>k_is);(case m1k=>k_is);(case m2a=>k_is);(case m2i=>k_is);(case m2l=>k_is);(case m2c=>k_is);(case m2k=>k_is);(case m3a=>k_is);(case m3i=>k_is);(case m3l=>k_is);(case m3c=>k_is);(case m3k=>k_is);(case m4a=>k_is);(case m4i=>k_is);(case m4l=>k_is);(case m4c=>k_is);(case m4k=>k_is);(case m5a=>k_is);(case m5i=>k_is);(case m5l=>k_is);(case m5c=>k_is);(case m5k=>k_is);(case m6a=>k_is);(case m6i=>k_is);(case m6l=>k_is);(case m6c=>k_is);(case m6k=>k_is);(case m7a=>k_is);(case m7i=>k_is);(case m7l=>k_is);(case m7c=>k_is);(case m7k=>k_is);(case m8a=>k_is);(case m8i=>k_is);(case m8l=>k_is);(case m8c=>k_is);(case m8k=>k_is);(case m9a=>k_is);(case m9i=>k_is);(case m9l=>k_is);(case m9c=>k_is);(case m9k=>k_is);(case m10a=>k_is);(case m10i=>k_is);(case m10l=>k_is);(case m10c=>k_is);(case m10k=>k_is);(case m11a=>k_is);(case m11i=>k_is);(case m11l=>k_is);(case m11c=>k_is);(case m11k=>k_is);(case m12a=>k_is);(case m12i=>k_is);(case m12l=>k_is);(case m12c=>k_is);(case m12k=>k_is);(case m13a=>k_is);(case m13i=>k_is);(case m13l=>k_is);(case m13c=>k_is);(case m13k=>k_is);(case m14a=>k_is);(case m14i=>k_is);(case m14l=>k_is);(case m14c=>k_is);(case m14k=>k_is);(case m15a=>k_is);(case m15i=>k_is);(case m15l=>k_is);(case m15c=>k_is);(case m15k=>k_is);(case m16a=>k_is);(case m16i=>k_is);(case m16l=>k_is);(case m16c=>k_is);(case m16k=>k_is))
  have d0:=(by
   refine' Seek.def_mk (x:="_law_take") (st:=Seek.s_l_take) (ps:=["_law_box","_law_many"]) KX G ?a ?l ?c ?k (fun _ _ _ _ _ _ us hl=>match us,hl with | [_,_],_=>rfl)
   (case a=>k_is);(case l=>k_is);(case c=>k_is);(case k=>k_is))
  have d1:=(by
   refine' Seek.def_mk (x:="_law_sign") (st:=Seek.s_l_sign) (ps:=["_law_cell"]) KX G ?a ?l ?c ?k (fun _ _ _ _ _ _ us hl=>match us,hl with | [_],_=>rfl)
   (case a=>k_is);(case l=>k_is);(case c=>k_is);(case k=>k_is))
  have d2:=(by
   refine' Seek.def_mk (x:="_law_letters") (st:=Seek.s_l_letters) (ps:=["_law_box"]) KX G ?a ?l ?c ?k (fun _ _ _ _ _ _ us hl=>match us,hl with | [_],_=>rfl)
   (case a=>k_is);(case l=>k_is);(case c=>k_is);(case k=>k_is))
  have d3:=(by
   refine' Seek.def_mk (x:="_law_runs") (st:=Seek.s_l_runs) (ps:=["_law_box","_law_letters_here"]) KX G ?a ?l ?c ?k (fun _ _ _ _ _ _ us hl=>match us,hl with | [_,_],_=>rfl)
   (case a=>k_is);(case l=>k_is);(case c=>k_is);(case k=>k_is))
  have d4:=(by
   refine' Seek.def_mk (x:="_law_leaf") (st:=Seek.s_l_leaf) (ps:=["_law_box","_law_letters_here","_law_count"]) KX G ?a ?l ?c ?k (fun _ _ _ _ _ _ us hl=>match us,hl with | [_,_,_],_=>rfl)
   (case a=>k_is);(case l=>k_is);(case c=>k_is);(case k=>k_is))
  have d5:=(by
   refine' Seek.def_mk (x:="_law_parts") (st:=Seek.s_l_parts) (ps:=["_law_box","_law_letters_here","_law_count","_law_deep","_law_word"]) KX G ?a ?l ?c ?k (fun _ _ _ _ _ _ us hl=>match us,hl with | [_,_,_,_,_],_=>rfl)
   (case a=>k_is);(case l=>k_is);(case c=>k_is);(case k=>k_is))
  have d6:=(by
   refine' Seek.def_mk (x:="_law_times") (st:=Seek.s_l_times) (ps:=["_law_box","_law_letters_here","_law_count","_law_deep"]) KX G ?a ?l ?c ?k (fun _ _ _ _ _ _ us hl=>match us,hl with | [_,_,_,_],_=>rfl)
   (case a=>k_is);(case l=>k_is);(case c=>k_is);(case k=>k_is))
  have d7:=(by
   refine' Seek.def_mk (x:="_law_pattern") (st:=Seek.s_l_pattern) (ps:=["_law_box","_law_letters_here","_law_count","_law_deep"]) KX G ?a ?l ?c ?k (fun _ _ _ _ _ _ us hl=>match us,hl with | [_,_,_,_],_=>rfl)
   (case a=>k_is);(case l=>k_is);(case c=>k_is);(case k=>k_is))
  have d8:=(by
   refine' Seek.def_mk (x:="_law_drawn") (st:=Seek.s_l_drawn) (ps:=["_law_box","_law_letters_here","_law_plain"]) KX G ?a ?l ?c ?k (fun _ _ _ _ _ _ us hl=>match us,hl with | [_,_,_],_=>rfl)
   (case a=>k_is);(case l=>k_is);(case c=>k_is);(case k=>k_is))
  have d9:=(by
   refine' Seek.def_mk (x:="_law_nested") (st:=Seek.s_l_nested) (ps:=["_law_box","_law_letters_here","_law_deep"]) KX G ?a ?l ?c ?k (fun _ _ _ _ _ _ us hl=>match us,hl with | [_,_,_],_=>rfl)
   (case a=>k_is);(case l=>k_is);(case c=>k_is);(case k=>k_is))
  have d10:=(by
   refine' Seek.def_mk (x:="_law_wide") (st:=Seek.s_l_wide) (ps:=["_law_box","_law_letters_here","_law_one","_law_two"]) KX G ?a ?l ?c ?k (fun _ _ _ _ _ _ us hl=>match us,hl with | [_,_,_,_],_=>rfl)
   (case a=>k_is);(case l=>k_is);(case c=>k_is);(case k=>k_is))
  have d11:=(by
   refine' Seek.def_mk (x:="_law_beyond") (st:=Seek.s_l_beyond) (ps:=["_law_box","_law_letters_here"]) KX G ?a ?l ?c ?k (fun _ _ _ _ _ _ us hl=>match us,hl with | [_,_],_=>rfl)
   (case a=>k_is);(case l=>k_is);(case c=>k_is);(case k=>k_is))
  have d12:=(by
   refine' Seek.def_mk (x:="_law_spoilt") (st:=Seek.s_l_spoilt) (ps:=["_law_box","_law_line_here","_law_letters_here"]) KX G ?a ?l ?c ?k (fun _ _ _ _ _ _ us hl=>match us,hl with | [_,_,_],_=>rfl)
   (case a=>k_is);(case l=>k_is);(case c=>k_is);(case k=>k_is))
  have d13:=(by
   refine' Seek.def_mk (x:="_law_line") (st:=Seek.s_l_line) (ps:=["_law_box","_law_letters_here"]) KX G ?a ?l ?c ?k (fun _ _ _ _ _ _ us hl=>match us,hl with | [_,_],_=>rfl)
   (case a=>k_is);(case l=>k_is);(case c=>k_is);(case k=>k_is))
  have p0:=(by
   refine' Seek.def_mk (x:="parts_of") (st:=Seek.s_parts_of) (ps:=["pattern"]) KX G ?a ?l ?c ?k (fun _ _ _ _ _ _ us hl=>match us,hl with | [_],_=>rfl)
   (case a=>k_is);(case l=>k_is);(case c=>k_is);(case k=>k_is))
  have p1:=(by
   refine' Seek.def_mk (x:="groups_in") (st:=Seek.s_groups_in) (ps:=["pattern"]) KX G ?a ?l ?c ?k (fun _ _ _ _ _ _ us hl=>match us,hl with | [_],_=>rfl)
   (case a=>k_is);(case l=>k_is);(case c=>k_is);(case k=>k_is))
  have p2:=(by
   refine' Seek.def_mk (x:="patterns_in") (st:=Seek.s_patterns_in) (ps:=["pattern"]) KX G ?a ?l ?c ?k (fun _ _ _ _ _ _ us hl=>match us,hl with | [_],_=>rfl)
   (case a=>k_is);(case l=>k_is);(case c=>k_is);(case k=>k_is))
  have p3:=(by
   refine' Seek.def_mk (x:="depth") (st:=Seek.s_depth) (ps:=["pattern"]) KX G ?a ?l ?c ?k (fun _ _ _ _ _ _ us hl=>match us,hl with | [_],_=>rfl)
   (case a=>k_is);(case l=>k_is);(case c=>k_is);(case k=>k_is))
  have p4:=(by
   refine' Seek.def_mk (x:="runs_keep") (st:=Seek.s_runs_keep) (ps:=["runs"]) KX G ?a ?l ?c ?k (fun _ _ _ _ _ _ us hl=>match us,hl with | [_],_=>rfl)
   (case a=>k_is);(case l=>k_is);(case c=>k_is);(case k=>k_is))
  have p5:=(by
   refine' Seek.def_mk (x:="parts_keep") (st:=Seek.s_parts_keep) (ps:=["parts"]) KX G ?a ?l ?c ?k (fun _ _ _ _ _ _ us hl=>match us,hl with | [_],_=>rfl)
   (case a=>k_is);(case l=>k_is);(case c=>k_is);(case k=>k_is))
  have p6:=(by
   refine' Seek.def_mk (x:="turns_keep") (st:=Seek.s_turns_keep) (ps:=["low","high"]) KX G ?a ?l ?c ?k (fun _ _ _ _ _ _ us hl=>match us,hl with | [_,_],_=>rfl)
   (case a=>k_is);(case l=>k_is);(case c=>k_is);(case k=>k_is))
  have p7:=(by
   refine' Seek.def_mk (x:="keeps") (st:=Seek.s_keeps) (ps:=["pattern","groups"]) KX G ?a ?l ?c ?k (fun _ _ _ _ _ _ us hl=>match us,hl with | [_,_],_=>rfl)
   (case a=>k_is);(case l=>k_is);(case c=>k_is);(case k=>k_is))
  have p8:=(by
   refine' Seek.def_mk (x:="all_keep") (st:=Seek.s_all_keep) (ps:=["pattern","groups"]) KX G ?a ?l ?c ?k (fun _ _ _ _ _ _ us hl=>match us,hl with | [_,_],_=>rfl)
   (case a=>k_is);(case l=>k_is);(case c=>k_is);(case k=>k_is))
  have p9:=(by
   refine' Seek.def_mk (x:="keeps_bounds") (st:=Seek.s_keeps_bounds) (ps:=["pattern"]) KX G ?a ?l ?c ?k (fun _ _ _ _ _ _ us hl=>match us,hl with | [_],_=>rfl)
   (case a=>k_is);(case l=>k_is);(case c=>k_is);(case k=>k_is))
  have p10:=(by
   refine' Seek.def_mk (x:="is_sign") (st:=Seek.s_is_sign) (ps:=["sign"]) KX G ?a ?l ?c ?k (fun _ _ _ _ _ _ us hl=>match us,hl with | [_],_=>rfl)
   (case a=>k_is);(case l=>k_is);(case c=>k_is);(case k=>k_is))
  have p11:=(by
   refine' Seek.def_mk (x:="read_pattern") (st:=Seek.s_read_pattern) (ps:=["text"]) KX G ?a ?l ?c ?k (fun _ _ _ _ _ _ us hl=>match us,hl with | [_],_=>rfl)
   (case a=>k_is);(case l=>k_is);(case c=>k_is);(case k=>k_is))
  have p12:=(by
   refine' Seek.def_mk (x:="pattern_text") (st:=Seek.s_pattern_text) (ps:=["pattern"]) KX G ?a ?l ?c ?k (fun _ _ _ _ _ _ us hl=>match us,hl with | [_],_=>rfl)
   (case a=>k_is);(case l=>k_is);(case c=>k_is);(case k=>k_is))
  have p13:=(by
   refine' Seek.def_mk (x:="sign_text") (st:=Seek.s_sign_text) (ps:=["sign","stroked"]) KX G ?a ?l ?c ?k (fun _ _ _ _ _ _ us hl=>match us,hl with | [_,_],_=>rfl)
   (case a=>k_is);(case l=>k_is);(case c=>k_is);(case k=>k_is))
  have p14:=(by
   refine' Seek.def_mk (x:="run_text") (st:=Seek.s_run_text) (ps:=["low","high"]) KX G ?a ?l ?c ?k (fun _ _ _ _ _ _ us hl=>match us,hl with | [_,_],_=>rfl)
   (case a=>k_is);(case l=>k_is);(case c=>k_is);(case k=>k_is))
  have p15:=(by
   refine' Seek.def_mk (x:="wrapped_text") (st:=Seek.s_wrapped_text) (ps:=["part","kinds"]) KX G ?a ?l ?c ?k (fun _ _ _ _ _ _ us hl=>match us,hl with | [_,_],_=>rfl)
   (case a=>k_is);(case l=>k_is);(case c=>k_is);(case k=>k_is))
  have p16:=(by
   refine' Seek.def_mk (x:="turns_text") (st:=Seek.s_turns_text) (ps:=["low","high","how"]) KX G ?a ?l ?c ?k (fun _ _ _ _ _ _ us hl=>match us,hl with | [_,_,_],_=>rfl)
   (case a=>k_is);(case l=>k_is);(case c=>k_is);(case k=>k_is))
  have l0:=(by
   refine' Seek.def_mk (x:="_law_written") (st:=Seek.s_l_written) (ps:=["_law_p"]) KX G ?a ?l ?c ?k (fun _ _ _ _ _ _ us hl=>match us,hl with | [_],_=>rfl)
   (case a=>k_is);(case l=>k_is);(case c=>k_is);(case k=>k_is))
  have l1:=(by
   refine' Seek.def_mk (x:="_law_signed") (st:=Seek.s_l_signed) (ps:=["_law_sign_here","_law_special"]) KX G ?a ?l ?c ?k (fun _ _ _ _ _ _ us hl=>match us,hl with | [_,_],_=>rfl)
   (case a=>k_is);(case l=>k_is);(case c=>k_is);(case k=>k_is))
  have l2:=(by
   refine' Seek.def_mk (x:="_law_run_text") (st:=Seek.s_l_run_text) (ps:=["_law_run"]) KX G ?a ?l ?c ?k (fun _ _ _ _ _ _ us hl=>match us,hl with | [_],_=>rfl)
   (case a=>k_is);(case l=>k_is);(case c=>k_is);(case k=>k_is))
  have l3:=(by
   refine' Seek.def_mk (x:="_law_inner") (st:=Seek.s_l_inner) (ps:=["_law_p","_law_words"]) KX G ?a ?l ?c ?k (fun _ _ _ _ _ _ us hl=>match us,hl with | [_,_],_=>rfl)
   (case a=>k_is);(case l=>k_is);(case c=>k_is);(case k=>k_is))
  have l4:=(by
   refine' Seek.def_mk (x:="_law_leaf_text") (st:=Seek.s_l_leaf_text) (ps:=["_law_p"]) KX G ?a ?l ?c ?k (fun _ _ _ _ _ _ us hl=>match us,hl with | [_],_=>rfl)
   (case a=>k_is);(case l=>k_is);(case c=>k_is);(case k=>k_is))
  have l5:=(by
   refine' Seek.def_mk (x:="_law_parts_of") (st:=Seek.s_l_parts_of) (ps:=["_law_p"]) KX G ?a ?l ?c ?k (fun _ _ _ _ _ _ us hl=>match us,hl with | [_],_=>rfl)
   (case a=>k_is);(case l=>k_is);(case c=>k_is);(case k=>k_is))
  have l6:=(by
   refine' Seek.def_mk (x:="_law_text_like") (st:=Seek.s_l_text_like) (ps:=["_law_found","_law_size_here"]) KX G ?a ?l ?c ?k (fun _ _ _ _ _ _ us hl=>match us,hl with | [_,_],_=>rfl)
   (case a=>k_is);(case l=>k_is);(case c=>k_is);(case k=>k_is))
  have l7:=(by
   refine' Seek.def_mk (x:="_law_number") (st:=Seek.s_l_number) (ps:=["_law_found","_law_low","_law_high"]) KX G ?a ?l ?c ?k (fun _ _ _ _ _ _ us hl=>match us,hl with | [_,_,_],_=>rfl)
   (case a=>k_is);(case l=>k_is);(case c=>k_is);(case k=>k_is))
  have l8:=(by
   refine' Seek.def_mk (x:="_law_good_runs") (st:=Seek.s_l_good_runs) (ps:=["_law_runs_here"]) KX G ?a ?l ?c ?k (fun _ _ _ _ _ _ us hl=>match us,hl with | [_],_=>rfl)
   (case a=>k_is);(case l=>k_is);(case c=>k_is);(case k=>k_is))
  have l9:=(by
   refine' Seek.def_mk (x:="_law_good_turns") (st:=Seek.s_l_good_turns) (ps:=["_law_p"]) KX G ?a ?l ?c ?k (fun _ _ _ _ _ _ us hl=>match us,hl with | [_],_=>rfl)
   (case a=>k_is);(case l=>k_is);(case c=>k_is);(case k=>k_is))
  have l10:=(by
   refine' Seek.def_mk (x:="_law_good_head") (st:=Seek.s_l_good_head) (ps:=["_law_p","_law_seen","_law_total"]) KX G ?a ?l ?c ?k (fun _ _ _ _ _ _ us hl=>match us,hl with | [_,_,_],_=>rfl)
   (case a=>k_is);(case l=>k_is);(case c=>k_is);(case k=>k_is))
  have l11:=(by
   refine' Seek.def_mk (x:="_law_size") (st:=Seek.s_l_size) (ps:=["_law_p","_law_seen","_law_total","_law_deep"]) KX G ?a ?l ?c ?k (fun _ _ _ _ _ _ us hl=>match us,hl with | [_,_,_,_],_=>rfl)
   (case a=>k_is);(case l=>k_is);(case c=>k_is);(case k=>k_is))
  have l12:=(by
   refine' Seek.def_mk (x:="_law_good") (st:=Seek.s_l_good) (ps:=["_law_p","_law_total"]) KX G ?a ?l ?c ?k (fun _ _ _ _ _ _ us hl=>match us,hl with | [_,_],_=>rfl)
   (case a=>k_is);(case l=>k_is);(case c=>k_is);(case k=>k_is))
  have l13:=(by
   refine' Seek.def_mk (x:="_law_refused") (st:=Seek.s_l_refused) (ps:=["_law_pattern_like"]) KX G ?a ?l ?c ?k (fun _ _ _ _ _ _ us hl=>match us,hl with | [_],_=>rfl)
   (case a=>k_is);(case l=>k_is);(case c=>k_is);(case k=>k_is))
  have bv:mg "ValueError" = none:=by
   refine' z KX ?b
   (case b=>k_is)
  have xo:∃CU CE CM CN CO,L2.XC (L2.KOf KX) mg "Unread" CU CE/\mg "SeekError" = some (.ref CE)/\mg "Memory" = some (.ref CM)/\mg "NoForm" = some (.ref CN)/\mg "Over" = some (.ref CO)/\Seek.XUn (L2.KOf KX) CU CE CN CM CO:=by
   dsimp only[L2.KOf]
   refine' Seek.xo_mk KX G ?a1 ?l ?ln ?l2 ?ln2 ?s1 ?s2 ?i1 ?i2 ?a2 ?a3 ?a4 ?a5 ?z1 ?z2 ?z3 ?z4 ?z5 ?z6 ?z7 ?v1 ?m1 ?m2 ?m3 ?m4 ?o1 ?o2 ?o3 ?o4 ?u1 ?u2 ?u3 ?u4
   (case a1=>k_is);(case l=>k_is);(case ln=>k_is);(case l2=>k_is);(case ln2=>k_is);(case s1=>kernel_rfl);(case s2=>kernel_rfl);(case i1=>kernel_rfl);(case i2=>kernel_rfl);(case a2=>k_is);(case a3=>k_is);(case a4=>k_is);(case a5=>k_is);(case z1=>k_is);(case z2=>k_is);(case z3=>k_is);(case z4=>k_is);(case z5=>k_is);(case z6=>k_is);(case z7=>k_is);(case v1=>k_is);(case m1=>k_is);(case m2=>k_is);(case m3=>k_is);(case m4=>decide);(case o1=>k_is);(case o2=>k_is);(case o3=>k_is);(case o4=>decide);(case u1=>k_is);(case u2=>k_is);(case u3=>k_is);(case u4=>decide)
  have c0:∃t,mg "MOST_DEEP" = some (.int 8 t):=by
   refine' Seek.const_mkI KX G ?a
   (case a=>k_is)
  have c1:∃t,mg "MOST_GROUPS" = some (.int 9 t):=by
   refine' Seek.const_mkI KX G ?a
   (case a=>k_is)
  have c2:∃t,mg "MOST_PATTERNS" = some (.int 60 t):=by
   refine' Seek.const_mkI KX G ?a
   (case a=>k_is)
  have c3:∃t,mg "MOST_PARTS" = some (.int 8 t):=by
   refine' Seek.const_mkI KX G ?a
   (case a=>k_is)
  have c4:∃t,mg "MOST_RUNS" = some (.int 8 t):=by
   refine' Seek.const_mkI KX G ?a
   (case a=>k_is)
  have c5:∃t,mg "MOST_TURNS" = some (.int 9 t):=by
   refine' Seek.const_mkI KX G ?a
   (case a=>k_is)
  have c6:∃t,mg "BLANK" = some (.int 32 t):=by
   refine' Seek.const_mkI KX G ?a
   (case a=>k_is)
  have c7:∃t,mg "LAST_SIGN" = some (.int 126 t):=by
   refine' Seek.const_mkI KX G ?a
   (case a=>k_is)
  have c8:∃t,mg "PERCENT" = some (.int 37 t):=by
   refine' Seek.const_mkI KX G ?a
   (case a=>k_is)
  have c9:∃t,mg "DIGITS" = some (.str Seek.digS t):=by
   refine' Seek.const_mkS KX G ?a
   (case a=>k_is)
  have c10:∃t,mg "STROKED" = some (.str Seek.stroked t):=by
   refine' Seek.const_mkS KX G ?a
   (case a=>k_is)
  have c11:∃t,mg "STROKED_IN_RUNS" = some (.str Seek.strokedR t):=by
   refine' Seek.const_mkS KX G ?a
   (case a=>k_is)
  have c12:∃pl,mg "BARE" = some (.ref pl)/\L2.DcK (L2.KOf KX) w pl Seek.bareT:=by
   dsimp only[L2.KOf]
   refine' Seek.const_mkD3 KX G ?a ?l ?d ?e ?n
   (case a=>k_is);(case l=>k_is)
   (case d=>decide);(case e=>exact⟨rfl,rfl,rfl⟩);(case n=>decide +kernel)
  have c13:∃pl,mg "LISTS" = some (.ref pl)/\L2.DcK (L2.KOf KX) w pl Seek.listsT:=by
   dsimp only[L2.KOf]
   refine' Seek.const_mkD2 KX G ?a ?l ?d ?e ?n
   (case a=>k_is);(case l=>k_is)
   (case d=>decide);(case e=>exact⟨rfl,rfl⟩);(case n=>decide +kernel)
  have c14:∃pl,mg "BRACKETS" = some (.ref pl)/\L2.DcK (L2.KOf KX) w pl Seek.bracketsT:=by
   dsimp only[L2.KOf]
   refine' Seek.const_mkD5 KX G ?a ?l ?d ?e ?n
   (case a=>k_is);(case l=>k_is)
   (case d=>decide);(case e=>exact⟨rfl,rfl,rfl,rfl,rfl⟩);(case n=>decide +kernel)
  have c15:∃pl,mg "HOWS" = some (.ref pl)/\L2.DcK (L2.KOf KX) w pl Seek.howsT:=by
   dsimp only[L2.KOf]
   refine' Seek.const_mkD3 KX G ?a ?l ?d ?e ?n
   (case a=>k_is);(case l=>k_is)
   (case d=>decide);(case e=>exact⟨rfl,rfl,rfl⟩);(case n=>decide +kernel)
  have c16:∃pl,mg "WRAPPED_IN_ROW" = some (.ref pl)/\∀H,L2.SqT (L2.KOf KX) H pl Seek.wrapRow:=by
   dsimp only[L2.KOf]
   refine' Seek.const_mk1 KX G ?a ?l
   (case a=>k_is);(case l=>k_is)
  have c17:∃pl,mg "WRAPPED_IN_TIMES" = some (.ref pl)/\∀H,L2.SqT (L2.KOf KX) H pl Seek.wrapTimes:=by
   dsimp only[L2.KOf]
   refine' Seek.const_mk3 KX G ?a ?l
   (case a=>k_is);(case l=>k_is)
  have c18:∃pl,mg "STOPS" = some (.ref pl)/\∀H,L2.SqT (L2.KOf KX) H pl Seek.stopsT:=by
   dsimp only[L2.KOf]
   refine' Seek.const_mk5 KX G ?a ?l
   (case a=>k_is);(case l=>k_is)
  have c19:∃pl,mg "PART_LAST" = some (.ref pl)/\∀H,L2.SqT (L2.KOf KX) H pl Seek.lastWords:=by
   dsimp only[L2.KOf]
   refine' Seek.const_mk7 KX G ?a ?l
   (case a=>k_is);(case l=>k_is)
  obtain⟨CR,rd⟩:=rd
  obtain⟨CU,CE,CM,CN,CO,xc,x1,x2,x3,x4,Z⟩:=xo
  refine' Seek.top_mk KX G hmg ?a ?l ?c ?k (Seek.law_of T ⟨c0,c1,c2,c3,c4,c5,c6,c7,c8,c9,c10,c11,c12,c13,c14,c15,c16,c17,c18,c19⟩ rd ⟨d0,d1,d2,d3,d4,d5,d6,d7,d8,d9,d10,d11,d12,d13⟩ ⟨p0,p1,p2,p3,p4,p5,p6,p7,p8,p9,p10,p11,p12,p13,p14,p15,p16⟩ ⟨l0,l1,l2,l3,l4,l5,l6,l7,l8,l9,l10,l11,l12,l13⟩ bv xc x1 x2 x3 x4 Z)
  (case a=>k_is);(case l=>k_is);(case c=>k_is);(case k=>k_is)