import PyProof.Rows.All
import Wide.All
import OpenK.AllK
import Wide.FinOn
import Lean
import PyProof.EqAt
import PyProof.EqKinds
import PyProof.TupleCall
import PyProof.P3Eq
import PySem.Challenge.RW_boxword_k10_whole_joined
set_option Elab.async false
set_option linter.all false
set_option maxRecDepth 100000
theorem aR (h:0=0:=by rfl):True:=trivial
theorem aD (h:0=0:=by decide):True:=trivial
theorem aV (h:0=0:=by first | exact Or.inl rfl | exact Or.inr (Or.inl rfl) | exact Or.inr (Or.inr rfl)):True:=trivial
theorem aL (h:0=0:=by first | exact Or.inl rfl | exact Or.inr rfl):True:=trivial
theorem aF (h:0=0:=by first | exact .inl rfl | exact .inr rfl):True:=trivial
namespace L2
open PySem PySem.Spec PyProof.Rows
abbrev Key:=Sum Int Str
def keyIs:Key->Value->Bool
 |.inl k,v=>Value.isInt k v
 |.inr x,v=>Value.isStrOf x v
def keyH (w:World):Key->Int
 |.inl k=>hashInt k
 |.inr x=>hashStr w x
theorem keyIs_shape:∀ {k:Key}{v:Value},keyIs k v=true->(∃ i t,k=Sum.inl i/\v=Value.int i t)\/(∃ x t,k=Sum.inr x/\v=Value.str x t)
 |.inl i,v,h=>by
  obtain⟨t,e⟩:=Value.isInt_shape (k:=i) (v:=v) h
  exact .inl ⟨i,t,rfl,e⟩
 |.inr x,v,h=>by
  obtain⟨t,e⟩:=Value.isStrOf_shape (x:=x) (v:=v) h
  exact .inr ⟨x,t,rfl,e⟩
theorem key_ll (a b:Int):decide ((Sum.inl a:Key)=Sum.inl b)=(a == b):=by
 by_cases e:a=b
 ·subst e;simp
 ·have h:¬ (Sum.inl a:Key)=Sum.inl b:=λq=>e (Sum.inl.inj q)
  rw[decide_eq_false h]
  exact (beq_eq_false_iff_ne.mpr e).symm
theorem key_rr (a b:Str):decide ((Sum.inr a:Key)=Sum.inr b)=decide (a=b):=by
 by_cases e:a=b
 ·subst e;simp
 ·have h:¬ (Sum.inr a:Key)=Sum.inr b:=λq=>e (Sum.inr.inj q)
  rw[decide_eq_false h,decide_eq_false e]
theorem key_lr (a:Int) (b:Str):decide ((Sum.inl a:Key)=Sum.inr b)=false:=decide_eq_false (λq=>nomatch q)
theorem key_rl (a:Str) (b:Int):decide ((Sum.inr a:Key)=Sum.inl b)=false:=decide_eq_false (λq=>nomatch q)
def mixKind (prog:Program)(w:World):PySem.KeyKind prog w Key where
 is:=keyIs
 hash:=keyH w
 inj:=λv a b ha hb=>by
  rcases keyIs_shape ha with ⟨i,t,rfl,rfl⟩ | ⟨x,t,rfl,rfl⟩
  ·rcases keyIs_shape hb with ⟨j,u,rfl,e⟩ | ⟨y,u,rfl,e⟩
   ·injection e with e1 _;rw[e1]
   ·exact nomatch e
  ·rcases keyIs_shape hb with ⟨j,u,rfl,e⟩ | ⟨y,u,rfl,e⟩
   ·exact nomatch e
   ·injection e with e1 _;rw[e1]
 byValue:=λk v h=>by
  rcases keyIs_shape h with ⟨i,t,rfl,rfl⟩ | ⟨x,t,rfl,rfl⟩<;>rfl
 pyHash:=λhv h=>by
  rcases keyIs_shape hv with ⟨i,t,rfl,rfl⟩ | ⟨x,t,rfl,rfl⟩
  ·exact wpAny_pyHash_int h
  ·exact wpAny_pyHash_str h
 eqBool:=λhu hv h=>by
  rcases keyIs_shape hu with ⟨i,t,rfl,rfl⟩ | ⟨x,t,rfl,rfl⟩
  ·rcases keyIs_shape hv with ⟨j,u,rfl,rfl⟩ | ⟨y,u,rfl,rfl⟩
   ·rw[key_ll]at h;exact wpAny_eqBool_int h
   ·rw[key_lr]at h;exact SeqAt.EqAt.int_str i t y u _ _ _ _ h
  ·rcases keyIs_shape hv with ⟨j,u,rfl,rfl⟩ | ⟨y,u,rfl,rfl⟩
   ·rw[key_rl]at h;exact SeqAt.EqAt.str_int x t j u _ _ _ _ h
   ·rw[key_rr]at h;exact wpAny_eqBool_str h
 «strs»:=λk x t v h=>by
  rcases keyIs_shape h with ⟨i,u,rfl,e⟩ | ⟨y,u,rfl,e⟩
  ·exact nomatch e
  ·injection e with e1 _
   subst e1
   cases v<;>rfl
end L2
namespace L2
open PySem PySem.Spec PyProof.Rows
inductive V where
 |non | bl (b:Bool) | int (i:Int) | str (x:Str) | byt (b:Array UInt8) | flt (b:UInt64) | ref (a:Addr) | ty (n:String)
 deriving DecidableEq
def RelV:V->Value->Prop
 |.non,u=>u=Value.none
 |.bl b,u=>u=Value.bool b
 |.int i,u=>∃ t,u=Value.int i t
 |.str x,u=>∃ t,u=Value.str x t
 |.byt b,u=>∃ t,u=Value.bytes b t
 |.flt b,u=>∃ t,u=Value.float b t
 |.ref a,u=>u=Value.ref a
 |.ty n,u=>u=Value.type n
abbrev Vals:List V->List Value->Prop:=Paired RelV
theorem Vals.length {xs:List V}{us:List Value}(r:Vals xs us):xs.length=us.length:=Paired.length r
theorem Vals.get:∀ {xs:List V}{us:List Value}{i:Nat}{x:V},Vals xs us->xs[i]? = some x->∃ u,us[i]? = some u/\RelV x u
 |_,_,_,_,.nil,e=>by simp at e
 |_,_,0,_,.cons r _,e=>by simp at e;subst e;exact⟨_,rfl,r⟩
 |_,_,i+1,x,.cons _ t,e=>by
  obtain⟨u,h1,h2⟩:=Vals.get (i:=i) (x:=x) t (by simpa using e)
  exact⟨u,by simpa using h1,h2⟩
theorem Vals.set {x:V}{u:Value}(r:RelV x u):∀ {xs:List V}{us:List Value} (i:Nat),Vals xs us->Vals (xs.set i x) (us.set i u)
 |_,_,_,.nil=>.nil
 |_,_,0,.cons _ t=>.cons r t
 |_,_,i+1,.cons q t=>.cons q (Vals.set r i t)
theorem Vals.append:∀ {xs ys:List V}{us ws:List Value},Vals xs us->Vals ys ws->Vals (xs++ys) (us++ws)
 |_,_,_,_,.nil,s=>s
 |_,_,_,_,.cons r t,s=>.cons r (Vals.append t s)
theorem Vals.take:∀ {xs:List V}{us:List Value} (n:Nat),Vals xs us->Vals (xs.take n) (us.take n)
 |_,_,0,_=>.nil
 |_,_,_+1,.nil=>.nil
 |_,_,n+1,.cons r t=>.cons r (Vals.take n t)
theorem Vals.drop:∀ {xs:List V}{us:List Value} (n:Nat),Vals xs us->Vals (xs.drop n) (us.drop n)
 |_,_,0,r=>r
 |_,_,_+1,.nil=>.nil
 |_,_,n+1,.cons _ t=>Vals.drop n t
def RelO:Option V->Option Value->Prop
 |some v,some u=>RelV v u
 |none,none=>True
 |_,_=>False
def KV {κ:Type}:List (κ×V)->List (κ×Value)->Prop:=Paired λ(p:κ×V)(q:κ×Value)=>p.1=q.1/\RelV p.2 q.2
def kV:Key->V
 |.inl i=>.int i
 |.inr x=>.str x
inductive HO where
 /-- a list -/
 |lst (xs:List V)
 /-- a tuple (never changes) -/
 |tup (xs:List V)
 /-- a dict whose keys are ints and texts;one whose keys are tuples of ints and texts (the empty one is both) -/
 |dK (kvs:List (Key×V)) | dT (kvs:List (List Key×V))
 /-- a set of ints: its members,its size -/
 |set (S:Int->Bool) (n:Nat)
 /-- an instance of the class at C,its dict at dx,its attributes -/
 |ins (C dx:Addr)(fs:List (Str×V))
 /-- the dict of the instance at x -/
 |own (x:Addr)
 /-- the dict of an exception -/
 |xd (fs:List (Str×V))
 /-- a bound method,f of x -/
 |met (f x:Addr)
 /-- a range object lo,lo+1,.. below hi -/
 |rng (lo hi:Int)
 /-- a thing that is known to the object (the script;a dict while a loop walks it): read,never written while it is so -/
 |frz (o:Obj)(u:HO)
 /-- a code object's table -/
 |tbl (ps:Array Value)
 /-- any other thing,by what is true of its one object (a def of one's own: SetO a S n:=HO.ext λh=>..) -/
 |ext (φ:Heap->Prop)
abbrev Hp:=Addr->Option HO
def upd (H:Hp)(a:Addr)(o:HO):Hp:=λb=>if b=a then some o else H b
theorem upd_same {H:Hp}{a:Addr}{o:HO}:upd H a o a=some o:=by unfold upd;rw[if_pos rfl]
theorem upd_ne {H:Hp}{a b:Addr}{o:HO}(h:b≠a):upd H a o b=H b:=by unfold upd;rw[if_neg h]
theorem upd_upd {H:Hp}{a:Addr}{o u:HO}:upd (upd H a o) a u=upd H a u:=by
 funext b;unfold upd;split<;>rfl
theorem ne_of_none {H:Hp}{a b:Addr}{o:HO}(h:H a=some o)(h':H b=none):a≠b:=by
 intro e;subst e;rw[h]at h';cases h'
def IsTupD (h:Heap)(a:Addr)(items:Array Value):Prop:=∃ o,h.get? a=some o/\o.cls=.type "tuple"/\(∃ n,o.data=.seq items n)/\o.dict=none
theorem IsTupD.tup {h:Heap}{a:Addr}{items:Array Value}(x:IsTupD h a items):IsTup h a items:=let ⟨o,h1,h2,h3,_⟩:=x;⟨o,h1,h2,h3⟩
theorem IsTupD.new (h:Heap)(items:Array Value):IsTupD (h.push { cls:=.type "tuple",data:=.seq items }) h.objs.size items:=⟨_,Heap.get?_push_size _ rfl,rfl,⟨_,rfl⟩,rfl⟩
section
variable (P:Program)(w:World)
def ObjOk (H:Hp)(h:Heap)(a:Addr):HO->Prop
 |.lst xs=>xs.length<=sizeLine/\∃ (its:List Value) (n:Nat),Vals xs its/\h.get? a=some { cls:=.type "list",data:=.seq its.toArray n }
 |.tup xs=>xs.length<=sizeLine/\∃ its:List Value,Vals xs its/\IsTupD h a its.toArray
 |.dK kvs=>kvs.length<=sizeLine/\(a == sysModules)=false/\∃ vs,KV kvs vs/\h.DictOf (mixKind P w) a vs
 |.dT kvs=>kvs.length<=sizeLine/\(a == sysModules)=false/\∃ xs:List (List Key×Addr×Value),
   Paired (λ(p:List Key×V)(q:List Key×Addr×Value)=>p.1=q.1/\H q.2.1=some (.tup (p.1.map kV))/\RelV p.2 q.2.2) kvs xs ∧
   ∃ o es ep,h.get? a=some o/\o.ExactDict/\o.data=.dict es ep/\es.toList=xs.map (entryOfKey (tupleKind (mixKind P w)))/\(xs.map (·.1)).Nodup
 |.set S n=>h.SetOf (intKind P w) a S n
 |.ins C dx fs=>H dx=some (.own a)/\fs.length<=1000/\dx≠a/\h.get? a=some (PySem.W.instObj C dx) ∧
   ∃ mA,h.Ns1 dx mA/\(∀ f,RelO (fs.lookup f) (mA f))/\PySem.Within mA (fs.map (·.1))
 |.own _=>∃ o,h.get? a=some o
 |.xd fs=>∃ mA,h.Ns1 a mA/\∀ f,RelO (fs.lookup f) (mA f)
 |.rng lo hi=>∃ t u v,h.get? a=some { cls:=.type "range",data:=.fields #[.int lo t,.int hi u,.int 1 v] }
 |.frz o u=>h.get? a=some o/\ObjOk H h a u
 |.tbl ps=>h.get? a=some { cls:=.none,data:=.fields ps }
 |.met f x=>h.get? a=some (PySem.W.methodObj (.ref f) (.ref x))
 |.ext φ=>φ h/\(∃ o,h.get? a=some o)/\∀ h1 h2:Heap,φ h1->(∀ o,h1.get? a=some o->h2.get? a=some o)->φ h2
def HOk (H:Hp)(h:Heap):Prop:=∀ a o,H a=some o->ObjOk P w H h a o
end
section
variable {P:Program}{w:World}{H H':Hp}{h h':Heap}{a:Addr}{o:HO}
theorem ObjOk.lt (x:ObjOk P w H h a o):a<h.objs.size:=by
 cases o with
 |lst xs=>obtain⟨_,_,_,_,e⟩:=x;exact Heap.lt_size e
 |tup xs=>obtain⟨_,_,_,p⟩:=x;exact p.tup.lt
 |dK kvs=>obtain⟨_,_,_,_,o,_,_,e,_⟩:=x;exact Heap.lt_size e
 |dT kvs=>obtain⟨_,_,_,_,o,_,_,e,_⟩:=x;exact Heap.lt_size e
 |set S n=>obtain⟨o,_,_,_,e,_⟩:=x;exact Heap.lt_size e
 |ins C dx fs=>obtain⟨_,_,_,e,_⟩:=x;exact Heap.lt_size e
 |own y=>obtain⟨_,e⟩:=x;exact Heap.lt_size e
 |xd fs=>obtain⟨_,⟨_,_,_,e,_⟩,_⟩:=x;exact Heap.lt_size e
 |rng lo hi=>obtain⟨_,_,_,e⟩:=x;exact Heap.lt_size e
 |frz ob u=>obtain⟨e,_⟩:=x;exact Heap.lt_size e
 |tbl ps=>exact Heap.lt_size (show h.get? a=some _ from x)
 |met f y=>exact Heap.lt_size (show h.get? a=some _ from x)
 |ext φ=>obtain⟨_,⟨_,e⟩,_⟩:=x;exact Heap.lt_size e
theorem Paired.mapP {α β:Type}{F G:α->β->Prop}:∀ {l₁:List α}{l₂:List β},Paired F l₁ l₂->(∀ a b,F a b->G a b)->Paired G l₁ l₂
 |_,_,.nil,_=>.nil
 |_,_,.cons r t,f=>.cons (f _ _ r) (Paired.mapP t f)
theorem ObjOk.stay (x:ObjOk P w H h a o)(k:∀ b u,(b=a\/H b=some (.own a))->h.get? b=some u->h'.get? b=some u)
  (ho:∀ b,H b=some (.own a)->H' b=some (.own a))(ht:∀ b xs,H b=some (.tup xs)->H' b=some (.tup xs)):ObjOk P w H' h' a o:=by
 induction o with
 |lst xs=>obtain⟨z,its,n,r,e⟩:=x;exact⟨z,its,n,r,k _ _ (.inl rfl) e⟩
 |tup xs=>obtain⟨z,its,r,ob,e,c⟩:=x;exact⟨z,its,r,ob,k _ _ (.inl rfl) e,c⟩
 |dK kvs=>obtain⟨z,y,vs,r,ob,es,ep,e,c⟩:=x;exact⟨z,y,vs,r,ob,es,ep,k _ _ (.inl rfl) e,c⟩
 |dT kvs=>
  obtain⟨z,y,xs,r,ob,es,ep,e,c⟩:=x
  exact⟨z,y,xs,Paired.mapP r λp q z=>⟨z.1,ht _ _ z.2.1,z.2.2⟩,ob,es,ep,k _ _ (.inl rfl) e,c⟩
 |set S n=>obtain⟨ob,es,ep,t,e,c⟩:=x;exact⟨ob,es,ep,t,k _ _ (.inl rfl) e,c⟩
 |ins C dx fs=>
  obtain⟨d,z,ne,e,mA,⟨od,es,ep,e2,c⟩,r⟩:=x
  exact⟨ho _ d,z,ne,k _ _ (.inl rfl) e,mA,⟨od,es,ep,k _ _ (.inr d) e2,c⟩,r⟩
 |own y=>obtain⟨ob,e⟩:=x;exact⟨ob,k _ _ (.inl rfl) e⟩
 |xd fs=>obtain⟨mA,⟨od,es,ep,e,c⟩,r⟩:=x;exact⟨mA,⟨od,es,ep,k _ _ (.inl rfl) e,c⟩,r⟩
 |rng lo hi=>obtain⟨t,u,v,e⟩:=x;exact⟨t,u,v,k _ _ (.inl rfl) e⟩
 |frz ob u ih=>obtain⟨e,q⟩:=x;exact⟨k _ _ (.inl rfl) e,ih q⟩
 |tbl ps=>
  have e:h.get? a=some { cls:=.none,data:=.fields ps }:=x
  show h'.get? a=some { cls:=.none,data:=.fields ps }
  exact k a _ (.inl rfl) e
 |met f y=>
  have e:h.get? a=some (PySem.W.methodObj (.ref f) (.ref y)):=x
  show h'.get? a=some (PySem.W.methodObj (.ref f) (.ref y))
  exact k a _ (.inl rfl) e
 |ext φ=>obtain⟨p,⟨o,e⟩,st⟩:=x;exact⟨st _ _ p λo q=>k _ _ (.inl rfl) q,⟨o,k _ _ (.inl rfl) e⟩,st⟩
theorem HOk.lt (x:HOk P w H h)(e:H a=some o):a<h.objs.size:=(x a o e).lt
theorem HOk.fresh (x:HOk P w H h)(e:h.objs.size<=a):H a=none:=by
 cases q:H a with
 |none=>rfl
 |some u=>exact absurd (Nat.lt_of_lt_of_le (x.lt q) e) (Nat.lt_irrefl _)
theorem HOk.kept (x:HOk P w H h)(k:∀ b u,h.get? b=some u->h'.get? b=some u):HOk P w H h':=λa o e=>
 (x a o e).stay (λb u _ q=>k b u q) (λ_ q=>q) λ_ _ q=>q
theorem HOk.laid (x:HOk P w H h)(k:∀ b u,h.get? b=some u->h'.get? b=some u)(hp:h.objs.size<=a)(new:ObjOk P w (upd H a o) h' a o):HOk P w (upd H a o) h':=λb u e=>by
 have hn:=x.fresh hp
 by_cases hb:b=a
 ·subst hb;rw[upd_same]at e;cases e;exact new
 ·rw[upd_ne hb]at e
  exact (x b u e).stay (λc v _ q=>k c v q) (λc q=>by rw[upd_ne (ne_of_none q hn)];exact q) λc xs q=>by rw[upd_ne (ne_of_none q hn)];exact q
end
def Rd (H:Hp)(a:Addr)(u:HO):Prop:=H a=some u\/∃ o,H a=some (.frz o u)
theorem Rd.ok {P:Program}{w:World}{H:Hp}{h:Heap}{a:Addr}{u:HO}(r:Rd H a u)(x:HOk P w H h):ObjOk P w H h a u:=by
 rcases r with r | ⟨o,r⟩
 ·exact x a u r
 ·obtain⟨_,q⟩:=x a _ r
  exact q
def Mut:Option HO->Prop
 |some (.lst _)=>True
 |some (.dK _)=>True
 |some (.dT _)=>True
 |some (.set _ _)=>True
 |some (.ins _ _ _)=>True
 |some (.ext _)=>True
 |_=>False
section
variable {P:Program}{w:World}{H:Hp}{h h':Heap}{x e:Addr}{o':HO}
theorem HOk.write (ok:HOk P w H h)(mu:Mut (H x))(he:e=x\/H e=some (.own x))(k:∀ b u,b≠e->h.get? b=some u->h'.get? b=some u)(heo:∃ u,h'.get? e=some u)
  (new:ObjOk P w (upd H x o') h' x o'):HOk P w (upd H x o') h':=λb u q=>by
 have nown:∀ c y,H c=some (.own y)->c≠x:=λc y r z=>by subst z;rw[r]at mu;exact mu
 have ntup:∀ c xs,H c=some (.tup xs)->c≠x:=λc xs r z=>by subst z;rw[r]at mu;exact mu
 by_cases hb:b=x
 ·subst hb;rw[upd_same]at q;cases q;exact new
 ·rw[upd_ne hb]at q
  by_cases hbe:b=e
  ·have q':H b=some (.own x):=by
    rcases he with z | z
    ·exact absurd (hbe.trans z) hb
    ·rw[hbe];exact z
   rw[q]at q';cases q'
   obtain⟨v,hv⟩:=heo
   exact⟨v,by rw[hbe];exact hv⟩
  ·refine (ok b u q).stay (λc v hc r=>k c v ?_ r) (λc r=>by rw[upd_ne (nown c b r)];exact r) λc xs r=>by rw[upd_ne (ntup c xs r)];exact r
   rcases hc with rfl | hc
   ·exact hbe
   ·rintro rfl
    rcases he with z | z
    ·exact nown c b hc z
    ·rw[hc]at z;cases z;exact hb rfl
end
structure Un (fs ex:List Addr)(H H':Hp)(h h':Heap):Prop where
 keep:∀ b o,h.get? b=some o->H b=none->b ∉ fs->b ∉ ex->h'.get? b=some o
 slot:∀ b o,h.get? b=some o->H b=none->b ∈ fs->b ∉ ex->∃ sl,h'.get? b=some { o with slots:=sl }
 free:∀ b o,h.get? b=some o->H b=none->b ∉ ex->H' b=none
 there:∀ b o,h.get? b=some o->b ∉ ex->∃ o',h'.get? b=some o'
 tups:∀ b xs,H b=some (.tup xs)->H' b=some (.tup xs)
 frzs:∀ b o u,H b=some (.frz o u)->H' b=some (.frz o u)
 tbls:∀ b ps,H b=some (.tbl ps)->∃ more,H' b=some (.tbl (ps++more))
section
variable {fs fs' ex ex':List Addr}{H H1 H2:Hp}{h h1 h2 h':Heap}{a x e:Addr}{o:HO}
theorem Un.any (u:Un fs ex H H1 h h1){b:Addr}{ob:Obj}(q:h.get? b=some ob)(n:H b=none)(hx:b ∉ ex):∃ sl,h1.get? b=some { ob with slots:=sl }:=by
 by_cases hb:b ∈ fs
 ·exact u.slot b ob q n hb hx
 ·exact⟨ob.slots,u.keep b ob q n hb hx⟩
theorem Un.kept (k:∀ b u,h.get? b=some u->h'.get? b=some u):Un fs ex H H h h':=
 ⟨λb ob q _ _ _=>k b ob q,λb ob q _ _ _=>⟨ob.slots,k b ob q⟩,λ_ _ _ n _=>n,λb ob q _=>⟨ob,k b ob q⟩,λ_ _ q=>q,λ_ _ _ q=>q,λ_ ps q=>⟨#[],by rw[q];simp⟩⟩
theorem Un.refl:Un fs ex H H h h:=Un.kept λ_ _ q=>q
theorem Un.laid (k:∀ b u,h.get? b=some u->h'.get? b=some u)(hp:h.objs.size<=a)(hn:H a=none):Un fs ex H (upd H a o) h h' where
 keep:=λb u q _ _ _=>k b u q
 slot:=λb u q _ _ _=>⟨u.slots,k b u q⟩
 free:=λb u q n _=>by rw[upd_ne (Nat.ne_of_lt (Nat.lt_of_lt_of_le (Heap.lt_size q) hp))];exact n
 there:=λb u q _=>⟨u,k b u q⟩
 tups:=λb xs q=>by rw[upd_ne (ne_of_none q hn)];exact q
 frzs:=λb u xs q=>by rw[upd_ne (ne_of_none q hn)];exact q
 tbls:=λb ps q=>⟨#[],by rw[upd_ne (ne_of_none q hn),q];simp⟩
theorem Un.write (mu:Mut (H x))(he:e=x\/H e=some (.own x))(k:∀ b u,b≠e->h.get? b=some u->h'.get? b=some u)(heo:∃ u,h'.get? e=some u):Un fs ex H (upd H x o) h h':=by
 have hx:∀ b,H b=none->b≠x:=λb n z=>by subst z;rw[n]at mu;exact mu
 have hb:∀ b,H b=none->b≠e:=λb n z=>by
  subst z
  rcases he with r | r
  ·exact hx b n r
  ·rw[n]at r;cases r
 have hm:∀ b u,H b=some u->¬ Mut (some u)->b≠x:=λb u q nm z=>by subst z;rw[q]at mu;exact nm mu
 refine⟨λb u q n _ _=>k b u (hb b n) q,λb u q n _ _=>⟨u.slots,k b u (hb b n) q⟩,λb u q n _=>by rw[upd_ne (hx b n)];exact n,λb u q _=>?_,
  λb xs q=>by rw[upd_ne (hm b _ q λz=>z)];exact q,λb u xs q=>by rw[upd_ne (hm b _ q λz=>z)];exact q,λb ps q=>⟨#[],by rw[upd_ne (hm b _ q λz=>z),q];simp⟩⟩
 by_cases hbe:b=e
 ·subst hbe;exact heo
 ·exact⟨u,k b u hbe q⟩
end
def trk (h:Heap)(H:Hp):List Addr:=(List.range h.objs.size).filter λa=>(H a).isSome
def hidT (h:Heap)(H:Hp):Heap:=PySem.W.hideAll h (trk h H)
theorem hidT_size (h:Heap)(H:Hp):(hidT h H).objs.size=h.objs.size:=PySem.W.hideAll_size _ _
theorem hidT_get {h:Heap}{H:Hp}{b:Addr}{o:Obj}(e:h.get? b=some o)(n:H b=none):(hidT h H).get? b=some o:=
 PySem.W.hideAll_get _ e λhm=>by
  have q:(H b).isSome=true:=(List.mem_filter.mp hm).2
  rw[n]at q;simp at q
theorem of_hidT {h:Heap}{H:Hp}{b:Addr}{o:Obj}(e:(hidT h H).get? b=some o):h.get? b=some o/\H b=none:=by
 have e':h.get? b=some o:=PySem.W.of_hideAll (trk h H) e
 refine⟨e',?_⟩
 cases q:H b with
 |none=>rfl
 |some x=>
  have hm:b ∈ trk h H:=List.mem_filter.mpr ⟨List.mem_range.mpr (Heap.lt_size e'),by simp[q]⟩
  have z:(hidT h H).get? b=none:=PySem.W.hideAll_none (trk h H) hm
  rw[z]at e;cases e
end L2
namespace L2
open PySem PySem.Spec PyProof.Rows
structure Mod (K:PySem.W.Frag)(mg:Str->Option Value)(base:Heap):Prop where
 kin:K.In base
 glob:base.Ns mainGlobals mg
 blt:∃ mb,base.Ns builtinsNs mb/\∀ x:Str,x ≠ "__name__"->mb x=bootBuiltins x
 nolimit:base.NoLimit
structure Cx where
 prog:Program
 w:World
 K:PySem.W.Frag
 mg:Str->Option Value
 base:Heap
 A:Around
 N:List Str
 s₀:Shared
 H₀:Hp
 env:Env
 outer:List Env
 stack:List Env
 ex:List Addr
 fn:Str->Bool
 calm:Bool
 pn:List (Addr×Obj)
 xe:Value->Shared->Prop
def frs (l:List Env):List Addr:=l.filterMap (·.frame)
abbrev Cx.fs (X:Cx):List Addr:=frs X.outer
def Vis (sc:Scope) (x:Str):Prop:=sc.names.lookup x=some .local\/sc.names.lookup x=some .cell\/sc.names.lookup x=some .free
def Loc (sc:Scope) (x:Str):Prop:=sc.names.lookup x=some .local\/sc.names.lookup x=some .cell
def Look (env:Env)(h:Heap)(m:Str->Option Value) (x:Str) (u:Value):Prop:=
 (env.kindOf x=some .local/\m x=some u)\/((env.kindOf x=some .cell\/env.kindOf x=some .free)/\∃ c,env.cells.lookup x=some c/\h.IsCell c (some u))
structure Cx.Ok (X:Cx):Prop where
 mod:Mod X.K X.mg X.base
 kind:X.env.scope.kind=.function
 glob:X.env.globals=mainGlobals
 blt:X.env.builtins=builtinsNs
 above:X.s₀.heap.objs.size<=X.env.locals
 inj:∀ x y c,X.env.cells.lookup x=some c->X.env.cells.lookup y=some c->x=y
 has:∀ x,(X.env.kindOf x=some .cell\/X.env.kindOf x=some .free)->∃ c,X.env.cells.lookup x=some c
 cab:∀ x c,X.fn x=true->X.env.cells.lookup x=some c->X.s₀.heap.objs.size<=c
 hd:X.calm=true->X.A.handled=none
 frames:X.A.frames=some X.stack
 stk:X.stack=X.outer\/(X.stack=X.env::X.outer/\X.env.frame=some X.env.locals)
 exf:∀ b ∈ X.ex,b≠X.env.locals/\∀ x c,X.env.cells.lookup x=some c->c≠b
 bs:∀ b o,X.base.get? b=some o->X.s₀.heap.get? b=some o/\X.H₀ b=none
 bsz:X.base.objs.size<=X.s₀.heap.objs.size
 noex:∀ b o,X.base.get? b=some o->b ∉ X.ex
 exfs:∀ b ∈ X.ex,b ∉ X.fs
 funs:X.s₀.heap.FunFrames X.base X.outer
 frf:∀ b ∈ X.fs,X.H₀ b=none
structure Inv (X:Cx)(pins:List (Addr×Obj))(σ:List (Option V))(H:Hp)(s:Shared):Prop where
 ok:X.Ok
 os:s.os=X.s₀.os
 bare:AllBare s.gens
 base:Un X.fs X.ex X.H₀ H X.s₀.heap s.heap
 loc:∃ m,s.heap.Ns X.env.locals m/\∀ (i:Nat) (x:Str)(v:V),X.N[i]? = some x->σ[i]? = some (some v)->Vis X.env.scope x->∃ u,RelV v u/\Look X.env s.heap m x u
 cell:∀ x c,X.env.cells.lookup x=some c->∃ v,s.heap.IsCell c v
 free:H X.env.locals=none
 freeC:∀ x c,X.env.cells.lookup x=some c->H c=none
 pin:∀ p ∈ X.pn++pins,s.heap.get? p.1=some p.2/\H p.1=none/\p.1≠X.env.locals/\p.1 ∉ X.fs/\∀ v,p.2.data≠.cell v
 hok:HOk X.prog X.w H s.heap
 len:σ.length=X.N.length
section
variable {X:Cx}{pins:List (Addr×Obj)}{σ:List (Option V)}{H H':Hp}{s:Shared}{h':Heap}
theorem Cx.Ok.nofr (ok:X.Ok){b:Addr}{o:Obj}(e:X.base.get? b=some o):b ∉ X.fs:=λhb=>by
 have:=(ok.funs.mem hb).1
 rw[e]at this;cases this
theorem Inv.bs (I:Inv X pins σ H s):∀ b o,X.base.get? b=some o->s.heap.get? b=some o/\H b=none:=λb o e=>
 ⟨I.base.keep b o (I.ok.bs b o e).1 (I.ok.bs b o e).2 (I.ok.nofr e) (I.ok.noex b o e),I.base.free b o (I.ok.bs b o e).1 (I.ok.bs b o e).2 (I.ok.noex b o e)⟩
theorem Inv.bk (I:Inv X pins σ H s):∀ b o,X.base.get? b=some o->s.heap.get? b=some o:=λb o e=>(I.bs b o e).1
theorem Inv.mod (I:Inv X pins σ H s):Mod X.K X.mg X.base:=I.ok.mod
theorem Inv.kIn (I:Inv X pins σ H s):X.K.In s.heap:=I.ok.mod.kin.keeps I.bk
theorem Inv.lt (I:Inv X pins σ H s):X.env.locals<s.heap.objs.size:=let ⟨_,hn,_⟩:=I.loc;hn.lt
theorem Inv.sz (I:Inv X pins σ H s):X.s₀.heap.objs.size<=s.heap.objs.size:=Nat.le_trans I.ok.above (Nat.le_of_lt I.lt)
theorem Inv.nofs (I:Inv X pins σ H s){a:Addr}(h:s.heap.objs.size<=a):a ∉ X.fs:=λhb=>by
 obtain⟨_,o,ho,_⟩:=I.ok.funs.mem hb
 exact absurd (Nat.lt_of_lt_of_le (Heap.lt_size ho) (Nat.le_trans I.sz h)) (Nat.lt_irrefl _)
theorem Inv.cne (I:Inv X pins σ H s):∀ x c,X.env.cells.lookup x=some c->c≠X.env.locals:=λx c e z=>by
 obtain⟨v,o,ho,hd⟩:=I.cell x c e
 obtain⟨m,⟨o',es,ep,ho',hd',_⟩,_⟩:=I.loc
 rw[z,ho']at ho;cases ho;rw[hd']at hd;cases hd
theorem Inv.funs (I:Inv X pins σ H s):s.heap.FunFrames X.base X.outer:=by
 have all:∀ (l:List Env),(∀ b ∈ frs l,b ∈ X.fs)->X.s₀.heap.FunFrames X.base l->s.heap.FunFrames X.base l:=by
  intro l
  induction l with
  |nil=>intro _ _;trivial
  |cons env r ih=>
   intro hs hl
   obtain⟨hk,⟨L,o,hf,hn,ho,hd⟩,hr⟩:=hl
   have hL:L ∈ X.fs:=hs L (by unfold frs;rw[List.filterMap_cons,hf];exact List.mem_cons_self)
   obtain⟨sl,e⟩:=I.base.slot L o ho (I.ok.frf L hL) hL λz=>I.ok.exfs L z hL
   exact⟨hk,⟨L,_,hf,hn,e,hd⟩,ih (λb hb=>hs b (by unfold frs;rw[List.filterMap_cons,hf];exact List.mem_cons_of_mem _ hb)) hr⟩
 exact all X.outer (λ_ hb=>hb) I.ok.funs
theorem Inv.stack (I:Inv X pins σ H s):s.heap.FunFrames X.base X.stack:=by
 rcases I.ok.stk with e | ⟨e,hf⟩
 ·rw[e];exact I.funs
 ·rw[e]
  obtain⟨m,hn,_⟩:=I.loc
  refine .cons (by rw[I.ok.kind];decide) hf hn ?_ I.funs
  exact Heap.get?_none_of_le (Nat.le_trans I.ok.bsz I.ok.above)
theorem Inv.stkSub (I:Inv X pins σ H s):∀ b ∈ frs X.stack,b ∈ X.env.locals::X.fs:=λb hb=>by
 rcases I.ok.stk with e | ⟨e,hf⟩
 ·rw[e]at hb;exact List.mem_cons_of_mem _ hb
 ·rw[e]at hb
  unfold frs at hb
  rw[List.filterMap_cons,hf]at hb
  exact hb
theorem Inv.stkFree (I:Inv X pins σ H s):∀ b ∈ frs X.stack,H b=none:=λb hb=>by
 rcases List.mem_cons.mp (I.stkSub b hb) with e | hb
 ·rw[e];exact I.free
 ·obtain⟨_,o,ho,_⟩:=I.ok.funs.mem hb
  exact I.base.free b o ho (I.ok.frf b hb) λz=>I.ok.exfs b z hb
theorem Inv.step {g':Array GenState}{t':Nat}{d':Drawn}{ch:List Addr}(I:Inv X pins σ H s)
  (hch:∀ b ∈ ch,(b ∈ X.ex\/X.s₀.heap.objs.size<=b)/\b≠X.env.locals/\(∀ x c,X.env.cells.lookup x=some c->c≠b)/\∀ p ∈ X.pn++pins,p.1≠b)
  (keep:∀ b o,b≠X.env.locals->b ∉ X.fs->b ∉ ch->s.heap.get? b=some o->H b=none->h'.get? b=some o)
  (slot:∀ b o,b≠X.env.locals->b ∈ X.fs->b ∉ ch->s.heap.get? b=some o->H b=none->∃ sl,h'.get? b=some { o with slots:=sl })(free:∀ b o,b ∉ ch->s.heap.get? b=some o->H b=none->H' b=none)
  (there:∀ b o,b ∉ ch->s.heap.get? b=some o->∃ o',h'.get? b=some o')
  (tups:∀ b xs,H b=some (.tup xs)->H' b=some (.tup xs))(frzs:∀ b o u,H b=some (.frz o u)->H' b=some (.frz o u))(tbls:∀ b ps,H b=some (.tbl ps)->∃ more,H' b=some (.tbl (ps++more)))
  (ns:∀ m,s.heap.Ns X.env.locals m->h'.Ns X.env.locals m)(hok:HOk X.prog X.w H' h')(hg:AllBare g') :
  Inv X pins σ H' { s with heap:=h',gens:=g',drawn:=d',toks:=t' }:=by
 have neL:∀ b o,X.s₀.heap.get? b=some o->b≠X.env.locals:=λb o e=>Nat.ne_of_lt (Nat.lt_of_lt_of_le (Heap.lt_size e) I.ok.above)
 have neC:∀ b o,X.s₀.heap.get? b=some o->b ∉ X.ex->b ∉ ch:=λb o e hx hb=>by
  rcases (hch b hb).1 with z | z
  ·exact hx z
  ·exact absurd (Nat.lt_of_lt_of_le (Heap.lt_size e) z) (Nat.lt_irrefl _)
 have cellK:∀ x c,X.env.cells.lookup x=some c->∀ v,s.heap.IsCell c v->h'.IsCell c v:=λx c e v ⟨o,ho,hd⟩=>by
  have nch:c ∉ ch:=λz=>(hch c z).2.2.1 x c e rfl
  by_cases hc:c ∈ X.fs
  ·obtain⟨sl,q⟩:=slot c o (I.cne x c e) hc nch ho (I.freeC x c e)
   exact⟨_,q,hd⟩
  ·exact⟨o,keep c o (I.cne x c e) hc nch ho (I.freeC x c e),hd⟩
 refine⟨I.ok,I.os,hg,⟨λb o e n hb hx=>?_,λb o e n hb hx=>?_,λb o e n hx=>?_,λb o e hx=>?_,λb xs e=>tups b xs (I.base.tups b xs e),λb o xs e=>frzs b o xs (I.base.frzs b o xs e),λb ps e=>?_⟩,?_,λx c e=>?_,?_,λx c e=>?_,λp hp=>?_,hok,I.len⟩
 ·exact keep b o (neL b o e) hb (neC b o e hx) (I.base.keep b o e n hb hx) (I.base.free b o e n hx)
 ·obtain⟨sl,e1⟩:=I.base.slot b o e n hb hx
  obtain⟨sl',e2⟩:=slot b _ (neL b o e) hb (neC b o e hx) e1 (I.base.free b o e n hx)
  exact⟨sl',e2⟩
 ·obtain⟨o',e1⟩:=I.base.there b o e hx
  exact free b o' (neC b o e hx) e1 (I.base.free b o e n hx)
 ·obtain⟨o',e1⟩:=I.base.there b o e hx
  exact there b o' (neC b o e hx) e1
 ·obtain⟨m1,e1⟩:=I.base.tbls b ps e
  obtain⟨m2,e2⟩:=tbls b _ e1
  exact⟨m1++m2,by rw[e2,Array.append_assoc]⟩
 ·obtain⟨m,hn,hl⟩:=I.loc
  refine⟨m,ns m hn,λi x v e1 e2 e3=>?_⟩
  obtain⟨u,r,l⟩:=hl i x v e1 e2 e3
  refine⟨u,r,?_⟩
  rcases l with l | ⟨k,c,e,z⟩
  ·exact .inl l
  ·exact .inr ⟨k,c,e,cellK x c e _ z⟩
 ·obtain⟨v,z⟩:=I.cell x c e
  exact⟨v,cellK x c e v z⟩
 ·obtain⟨m,⟨o,_,_,ho,_⟩,_⟩:=I.loc
  exact free _ o (λz=>(hch _ z).2.1 rfl) ho I.free
 ·obtain⟨v,o,ho,hd⟩:=I.cell x c e
  exact free c o (λz=>(hch c z).2.2.1 x c e rfl) ho (I.freeC x c e)
 ·obtain⟨e,n,ne,nf,d⟩:=I.pin p hp
  have nch:p.1 ∉ ch:=λz=>(hch p.1 z).2.2.2 p hp rfl
  exact⟨keep p.1 p.2 ne nf nch e n,free p.1 p.2 nch e n,ne,nf,d⟩
theorem Inv.un {t':Nat}(I:Inv X pins σ H s)(u:Un X.fs [] H H' s.heap h')(hok:HOk X.prog X.w H' h'):Inv X pins σ H' { s with heap:=h',toks:=t' }:=by
 obtain⟨m,⟨o,es,ep,ho,r⟩,_⟩:=id I.loc
 obtain⟨sl,hL⟩:=u.any ho I.free (by simp)
 exact I.step (g':=s.gens) (d':=s.drawn) (ch:=[]) (λ_ z=>nomatch z) (λb o _ hb _ e n=>u.keep b o e n hb (by simp)) (λb o _ hb _ e n=>u.slot b o e n hb (by simp)) (λb o _ e n=>u.free b o e n (by simp)) (λb o _ e=>u.there b o e (by simp)) u.tups u.frzs u.tbls (λm' hm=>by
  obtain⟨o',es',ep',ho',r'⟩:=hm
  rw[ho]at ho';cases ho'
  exact⟨_,es',ep',hL,r'⟩) hok I.bare
theorem Inv.call {g':Array GenState}{t':Nat}{d':Drawn}{ch:List Addr}(I:Inv X pins σ H s)(u:Un (frs X.stack) ch H H' s.heap h')(hok:HOk X.prog X.w H' h')(hg:AllBare g')
  (hch:∀ b ∈ ch,(b ∈ X.ex\/X.s₀.heap.objs.size<=b)/\b≠X.env.locals/\(∀ x c,X.env.cells.lookup x=some c->c≠b)/\∀ p ∈ X.pn++pins,p.1≠b) :
  Inv X pins σ H' { s with heap:=h',gens:=g',drawn:=d',toks:=t' }:=by
 obtain⟨m,⟨o,es,ep,ho,r⟩,_⟩:=id I.loc
 obtain⟨sl,hL⟩:=u.any ho I.free λz=>(hch _ z).2.1 rfl
 exact I.step (ch:=ch) hch (λb o hL hb hc e n=>u.keep b o e n (λz=>(List.mem_cons.mp (I.stkSub b z)).elim hL hb) hc) (λb o _ _ hc e n=>u.any e n hc) (λb o hc e n=>u.free b o e n hc) (λb o hc e=>u.there b o e hc) u.tups u.frzs u.tbls (λm' hm=>by
  obtain⟨o',es',ep',ho',r'⟩:=hm
  rw[ho]at ho';cases ho'
  exact⟨_,es',ep',hL,r'⟩) hok hg
theorem Inv.turned {t':Nat}{it:Addr}(I:Inv X pins σ H s)(k:∀ b o,b≠it->s.heap.get? b=some o->h'.get? b=some o)(hn:H it=none)(hL:it≠X.env.locals)
  (h1:it ∈ X.ex\/X.s₀.heap.objs.size<=it)(h2:∀ x c,X.env.cells.lookup x=some c->c≠it)(h3:∀ p ∈ X.pn++pins,p.1≠it):Inv X pins σ H { s with heap:=h',toks:=t' }:=by
 have nit:∀ b u,H b=some u->b≠it:=λb u e z=>by rw[z,hn]at e;cases e
 refine I.step (g':=s.gens) (d':=s.drawn) (ch:=[it]) (λb hb=>?_) (λb o _ _ hc e _=>k b o (λz=>hc (by simp[z])) e) (λb o _ _ hc e _=>⟨o.slots,k b o (λz=>hc (by simp[z])) e⟩) (λ_ _ _ _ n=>n)
  (λb o hc e=>⟨o,k b o (λz=>hc (by simp[z])) e⟩) (λ_ _ e=>e) (λ_ _ _ e=>e) (λb ps e=>⟨#[],by rw[e];simp⟩) (λm hm=>?_) (λb u e=>?_) I.bare
 ·have e:b=it:=by simpa using hb
  subst e
  exact⟨h1,hL,h2,h3⟩
 ·obtain⟨o,es,ep,ho,r⟩:=hm
  exact⟨o,es,ep,k _ o (Ne.symm hL) ho,r⟩
 ·refine (I.hok b u e).stay (λc v hc q=>k c v ?_ q) (λ_ q=>q) λ_ _ q=>q
  rcases hc with z | z
  ·rw[z];exact nit b u e
  ·exact nit c _ z
theorem Inv.tok (I:Inv X pins σ H s) (t:Nat):Inv X pins σ H { s with toks:=t }:=I.un (h':=s.heap) (t':=t) Un.refl I.hok
theorem Inv.kept {t':Nat}(I:Inv X pins σ H s)(k:∀ b u,s.heap.get? b=some u->h'.get? b=some u):Inv X pins σ H { s with heap:=h',toks:=t' }:=I.un (Un.kept k) (I.hok.kept k)
theorem Inv.laid {a:Addr}{o:HO}{t':Nat}(I:Inv X pins σ H s)(k:∀ b u,s.heap.get? b=some u->h'.get? b=some u)(hp:s.heap.objs.size<=a)(new:ObjOk X.prog X.w (upd H a o) h' a o) :
  Inv X pins σ (upd H a o) { s with heap:=h',toks:=t' }:=I.un (Un.laid k hp (I.hok.fresh hp)) (I.hok.laid k hp new)
theorem Inv.write {x e:Addr}{o:HO}{t':Nat}(I:Inv X pins σ H s)(mu:Mut (H x))(he:e=x\/H e=some (.own x))(k:∀ b u,b≠e->s.heap.get? b=some u->h'.get? b=some u)(heo:∃ u,h'.get? e=some u)
  (new:ObjOk X.prog X.w (upd H x o) h' x o):Inv X pins σ (upd H x o) { s with heap:=h',toks:=t' }:=I.un (Un.write mu he k heo) (I.hok.write mu he k heo new)
theorem Inv.pins_of {pins':List (Addr×Obj)}(I:Inv X pins σ H s)(h:∀ p ∈ pins',s.heap.get? p.1=some p.2/\H p.1=none/\p.1≠X.env.locals/\p.1 ∉ X.fs/\∀ v,p.2.data≠.cell v):Inv X pins' σ H s:=
 ⟨I.ok,I.os,I.bare,I.base,I.loc,I.cell,I.free,I.freeC,λp hp=>(List.mem_append.mp hp).elim (λz=>I.pin p (List.mem_append_left _ z)) (h p),I.hok,I.len⟩
theorem nodup_ix {N:List Str}(hN:N.Nodup){i j:Nat}{x:Str}(a:N[i]? = some x)(b:N[j]? = some x):i=j:=by
 obtain⟨h1,e1⟩:=List.getElem?_eq_some_iff.mp a
 obtain⟨h2,e2⟩:=List.getElem?_eq_some_iff.mp b
 exact (List.getElem_inj hN).mp (e1.trans e2.symm)
theorem store_ok2 {M:Model}{A:Around}{E:Value->Shared->Prop}{i:Nat}{x:Str}{v:V}{u:Value}{Q:Unit->Shared->Prop}(I:Inv X pins σ H s)(hN:X.N.Nodup)(hi:X.N[i]? = some x)(hx:Loc X.env.scope x)(r:RelV v u)
  (h:∀ s',Inv X pins (σ.set i (some v)) H s'->(∃ a,Heap.SameBut a s.heap s'.heap/\(a=X.env.locals\/X.env.cells.lookup x=some a))->Q () s')(hf:X.fn x=true\/X.env.scope.names.lookup x=some .local:=by first | exact .inl rfl | exact .inr rfl | assumption):wpAny M A (storeName X.env x u) Q E s:=by
 obtain⟨m,hn,hl⟩:=id I.loc
 have hcls:(X.env.scope.kind == .class || (X.env.scope.kind == .module && X.env.locals != X.env.globals))=false:=by rw[I.ok.kind];rfl
 have hiσ:i<σ.length:=by rw[I.len];exact (List.getElem?_eq_some_iff.mp hi).1
 have cne:=I.cne
 have tracked:∀ {a:Addr}{h':Heap},(∃ o,s.heap.get? a=some o/\H a=none)->Heap.SameBut a s.heap h'->HOk X.prog X.w H h':=fun {a h'} ha hs b ob e=>by
  obtain⟨_,_,hfree⟩:=ha
  refine (I.hok b ob e).stay (λc w' hc q=>(hs.2 c ?_).trans q) (λ_ q=>q) λ_ _ q=>q
  rintro rfl
  rcases hc with rfl | hc
  ·rw[hfree]at e;cases e
  ·rw[hfree]at hc;cases hc
 rcases hx with hk | hk
 ·refine wpAny_storeName_local hk hn (λh' hn' hs=>?_) hcls
  obtain⟨oL,_,_,hoL,_⟩:=id hn
  refine h _ ⟨I.ok,I.os,I.bare,⟨λb o e n hb hx=>?_,λb o e n hb hx=>?_,I.base.free,λb o e hx=>?_,I.base.tups,I.base.frzs,I.base.tbls⟩,⟨_,hn',λj y v' e1 e2 e3=>?_⟩,λy c e=>?_,I.free,I.freeC,λp hp=>?_,tracked ⟨oL,hoL,I.free⟩ hs,by simpa using I.len⟩ ⟨_,hs,.inl rfl⟩
  ·exact (hs.2 b (Nat.ne_of_lt (Nat.lt_of_lt_of_le (Heap.lt_size e) I.ok.above))).trans (I.base.keep b o e n hb hx)
  ·obtain⟨sl,e1⟩:=I.base.slot b o e n hb hx
   exact⟨sl,(hs.2 b (Nat.ne_of_lt (Nat.lt_of_lt_of_le (Heap.lt_size e) I.ok.above))).trans e1⟩
  ·obtain⟨o',e1⟩:=I.base.there b o e hx
   exact⟨o',(hs.2 b (Nat.ne_of_lt (Nat.lt_of_lt_of_le (Heap.lt_size e) I.ok.above))).trans e1⟩
  ·by_cases hj:j=i
   ·subst hj
    rw[hi]at e1;cases e1
    rw[List.getElem?_set_self hiσ]at e2
    cases e2
    exact⟨u,r,.inl ⟨hk,by simp⟩⟩
   ·rw[List.getElem?_set_ne (Ne.symm hj)]at e2
    obtain⟨u',r',q⟩:=hl j y v' e1 e2 e3
    refine⟨u',r',?_⟩
    rcases q with ⟨k,e⟩ | ⟨k,c,e,z⟩
    ·refine .inl ⟨k,?_⟩
     have:y≠x:=λe=>hj (nodup_ix hN e1 (e ▸ hi))
     simp[this,e]
    ·exact .inr ⟨k,c,e,z.sameBut hs (cne y c e)⟩
  ·obtain⟨w',z⟩:=I.cell y c e
   exact⟨w',z.sameBut hs (cne y c e)⟩
  ·obtain⟨e,n,ne,nf,d⟩:=I.pin p hp
   exact⟨(hs.2 p.1 ne).trans e,n,ne,nf,d⟩
 ·have hfn:X.fn x=true:=by
   rcases hf with z | z
   ·exact z
   ·rw[z]at hk;cases hk
  obtain⟨c,hc⟩:=I.ok.has x (.inl hk)
  obtain⟨w',z⟩:=I.cell x c hc
  refine wpAny_storeName_cell I.ok.kind hk hc z (λh' hc' hs=>?_)
  obtain⟨oc,hoc,hocd⟩:=id z
  refine h { s with heap:=h' } ⟨I.ok,I.os,I.bare,⟨λb o e n hb hx=>?_,λb o e n hb hx=>?_,I.base.free,λb o e hx=>?_,I.base.tups,I.base.frzs,I.base.tbls⟩,⟨m,hn.sameBut hs (Ne.symm (cne x c hc)),λj y v' e1 e2 e3=>?_⟩,λy c' e=>?_,I.free,I.freeC,λp hp=>?_,tracked ⟨oc,hoc,I.freeC x c hc⟩ hs,by simpa using I.len⟩ ⟨c,hs,.inr hc⟩
  ·exact (hs.2 b (Nat.ne_of_lt (Nat.lt_of_lt_of_le (Heap.lt_size e) (I.ok.cab x c hfn hc)))).trans (I.base.keep b o e n hb hx)
  ·obtain⟨sl,e1⟩:=I.base.slot b o e n hb hx
   exact⟨sl,(hs.2 b (Nat.ne_of_lt (Nat.lt_of_lt_of_le (Heap.lt_size e) (I.ok.cab x c hfn hc)))).trans e1⟩
  ·obtain⟨o',e1⟩:=I.base.there b o e hx
   exact⟨o',(hs.2 b (Nat.ne_of_lt (Nat.lt_of_lt_of_le (Heap.lt_size e) (I.ok.cab x c hfn hc)))).trans e1⟩
  ·by_cases hj:j=i
   ·subst hj
    rw[hi]at e1;cases e1
    rw[List.getElem?_set_self hiσ]at e2
    cases e2
    exact⟨u,r,.inr ⟨.inl hk,c,hc,hc'⟩⟩
   ·rw[List.getElem?_set_ne (Ne.symm hj)]at e2
    obtain⟨u',r',q⟩:=hl j y v' e1 e2 e3
    refine⟨u',r',?_⟩
    rcases q with q | ⟨k,c',e,z'⟩
    ·exact .inl q
    ·refine .inr ⟨k,c',e,z'.sameBut hs ?_⟩
     rintro rfl
     exact hj (nodup_ix hN e1 (I.ok.inj _ _ _ e hc ▸ hi))
  ·by_cases hcc:c'=c
   ·subst hcc;exact⟨_,hc'⟩
   ·obtain⟨w2,z2⟩:=I.cell y c' e
    exact⟨w2,z2.sameBut hs hcc⟩
  ·obtain⟨e,n,ne,nf,d⟩:=I.pin p hp
   refine⟨(hs.2 p.1 ?_).trans e,n,ne,nf,d⟩
   intro q
   rw[q,hoc]at e
   have q':oc=p.2:=Option.some.inj e
   exact d w' (by rw[<-q'];exact hocd)
theorem store_ok {M:Model}{A:Around}{E:Value->Shared->Prop}{i:Nat}{x:Str}{v:V}{u:Value}{Q:Unit->Shared->Prop}(I:Inv X pins σ H s)(hN:X.N.Nodup)(hi:X.N[i]? = some x)(hx:Loc X.env.scope x)(r:RelV v u)
  (h:∀ s',Inv X pins (σ.set i (some v)) H s'->Q () s')(hf:X.fn x=true\/X.env.scope.names.lookup x=some .local:=by first | exact .inl rfl | exact .inr rfl | assumption):wpAny M A (storeName X.env x u) Q E s:=
 store_ok2 I hN hi hx r (λs' I' _=>h s' I') hf
theorem Inv.call' {s':Shared}{ch:List Addr}(I:Inv X pins σ H s)(ho:s'.os=s.os)(u:Un (frs X.stack) ch H H' s.heap s'.heap)(hok:HOk X.prog X.w H' s'.heap)(hg:AllBare s'.gens)
  (hch:∀ b ∈ ch,(b ∈ X.ex\/X.s₀.heap.objs.size<=b)/\b≠X.env.locals/\(∀ x c,X.env.cells.lookup x=some c->c≠b)/\∀ p ∈ X.pn++pins,p.1≠b):Inv X pins σ H' s':=by
 obtain⟨h',g',d',t',o'⟩:=s'
 have e:o'=s.os:=ho
 subst e
 exact I.call (g':=g') (t':=t') (d':=d') u hok hg hch
end
abbrev XK:=Value->Option Addr->Hp->Prop
abbrev St:=List (Option V)
abbrev VK:=V->Hp->Prop
abbrev TE:=St->Hp->VK->Prop
abbrev TT:=St->Hp->(Bool->Hp->Prop)->Prop
abbrev TA:=St->Hp->(List V->Hp->Prop)->Prop
structure Ends where
 nx:St->Hp->Prop
 rt:VK
 bk:St->Hp->Prop:=λ_ _=>False
 ct:St->Hp->Prop:=λ_ _=>False
abbrev TS:=Ends->St->Hp->Prop
def EP (X:Cx)(pins:List (Addr×Obj))(σ:St)(Q:VK) (u:Value)(s':Shared):Prop:=∃ v H',Inv X pins σ H' s'/\RelV v u/\Q v H'
def TP (X:Cx)(pins:List (Addr×Obj))(σ:St)(Q:Bool->Hp->Prop)(b:Bool)(s':Shared):Prop:=∃ H',Inv X pins σ H' s'/\Q b H'
def AP (X:Cx)(pins:List (Addr×Obj))(σ:St)(Q:List V->Hp->Prop)(us:List Value)(s':Shared):Prop:=∃ vs H',Inv X pins σ H' s'/\Vals vs us/\Q vs H'
def SP (X:Cx)(pins:List (Addr×Obj))(D:Ends)(f:Flow)(s':Shared):Prop:=
 match f with
 |.next=>∃ σ' H',Inv X pins σ' H' s'/\D.nx σ' H'
 |.brk=>∃ σ' H',Inv X pins σ' H' s'/\D.bk σ' H'
 |.cont=>∃ σ' H',Inv X pins σ' H' s'/\D.ct σ' H'
 |.ret u=>∃ v σ' H',Inv X pins σ' H' s'/\RelV v u/\D.rt v H'
def PE (X:Cx)(e:Expr)(t:TE):Prop:=
 ∀ (pins:List (Addr×Obj))(s:Shared)(σ:St)(H:Hp)(Q:VK),Inv X pins σ H s->t σ H Q->wpAny (model X.prog X.w) X.A (eval e X.env) (EP X pins σ Q) X.xe s
def PT (X:Cx)(e:Expr)(t:TT):Prop:=
 ∀ (pins:List (Addr×Obj))(s:Shared)(σ:St)(H:Hp)(Q:Bool->Hp->Prop),Inv X pins σ H s->t σ H Q->wpAny (model X.prog X.w) X.A (isTrue e X.env (eval e X.env)) (TP X pins σ Q) X.xe s
def PW (X:Cx)(e:Expr)(t:TT):Prop:=
 ∀ (whole:Sem Value)(pins:List (Addr×Obj))(s:Shared)(σ:St)(H:Hp)(Q:Bool->Hp->Prop),Inv X pins σ H s->t σ H Q->wpAny (model X.prog X.w) X.A (isTrue e X.env whole) (TP X pins σ Q) X.xe s
theorem PW.pt {X:Cx}{e:Expr}{t:TT}(h:PW X e t):PT X e t:=h _
def PA (X:Cx)(es:List Expr)(t:TA):Prop:=
 ∀ (pos:Pos)(pins:List (Addr×Obj))(s:Shared)(σ:St)(H:Hp)(Q:List V->Hp->Prop),Inv X pins σ H s->t σ H Q->wpAny (model X.prog X.w) X.A (spliced (backTo pos (starEach es X.env))) (AP X pins σ Q) X.xe s
def PS (X:Cx)(st:Stmt)(t:TS):Prop:=
 ∀ (pins:List (Addr×Obj))(s:Shared)(σ:St)(H:Hp)(D:Ends),Inv X pins σ H s->t D σ H->wpAny (model X.prog X.w) X.A (exec st X.env) (SP X pins D) X.xe s
def PSs (X:Cx)(st:List Stmt)(t:TS):Prop:=
 ∀ (pins:List (Addr×Obj))(s:Shared)(σ:St)(H:Hp)(D:Ends),Inv X pins σ H s->t D σ H->wpAny (model X.prog X.w) X.A (execs st X.env) (SP X pins D) X.xe s
theorem thn {α:Type}{t:Sem α}{Q Q':α->Shared->Prop}{M:Model}{A:Around}{E:Value->Shared->Prop}{s:Shared}(h:wpAny M A t Q E s)(hQ:∀ a s,Q a s->Q' a s):wpAny M A t Q' E s:=wpAny_mono h hQ λ_ _ x=>x
end L2
namespace L2
open PySem PySem.Spec PyProof.Rows
section
variable {X:Cx}
def tVar (i:Nat):TE:=λσ H Q=>∃ v,σ[i]? = some (some v)/\Q v H
def tC (v:V):TE:=λ_ H Q=>Q v H
theorem pe_var {i:Nat}{x:Str}{pos:Pos}(hN:X.N[i]? = some x)(hv:Vis X.env.scope x)(hd:autoParam ((x == ("__debug__" : Str))=false) aD._auto_1)(hcd:autoParam ((x == ("__classdict__" : Str))=false) aD._auto_1):PE X (.Name x pos) (tVar i):=by
 intro pins s σ H Q I h
 obtain⟨v,e,h⟩:=h
 obtain⟨m,hn,hl⟩:=I.loc
 obtain⟨u,r,l⟩:=hl i x v hN e hv
 have fin:EP X pins σ Q u s:=⟨v,H,I,r,h⟩
 rcases l with ⟨hk,hm⟩ | ⟨hk,c,hc,hcell⟩
 ·exact wpAny_Name (wpAny_loadName_local I.ok.kind hk hn hm fin) hd
 ·rcases hk with hk | hk
  ·exact wpAny_Name (wpAny_loadName_cell I.ok.kind hk hc hcell fin) hd
  ·exact wpAny_Name (wpAny_loadName_free I.ok.kind hk hc hcell fin hcd) hd
theorem pe_int {i j pos}:PE X (.Constant (.int i) j pos) (tC (.int i)):=λ_ _ _ H _ I h=>wpAny_Constant_int ⟨.int i,H,I.tok _,⟨_,rfl⟩,h⟩
theorem pe_bl {b j pos}:PE X (.Constant (.bool b) j pos) (tC (.bl b)):=λ_ _ _ H _ I h=>Constant_bool ⟨.bl b,H,I,rfl,h⟩
theorem pe_non {j pos}:PE X (.Constant .none j pos) (tC .non):=λ_ _ _ H _ I h=>Constant_none ⟨.non,H,I,rfl,h⟩
theorem pe_str {x j pos}:PE X (.Constant (.str x) j pos) (tC (.str x)):=λ_ _ _ H _ I h=>Calls.Constant_str ⟨.str x,H,I.tok _,⟨_,rfl⟩,h⟩
def Gl (X:Cx) (x:Str):Prop:=X.env.kindOf x=some .globalImplicit
theorem ld_glob {E:Value->Shared->Prop}{pins:List (Addr×Obj)}{s:Shared}{σ:St}{H:Hp}{x:Str}{u:Value}{pos:Pos}{Q:Value->Shared->Prop}(I:Inv X pins σ H s)(hg:Gl X x)(hm:X.mg x=some u)(h:Q u s)
  (hd:autoParam ((x == ("__debug__" : Str))=false) aD._auto_1):wpAny (model X.prog X.w) X.A (eval (.Name x pos) X.env) Q E s:=
 Calls.Name_function_global I.ok.kind hg (Calls.loadGlobal_global (by rw[I.ok.glob];exact I.mod.glob.keeps I.bk) hm h) hd
theorem ld_blt {E:Value->Shared->Prop}{pins:List (Addr×Obj)}{s:Shared}{σ:St}{H:Hp}{x:Str}{u:Value}{pos:Pos}{Q:Value->Shared->Prop}(I:Inv X pins σ H s)(hg:Gl X x)(hm:X.mg x=none)(hv:bootBuiltins x=some u)(h:Q u s)
  (hn:x ≠ "__name__":=by decide)(hd:autoParam ((x == ("__debug__" : Str))=false) aD._auto_1):wpAny (model X.prog X.w) X.A (eval (.Name x pos) X.env) Q E s:=by
 obtain⟨mb,h1,h2⟩:=I.mod.blt
 exact Calls.Name_function_global I.ok.kind hg (Calls.loadGlobal_builtin (by rw[I.ok.glob];exact I.mod.glob.keeps I.bk) hm (by rw[I.ok.blt];exact h1.keeps I.bk) ((h2 x hn).trans hv) h) hd
theorem pe_glob {x:Str}{v:V}{u:Value}{pos:Pos}(hg:Gl X x)(hm:X.mg x=some u)(r:RelV v u)(hd:autoParam ((x == ("__debug__" : Str))=false) aD._auto_1):PE X (.Name x pos) (tC v):=
 λ_ _ _ H _ I h=>ld_glob I hg hm ⟨v,H,I,r,h⟩ hd
theorem pe_bltn {x:Str}{v:V}{u:Value}{pos:Pos}(hg:Gl X x)(hm:X.mg x=none)(hv:bootBuiltins x=some u)(r:RelV v u)(hn:x ≠ "__name__":=by decide)(hd:autoParam ((x == ("__debug__" : Str))=false) aD._auto_1):PE X (.Name x pos) (tC v):=
 λ_ _ _ H _ I h=>ld_blt I hg hm hv ⟨v,H,I,r,h⟩ hn hd
variable {a b:Expr}{ta tb:TE}{pos:Pos}
def PC (X:Cx)(op:CmpOp)(a b:Expr)(t:TE):Prop:=
 ∀ (pins:List (Addr×Obj))(s:Shared)(σ:St)(H:Hp)(Q:VK),Inv X pins σ H s->t σ H Q ->
  wpAny (model X.prog X.w) X.A (eval a X.env) (λv s₁=>wpAny (model X.prog X.w) X.A (eval b X.env) (λu s₂=>wpAny (model X.prog X.w) X.A (compareOp op v u) (EP X pins σ Q) X.xe s₂) X.xe s₁) X.xe s
def tB (t:TE):TT:=λσ H Q=>t σ H λx H1=>∃ c,x=.bl c/\Q c H1
theorem pt_cmp {op:CmpOp}{t:TE}(h:PC X op a b t)(h1:behindInMarks op b=false:=by first | exact nobehind _ (by decide) (by decide) | rfl):PT X (.Compare a [op] [b] pos) (tB t):=by
 intro pins s σ H Q I hw
 refine wpAny_isTrue_Compare1 (thn (h pins s σ H _ I hw) λv s1 h1=>thn h1 λu s2 h2=>thn h2 λc s3 ⟨x,H1,I1,r1,q1⟩=>?_) h1
 obtain⟨d,rfl,q⟩:=q1
 cases r1
 exact wpAny_truthy_bool ⟨H1,I1,q⟩
variable {tA tB':TT}{rest:List Expr}
def tOr (t u:TT):TT:=λσ H Q=>t σ H λc H1=>if c=true then Q true H1 else u σ H1 Q
def tNot (t:TT):TT:=λσ H Q=>t σ H λc H1=>Q (!c) H1
theorem pw_or1 (ha:PT X a tA):PW X (.BoolOp .Or [a] pos) tA:=by
 intro wh pins s σ H Q I h
 refine isTrue_or (thn (ha pins s σ H Q I h) λc s1 e=>?_)
 cases c with
 |false=>exact isTrue_or_nil e
 |true=>exact e
theorem pw_or (ha:PT X a tA)(hb:PW X (.BoolOp .Or (b::rest) pos) tB'):PW X (.BoolOp .Or (a::b::rest) pos) (tOr tA tB'):=by
 intro wh pins s σ H Q I h
 refine isTrue_or (thn (ha pins s σ H _ I h) λc s1 ⟨H1,I1,q1⟩=>?_)
 cases c with
 |true=>exact⟨H1,I1,q1⟩
 |false=>exact hb wh pins s1 σ H1 Q I1 q1
theorem pt_not (ha:PT X a tA):PT X (.UnaryOp .Not a pos) (tNot tA):=by
 intro pins s σ H Q I h
 exact isTrue_not (ha pins s σ H (λc H1=>Q (!c) H1) I h)
def tAndV (ta tb:TE):TE:=λσ H Q=>ta σ H λx H1=>∃ c,x=.bl c/\if c=true then tb σ H1 Q else Q (.bl false) H1
def tOrV (ta tb:TE):TE:=λσ H Q=>ta σ H λx H1=>∃ c,x=.bl c/\if c=true then Q (.bl true) H1 else tb σ H1 Q
def tNotV (ta:TE):TE:=λσ H Q=>ta σ H λx H1=>∃ c,x=.bl c/\Q (.bl (!c)) H1
theorem pe_one {op}{t:TE}(h:PE X a t):PE X (.BoolOp op [a] pos) t:=λpins s σ H Q I hw=>BoolOp_one (h pins s σ H Q I hw)
theorem pe_and (ha:PE X a ta)(hb:PE X (.BoolOp .And (b::rest) pos) tb):PE X (.BoolOp .And (a::b::rest) pos) (tAndV ta tb):=by
 intro pins s σ H Q I h
 refine BoolOp_and (thn (ha pins s σ H _ I h) λv s1 ⟨x,H1,I1,r1,q1⟩=>?_)
 obtain⟨c,rfl,q1⟩:=q1
 cases r1
 refine wpAny_truthy_bool ?_
 cases c with
 |true=>exact hb pins s1 σ H1 Q I1 q1
 |false=>exact⟨.bl false,H1,I1,rfl,q1⟩
theorem pe_or (ha:PE X a ta)(hb:PE X (.BoolOp .Or (b::rest) pos) tb):PE X (.BoolOp .Or (a::b::rest) pos) (tOrV ta tb):=by
 intro pins s σ H Q I h
 refine BoolOp_or (thn (ha pins s σ H _ I h) λv s1 ⟨x,H1,I1,r1,q1⟩=>?_)
 obtain⟨c,rfl,q1⟩:=q1
 cases r1
 refine wpAny_truthy_bool ?_
 cases c with
 |false=>exact hb pins s1 σ H1 Q I1 q1
 |true=>exact⟨.bl true,H1,I1,rfl,q1⟩
theorem pe_not (ha:PE X a ta):PE X (.UnaryOp .Not a pos) (tNotV ta):=by
 intro pins s σ H Q I h
 refine UnaryOp_ (thn (ha pins s σ H _ I h) λv s1 ⟨x,H1,I1,r1,q1⟩=>?_)
 obtain⟨c,rfl,q1⟩:=q1
 cases r1
 exact not_of (wpAny_truthy_bool ⟨.bl (!c),H1,I1,rfl,q1⟩)
def tIf (t:TT)(ta tb:TE):TE:=λσ H Q=>t σ H λc H1=>if c=true then ta σ H1 Q else tb σ H1 Q
theorem pe_ifExp {c:Expr}(hc:PT X c tA)(ha:PE X a ta)(hb:PE X b tb):PE X (.IfExp c a b pos) (tIf tA ta tb):=by
 intro pins s σ H Q I h
 refine wpAny_IfExp (thn (hc pins s σ H _ I h) λd s1 ⟨H1,I1,q1⟩=>?_)
 cases d with
 |true=>exact ha pins s1 σ H1 Q I1 q1
 |false=>exact hb pins s1 σ H1 Q I1 q1
end
end L2
namespace L2
open PySem PySem.Spec PyProof.Rows
def SqL (K:PySem.W.Frag)(H:Hp)(a:Addr)(xs:List V):Prop:=
 Rd H a (.lst xs) ∨
  ∃ (o:Obj)(its:Array Value) (n:Nat),K.lookup a=some o/\o.cls=.type "list"/\o.dict=none/\o.data=.seq its n/\its.size<=sizeLine/\Vals xs its.toList
def SqT (K:PySem.W.Frag)(H:Hp)(a:Addr)(xs:List V):Prop:=
 Rd H a (.tup xs) ∨
  ∃ (o:Obj)(its:Array Value) (n:Nat),K.lookup a=some o/\o.cls=.type "tuple"/\o.dict=none/\o.data=.seq its n/\its.size<=sizeLine/\Vals xs its.toList
def absV:Value->Option V
 |.none=>some .non
 |.bool b=>some (.bl b)
 |.int i _=>some (.int i)
 |.str x _=>some (.str x)
 |.bytes b _=>some (.byt b)
 |.float b _=>some (.flt b)
 |.ref a=>some (.ref a)
 |.type n=>some (.ty n)
 |_=>none
theorem RelV.abs {x:V}{u:Value}(r:RelV x u):absV u=some x:=by
 cases x with
 |non=>cases r;rfl
 |bl _=>cases r;rfl
 |int _=>obtain⟨t,rfl⟩:=r;rfl
 |str _=>obtain⟨t,rfl⟩:=r;rfl
 |byt _=>obtain⟨t,rfl⟩:=r;rfl
 |flt _=>obtain⟨t,rfl⟩:=r;rfl
 |ref _=>cases r;rfl
 |ty _=>cases r;rfl
theorem RelV.inj {x y:V}{u:Value}(r:RelV x u)(q:RelV y u):x=y:=Option.some.inj (r.abs.symm.trans q.abs)
theorem Vals.inj:∀ {xs ys:List V}{us:List Value},Vals xs us->Vals ys us->xs=ys
 |_,_,_,.nil,.nil=>rfl
 |_,_,_,.cons r t,.cons r' t'=>by rw[r.inj r',Vals.inj t t']
section
variable {X:Cx}{pins:List (Addr×Obj)}{σ:St}{H:Hp}{s:Shared}{a:Addr}{xs ys:List V}
theorem SqL.of {K:PySem.W.Frag}(h:H a=some (.lst xs)):SqL K H a xs:=.inl (.inl h)
theorem SqT.of {K:PySem.W.Frag}(h:H a=some (.tup xs)):SqT K H a xs:=.inl (.inl h)
theorem Inv.list (I:Inv X pins σ H s)(h:SqL X.K H a xs):∃ its:List Value,Vals xs its/\PlainL s.heap a its.toArray/\xs.length<=sizeLine:=by
 rcases h with h | ⟨o,its,n,hk,hc,hd,hs,hz,r⟩
 ·obtain⟨z,its,n,r,e⟩:=h.ok I.hok
  exact⟨its,r,⟨_,n,e,rfl,rfl,rfl⟩,z⟩
 ·refine⟨its.toList,r,⟨o,n,I.kIn a o hk,hc,hd,by simpa using hs⟩,?_⟩
  have e:=r.length
  simp only[Array.length_toList]at e
  omega
theorem Inv.tuple (I:Inv X pins σ H s)(h:SqT X.K H a xs):∃ its:List Value,Vals xs its/\IsTup s.heap a its.toArray/\xs.length<=sizeLine:=by
 rcases h with h | ⟨o,its,n,hk,hc,_,hs,hz,r⟩
 ·obtain⟨z,its,r,p⟩:=h.ok I.hok
  exact⟨its,r,p.tup,z⟩
 ·refine⟨its.toList,r,⟨o,I.kIn a o hk,hc,n,by simpa using hs⟩,?_⟩
  have e:=r.length
  simp only[Array.length_toList]at e
  omega
theorem Inv.tupleD (I:Inv X pins σ H s)(h:SqT X.K H a xs):∃ o,s.heap.get? a=some o/\o.dict=none:=by
 rcases h with h | ⟨o,its,n,hk,hc,hd,hs,hz,r⟩
 ·obtain⟨z,its,r,o,h1,_,_,h2⟩:=h.ok I.hok
  exact⟨o,h1,h2⟩
 ·exact⟨o,I.kIn a o hk,hd⟩
theorem Inv.list_inj (I:Inv X pins σ H s)(h:SqL X.K H a xs)(h':SqL X.K H a ys):xs=ys:=by
 obtain⟨its,r,⟨o,n,e,_,_,d⟩,_⟩:=I.list h
 obtain⟨its',r',⟨o',n',e',_,_,d'⟩,_⟩:=I.list h'
 rw[e]at e';cases e'
 rw[d]at d'
 injection d' with d1 _
 have:its=its':=by simpa using congrArg Array.toList d1
 subst this
 exact r.inj r'
theorem Inv.tuple_inj (I:Inv X pins σ H s)(h:SqT X.K H a xs)(h':SqT X.K H a ys):xs=ys:=by
 obtain⟨its,r,⟨o,e,_,n,d⟩,_⟩:=I.tuple h
 obtain⟨its',r',⟨o',e',_,n',d'⟩,_⟩:=I.tuple h'
 rw[e]at e';cases e'
 rw[d]at d'
 injection d' with d1 _
 have:its=its':=by simpa using congrArg Array.toList d1
 subst this
 exact r.inj r'
end
section
variable {X:Cx}{pins:List (Addr×Obj)}{σ:St}{H:Hp}{s:Shared}{E:Value->Shared->Prop}
end
section
variable {X:Cx}{st:Stmt}{rest:List Stmt}{t u:TS}{e:Expr}{te:TE}{pos:Pos}
def tNext:TS:=λD σ H=>D.nx σ H
def tSeq (t u:TS):TS:=λD σ H=>t { D with nx:=u D } σ H
theorem pss_nil:PSs X [] tNext:=λ_ _ σ H _ I h=>wpAny_execs_nil ⟨σ,H,I,h⟩
theorem pss_cons (h1:PS X st t)(h2:PSs X rest u):PSs X (st::rest) (tSeq t u):=by
 intro pins s σ H D I h
 refine wpAny_execs_cons (thn (h1 pins s σ H { D with nx:=u D } I h) λf s1 q=>?_)
 cases f with
 |next=>
  obtain⟨σ',H',I',q⟩:=q
  exact h2 pins s1 σ' H' D I' q
 |ret v=>exact q
 |brk=>exact q
 |cont=>exact q
theorem pss_one (h1:PS X st t):PSs X [st] t:=by
 intro pins s σ H D I h
 refine wpAny_execs_cons (thn (h1 pins s σ H D I h) λf s1 q=>?_)
 cases f with
 |next=>exact wpAny_execs_nil q
 |ret v=>exact q
 |brk=>exact q
 |cont=>exact q
theorem Inv.quiet {pins:List (Addr×Obj)}{σ:St}{H:Hp}{s:Shared}(I:Inv X pins σ H s):interactive X.env=false:=by simp[interactive,I.ok.kind]
def tDrop (te:TE):TS:=λD σ H=>te σ H λ_ H1=>D.nx σ H1
theorem ps_expr (he:PE X e te)(hs:autoParam (swapsWith e none pos.line X.env=pure false) aR._auto_1):PS X (.Expr e pos) (tDrop te):=by
 intro pins s σ H D I h
 exact wpAny_Expr_any (thn (he pins s σ H _ I h) λv s1 ⟨x,H1,I1,r1,q1⟩=>⟨σ,H1,I1,q1⟩) I.quiet hs
def tRet (te:TE):TS:=λD σ H=>te σ H D.rt
theorem ps_ret (he:PE X e te):PS X (.Return (some e) pos) (tRet te):=by
 intro pins s σ H D I h
 exact wpAny_Return_some (thn (he pins s σ H _ I h) λv s1 ⟨x,H1,I1,r1,q1⟩=>⟨x,σ,H1,I1,r1,q1⟩)
def tIfS (c:TT)(t u:TS):TS:=λD σ H=>c σ H λb H1=>if b=true then t D σ H1 else u D σ H1
theorem ps_if {c:Expr}{a b:List Stmt}{tc:TT}(hc:PT X c tc)(ha:PSs X a t)(hb:PSs X b u):PS X (.If c a b pos) (tIfS tc t u):=by
 intro pins s σ H D I h
 refine wpAny_If (thn (hc pins s σ H _ I h) λd s1 ⟨H1,I1,q1⟩=>?_)
 cases d with
 |true=>exact ha pins s1 σ H1 D I1 q1
 |false=>exact hb pins s1 σ H1 D I1 q1
end
abbrev TG:=V->St->Hp->(St->Hp->Prop)->Prop
abbrev TGs:=List V->St->Hp->(St->Hp->Prop)->Prop
def PG (X:Cx)(target:Expr)(t:TG):Prop:=
 ∀ (pins:List (Addr×Obj))(s:Shared)(σ:St)(H:Hp)(v:V) (u:Value)(Q:St->Hp->Prop),Inv X pins σ H s->RelV v u->t v σ H Q ->
  wpAny (model X.prog X.w) X.A (assign target X.env u) (λ_ s'=>∃ σ' H',Inv X pins σ' H' s'/\Q σ' H') X.xe s
def PGs (X:Cx)(ts:List Expr)(t:TGs):Prop:=
 ∀ (pins:List (Addr×Obj))(s:Shared)(σ:St)(H:Hp)(vs:List V)(us:List Value)(Q:St->Hp->Prop),Inv X pins σ H s->Vals vs us->t vs σ H Q ->
  wpAny (model X.prog X.w) X.A (assignInOrder ((assignEach ts X.env).map (·.2)) us) (λ_ s'=>∃ σ' H',Inv X pins σ' H' s'/\Q σ' H') X.xe s
abbrev TSet:=V->V->V->Hp->(Hp->Prop)->Prop
def PSet (X:Cx)(t:TSet):Prop:=
 ∀ (pins:List (Addr×Obj))(s:Shared)(σ:St)(H:Hp)(o i v:V) (ov iv u:Value)(Q:Hp->Prop),Inv X pins σ H s->RelV o ov->RelV i iv->RelV v u->t o i v H Q ->
  wpAny (model X.prog X.w) X.A (setItem ov iv u) (λ_ s'=>∃ H',Inv X pins σ H' s'/\Q H') X.xe s
section
variable {X:Cx}{pos:Pos}
def gName (i:Nat):TG:=λv σ H Q=>Q (σ.set i (some v)) H
theorem pg_name {i:Nat}{x:Str}(hN:X.N.Nodup)(hi:X.N[i]? = some x)(hx:Loc X.env.scope x)(hf:X.fn x=true\/X.env.scope.names.lookup x=some .local:=by first | exact .inl rfl | exact .inr rfl | assumption):PG X (.Name x pos) (gName i):=by
 intro pins s σ H v u Q I r h
 exact wpAny_assign_Name (store_ok I hN hi hx r (λs' I'=>⟨_,H,I',h⟩) hf)
def gNil:TGs:=λvs σ H Q=>vs=[]/\Q σ H
def gCons (t:TG)(u:TGs):TGs:=λvs σ H Q=>∃ v r,vs=v::r/\t v σ H λσ' H'=>u r σ' H' Q
theorem pgs_nil:PGs X [] gNil:=by
 intro pins s σ H vs us Q I r h
 obtain⟨e,h⟩:=h
 subst e
 cases r
 exact assignInOrder_nil ⟨σ,H,I,h⟩
theorem pgs_cons {e:Expr}{es:List Expr}{t:TG}{u:TGs}(h1:PG X e t)(h2:PGs X es u)
  (hs:autoParam ((assignEach (e::es) X.env).map (·.2)=assign e X.env::(assignEach es X.env).map (·.2)) aR._auto_1):PGs X (e::es) (gCons t u):=by
 intro pins s σ H vs us Q I r h
 obtain⟨v,vr,e1,h⟩:=h
 subst e1
 cases r with
 |cons r rr=>
  rw[hs]
  refine assignInOrder_cons (thn (h1 pins s σ H _ _ _ I r h) λ_ s1 ⟨σ1,H1,I1,q1⟩=>?_)
  exact h2 pins s1 σ1 H1 _ _ Q I1 rr q1
def gTup (K:PySem.W.Frag) (n:Nat)(t:TGs):TG:=λv σ H Q=>∃ a xs,v=.ref a/\SqT K H a xs/\xs.length=n/\t xs σ H Q
theorem pg_tup {es:List Expr}{k:Nat}{t:TGs}{n:Nat}(hc:X.calm=true)(h:PGs X es t)
  (hn:autoParam ((assignEach es X.env).length=n) aR._auto_1)(hst:autoParam ((assignEach es X.env).findIdx? (·.1)=none) aR._auto_1):PG X (.Tuple es k pos) (gTup X.K n t):=by
 intro pins s σ H v u Q I r hw
 obtain⟨a,xs,e1,hq,hl,hw⟩:=hw
 subst e1
 cases r
 obtain⟨its,rv,ht,hz⟩:=I.tuple hq
 refine assign_Tuple_tuple (I.ok.hd hc) ht (by simp[hn,<-hl,rv.length]) hst λh' hx=>?_
 have I1:Inv X pins σ H { s with heap:=h' }:=I.kept (t':=s.toks) λb o e=>hx b o (Nat.ne_of_lt (Heap.lt_size e)) e
 exact h pins _ σ H xs _ Q I1 (by simpa using rv) hw
def gSub (to ti:TE)(t:TSet):TG:=λv σ H Q=>to σ H λo H1=>ti σ H1 λi H2=>t o i v H2 λH3=>Q σ H3
theorem pg_sub {o i:Expr}{to ti:TE}{t:TSet}(ho:PE X o to)(hi:PE X i ti)(hs:PSet X t)
  (ha:∀ v,assign (.Subscript o i pos) X.env v=(do
   let ov <-holding [v] (eval o X.env)
   let iv <-holding [v,ov] (eval i X.env)
   standAt pos
   holding [v,ov,iv] (setItem ov iv v)
   release [v,ov,iv] []):=by intro _;rfl):PG X (.Subscript o i pos) (gSub to ti t):=by
 intro pins s σ H v u Q I r h
 rw[ha]
 refine wpAny_bind (wpAny_holding (thn (ho pins s σ H _ I h) λov s1 ⟨x,H1,I1,r1,q1⟩=>?_))
 refine wpAny_bind (wpAny_holding (thn (hi pins s1 σ H1 _ I1 q1) λiv s2 ⟨y,H2,I2,r2,q2⟩=>?_))
 refine wpAny_bind (wpAny_standAt (wpAny_bind (wpAny_holding (thn (hs pins s2 σ H2 x y v ov iv u _ I2 r1 r2 r q2) λ_ s3 ⟨H3,I3,q3⟩=>?_))))
 exact wpAny_release ⟨σ,H3,I3,q3⟩
def tAsg (te:TE)(g:TG):TS:=λD σ H=>te σ H λx H1=>g x σ H1 D.nx
theorem ps_asg {tg e:Expr}{te:TE}{g:TG}(he:PE X e te)(hg:PG X tg g)(hs:autoParam (swapsWithSole [tg] e pos.line X.env=pure false) aR._auto_1)(hw:autoParam (swappedStores [tg] e X.env=pure none) aR._auto_1)
  (h1:autoParam ((assignEach [tg] X.env).map (·.2)=[assign tg X.env]) aR._auto_1):PS X (.Assign [tg] e pos) (tAsg te g):=by
 intro pins s σ H D I h
 refine wpAny_Assign_stores (thn (he pins s σ H _ I h) λv s1 ⟨x,H1,I1,r1,q1⟩=>?_) hs hw
 rw[h1]
 exact thn (hg pins s1 σ H1 x v _ I1 r1 q1) λ_ s2 q=>q
theorem ps_set {i:Nat}{x:Str}{e:Expr}{te:TE}{pos':Pos}(hN:X.N.Nodup)(hi:X.N[i]? = some x)(hx:Loc X.env.scope x)(he:PE X e te)(hs:autoParam (swapsWith e (some (.Name x pos')) pos.line X.env=pure false) aR._auto_1)(hf:X.fn x=true\/X.env.scope.names.lookup x=some .local:=by first | exact .inl rfl | exact .inr rfl | assumption) :
  PS X (.Assign [.Name x pos'] e pos) (tAsg te (gName i)):=by
 intro pins s σ H D I h
 refine wpAny_Assign_Name (thn (he pins s σ H _ I h) λv s1 ⟨y,H1,I1,r1,q1⟩=>?_) hs
 exact store_ok I1 hN hi hx r1 (λs2 I2=>⟨_,H1,I2,q1⟩) hf
end
section
variable {X:Cx}{pos:Pos}
def tWhile (c:TT)(tb:TS):TS:=λD σ H=>∃ W:Nat->St->Hp->Prop,(∃ m,W m σ H)/\∀ m σ H,W m σ H ->
 c σ H λb H1=>if b=true then ∃ N:St->Hp->Prop,(∀ σ' H',N σ' H'->∃ m',m'<m/\W m' σ' H')/\tb { D with nx:=N,ct:=N,bk:=D.nx } σ H1 else D.nx σ H1
theorem ps_while {c:Expr}{body:List Stmt}{tc:TT}{tb:TS}(hp:PassesOwn (model X.prog X.w) X.A X.env X.xe)(hc:PT X c tc)(hb:PSs X body tb):PS X (.While c body [] pos) (tWhile tc tb):=by
 intro pins s σ H D I h
 obtain⟨W,⟨m0,w0⟩,turn⟩:=h
 refine wpAny_While (codeAny_whileLoop (λn s'=>∃ σ' H',Inv X pins σ' H' s'/\W n σ' H') ?_ m0 ⟨σ,H,I,w0⟩)
 rintro n s1 ⟨σ1,H1,I1,w1⟩
 refine wpAny_passesOwn hp (thn (hc pins s1 σ1 H1 _ I1 (turn n σ1 H1 w1)) λb s2 ⟨H2,I2,q2⟩=>?_)
 cases b with
 |true=>
  obtain⟨N,hN,q2⟩:=q2
  rw[if_pos rfl]
  refine wpAny_passesOwn hp (thn (hb pins s2 σ1 H2 _ I2 q2) λf s3 q3=>?_)
  cases f with
  |next=>
   obtain⟨σ3,H3,I3,n3⟩:=q3
   obtain⟨m',hm,w3⟩:=hN σ3 H3 n3
   exact⟨m',hm,σ3,H3,I3,w3⟩
  |cont=>
   obtain⟨σ3,H3,I3,n3⟩:=q3
   obtain⟨m',hm,w3⟩:=hN σ3 H3 n3
   exact⟨m',hm,σ3,H3,I3,w3⟩
  |brk=>exact q3
  |ret v=>exact q3
 |false=>
  rw[if_neg Bool.false_ne_true]
  exact wpAny_execs_nil ⟨σ1,H2,I2,q2⟩
end
structure It where
 go:Nat->Hp->Prop
 yld:Nat->Hp->V->Hp->Prop
 stop:Nat->Hp->Prop
def FpOk (X:Cx)(pins:List (Addr×Obj))(H:Hp)(b:Addr):Prop:=
 H b=none/\b≠X.env.locals/\b ∉ X.fs/\(b ∈ X.ex\/X.s₀.heap.objs.size<=b)/\(∀ x c,X.env.cells.lookup x=some c->c≠b)/\∀ p ∈ X.pn++pins,p.1≠b
theorem Inv.fpOk {X:Cx}{pins:List (Addr×Obj)}{σ:St}{H H':Hp}{s:Shared}{b:Addr}(I:Inv X pins σ H s)(hb:s.heap.objs.size<=b)(hn:H' b=none):FpOk X pins H' b:=by
 refine⟨hn,Nat.ne_of_gt (Nat.lt_of_lt_of_le I.lt hb),I.nofs hb,.inr (Nat.le_trans I.sz hb),λx c e z=>?_,λp hp z=>?_⟩
 ·obtain⟨v,q⟩:=I.cell x c e
  exact absurd (Nat.lt_of_lt_of_le q.lt (by rw[z];exact hb)) (Nat.lt_irrefl _)
 ·exact absurd (Nat.lt_of_lt_of_le (Heap.lt_size (I.pin p hp).1) (by rw[z];exact hb)) (Nat.lt_irrefl _)
structure Turn (P:Program)(w:World)(K:PySem.W.Frag)(tg:Expr)(J:It)(fp:List Addr)(it:Addr)(tn:Nat->Heap->Prop):Prop where
 mem:it ∈ fp
 obj:∀ i h,tn i h->∀ b ∈ fp,∃ o,h.get? b=some o/\∀ v,o.data≠.cell v
 keep:∀ i h h',tn i h->(∀ b ∈ fp,∀ o,h.get? b=some o->h'.get? b=some o)->tn i h'
 item:∀ (X:Cx),X.prog=P->X.w=w->X.K=K->X.calm=true->∀ (i:Nat)(pins:List (Addr×Obj))(s:Shared)(σ:St)(H:Hp)(E:Value->Shared->Prop),Inv X pins σ H s->(∀ b ∈ fp,FpOk X pins H b)->tn i s.heap->J.go i H ->
  wpAny (model P w) X.A (pyNext (.ref it)) (λr s1=>∃ u,r=some u ∧
   wpAny (model P w) X.A (letOwnedTupleGo tg (.ref it) u) (λ_ s2=>∃ x H',Inv X pins σ H' s2/\RelV x u/\J.yld i H x H'/\tn (i+1) s2.heap/\∀ b ∈ fp,H' b=none) E s1) E s
 done:∀ (X:Cx),X.prog=P->X.w=w->X.K=K->X.calm=true->∀ (i:Nat)(pins:List (Addr×Obj))(s:Shared)(σ:St)(H:Hp)(E:Value->Shared->Prop),Inv X pins σ H s->(∀ b ∈ fp,FpOk X pins H b)->tn i s.heap->J.stop i H ->
  wpAny (model P w) X.A (pyNext (.ref it)) (λr s1=>r=none/\Inv X pins σ H s1) E s
 self:∀ (A:Around) (i:Nat)(s:Shared)(Q:Value->Shared->Prop)(E:Value->Shared->Prop),tn i s.heap->Q (.ref it) s->wpAny (model P w) A (pyIter (.ref it)) Q E s
abbrev TI:=St->Hp->(It->Hp->Prop)->Prop
def PIE (X:Cx)(pins:List (Addr×Obj))(σ:St)(tg:Expr)(R:It->Hp->Prop) (itv:Value)(s2:Shared):Prop:=
 ∃ (it:Addr)(fp:List Addr)(tn:Nat->Heap->Prop)(J:It)(H':Hp),itv=.ref it/\Inv X pins σ H' s2/\Turn X.prog X.w X.K tg J fp it tn/\tn 0 s2.heap/\(∀ b ∈ fp,FpOk X pins H' b)/\R J H'
def PI (X:Cx)(tg iter:Expr)(wi:TI):Prop:=
 ∀ (pins:List (Addr×Obj))(s:Shared)(σ:St)(H:Hp)(R:It->Hp->Prop),Inv X pins σ H s->wi σ H R ->
  wpAny (model X.prog X.w) X.A (eval iter X.env) (λv s1=>wpAny (model X.prog X.w) X.A (pyIter v) (PIE X pins σ tg R) X.xe s1) X.xe s
theorem go_of {M:Model}{A:Around}{E:Value->Shared->Prop}{s:Shared}{tg:Expr}{it:Addr}{u:Value}{o:Obj}{n:String}{vs:Array Value}{Q:Unit->Shared->Prop}(ho:s.heap.get? it=some o)(hc:o.cls=.type n)(hd:o.data=.fields vs)
  (hn:["enumerate","zip","dict_itemiterator","dict_reverseitemiterator","odict_iterator","itertools.zip_longest","itertools.pairwise"].contains n=false)(hQ:Q () s):wpAny M A (letOwnedTupleGo tg (.ref it) u) Q E s:=by
 unfold letOwnedTupleGo
 cases tg<;>first
  |exact wpAny_pure hQ
  |(cases u<;>first
    |exact wpAny_pure hQ
    |(refine wpAny_bind (wpAny_load ho ?_)
      rw[hc,hd]
      show wpAny M A (if (["enumerate","zip","dict_itemiterator","dict_reverseitemiterator","odict_iterator","itertools.zip_longest","itertools.pairwise"].contains n && vs[0]? == some (rawInt _))=true then _ else _) Q E s
      rw[if_neg (by intro h;rw[hn,Bool.false_and]at h;cases h)]
      exact wpAny_pure hQ))
def Itl (K:PySem.W.Frag)(a:Addr):It:=
 ⟨λi H=>∃ xs x,SqL K H a xs/\xs[i]? = some x,λi H x H'=>H'=H/\∀ xs,SqL K H a xs->xs[i]? = some x,λi H=>∃ xs,SqL K H a xs/\xs.length<=i⟩
def Itt (K:PySem.W.Frag)(a:Addr):It:=
 ⟨λi H=>∃ xs x,SqT K H a xs/\xs[i]? = some x,λi H x H'=>H'=H/\∀ xs,SqT K H a xs->xs[i]? = some x,λi H=>∃ xs,SqT K H a xs/\xs.length<=i⟩
def Itr (lo:Int) (n:Nat):It:=⟨λi _=>i<n,λi H x H'=>H'=H/\x=.int (lo+i),λi _=>n<=i⟩
theorem turn_list {P:Program}{w:World}{K:PySem.W.Frag}{tg:Expr}(a it:Addr):Turn P w K tg (Itl K a) [it] it (λi h=>h.IsListIter it a i) where
 mem:=by simp
 obj:=λi h st b hb=>by
  have e:b=it:=by simpa using hb
  subst e
  obtain⟨o,e,c,d⟩:=st
  exact⟨o,e,λv z=>by rw[d]at z;cases z⟩
 keep:=λi h h' st k=>st.at λo e=>k it (by simp) o e
 item:=by
  intro X hP hw hK hc i pins s σ H E I hf st hg
  subst hP hw hK
  obtain⟨xs,x,hq,hx⟩:=hg
  obtain⟨its,rv,p,hz⟩:=I.list hq
  obtain⟨u,hu,ru⟩:=rv.get hx
  obtain⟨f0,f1,f2,f3,f4,f5⟩:=hf it (by simp)
  refine wpAny_pyNext_list_item st p.isList (x:=u) (by simpa using hu) λh' st' sb=>?_
  have I1:Inv X pins σ H { s with heap:=h' }:=I.turned (t':=s.toks) (λb o hb e=>(sb.2 b hb).trans e) f0 f1 f3 f4 f5
  obtain⟨o,e,c,d⟩:=id st'
  exact⟨u,rfl,go_of (s:={ s with heap:=h' }) e c d (by decide) ⟨x,H,I1,ru,⟨rfl,λys hy=>by rw[I.list_inj hy hq];exact hx⟩,st',λb hb=>(hf b hb).1⟩⟩
 done:=by
  intro X hP hw hK hc i pins s σ H E I hf st hg
  subst hP hw hK
  obtain⟨xs,hq,hx⟩:=hg
  obtain⟨its,rv,p,hz⟩:=I.list hq
  obtain⟨f0,f1,f2,f3,f4,f5⟩:=hf it (by simp)
  have hl:=rv.length
  exact wpAny_pyNext_list_end (I.ok.hd hc) st p.isList (by simp;omega) λh' eb=>⟨rfl,I.turned (t':=s.toks) (λb o hb e=>eb b o hb e) f0 f1 f3 f4 f5⟩
 self:=λ_ _ _ _ _ st h=>wpAny_pyIter_listiter st h
theorem turn_tuple {P:Program}{w:World}{K:PySem.W.Frag}{tg:Expr}(a it:Addr):Turn P w K tg (Itt K a) [it] it (λi h=>h.IsTupleIter it a i) where
 mem:=by simp
 obj:=λi h st b hb=>by
  have e:b=it:=by simpa using hb
  subst e
  obtain⟨o,e,c,d⟩:=st
  exact⟨o,e,λv z=>by rw[d]at z;cases z⟩
 keep:=λi h h' st k=>st.at λo e=>k it (by simp) o e
 item:=by
  intro X hP hw hK hc i pins s σ H E I hf st hg
  subst hP hw hK
  obtain⟨xs,x,hq,hx⟩:=hg
  obtain⟨its,rv,p,hz⟩:=I.tuple hq
  obtain⟨u,hu,ru⟩:=rv.get hx
  obtain⟨f0,f1,f2,f3,f4,f5⟩:=hf it (by simp)
  refine wpAny_pyNext_tuple_item st (show s.heap.IsTuple a its.toArray from p) (x:=u) (by simpa using hu) λh' st' sb=>?_
  have I1:Inv X pins σ H { s with heap:=h' }:=I.turned (t':=s.toks) (λb o hb e=>(sb.2 b hb).trans e) f0 f1 f3 f4 f5
  obtain⟨o,e,c,d⟩:=id st'
  exact⟨u,rfl,go_of (s:={ s with heap:=h' }) e c d (by decide) ⟨x,H,I1,ru,⟨rfl,λys hy=>by rw[I.tuple_inj hy hq];exact hx⟩,st',λb hb=>(hf b hb).1⟩⟩
 done:=by
  intro X hP hw hK hc i pins s σ H E I hf st hg
  subst hP hw hK
  obtain⟨xs,hq,hx⟩:=hg
  obtain⟨its,rv,p,hz⟩:=I.tuple hq
  obtain⟨f0,f1,f2,f3,f4,f5⟩:=hf it (by simp)
  have hl:=rv.length
  exact wpAny_pyNext_tuple_end (I.ok.hd hc) st (show s.heap.IsTuple a its.toArray from p) (by simp;omega) λh' eb=>⟨rfl,I.turned (t':=s.toks) (λb o hb e=>eb b o hb e) f0 f1 f3 f4 f5⟩
 self:=λ_ _ _ _ _ st h=>wpAny_pyIter_tupleiter st h
theorem turn_range {P:Program}{w:World}{K:PySem.W.Frag}{tg:Expr}(it:Addr) (lo:Int) (n:Nat):Turn P w K tg (Itr lo n) [it] it (λi h=>IsRangeIter h it (lo+(i:Nat) * 1) ((n:Int) - (i:Nat)) 1) where
 mem:=by simp
 obj:=λi h st b hb=>by
  have e:b=it:=by simpa using hb
  subst e
  exact⟨_,st,λv z=>by
   have z':Data.fields _=Data.cell v:=z
   cases z'⟩
 keep:=λi h h' st k=>k it (by simp) _ st
 item:=by
  intro X hP hw hK hc i pins s σ H E I hf st hg
  subst hP hw hK
  obtain⟨f0,f1,f2,f3,f4,f5⟩:=hf it (by simp)
  have W:=Walks.range (prog:=X.prog) (w:=X.w) (I.ok.hd hc) it lo 1 n
  refine W.item i s _ _ hg st λv h' tk hv st' kk=>?_
  obtain⟨t,rfl⟩:=hv
  have I1:Inv X pins σ H { s with heap:=h',toks:=tk }:=I.turned (λb o hb e=>kk b o (by simpa using hb) e) f0 f1 f3 f4 f5
  refine⟨_,rfl,go_of (s:={ s with heap:=h',toks:=tk }) (n:="range_iterator") st' rfl rfl (by decide) ⟨.int (lo+i),H,I1,⟨t,?_⟩,⟨rfl,rfl⟩,st',λb hb=>(hf b hb).1⟩⟩
  rw[Int.mul_one]
 done:=by
  intro X hP hw hK hc i pins s σ H E I hf st hg
  subst hP hw hK
  obtain⟨f0,f1,f2,f3,f4,f5⟩:=hf it (by simp)
  exact wpAny_pyNext_range_end (I.ok.hd hc) st (by have:n<=i:=hg;omega) λh' eb=>⟨rfl,I.turned (t':=s.toks) (λb o hb e=>eb b o hb e) f0 f1 f3 f4 f5⟩
 self:=λ_ _ _ _ _ st h=>wpAny_pyIter_rangeiter st h
end L2
namespace L2
open PySem PySem.Spec PyProof.Rows
section
variable {X:Cx}{tg:Expr}
def iList (K:PySem.W.Frag)(tl:TE):TI:=λσ H R=>tl σ H λx H1=>∃ a,x=.ref a/\(∃ xs,SqL K H1 a xs)/\R (Itl K a) H1
def iTup (K:PySem.W.Frag)(tl:TE):TI:=λσ H R=>tl σ H λx H1=>∃ a,x=.ref a/\(∃ xs,SqT K H1 a xs)/\R (Itt K a) H1
theorem pi_list {l:Expr}{tl:TE}(hl:PE X l tl):PI X tg l (iList X.K tl):=by
 intro pins s σ H R I h
 refine thn (hl pins s σ H _ I h) λv s1 ⟨x,H1,I1,r1,q1⟩=>?_
 obtain⟨a,e,⟨xs,hq⟩,q⟩:=q1
 subst e
 cases r1
 obtain⟨its,rv,p,hz⟩:=I1.list hq
 refine wpAny_pyIter_list p.isList ?_
 refine⟨s1.heap.objs.size,[s1.heap.objs.size],_,_,H1,rfl,I1.kept (t':=s1.toks) λb o e=>Heap.get?_push_of_some _ e,turn_list a _,⟨_,Heap.get?_push_size _ rfl,rfl,rfl⟩,λb hb=>?_,q⟩
 have e:b=s1.heap.objs.size:=by simpa using hb
 subst e
 exact I1.fpOk (Nat.le_refl _) (I1.hok.fresh (Nat.le_refl _))
theorem pi_tup {l:Expr}{tl:TE}(hl:PE X l tl):PI X tg l (iTup X.K tl):=by
 intro pins s σ H R I h
 refine thn (hl pins s σ H _ I h) λv s1 ⟨x,H1,I1,r1,q1⟩=>?_
 obtain⟨a,e,⟨xs,hq⟩,q⟩:=q1
 subst e
 cases r1
 obtain⟨its,rv,p,hz⟩:=I1.tuple hq
 refine wpAny_pyIter_tuple (show s1.heap.IsTuple a its.toArray from p) ?_
 refine⟨s1.heap.objs.size,[s1.heap.objs.size],_,_,H1,rfl,I1.kept (t':=s1.toks) λb o e=>Heap.get?_push_of_some _ e,turn_tuple a _,⟨_,Heap.get?_push_size _ rfl,rfl,rfl⟩,λb hb=>?_,q⟩
 have e:b=s1.heap.objs.size:=by simpa using hb
 subst e
 exact I1.fpOk (Nat.le_refl _) (I1.hok.fresh (Nat.le_refl _))
theorem range_it {pins:List (Addr×Obj)}{σ:St}{H:Hp}{s:Shared}{R:It->Hp->Prop}{E:Value->Shared->Prop}{lo hi:Int}{t u v:Tok}{tk:Nat}(I:Inv X pins σ H s) (h1 : -(2 ^ 62)<=lo)(h2:lo<2 ^ 62) (h3 : -(2 ^ 62)<=hi)(h4:hi<2 ^ 62)
  (q:R (Itr lo (hi - lo).toNat) H):wpAny (model X.prog X.w) X.A (pyIter (.ref s.heap.objs.size)) (PIE X pins σ tg R) E { s with heap:=s.heap.push { cls:=.type "range",data:=.fields #[.int lo t,.int hi u,.int 1 v] },toks:=tk }:=by
 refine wpAny_pyIter_range (IsRange.new ..) (small_one h1 h2 h3 h4) ?_
 have I1:Inv X pins σ H { s with heap:=s.heap.push { cls:=.type "range",data:=.fields #[.int lo t,.int hi u,.int 1 v] },toks:=tk }:=I.kept λb o e=>Heap.get?_push_of_some _ e
 refine⟨(s.heap.push { cls:=.type "range",data:=.fields #[.int lo t,.int hi u,.int 1 v] }).objs.size,[(s.heap.push { cls:=.type "range",data:=.fields #[.int lo t,.int hi u,.int 1 v] }).objs.size],_,_,H,rfl,
  I1.kept (t':=tk) λb o e=>Heap.get?_push_of_some _ e,turn_range _ lo (hi - lo).toNat,?_,λb hb=>?_,q⟩
 ·have e1:lo+((0:Nat):Int) * 1=lo:=by simp
  have e2:(((hi - lo).toNat:Nat):Int) - ((0:Nat):Int)=Builtin.Range.rangeSize lo hi 1:=by rw[rangeSize_one];split<;>omega
  show IsRangeIter _ _ (lo+((0:Nat):Int) * 1) ((((hi - lo).toNat:Nat):Int) - ((0:Nat):Int)) 1
  rw[e1,e2]
  exact Heap.get?_push_size _ rfl
 ·have e:b=(s.heap.push { cls:=.type "range",data:=.fields #[.int lo t,.int hi u,.int 1 v] }).objs.size:=by simpa using hb
  subst e
  exact I1.fpOk (Nat.le_refl _) (I1.hok.fresh (Nat.le_refl _))
def iRng1 (ta:TA):TI:=λσ H R=>ta σ H λvs H1=>∃ j:Int,vs=[.int j]/\-(2 ^ 62)<=j/\j<2 ^ 62/\R (Itr 0 j.toNat) H1
theorem pi_range1 {a:Expr}{ta:TA}{p pos:Pos}(hg:Gl X "range")(hm:X.mg "range" = none)(ha:PA X [a] ta)(hs:autoParam (starEach [a] X.env=[(false,eval a X.env)]) aR._auto_1):PI X tg (.Call (.Name "range" p) [a] [] pos) (iRng1 ta):=by
 intro pins s σ H R I h
 refine Call_ (ld_blt I hg hm boot_range (PyProof.Rows.callWith_type1 (thn (ha pos pins s σ H _ I h) λus s1 ⟨vs,H1,I1,r1,q1⟩=>?_) hs rfl))
 obtain⟨j,e,q1,q2,q⟩:=q1
 subst e
 cases r1 with
 |cons r rr=>
  cases rr
  obtain⟨t,rfl⟩:=r
  exact call_range_1 (range_it I1 (by omega) (by omega) q1 q2 (by simpa using q))
def tFor (wi:TI)(g:TG)(tb:TS):TS:=λD σ H=>wi σ H λJ H1=>∃ W:Nat->Nat->St->Hp->Prop,(∃ m,W 0 m σ H1)/\∀ i m σ H,W i m σ H ->
 (J.stop i H/\D.nx σ H)\/(J.go i H/\∃ N:St->Hp->Prop,(∀ σ' H',N σ' H'->∃ m',m'<m/\W (i+1) m' σ' H')/\∀ x H',J.yld i H x H'->g x σ H' λσ2 H2=>tb { D with nx:=N,ct:=N,bk:=D.nx } σ2 H2)
def pinsAt (fp:List Addr)(h:Heap):List (Addr×Obj):=fp.filterMap λb=>(h.get? b).map λo=>(b,o)
theorem mem_pinsAt {fp:List Addr}{h:Heap}{b:Addr}{o:Obj}(hb:b ∈ fp)(e:h.get? b=some o):(b,o) ∈ pinsAt fp h:=List.mem_filterMap.mpr ⟨b,hb,by rw[e];rfl⟩
theorem of_pinsAt {fp:List Addr}{h:Heap}{p:Addr×Obj}(hp:p ∈ pinsAt fp h):p.1 ∈ fp/\h.get? p.1=some p.2:=by
 obtain⟨b,hb,e⟩:=List.mem_filterMap.mp hp
 cases q:h.get? b with
 |none=>rw[q]at e;cases e
 |some o=>
  rw[q]at e
  have e':(b,o)=p:=Option.some.inj e
  subst e'
  exact⟨hb,q⟩
theorem Inv.pinned {pins:List (Addr×Obj)}{σ:St}{H:Hp}{s:Shared}{fp:List Addr}(I:Inv X pins σ H s)(hf:∀ b ∈ fp,FpOk X pins H b)(ho:∀ b ∈ fp,∃ o,s.heap.get? b=some o/\∀ v,o.data≠.cell v):Inv X (pins++pinsAt fp s.heap) σ H s:=
 I.pins_of λp hp=>(List.mem_append.mp hp).elim (λz=>I.pin p (List.mem_append_right _ z)) λz=>by
  obtain⟨hb,e⟩:=of_pinsAt z
  obtain⟨f0,f1,f2,_⟩:=hf p.1 hb
  obtain⟨o,e',d⟩:=ho p.1 hb
  rw[e]at e';cases e'
  exact⟨e,f0,f1,f2,d⟩
theorem Inv.unpinned {pins pl:List (Addr×Obj)}{σ:St}{H:Hp}{s:Shared}(I:Inv X (pins++pl) σ H s):Inv X pins σ H s:=I.pins_of λp hp=>I.pin p (List.mem_append_right _ (List.mem_append_left _ hp))
theorem ps_for {iter:Expr}{body:List Stmt}{wi:TI}{g:TG}{tb:TS}{pos:Pos}(hp:PassesOwn (model X.prog X.w) X.A X.env X.xe)(hc:X.calm=true)(hi:PI X tg iter wi)(hg:PG X tg g)(hb:PSs X body tb)
  (hs:∀ x,foldedSetIterable iter X.env x=pure x:=by intro _;rfl):PS X (.For tg iter body [] pos) (tFor wi g tb):=by
 intro pins s σ H D I h
 refine wpAny_For (thn (hi pins s σ H _ I h) λv s1 h1=>thn h1 λitv s2 h2=>?_) hs
 obtain⟨it,fp,tn,J,H2,e,I2,T,st2,f2,W,⟨m0,w0⟩,turn⟩:=h2
 subst e
 -- what stays true of the iterator's objects through the loop
 have stat:∀ {H':Hp},(∀ b ∈ fp,H' b=none)->∀ b ∈ fp,FpOk X pins H' b:=λhn b hb=>⟨hn b hb,(f2 b hb).2⟩
 refine codeAny_forLoop_any (λn s'=>∃ i σ' H',Inv X pins σ' H' s'/\tn i s'.heap/\(∀ b ∈ fp,H' b=none)/\W i n σ' H') ?_ m0 ⟨0,σ,H2,I2,st2,λb hb=>(f2 b hb).1,w0⟩
 rintro n s3 ⟨i,σ3,H3,I3,st3,fr3,w3⟩
 rcases turn i n σ3 H3 w3 with ⟨stop,qn⟩ | ⟨go,N,hN,step⟩
 ·refine wpAny_passesOwn hp (thn (T.done X rfl rfl rfl hc i pins s3 σ3 H3 X.xe I3 (stat fr3) st3 stop) λr s4 ⟨hr,I4⟩=>?_)
  subst hr
  exact wpAny_execs_nil ⟨σ3,H3,I4,qn⟩
 ·refine wpAny_passesOwn hp (thn (T.item X rfl rfl rfl hc i pins s3 σ3 H3 X.xe I3 (stat fr3) st3 go) λr s4 ⟨u,hr,h4⟩=>?_)
  subst hr
  refine wpAny_passesOwn hp (thn h4 λ_ s5 ⟨x,H5,I5,r5,y5,st5,fr5⟩=>?_)
  have I5':=I5.pinned (stat fr5) (T.obj _ _ st5)
  refine wpAny_passesOwn hp (thn (hg _ s5 σ3 H5 x u _ I5' r5 (step x H5 y5)) λ_ s6 ⟨σ6,H6,I6,q6⟩=>?_)
  refine wpAny_passesOwn hp (thn (hb _ s6 σ6 H6 _ I6 q6) λf s7 q7=>?_)
  have again:∀ {σ7:St}{H7:Hp},Inv X (pins++pinsAt fp s5.heap) σ7 H7 s7->N σ7 H7->∃ m,m<n/\∃ i σ' H',Inv X pins σ' H' s7/\tn i s7.heap/\(∀ b ∈ fp,H' b=none)/\W i m σ' H':=fun {σ7 H7} I7 n7=>by
   obtain⟨m',hm,w7⟩:=hN σ7 H7 n7
   refine⟨m',hm,i+1,σ7,H7,I7.unpinned,T.keep _ _ _ st5 λb hb o e=>(I7.pin (b,o) (List.mem_append_right _ (List.mem_append_right _ (mem_pinsAt hb e)))).1,λb hb=>?_,w7⟩
   obtain⟨o,e,d⟩:=T.obj _ _ st5 b hb
   exact (I7.pin (b,o) (List.mem_append_right _ (List.mem_append_right _ (mem_pinsAt hb e)))).2.1
  cases f with
  |next=>obtain⟨σ7,H7,I7,n7⟩:=q7;exact again I7 n7
  |cont=>obtain⟨σ7,H7,I7,n7⟩:=q7;exact again I7 n7
  |brk=>obtain⟨σ7,H7,I7,q7⟩:=q7;exact⟨σ7,H7,I7.unpinned,q7⟩
  |ret v=>obtain⟨x7,σ7,H7,I7,r7,q7⟩:=q7;exact⟨x7,σ7,H7,I7.unpinned,r7,q7⟩
end
end L2
namespace L2
open PySem PySem.Spec PyProof.Rows
abbrev R2:=V->V->Hp->VK->Prop
def OpR (X:Cx)(f:Value->Value->Sem Value)(r:R2):Prop:=
 ∀ (pins:List (Addr×Obj))(s:Shared)(σ:St)(H:Hp)(x y:V) (v u:Value)(Q:VK),Inv X pins σ H s->RelV x v->RelV y u->r x y H Q ->
  wpAny (model X.prog X.w) X.A (f v u) (EP X pins σ Q) X.xe s
def UnR (X:Cx)(f:Value->Sem Value)(r:V->Hp->VK->Prop):Prop:=
 ∀ (pins:List (Addr×Obj))(s:Shared)(σ:St)(H:Hp)(x:V) (v:Value)(Q:VK),Inv X pins σ H s->RelV x v->r x H Q ->
  wpAny (model X.prog X.w) X.A (f v) (EP X pins σ Q) X.xe s
def CallR (X:Cx) (f:Value)(r:List V->Hp->VK->Prop):Prop:=
 ∀ (pins:List (Addr×Obj))(s:Shared)(σ:St)(H:Hp)(xs:List V)(us:List Value)(Q:VK),Inv X pins σ H s->Vals xs us->r xs H Q ->
  wpAny (model X.prog X.w) X.A (call f us) (EP X pins σ Q) X.xe s
def TruR (X:Cx)(r:V->Hp->(Bool->Hp->Prop)->Prop):Prop:=
 ∀ (pins:List (Addr×Obj))(s:Shared)(σ:St)(H:Hp)(x:V) (v:Value)(Q:Bool->Hp->Prop),Inv X pins σ H s->RelV x v->r x H Q ->
  wpAny (model X.prog X.w) X.A (truthy v) (TP X pins σ Q) X.xe s
def tOp (r:R2)(ta tb:TE):TE:=λσ H Q=>ta σ H λx H1=>tb σ H1 λy H2=>r x y H2 Q
def tUn (r:V->Hp->VK->Prop)(ta:TE):TE:=λσ H Q=>ta σ H λx H1=>r x H1 Q
def rI (C:Int->Int->Prop)(g:Int->Int->V):R2:=λx y H Q=>∃ i j,x=.int i/\y=.int j/\C i j/\Q (g i j) H
def rI0 (g:Int->Int->V):R2:=λx y H Q=>∃ i j,x=.int i/\y=.int j/\Q (g i j) H
def rU (g:Int->V):V->Hp->VK->Prop:=λx H Q=>∃ i,x=.int i/\Q (g i) H
section
variable {X:Cx}{a b c:Expr}{ta tb tc:TE}{pos:Pos}
theorem binT (ha:PE X a ta)(hb:PE X b tb){pins:List (Addr×Obj)}{s:Shared}{σ:St}{H:Hp}{R:V->V->Hp->Prop}(I:Inv X pins σ H s)
  (h:ta σ H λx H1=>tb σ H1 λy H2=>R x y H2){Q:Value->Shared->Prop}{f:Value->Value->Sem Value}
  (hf:∀ v u s2 x y H2,Inv X pins σ H2 s2->RelV x v->RelV y u->R x y H2->wpAny (model X.prog X.w) X.A (f v u) Q X.xe s2) :
  wpAny (model X.prog X.w) X.A (eval a X.env) (λv s₁=>wpAny (model X.prog X.w) X.A (eval b X.env) (λu s₂=>wpAny (model X.prog X.w) X.A (f v u) Q X.xe s₂) X.xe s₁) X.xe s:=by
 refine thn (ha pins s σ H _ I h) λv s1 ⟨x,H1,I1,r1,q1⟩=>?_
 refine thn (hb pins s1 σ H1 _ I1 q1) λu s2 ⟨y,H2,I2,r2,q2⟩=>?_
 exact hf v u s2 x y H2 I2 r1 r2 q2
theorem pe_op {op:Operator}{r:R2}(ho:OpR X (binaryOp op) r)(ha:PE X a ta)(hb:PE X b tb):PE X (.BinOp a op b pos) (tOp r ta tb):=by
 intro pins s σ H Q I h
 exact wpAny_BinOp (binT ha hb I h λv u s2 x y H2 I2 rx ry q=>ho pins s2 σ H2 x y v u Q I2 rx ry q)
theorem pe_un {op:UnaryOp}{r:V->Hp->VK->Prop}(ho:UnR X (unaryOp op) r)(ha:PE X a ta):PE X (.UnaryOp op a pos) (tUn r ta):=by
 intro pins s σ H Q I h
 exact UnaryOp_ (thn (ha pins s σ H _ I h) λv s1 ⟨x,H1,I1,r1,q1⟩=>ho pins s1 σ H1 x v Q I1 r1 q1)
theorem opI {f:Value->Value->Sem Value}{C:Int->Int->Prop}{g:Int->Int->Int}
  (rule:∀ (i j:Int)(t u:Tok)(s:Shared)(Q:Value->Shared->Prop)(E:Value->Shared->Prop),C i j->Q (.int (g i j) s.toks) { s with toks:=s.toks+1 }->wpAny (model X.prog X.w) X.A (f (.int i t) (.int j u)) Q E s) :
  OpR X f (rI C λi j=>.int (g i j)):=by
 intro pins s σ H x y v u Q I rx ry h
 obtain⟨i,j,rfl,rfl,hc,q⟩:=h
 obtain⟨t,rfl⟩:=rx
 obtain⟨t',rfl⟩:=ry
 exact rule i j t t' s _ _ hc ⟨.int (g i j),H,I.tok _,⟨_,rfl⟩,q⟩
theorem opI0 {f:Value->Value->Sem Value}{g:Int->Int->Int}
  (rule:∀ (i j:Int)(t u:Tok)(s:Shared)(Q:Value->Shared->Prop)(E:Value->Shared->Prop),Q (.int (g i j) s.toks) { s with toks:=s.toks+1 }->wpAny (model X.prog X.w) X.A (f (.int i t) (.int j u)) Q E s) :
  OpR X f (rI0 λi j=>.int (g i j)):=by
 intro pins s σ H x y v u Q I rx ry h
 obtain⟨i,j,rfl,rfl,q⟩:=h
 obtain⟨t,rfl⟩:=rx
 obtain⟨t',rfl⟩:=ry
 exact rule i j t t' s _ _ ⟨.int (g i j),H,I.tok _,⟨_,rfl⟩,q⟩
theorem opB0 {f:Value->Value->Sem Value}{g:Int->Int->Bool}
  (rule:∀ (i j:Int)(t u:Tok)(s:Shared)(Q:Value->Shared->Prop)(E:Value->Shared->Prop),Q (.bool (g i j)) s->wpAny (model X.prog X.w) X.A (f (.int i t) (.int j u)) Q E s) :
  OpR X f (rI0 λi j=>.bl (g i j)):=by
 intro pins s σ H x y v u Q I rx ry h
 obtain⟨i,j,rfl,rfl,q⟩:=h
 obtain⟨t,rfl⟩:=rx
 obtain⟨t',rfl⟩:=ry
 exact rule i j t t' s _ _ ⟨.bl (g i j),H,I,rfl,q⟩
def CDiv (i j:Int):Prop:=0<j/\j<1073741824
def CMul (i j:Int):Prop:=(-(2 ^ 64)<i/\i<2 ^ 64)\/(-(2 ^ 64)<j/\j<2 ^ 64)
theorem CMul.ok {i j:Int}(h:CMul i j):IntMulOk i j:=by
 rcases h with ⟨h1,h2⟩ | ⟨h1,h2⟩
 ·exact .of_left (intBits_le_64 h1 h2)
 ·exact .of_right (intBits_le_64 h1 h2)
theorem op_add:OpR X (binaryOp .Add) (rI0 λi j=>.int (i+j)):=opI0 λ_ _ _ _ _ _ _ q=>add_int q
theorem op_sub:OpR X (binaryOp .Sub) (rI0 λi j=>.int (i - j)):=opI0 λ_ _ _ _ _ _ _ q=>sub_int q
theorem op_mul:OpR X (binaryOp .Mult) (rI CMul λi j=>.int (i * j)):=opI λ_ _ _ _ _ _ _ hc q=>mul_int q hc.ok
theorem op_fdiv:OpR X (binaryOp .FloorDiv) (rI CDiv λi j=>.int (i / j)):=opI λi j _ _ _ _ _ hc q=>by
 have h1:(0:Int)<j:=hc.1
 have h2:j<1073741824:=hc.2
 exact floordiv_int (by omega) (by rw[Int.fdiv_eq_ediv_of_nonneg i (by omega)];exact q) (.inl (PyProof.noPylong_small (by omega)))
theorem op_mod:OpR X (binaryOp .Mod) (rI (λ_ j=>0<j) λi j=>.int (i % j)):=opI λi j _ _ _ _ _ hc q=>by
 have h1:(0:Int)<j:=hc
 exact mod_int' (by omega) (by rw[Int.fmod_eq_emod_of_nonneg i (by omega)];exact q)
theorem unI {f:Value->Sem Value}{g:Int->Int}
  (rule:∀ (i:Int)(t:Tok)(s:Shared)(Q:Value->Shared->Prop)(E:Value->Shared->Prop),Q (.int (g i) s.toks) { s with toks:=s.toks+1 }->wpAny (model X.prog X.w) X.A (f (.int i t)) Q E s) :
  UnR X f (rU λi=>.int (g i)):=by
 intro pins s σ H x v Q I rx h
 obtain⟨i,rfl,q⟩:=h
 obtain⟨t,rfl⟩:=rx
 exact rule i t s _ _ ⟨.int (g i),H,I.tok _,⟨_,rfl⟩,q⟩
theorem un_neg:UnR X (unaryOp .USub) (rU λi=>.int (-i)):=unI λ_ _ _ _ _ q=>neg_int q
end
section
variable {X:Cx}{a b c:Expr}{ta tb tc:TE}{pos:Pos}
theorem fin_bl {pins:List (Addr×Obj)}{σ:St}{H:Hp}{s:Shared}{Q:VK}{k k':Bool}(I:Inv X pins σ H s)(q:Q (.bl k) H)(e:k=k'):EP X pins σ Q (.bool k') s:=by
 subst e
 exact⟨.bl k,H,I,rfl,q⟩
theorem op_lt:OpR X (compareOp .Lt) (rI0 λi j=>.bl (decide (i<j))):=opB0 λ_ _ _ _ _ _ _ q=>lt_int q
theorem op_le:OpR X (compareOp .LtE) (rI0 λi j=>.bl (decide (i<=j))):=opB0 λ_ _ _ _ _ _ _ q=>le_int q
theorem op_gt:OpR X (compareOp .Gt) (rI0 λi j=>.bl (decide (j<i))):=opB0 λ_ _ _ _ _ _ _ q=>gt_int q
theorem op_ge:OpR X (compareOp .GtE) (rI0 λi j=>.bl (decide (j<=i))):=opB0 λ_ _ _ _ _ _ _ q=>ge_int q
theorem op_isN:OpR X (compareOp .Is) (λx y H Q=>y=.non/\Q (.bl (decide (x=.non))) H):=by
 intro pins s σ H x y v u Q I rx ry h
 obtain⟨rfl,q⟩:=h
 cases ry
 refine is_none_gen (fin_bl I q ?_)
 cases x<;>first
  |(cases rx;rfl)
  |(obtain⟨t,rfl⟩:=rx;rfl)
theorem OpR.or {f:Value->Value->Sem Value}{r r':R2}(h:OpR X f r)(h':OpR X f r'):OpR X f (λx y H Q=>r x y H Q\/r' x y H Q):=by
 intro pins s σ H x y v u Q I rx ry q
 rcases q with q | q
 ·exact h pins s σ H x y v u Q I rx ry q
 ·exact h' pins s σ H x y v u Q I rx ry q
theorem nomark (b:Expr){op:CmpOp}(h:autoParam (op≠.In) aD._auto_1)(h2:autoParam (op≠.NotIn) aD._auto_1):behindInMarks op b=false:=by
 have e1:(op == CmpOp.In)=false:=by cases op<;>first | rfl | exact absurd rfl h
 have e2:(op == CmpOp.NotIn)=false:=by cases op<;>first | rfl | exact absurd rfl h2
 cases b<;>simp[behindInMarks,e1,e2]
theorem pe_cmpR {op:CmpOp}{r:R2}(ho:OpR X (compareOp op) r)(ha:PE X a ta)(hb:PE X b tb)(hm:behindInMarks op b=false):PE X (.Compare a [op] [b] pos) (tOp r ta tb):=by
 intro pins s σ H Q I h
 exact wpAny_Compare1 (binT ha hb I h λv u s2 x y H2 I2 rx ry q=>ho pins s2 σ H2 x y v u Q I2 rx ry q) hm
def tTest (t:TE):TT:=λσ H Q=>t σ H λx H'=>∃ k,x=.bl k/\Q k H'
theorem pt_cmpR {op:CmpOp}{r:R2}(ho:OpR X (compareOp op) r)(ha:PE X a ta)(hb:PE X b tb)(hm:behindInMarks op b=false):PT X (.Compare a [op] [b] pos) (tTest (tOp r ta tb)):=by
 intro pins s σ H Q I h
 refine wpAny_isTrue_Compare1 (thn (ha pins s σ H _ I h) λv s1 ⟨x,H1,I1,r1,q1⟩=>thn (hb pins s1 σ H1 _ I1 q1) λu s2 ⟨y,H2,I2,r2,q2⟩=>
  thn (ho pins s2 σ H2 x y v u _ I2 r1 r2 q2) λc s3 ⟨z,H3,I3,r3,k,e,q3⟩=>?_) hm
 subst e
 cases r3
 exact wpAny_truthy_bool ⟨H3,I3,q3⟩
def TruV (K:PySem.W.Frag)(x:V)(H:Hp)(k:Bool):Prop:=
 match x with
 |.non=>k=false
 |.bl b=>k=b
 |.int i=>k=(i != 0)
 |.str y=>y.length<=sizeLine/\k=((y.length:Int) != 0)
 |.byt y=>y.size<=sizeLine/\k=((y.size:Int) != 0)
 |.ref p=>(∃ xs,SqL K H p xs/\k = !xs.isEmpty)\/(∃ xs,SqT K H p xs/\k = !xs.isEmpty)\/∃ kvs,H p=some (.dK kvs)/\k = !kvs.isEmpty
 |_=>False
theorem isEmpty_kv {κ:Type}{kvs:List (κ×V)}{vs:List (κ×Value)}(r:KV kvs vs):(!vs.isEmpty) = !kvs.isEmpty:=by
 cases r<;>rfl
theorem isEmpty_of {xs:List V}{its:List Value}(r:Vals xs its):(!its.toArray.isEmpty) = !xs.isEmpty:=by
 cases r<;>simp
theorem line63:(sizeLine:Nat)<2 ^ 63:=by rw[sizeLine_eq];decide
theorem tru_ok:TruR X (λx H Q=>∃ k,TruV X.K x H k/\Q k H):=by
 intro pins s σ H x v Q I rx h
 obtain⟨k,e,q⟩:=h
 have hl:=line63
 have hs:sizeLine=16777216:=sizeLine_eq
 cases x with
 |non=>
  cases rx
  have e':k=false:=e
  subst e'
  exact truthy_none ⟨H,I,q⟩
 |bl b=>
  cases rx
  have e':k=b:=e
  subst e'
  exact wpAny_truthy_bool ⟨H,I,q⟩
 |int i=>
  obtain⟨t,rfl⟩:=rx
  have e':k=(i != 0):=e
  subst e'
  exact PySem.P.truthy_int ⟨H,I,q⟩
 |str y=>
  obtain⟨t,rfl⟩:=rx
  obtain⟨hy,e'⟩ : y.length<=sizeLine/\k=((y.length:Int) != 0):=e
  subst e'
  exact PySem.P.truthy_str (by omega) ⟨H,I.tok _,q⟩
 |byt y=>
  obtain⟨t,rfl⟩:=rx
  obtain⟨hy,e'⟩ : y.size<=sizeLine/\k=((y.size:Int) != 0):=e
  subst e'
  exact PySem.W.truthy_bytes (by omega) ⟨H,I.tok _,q⟩
 |ref p=>
  cases rx
  have e':(∃ xs,SqL X.K H p xs/\k = !xs.isEmpty)\/(∃ xs,SqT X.K H p xs/\k = !xs.isEmpty)\/∃ kvs,H p=some (.dK kvs)/\k = !kvs.isEmpty:=e
  rcases e' with ⟨xs,hx,e'⟩ | ⟨xs,hx,e'⟩ | ⟨kvs,hx,e'⟩
  ·subst e'
   obtain⟨its,r,pl,hz⟩:=I.list hx
   have hlen:=r.length
   exact wpAny_truthy_list pl.isList (by simp only[List.size_toArray];omega) ⟨H,I.tok _,by rw[isEmpty_of r];exact q⟩
  ·subst e'
   obtain⟨its,r,pl,hz⟩:=I.tuple hx
   have hlen:=r.length
   exact truthy_tuple pl (by simp only[List.size_toArray];omega) ⟨H,I.tok _,by rw[isEmpty_of r];exact q⟩
  ·subst e'
   obtain⟨hz,hS,vs,r,m⟩ : kvs.length<=sizeLine/\(p == sysModules)=false/\∃ vs,KV kvs vs/\s.heap.DictOf (mixKind X.prog X.w) p vs:=I.hok p _ hx
   have hlen:kvs.length=vs.length:=Paired.length r
   exact wpAny_truthy_dict hS m (by omega) ⟨H,I.tok _,by rw[isEmpty_kv r];exact q⟩
 |_=>exact (show False from e).elim
theorem vals1 {x:V}{us:List Value}(r:Vals [x] us):∃ u,us=[u]/\RelV x u:=by
 cases r with
 |cons r1 r2=>cases r2;exact⟨_,rfl,r1⟩
theorem vals2 {x y:V}{us:List Value}(r:Vals [x,y] us):∃ u w',us=[u,w']/\RelV x u/\RelV y w':=by
 cases r with
 |cons r1 r2=>
  cases r2 with
  |cons r3 r4=>cases r4;exact⟨_,_,rfl,r1,r3⟩
theorem call_min2 (hc:X.calm=true):CallR X (.builtin "min") (λxs H Q=>∃ i j,xs=[.int i,.int j]/\Q (.int (if j<i then j else i)) H):=by
 intro pins s σ H xs us Q I r h
 obtain⟨i,j,rfl,q⟩:=h
 obtain⟨u,w',rfl,⟨t,rfl⟩,⟨t',rfl⟩⟩:=vals2 r
 refine min_two_ints (I.ok.hd hc) λh' tk k=>⟨_,H,I.kept k,?_,q⟩
 by_cases hj:j<i
 ·rw[if_pos hj,if_pos hj];exact⟨_,rfl⟩
 ·rw[if_neg hj,if_neg hj];exact⟨_,rfl⟩
theorem call_int1:CallR X (.type "int") (λxs H Q=>(∃ i,xs=[.int i]/\Q (.int i) H)\/∃ k,xs=[.bl k]/\Q (.int (if k then 1 else 0)) H):=by
 intro pins s σ H xs us Q I r h
 rcases h with ⟨i,rfl,q⟩ | ⟨k,rfl,q⟩
 ·obtain⟨u,rfl,t,rfl⟩:=vals1 r
  exact call_int_int ⟨.int i,H,I,⟨_,rfl⟩,q⟩
 ·obtain⟨u,rfl,r1⟩:=vals1 r
  cases r1
  exact call_int_bool ⟨.int (if k then 1 else 0),H,I.tok _,⟨_,rfl⟩,q⟩
end
end L2
namespace L2
open PySem PySem.Spec PyProof.Rows
structure ObjM (h:Heap)(x dx C:Addr)(mA:Str->Option Value):Prop where
 obj:h.get? x=some (PySem.W.instObj C dx)
 ns:h.Ns1 dx mA
 ne:dx≠x
theorem lookIn_ns {h:Heap}{dx:Addr}{mA:Str->Option Value}(n:h.Ns1 dx mA):∃ od,h.get? dx=some od/\∀ name,PySem.W.lookIn name od=some (mA name):=by
 obtain⟨o,es,ep,ho,hd,hk,_,hm⟩:=n
 refine⟨o,ho,λname=>?_⟩
 have e:=hm name
 unfold nsFind findBy at e
 rw[<-Array.find?_toList]at e
 unfold PySem.W.lookIn
 rw[hd]
 dsimp only
 split
 ·rename_i y q
  rw[q]at e
  exact congrArg some e
 ·rename_i q
  rw[q]at e
  have a:es.toList.any (·.refKey)=false:=by
   rw[List.any_eq_false]
   intro y hy
   obtain⟨z,t,hkey⟩:=hk y (Array.mem_toList_iff.mp hy)
   simp[DictEntry.refKey,hkey]
  have a':¬ es.toList.any (·.refKey)=true:=by rw[a];exact Bool.false_ne_true
  rw[if_neg a']
  exact congrArg some e
theorem ObjM.look {h:Heap}{x dx C:Addr}{mA:Str->Option Value}(I:ObjM h x dx C mA):∃ od,PySem.W.InstAt h x (PySem.W.instObj C dx) C (some od)/\∀ name,PySem.W.lookIn name od=some (mA name):=
 let ⟨od,ho,hl⟩:=lookIn_ns I.ns
 ⟨od,⟨I.obj,rfl,rfl,ho⟩,hl⟩
section
variable {prog:Program}{w:World}{A:Around}{E:Value->Shared->Prop}{s:Shared}{K:PySem.W.Frag}{x dx C f:Addr}{mA:Str->Option Value}{name:Str}{v:Value}
end
theorem RelO.some_of {v:V}{o:Option Value}(r:RelO (some v) o):∃ u,o=some u/\RelV v u:=by
 cases o with
 |none=>exact (show False from r).elim
 |some u=>exact⟨u,rfl,r⟩
section
variable {P:Program}{w:World}{H H':Hp}{h h':Heap}{a C dx:Addr}{fs fs':List (Str×V)}
theorem ins_get (hok:HOk P w H h)(e:H a=some (.ins C dx fs)):∃ mA,ObjM h a dx C mA/\(∀ f,RelO (fs.lookup f) (mA f))/\PySem.Within mA (fs.map (·.1))/\fs.length<=1000/\H dx=some (.own a):=by
 obtain⟨d,z,ne,ob,mA,n,r,q⟩:=(show ObjOk P w H h a (.ins C dx fs) from hok a _ e)
 exact⟨mA,⟨ob,n,ne⟩,r,q,z,d⟩
end
structure Cls (K:PySem.W.Frag)(C:Addr):Prop where
 pg:PySem.W.plainGet K C Str.empty=true
 hd:PySem.W.hasDictIn K C=true
 po:PySem.W.plainOver K C=true
 sa:PySem.W.findIn K (.ref C) "__setattr__" = some (some (.builtin "object.__setattr__"))
theorem Cls.get {K:PySem.W.Frag}{C:Addr}(c:Cls K C) (f:Str):PySem.W.plainGet K C f=true:=c.pg
structure Con (K:PySem.W.Frag)(C:Addr) (f:Str)(v:V) (u:Value):Prop where
 at_:PySem.W.findIn K (.ref C) f=some (some u)
 rel:RelV v u
 get:PySem.W.specialIn K u "__get__" = some none
 cp:PySem.W.copiedNames.contains f=false
structure Meth (K:PySem.W.Frag)(C:Addr) (m:Str)(f:Addr):Prop where
 at_:PySem.W.findIn K (.ref C) m=some (some (.ref f))
 fn:PySem.W.isFn K (.ref f)=true
 kp:PySem.W.keepIn K (.ref f)=true
section
variable {X:Cx}{pins:List (Addr×Obj)}{σ:St}{H:Hp}{s:Shared}{a C dx:Addr}{fs:List (Str×V)}{f:Str}{v:V}{A:Around}{E:Value->Shared->Prop}
end
section
variable {X:Cx}{o e value:Expr}{f:Str}{pos pos' tpos:Pos}{ta tv:TE}
end
section
variable {X:Cx}{pins:List (Addr×Obj)}{σ:St}{H:Hp}{s:Shared}{A:Around}{E:Value->Shared->Prop}{Q:Value->Shared->Prop}{c:Value}{b:Bool}
inductive TyOf (K:PySem.W.Frag)(H:Hp):V->Value->Prop where
 |non:TyOf K H .non (.type "NoneType")
 |bl (x:Bool):TyOf K H (.bl x) (.type "bool")
 |int (i:Int):TyOf K H (.int i) (.type "int")
 |str (x:Str):TyOf K H (.str x) (.type "str")
 |flt (x:UInt64):TyOf K H (.flt x) (.type "float")
 |lst {a:Addr}{xs:List V}(e:H a=some (.lst xs)):TyOf K H (.ref a) (.type "list")
 |frz {a:Addr}{o:Obj}{xs:List V}(e:H a=some (.frz o (.lst xs))):TyOf K H (.ref a) (.type "list")
 |tup {a:Addr}{xs:List V}(e:H a=some (.tup xs)):TyOf K H (.ref a) (.type "tuple")
 |dK {a:Addr}{kvs:List (Key×V)}(e:H a=some (.dK kvs)):TyOf K H (.ref a) (.type "dict")
 |dT {a:Addr}{kvs:List (List Key×V)}(e:H a=some (.dT kvs)):TyOf K H (.ref a) (.type "dict")
 |ins {a C dx:Addr}{fs:List (Str×V)}(e:H a=some (.ins C dx fs))(cl:Cls K C)(ha:PySem.W.findIn K (.ref C) "__class__" = some (some (.builtin "object.__class__")))
   (hn:PySem.W.specialIn K (.builtin "object.__class__") "__get__" = some (some (.builtin "getset_descriptor.__get__")))(htk:PySem.W.takesIn K (.builtin "object.__class__")=some true)
   (hm:PySem.W.mroIn K C (.type "object")=some true):TyOf K H (.ref a) (.ref C)
theorem isinst_ok {x:V}{u t:Value}(I:Inv X pins σ H s)(rx:RelV x u)(ty:TyOf X.K H x t)(e:PySem.W.kitOne X.K t c=some b)(h:∀ tk,Q (.bool b) { s with toks:=tk }) :
  wpAny (model X.prog X.w) A (call (.builtin "isinstance") [u,c]) Q E s:=by
 cases ty with
 |non=>cases (show u=Value.none from rx);exact PySem.W.kia_one PySem.W.kitx_none I.kIn True.intro e (λz=>nomatch z) h
 |bl y=>cases (show u=Value.bool y from rx);exact PySem.W.kia_one PySem.W.kitx_bool I.kIn True.intro e (λz=>nomatch z) h
 |int i=>obtain⟨t,q⟩:=(show ∃ t,u=Value.int i t from rx);cases q;exact PySem.W.kia_one PySem.W.kitx_int I.kIn True.intro e (λz=>nomatch z) h
 |str y=>obtain⟨t,q⟩:=(show ∃ t,u=Value.str y t from rx);cases q;exact PySem.W.kia_one PySem.W.kitx_str I.kIn True.intro e (λz=>nomatch z) h
 |flt y=>obtain⟨t,q⟩:=(show ∃ t,u=Value.float y t from rx);cases q;exact PySem.W.kia_one PySem.W.kitx_float I.kIn True.intro e (λz=>nomatch z) h
 |@lst a xs ea=>
  cases (show u=Value.ref a from rx)
  obtain⟨_,_,n,_,h1⟩:=(show ObjOk X.prog X.w H s.heap a (.lst xs) from I.hok a _ ea)
  exact PySem.W.kia_one PySem.W.kitx_list I.kIn ⟨_,h1,rfl⟩ e (λz=>nomatch z) h
 |@frz a ob xs ea=>
  cases (show u=Value.ref a from rx)
  obtain⟨_,_,_,n,_,h1⟩:=(show ObjOk X.prog X.w H s.heap a (.frz ob (.lst xs)) from I.hok a _ ea)
  exact PySem.W.kia_one PySem.W.kitx_list I.kIn ⟨_,h1,rfl⟩ e (λz=>nomatch z) h
 |@tup a xs ea=>
  cases (show u=Value.ref a from rx)
  obtain⟨_,_,_,p⟩:=(show ObjOk X.prog X.w H s.heap a (.tup xs) from I.hok a _ ea)
  obtain⟨o,h1,h2,_⟩:=p
  exact PySem.W.kia_one PySem.W.kitx_tuple I.kIn ⟨o,h1,h2⟩ e (λz=>nomatch z) h
 |@dK a kvs ea=>
  cases (show u=Value.ref a from rx)
  obtain⟨_,_,vs,_,p⟩:=(show ObjOk X.prog X.w H s.heap a (.dK kvs) from I.hok a _ ea)
  obtain⟨o,es,ep,h1,h2,_⟩:=p
  exact PySem.W.kia_one PySem.W.kitx_dict I.kIn ⟨o,h1,h2.1⟩ e (λz=>nomatch z) h
 |@dT a kvs ea=>
  cases (show u=Value.ref a from rx)
  obtain⟨_,_,xs,_,o,es,ep,h1,h2,_⟩:=(show ObjOk X.prog X.w H s.heap a (.dT kvs) from I.hok a _ ea)
  exact PySem.W.kia_one PySem.W.kitx_dict I.kIn ⟨o,h1,h2.1⟩ e (λz=>nomatch z) h
 |@ins a C dx fs ea cl ha hn htk hm=>
  cases (show u=Value.ref a from rx)
  obtain⟨mA,O,_⟩:=ins_get I.hok ea
  obtain⟨od,J,_⟩:=O.look
  exact PySem.W.kia_one (PySem.W.kitx_own (cl.get _) cl.hd ha hn htk hm) I.kIn J e (λz=>nomatch z) h
end
end L2
namespace L2
open PySem PySem.Spec PyProof.Rows
structure Room (k:Nat)(A:Around):Prop where
 hd:A.handled=none
 dp:A.depth+3 * k+5<recursionLimit
 un:A.units+16 * k+200<cLine
theorem Room.mono {j k:Nat}{A:Around}(r:Room k A)(h:j<=k):Room j A:=⟨r.hd,by have:=r.dp;omega,by have:=r.un;omega⟩
theorem Room.deeper {k:Nat}{A:Around}(r:Room (k+1) A)(env:Env):Room k (A.deeper env):=
 ⟨r.hd,by have:=r.dp;show A.depth+1+3 * k+5<_;omega,by have:=r.un;show A.units+3+16 * k+200<_;omega⟩
theorem Room.depth {k:Nat}{A:Around}(r:Room k A):A.depth<recursionLimit:=by have:=r.dp;omega
theorem Room.units {k:Nat}{A:Around}(r:Room k A):A.units+64<cLine:=by have:=r.un;omega
def tNil:TA:=λ_ H Q=>Q [] H
def tCons (ta:TE)(tr:TA):TA:=λσ H Q=>ta σ H λx H1=>tr σ H1 λxs H2=>Q (x::xs) H2
section
variable {X:Cx}{e:Expr}{es:List Expr}{te:TE}{t:TA}{pos:Pos}
theorem pa_nil:PA X [] tNil:=λ_ _ _ _ H Q I h=>Calls.spliced_nil ⟨[],H,I,.nil,h⟩
theorem pa_cons (ha:PE X e te)(hr:PA X es t)(hs:autoParam (starEach (e::es) X.env=(false,eval e X.env)::starEach es X.env) aR._auto_1):PA X (e::es) (tCons te t):=by
 intro pos pins s σ H Q I h
 rw[hs]
 show wpAny _ _ (spliced ((false,eval e X.env)::backTo pos (starEach es X.env))) _ _ s
 refine Calls.spliced_cons (thn (ha pins s σ H _ I h) λu s1 ⟨x,H1,I1,r1,q1⟩=>?_)
 exact thn (hr pos pins s1 σ H1 _ I1 q1) λus s2 ⟨xs,H2,I2,r2,q2⟩=>⟨x::xs,H2,I2,.cons r1 r2,q2⟩
def tTup (t:TA):TE:=λσ H Q=>t σ H λxs H1=>xs.length<=sizeLine/\∀ p,H1 p=none->Q (.ref p) (upd H1 p (.tup xs))
def tLst (t:TA):TE:=λσ H Q=>t σ H λxs H1=>xs.length<=sizeLine/\∀ p,H1 p=none->Q (.ref p) (upd H1 p (.lst xs))
theorem pe_tup {x1}(h:PA X es t):PE X (.Tuple es x1 pos) (tTup t):=by
 intro pins s σ H Q I hq
 refine wpAny_Tuple_spliced (thn (h pos pins s σ H _ I hq) λus s1 ⟨xs,H1,I1,r,z,q⟩=>⟨by rw[<-r.length];exact z,?_⟩)
 have hf:H1 s1.heap.objs.size=none:=I1.hok.fresh (Nat.le_refl _)
 refine⟨.ref s1.heap.objs.size,upd H1 s1.heap.objs.size (.tup xs),I1.laid (t':=s1.toks) (λb u e=>Heap.get?_push_of_some _ e) (Nat.le_refl _) ?_,rfl,q _ hf⟩
 exact⟨z,us,r,IsTupD.new _ _⟩
theorem pe_lst (h:PA X es t):PE X (.List es pos) (tLst t):=by
 intro pins s σ H Q I hq
 refine wpAny_List_spliced (thn (h pos pins s σ H _ I hq) λus s1 ⟨xs,H1,I1,r,z,q⟩=>⟨by rw[<-r.length];exact z,?_⟩)
 have hf:H1 s1.heap.objs.size=none:=I1.hok.fresh (Nat.le_refl _)
 refine⟨.ref s1.heap.objs.size,upd H1 s1.heap.objs.size (.lst xs),I1.laid (t':=s1.toks) (λb u e=>Heap.get?_push_of_some _ e) (Nat.le_refl _) ?_,rfl,q _ hf⟩
 exact⟨z,us,0,r,Heap.get?_push_size _ rfl⟩
end
abbrev Sp:=List V->Hp->VK->XK->Prop
abbrev CXT:=List Env->Hp->Shared->XK->Value->Shared->Prop
structure Env0 (P:Program)(w:World)(K:PySem.W.Frag)(mg:Str->Option Value)(base:Heap)(A:Around)(outer:List Env)(s:Shared)(H:Hp):Prop where
 frames:A.frames=some outer
 mod:Mod K mg base
 bs:∀ b o,base.get? b=some o->s.heap.get? b=some o/\H b=none
 bsz:base.objs.size<=s.heap.objs.size
 funs:s.heap.FunFrames base outer
 frf:∀ b ∈ frs outer,H b=none
 hok:HOk P w H s.heap
 bare:AllBare s.gens
def CE (outer:List Env)(P:Program)(w:World)(H:Hp)(s:Shared)(Q:VK) (u:Value)(s':Shared):Prop:=
 ∃ v H',s'.os=s.os/\AllBare s'.gens/\Un (frs outer) [] H H' s.heap s'.heap/\HOk P w H' s'.heap/\RelV v u/\Q v H'
def CR (CX:CXT)(outer:List Env)(P:Program)(w:World)(H:Hp)(s:Shared)(Q:VK)(E:XK)(r:Result)(s':Shared):Prop:=
 match r with
 |.ok (.ret u)=>CE outer P w H s Q u s'
 |.ok _=>False
 |.error e=>CX outer H s E e s'
structure FnOk (P:Program)(w:World)(K:PySem.W.Frag)(mg:Str->Option Value)(base:Heap)(CX:CXT) (k:Nat)(f:Addr)(fd:FuncData)(ps:List Str)(sp:Sp):Prop where
 len:∀ vs H Q E,sp vs H Q E->vs.length=ps.length
 run:∀ (A:Around)(outer:List Env)(s:Shared)(H:Hp)(args:Args)(us:List Value)(vs:List V)(Q:VK)(E:XK),Room k A->Env0 P w K mg base A outer s H->BindsTo s fd args (ps.zip us)->Vals vs us->sp vs H Q E ->
  codeAny (model P w) A (.call (.ref f) args) (CR CX outer P w H s Q E) s
section
variable {X:Cx}{pins:List (Addr×Obj)}{σ:St}{H:Hp}{s s':Shared}
theorem Inv.env0 (I:Inv X pins σ H s):Env0 X.prog X.w X.K X.mg X.base X.A X.stack s H:=
 ⟨I.ok.frames,I.ok.mod,I.bs,Nat.le_trans I.ok.bsz I.sz,I.stack,I.stkFree,I.hok,I.bare⟩
theorem Inv.after {Q:VK}{u:Value}(I:Inv X pins σ H s)(h:CE X.stack X.prog X.w H s Q u s'):EP X pins σ Q u s':=by
 obtain⟨v,H',os,bare,un,hok,r,q⟩:=h
 obtain⟨hh,g,d,t,os'⟩:=s'
 obtain rfl:os'=s.os:=os
 exact⟨v,H',I.call (h':=hh) (g':=g) (d':=d) (t':=t) (ch:=[]) un hok bare (λb z=>absurd z (by simp)),r,q⟩
end
def tCall (sp:Sp)(dvs:List V)(E:XK)(t:TA):TE:=λσ H Q=>t σ H λvs H1=>sp (vs++dvs) H1 Q E
def Binds (K:PySem.W.Frag)(fd:FuncData)(ps:List Str)(ds:List Value):Prop:=
 ∀ (s:Shared)(us:List Value),K.In s.heap->(us++ds).length=ps.length->BindsTo s fd ⟨us,[]⟩ (ps.zip (us++ds))
theorem Binds.all {K:PySem.W.Frag}{fd:FuncData}{ps:List Str}(h:∀ us:List Value,us.length=ps.length->bindArgs fd ⟨us,[]⟩=pure (ps.zip us)):Binds K fd ps []:=λs us _ hl=>by
 rw[List.append_nil]at hl ⊢
 exact .of_eq (h us hl)
def Passes (CX:CXT)(X:Cx)(E:XK):Prop:=∀ (pins:List (Addr×Obj))(σ:St)(H:Hp)(s:Shared) (e:Value)(s':Shared),Inv X pins σ H s->CX X.stack H s E e s'->X.xe e s'
section
variable {X:Cx}{CX:CXT}{k:Nat}{f C:Addr}{fd:FuncData}{ps:List Str}{sp:Sp}{dvs:List V}{ds:List Value}{E:XK}{x m:Str}{p pos apos:Pos}{e o:Expr}{es:List Expr}{ta:TE}{t:TA}
theorem run_fn {pins:List (Addr×Obj)}{σ:St}{H:Hp}{s:Shared}{Q:VK}{us:List Value}{vs:List V}(F:FnOk X.prog X.w X.K X.mg X.base CX k f fd ps sp)(hr:Room k X.A)(hb:Binds X.K fd ps ds)(hd:Vals dvs ds)(hx:Passes CX X E)
  (I:Inv X pins σ H s)(r:Vals vs us)(h:sp (vs++dvs) H Q E):wpAny (model X.prog X.w) X.A (call (.ref f) us) (EP X pins σ Q) X.xe s:=by
 have r2:Vals (vs++dvs) (us++ds):=r.append hd
 have hl:(us++ds).length=ps.length:=by rw[<-r2.length];exact F.len _ _ _ _ h
 refine wpAny_call (codeAny_mono (F.run X.A X.stack s H ⟨us,[]⟩ (us++ds) (vs++dvs) Q E hr I.env0 (hb s us I.kIn hl) r2 h) λr s' hq=>?_)
 cases r with
 |error e=>exact hx pins σ H s e s' I hq
 |ok fl=>
  cases fl with
  |ret u=>exact I.after hq
  |next=>exact False.elim hq
  |brk=>exact False.elim hq
  |cont=>exact False.elim hq
theorem pe_call (F:FnOk X.prog X.w X.K X.mg X.base CX k f fd ps sp)(hr:Room k X.A)(hg:Gl X x)(hm:X.mg x=some (.ref f))(hk:PySem.W.keepIn X.K (.ref f)=true)(hb:Binds X.K fd ps ds)(hd:Vals dvs ds)(hx:Passes CX X E)
  (ha:PA X (e::es) t)(hdb:autoParam ((x == ("__debug__" : Str))=false) aD._auto_1)(he:autoParam (starEach (e::es) X.env=(false,eval e X.env)::starEach es X.env) aR._auto_1)(hpl:autoParam ((backTo pos (starEach es X.env)).any (·.1)=false) aR._auto_1) :
  PE X (.Call (.Name x p) (e::es) [] pos) (tCall sp dvs E t):=by
 intro pins s σ H Q I h
 refine wpAny_Call_Name_kw (ld_glob I hg hm ?_ hdb)
 refine PySem.W.callWith_K (h₀:=X.base) I.ok.mod.kin hk (thn (ha pos pins s σ H _ I h) λus s1 ⟨vs,H1,I1,r,q⟩=>⟨I1.kIn,?_⟩) he hpl
 exact run_fn F hr hb hd hx I1 r q
theorem pe_call0 (F:FnOk X.prog X.w X.K X.mg X.base CX k f fd ps sp)(hr:Room k X.A)(hg:Gl X x)(hm:X.mg x=some (.ref f))(hk:PySem.W.keepIn X.K (.ref f)=true)(hb:Binds X.K fd ps ds)(hd:Vals dvs ds)(hx:Passes CX X E)
  (hdb:autoParam ((x == ("__debug__" : Str))=false) aD._auto_1):PE X (.Call (.Name x p) [] [] pos) (tCall sp dvs E tNil):=by
 intro pins s σ H Q I h
 refine wpAny_Call_Name_kw (ld_glob I hg hm ?_ hdb)
 exact PySem.W.callWith_K0 I.kIn hk (run_fn (us:=[]) F hr hb hd hx I .nil h)
structure Mk (K:PySem.W.Frag)(C f:Addr):Prop where
 makes:PySem.W.makesIn K C=true
 init:PySem.W.findIn K (.ref C) "__init__" = some (some (.ref f))
 fn:PySem.W.isFn K (.ref f)=true
 kp:PySem.W.keepIn K (.ref C)=true
end
section
variable {X:Cx}{CX:CXT}{k:Nat}{f C:Addr}{fd:FuncData}{ps ks:List Str}{sp:Sp}{E:XK}{x m:Str}{p pos apos kpos:Pos}{e o:Expr}{es:List Expr}{kws:List Keyword}{te ta:TE}{t tk:TA}{nm:Option Str}
structure KBinds (K:PySem.W.Frag)(fd:FuncData)(ps ks:List Str)(g:List Value->List Value->List Value)(gV:List V->List V->List V):Prop where
 to:∀ (s:Shared)(us ws:List Value),K.In s.heap->(g us ws).length=ps.length->BindsTo s fd ⟨us,ks.zip ws⟩ (ps.zip (g us ws))
 rel:∀ {vs:List V}{us:List Value}{zs:List V}{ws:List Value},Vals vs us->Vals zs ws->Vals (gV vs zs) (g us ws)
variable {g:List Value->List Value->List Value}{gV:List V->List V->List V}
end
structure FnScope (N P:List Str)(sc:Scope):Prop where
 kind:sc.kind=.function
 co:sc.isCoroutine=false
 gen:sc.isGenerator=false
 nd:N.Nodup
 pre:N.take P.length=P
 par:∀ x ∈ P,sc.names.lookup x=some .local\/sc.names.lookup x=some .cell
 nofree:∀ y ∈ sc.names,y.2≠.free
theorem bindL_out {kindOf:Str->Option NameKind}{x:Str}:∀ {binds:List (Str×Value)}{m:Str->Option Value},(∀ v,(x,v) ∉ binds)->bindL kindOf binds m x=m x
 |[],_,_=>rfl
 |(n,v)::r,m,h=>by
  unfold bindL
  rw[bindL_out λw hw=>h w (List.mem_cons_of_mem _ hw)]
  split
  ·have:x≠n:=by rintro rfl;exact h v List.mem_cons_self
   simp[this]
  ·rfl
theorem bindC_out {kindOf:Str->Option NameKind}{x:Str}:∀ {binds:List (Str×Value)}{m:Str->Option Value},(∀ v,(x,v) ∉ binds)->bindC kindOf binds m x=m x
 |[],_,_=>rfl
 |(n,v)::r,m,h=>by
  unfold bindC
  rw[bindC_out λw hw=>h w (List.mem_cons_of_mem _ hw)]
  split
  ·rfl
  ·have:x≠n:=by rintro rfl;exact h v List.mem_cons_self
   simp[this]
theorem bindL_get {kindOf:Str->Option NameKind}{x:Str}{v:Value}:∀ {P:List Str}{vs:List Value}{i:Nat}{m:Str->Option Value},P.Nodup->P[i]? = some x->vs[i]? = some v->kindOf x=some .local ->
  bindL kindOf (P.zip vs) m x=some v
 |[],_,_,_,_,h,_,_=>by simp at h
 |_::_,[],_,_,_,_,h,_=>by simp at h
 |p::P,w::vs,0,m,nd,h1,h2,hk=>by
  simp at h1 h2;subst h1;subst h2
  show bindL kindOf ((p,w)::P.zip vs) m p=_
  unfold bindL
  rw[bindL_out λv hv=>(List.nodup_cons.mp nd).1 (List.of_mem_zip hv).1,if_pos hk]
  simp
 |p::P,w::vs,i+1,m,nd,h1,h2,hk=>by
  show bindL kindOf ((p,w)::P.zip vs) m x=_
  unfold bindL
  exact bindL_get (i:=i) (List.nodup_cons.mp nd).2 (by simpa using h1) (by simpa using h2) hk
theorem bindC_get {kindOf:Str->Option NameKind}{x:Str}{v:Value}:∀ {P:List Str}{vs:List Value}{i:Nat}{m:Str->Option Value},P.Nodup->P[i]? = some x->vs[i]? = some v->kindOf x≠some .local ->
  bindC kindOf (P.zip vs) m x=some v
 |[],_,_,_,_,h,_,_=>by simp at h
 |_::_,[],_,_,_,_,h,_=>by simp at h
 |p::P,w::vs,0,m,nd,h1,h2,hk=>by
  simp at h1 h2;subst h1;subst h2
  show bindC kindOf ((p,w)::P.zip vs) m p=_
  unfold bindC
  rw[bindC_out λv hv=>(List.nodup_cons.mp nd).1 (List.of_mem_zip hv).1,if_neg hk]
  simp
 |p::P,w::vs,i+1,m,nd,h1,h2,hk=>by
  show bindC kindOf ((p,w)::P.zip vs) m x=_
  unfold bindC
  exact bindC_get (i:=i) (List.nodup_cons.mp nd).2 (by simpa using h1) (by simpa using h2) hk
def start (N:List Str)(vs:List V):St:=vs.map some++List.replicate (N.length - vs.length) none
def cxOf (CX:CXT)(P:Program)(w:World)(K:PySem.W.Frag)(mg:Str->Option Value)(base:Heap)(N:List Str) (qual:Str)(scope:Scope)(f:Addr) (cd:Value)(A:Around)(outer:List Env)(s:Shared)(H:Hp)(E:XK):Cx where
 prog:=P
 w:=w
 K:=K
 mg:=mg
 base:=base
 A:=A.deeper (envOfC qual scope s.heap.objs.size f cd)
 N:=N
 s₀:=s
 H₀:=H
 env:=envOfC qual scope s.heap.objs.size f cd
 outer:=outer
 stack:=envOfC qual scope s.heap.objs.size f cd::outer
 ex:=[]
 calm:=true
 fn:=λ_=>true
 pn:=[]
 xe:=λe s'=>wpAny (model P w) (A.deeper (envOfC qual scope s.heap.objs.size f cd)) (leaving (envOfC qual scope s.heap.objs.size f cd) e) (λ_ s''=>CX outer H s E e s'') (λe' s''=>CX outer H s E e' s'') s'
theorem cell_has {sc:Scope}{n:Nat}{x:Str}(h:sc.names.lookup x=some .cell):∃ c,(cellsFrom n sc.names []).lookup x=some c:=by
 have q:=PySem.W.cellsFrom_some sc.names n [] (.inl h)
 exact Option.isSome_iff_exists.mp q
theorem inv_start {CX:CXT}{P:Program}{w:World}{K:PySem.W.Frag}{mg:Str->Option Value}{base:Heap}{N ps:List Str}{qual:Str}{scope:Scope}{f:Addr}{cd:Value}{A:Around}{outer:List Env}{s s1:Shared}{H:Hp}{E:XK}{us:List Value}{vs:List V}
  (S:FnScope N ps scope)(hd:A.handled=none)(e0:Env0 P w K mg base A outer s H)(hl:vs.length=ps.length)(r:Vals vs us)
  (x:InCallC s s.heap.objs.size (bindL (envOfC qual scope s.heap.objs.size f cd).kindOf (ps.zip us) λ_=>none) (cellsFrom (s.heap.objs.size+1) scope.names []) (bindC (envOfC qual scope s.heap.objs.size f cd).kindOf (ps.zip us) λ_=>none) s1) :
  Inv (cxOf CX P w K mg base N qual scope f cd A outer s H E) [] (start N vs) H s1:=by
 have hpl:ps.length<=N.length:=by have:=congrArg List.length S.pre;rw[List.length_take]at this;omega
 obtain⟨h1,tk,rfl,hk⟩:=x.done
 have noA:∀ b:Addr,b ∉ (cxOf CX P w K mg base N qual scope f cd A outer s H E).ex:=λb z=>absurd (show b ∈ ([]:List Addr) from z) (by simp)
 refine⟨⟨e0.mod,S.kind,rfl,rfl,Nat.le_refl _,λy z c h1 h2=>?_,λy hy=>?_,λy c _ h=>?_,λ_=>hd,Around.frames_deeper e0.frames,.inr ⟨rfl,rfl⟩,λb z=>absurd z (noA b),e0.bs,e0.bsz,λb _ _=>noA b,λb z=>absurd z (noA b),e0.funs,e0.frf⟩,
  rfl,e0.bare,Un.kept hk,⟨_,x.toInCall.ns,λi y v h1 h2 h3=>?_⟩,λy c h=>⟨_,x.cell y c h⟩,e0.hok.fresh (Nat.le_refl _),λy c h=>?_,λp hp=>absurd (show p ∈ ([]:List (Addr×Obj)) from hp) (by simp),e0.hok.kept hk,?_⟩
 ·exact name_of_addr x.apart (PySem.mem_of_lookup h1) (PySem.mem_of_lookup h2)
 ·have hy:scope.names.lookup y=some .cell\/scope.names.lookup y=some .free:=hy
  rcases hy with hy | hy
  ·exact cell_has hy
  ·exact absurd rfl (S.nofree _ (PySem.mem_of_lookup hy))
 ·exact Nat.le_of_lt (x.above y c (PySem.mem_of_lookup h))
 ·have hi:i<vs.length:=by
   unfold start at h2
   by_cases hi:i<vs.length
   ·exact hi
   ·rw[List.getElem?_append_right (by simpa using hi)]at h2
    rw[List.getElem?_replicate]at h2
    split at h2<;>cases h2
  have ha:vs[i]? = some v:=by
   unfold start at h2
   rw[List.getElem?_append_left (by simpa using hi),List.getElem?_map]at h2
   cases e:vs[i]? with
   |none=>rw[e]at h2;cases h2
   |some a=>rw[e]at h2;cases h2;rfl
  obtain⟨u,hu,rv⟩:=r.get ha
  have hp:ps[i]? = some y:=by
   rw[<-S.pre,List.getElem?_take_of_lt (by omega)];exact h1
  have ndP:ps.Nodup:=by rw[<-S.pre];exact S.nd.sublist (List.take_sublist _ _)
  refine⟨u,rv,?_⟩
  rcases S.par y (List.mem_of_getElem? hp) with k | k
  ·exact .inl ⟨k,bindL_get ndP hp hu k⟩
  ·obtain⟨c,e⟩:=cell_has (n:=s.heap.objs.size+1) k
   refine .inr ⟨.inl k,c,e,?_⟩
   have q:=x.cell y c e
   rw[bindC_get ndP hp hu (by show scope.names.lookup y≠_;rw[k];decide)]at q
   exact q
 ·exact e0.hok.fresh (Nat.le_of_lt (x.above y c (PySem.mem_of_lookup h)))
 ·unfold start
  show _=N.length
  rw[List.length_append,List.length_map,List.length_replicate]
  omega
theorem fn_of {CX:CXT}{P:Program}{w:World}{K:PySem.W.Frag}{mg:Str->Option Value}{base:Heap}{k:Nat}{f:Addr}{name qual:Str}{params:Arguments}{body:List Stmt}{scope:Scope}{dV kV doc pm cdv ct oc:Value}{an od:Option Addr}
  {osl:Array (Option Value)}{N ps:List Str}{sp:Sp}(lk:K.lookup f=some ⟨oc,od,.func (PySem.W.fnOf name qual params body scope dV kV doc pm an cdv ct),osl⟩)(hcd:PySem.W.codeIn K cdv qual=true)(S:FnScope N ps scope)
  (len:∀ vs H Q E,sp vs H Q E->vs.length=ps.length)
  (hbody:∀ (A:Around)(outer:List Env)(s:Shared)(H:Hp)(vs:List V)(Q:VK)(E:XK),Room k (A.deeper (envOfC qual scope s.heap.objs.size f cdv))->sp vs H Q E ->
   ∃ t,PSs (cxOf CX P w K mg base N qual scope f cdv A outer s H E) body t/\t { nx:=λ_ H'=>Q .non H',rt:=Q } (start N vs) H) :
  FnOk P w K mg base CX (k+1) f (PySem.W.fnOf name qual params body scope dV kV doc pm an cdv ct) ps sp:=by
 refine⟨len,λA outer s H args us vs Q E hr e0 hb r hsp=>?_⟩
 have hl:=len _ _ _ _ hsp
 have KX:K.In s.heap:=e0.mod.kin.keeps λb o e=>(e0.bs b o e).1
 have lim:s.heap.NoLimit:=e0.mod.nolimit.keeps λb o e=>(e0.bs b o e).1
 have hkind:∀ y ∈ ps.zip us,scope.names.lookup y.1=some .local\/(scope.names.lookup y.1=some .cell/\((cellsFrom (s.heap.objs.size+1) scope.names []).lookup y.1).isSome=true):=λ⟨n,v⟩ hy=>by
  rcases S.par n (List.of_mem_zip hy).1 with q | q
  ·exact .inl q
  ·exact .inr ⟨q,PySem.W.cellsFrom_some _ _ _ (.inl q)⟩
 refine codeAny_call_function hr.depth (KX _ _ lk) rfl S.co S.gen rfl (PySem.W.codeRec_of KX hcd) (hb _ _ _ _ ?_)
 refine wpAny_newFunctionEnv_cells S.kind hkind λenv he s1 x=>?_
 subst he
 refine⟨lim.keeps x.toInCall.keep,codeAny_func ?_⟩
 obtain⟨t,ht,hq⟩:=hbody A outer s H vs Q E (hr.deeper _) hsp
 have I:Inv (cxOf CX P w K mg base N qual scope f cdv A outer s H E) [] (start N vs) H s1:=inv_start S hr.hd e0 hl r x
 refine wpAny_mono (ht [] s1 (start N vs) H _ I hq) (λfl s' hs=>?_) λe s' hs=>hs
 have fin:∀ {σ':St}{H':Hp}{v:V}{u:Value},Inv (cxOf CX P w K mg base N qual scope f cdv A outer s H E) [] σ' H' s'->RelV v u->Q v H'->CE outer P w H s Q u s':=
  fun {σ' H' v u} J rv q=>⟨v,H',J.os,J.bare,J.base,J.hok,rv,q⟩
 cases fl with
 |ret u=>
  obtain⟨v,σ',H',J,rv,q⟩:=hs
  exact fin J rv q
 |next=>
  obtain⟨σ',H',J,q⟩:=hs
  exact fin (v:=V.non) (u:=Value.none) J rfl q
 |brk=>
  obtain⟨_,_,_,q⟩:=hs
  exact False.elim q
 |cont=>
  obtain⟨_,_,_,q⟩:=hs
  exact False.elim q
end L2
namespace L2
open PySem PySem.Spec PyProof.Rows
section
variable {X:Cx}{x:Str}{p pos:Pos}{e:Expr}{es:List Expr}{t:TA}{id T:String}{r:List V->Hp->VK->Prop}
def tCB (r:List V->Hp->VK->Prop)(t:TA):TE:=λσ H Q=>t σ H λvs H1=>r vs H1 Q
theorem pe_callB (hc:CallR X (.builtin id) r)(hg:Gl X x)(hm:X.mg x=none)(hv:bootBuiltins x=some (.builtin id))(ha:PA X (e::es) t)(hn:x ≠ "__name__":=by decide)(hdb:autoParam ((x == ("__debug__" : Str))=false) aD._auto_1)
  (he:autoParam (starEach (e::es) X.env=(false,eval e X.env)::starEach es X.env) aR._auto_1)(hpl:autoParam ((backTo pos (starEach es X.env)).any (·.1)=false) aR._auto_1):PE X (.Call (.Name x p) (e::es) [] pos) (tCB r t):=by
 intro pins s σ H Q I h
 refine wpAny_Call_Name_kw (ld_blt I hg hm hv ?_ hn hdb)
 exact PyProof.Rows.callWith_builtin1 (thn (ha pos pins s σ H _ I h) λus s1 ⟨vs,H1,I1,r1,q1⟩=>hc pins s1 σ H1 vs us Q I1 r1 q1) he hpl
theorem pe_callTy (hc:CallR X (.type T) r)(hg:Gl X x)(hm:X.mg x=none)(hv:bootBuiltins x=some (.type T))(ha:PA X (e::es) t)(hn:x ≠ "__name__":=by decide)(hdb:autoParam ((x == ("__debug__" : Str))=false) aD._auto_1)
  (he:autoParam (starEach (e::es) X.env=(false,eval e X.env)::starEach es X.env) aR._auto_1)(hpl:autoParam ((backTo pos (starEach es X.env)).any (·.1)=false) aR._auto_1):PE X (.Call (.Name x p) (e::es) [] pos) (tCB r t):=by
 intro pins s σ H Q I h
 refine wpAny_Call_Name_kw (ld_blt I hg hm hv ?_ hn hdb)
 exact PyProof.Rows.callWith_type1 (thn (ha pos pins s σ H _ I h) λus s1 ⟨vs,H1,I1,r1,q1⟩=>hc pins s1 σ H1 vs us Q I1 r1 q1) he hpl
end
end L2
namespace HT
open PySem PyProof.Rows
section
open PySem.SeqAt
open PySem.AutoSeq1 (wpAny_loadPart')
open PySem.MeetsSeq PySem.MeetsSeq2 PySem.MeetsSeq3
end
section
variable {prog:Program}{w:World}{A:Around}{E:Value->Shared->Prop}{s:Shared}
theorem cat_tup {t b:Addr}{vs ws:List Value}{Q:Value->Shared->Prop}(ht:IsTup s.heap t vs.toArray)(hb:IsTup s.heap b ws.toArray)(hv:vs≠[])
  (h1:ws=[]->Q (.ref t) s)(h2:ws≠[]->Q (.ref s.heap.objs.size) { s with heap:=s.heap.push { cls:=.type "tuple",data:=.seq (vs++ws).toArray } })
  (hsz:vs.length+ws.length<=sizeLine):wpAny (model prog w) A (binaryOp .Add (.ref t) (.ref b)) Q E s:=by
 obtain⟨⟨cls,dd,data,sl⟩,ho,hc,n,hd⟩:=id ht
 obtain⟨⟨cls2,dd2,data2,sl2⟩,ho2,hc2,n2,hd2⟩:=id hb
 simp only at hc hd hc2 hd2
 subst hc hd hc2 hd2
 have e:vs.toArray++ws.toArray=(vs++ws).toArray:=by simp
 by_cases hw:ws=[]
 ·exact concat_meets ⟨_,ho,rfl⟩ ⟨_,ho2,rfl⟩ noFill_tuple_add seq_tuple_add PySem.F.slot_tuple_add PySem.F.entry_tuple_add (PySem.F.args_tuple_add_2 _ _)
   (tuple_addW1 t b vs.toArray ws.toArray n n2 dd dd2 sl sl2 (by simpa using hv) (by simp[hw])) ⟨ho,ho2,h1 hw⟩
 ·refine concat_meets ⟨_,ho,rfl⟩ ⟨_,ho2,rfl⟩ noFill_tuple_add seq_tuple_add PySem.F.slot_tuple_add PySem.F.entry_tuple_add (PySem.F.args_tuple_add_2 _ _)
   (tuple_addW2 t b vs.toArray ws.toArray n n2 dd dd2 sl sl2 (by simpa using hv) (by simpa using hw) (by rw[List.size_toArray,List.size_toArray];exact hsz)) ⟨ho,ho2,?_⟩
  rw[e]
  exact h2 hw
def sIx (n d:Nat):Option Int->Nat
 |none=>d
 |some v=>if v<0 then (v+(n:Int)).toNat else min v.toNat n
theorem sIx_le (n d:Nat)(hd:d<=n)(o:Option Int):sIx n d o<=n:=by
 cases o with
 |none=>exact hd
 |some v=>
  show (if v<0 then (v+(n:Int)).toNat else min v.toNat n)<=n
  by_cases hv:v<0
  ·rw[if_pos hv];omega
  ·rw[if_neg hv];exact Nat.min_le_right _ _
theorem clip_eq (v:Int) (n d:Nat):(if v<0 then max (v+(n:Int)) 0 else min v (n:Int))=((sIx n d (some v):Nat):Int):=by
 show (if v<0 then max (v+(n:Int)) 0 else min v (n:Int))=(((if v<0 then (v+(n:Int)).toNat else min v.toNat n):Nat):Int)
 by_cases hv:v<0
 ·simp only[if_pos hv];omega
 ·simp only[if_neg hv];omega
theorem adjust_gen (lo hi:Option Int) (n:Nat):Builtin.Slice.sliceAdjust lo hi 1 (n:Int)=(((sIx n 0 lo:Nat):Int),((sIx n n hi:Nat):Int)):=by
 have h1:¬ ((1:Int)<0):=by omega
 unfold Builtin.Slice.sliceAdjust
 simp only[h1,if_false]
 refine Prod.ext ?_ ?_
 ·cases lo with
  |none=>rfl
  |some v=>exact clip_eq v n 0
 ·cases hi with
  |none=>rfl
  |some v=>exact clip_eq v n n
theorem places_gen (i j:Nat):Builtin.Slice.slicePlaces (i:Int) (j:Int) 1=j - i:=by
 unfold Builtin.Slice.slicePlaces
 have h1:(1:Int) > 0:=by omega
 simp only[h1,if_true,Int.ediv_one]
 split<;>omega
theorem slicePart_ {v:Value}{o:Option Int}{Q:Option Int->Shared->Prop}(p:IsPart v o)(h:Q o s):wpAny (model prog w) A (Builtin.Slice.slicePartIndex v) Q E s:=by
 cases p with
 |none=>exact slicePart_none h
 |int i t=>exact slicePart_int h
theorem sliceApplied_gen {sl:Addr}{vl vu:Value}{lo hi:Option Int}{n:Nat}{Q:Int×Int×Nat->Shared->Prop}(hs:s.heap.IsSliceOf sl vl vu .none)(pl:IsPart vl lo)(pu:IsPart vu hi)
  (h:Q (((sIx n 0 lo:Nat):Int),1,sIx n n hi - sIx n 0 lo) s):wpAny (model prog w) A (Builtin.Slice.sliceApplied (.ref sl) (pure (n:Int))) Q E s:=by
 obtain⟨os,hos,hcs,hds⟩:=id hs
 unfold Builtin.Slice.sliceApplied Builtin.Slice.sliceFields
 refine wpAny_bind (wpAny_bind (wpAny_field hos hds (x:=vl) rfl (wpAny_bind (wpAny_field hos hds (x:=vu) rfl (wpAny_bind (wpAny_field hos hds (x:=.none) rfl (wpAny_pure ?_)))))))
 refine wpAny_bind (slicePart_none ?_)
 show wpAny _ _ (if ((1:Int) == 0)=true then _ else _) _ _ s
 rw[if_neg (by decide)]
 refine wpAny_bind (slicePart_ pl (wpAny_bind (slicePart_ pu (wpAny_bind (wpAny_pure ?_)))))
 show wpAny _ _ (match Builtin.Slice.sliceAdjust lo hi 1 (n:Int) with | (lo,hi)=>pure (lo,(1:Int),Builtin.Slice.slicePlaces lo hi 1)) _ _ s
 rw[adjust_gen lo hi n]
 show wpAny _ _ (pure (((sIx n 0 lo:Nat):Int),(1:Int),Builtin.Slice.slicePlaces ((sIx n 0 lo:Nat):Int) ((sIx n n hi:Nat):Int) 1)) _ _ s
 rw[places_gen]
 exact wpAny_pure h
theorem pick_gen (xs:Array Value) (i k:Nat):((List.range k).filterMap λ(m:Nat)=>xs[((i:Int)+(m:Int) * 1).toNat]?).toArray=((xs.toList.drop i).take k).toArray:=by
 have e:(λ(m:Nat)=>xs[((i:Int)+(m:Int) * 1).toNat]?)=λm=>xs[i+m]?:=by
  funext m
  have:((i:Int)+(m:Int) * 1).toNat=i+m:=by omega
  rw[this]
 rw[e]
 have:=pick_run xs i k
 rw[List.filterMap_map]at this
 have e2:((λx=>xs[x]?) ∘ λx=>i+x)=λm=>xs[i+m]?:=rfl
 rw[e2]at this
 rw[this]
theorem getItem_tuple_cut {t sl:Addr}{items:Array Value}{vl vu:Value}{lo hi:Option Int}{Q:Value->Shared->Prop}(ht:IsTup s.heap t items)(hs:s.heap.IsSliceOf sl vl vu .none)(pl:IsPart vl lo)(pu:IsPart vu hi)
  (hw:¬ (sIx items.size 0 lo=0/\sIx items.size items.size hi=items.size))
  (h:Q (.ref s.heap.objs.size) { s with heap:=s.heap.push { cls:=.type "tuple",data:=.seq ((items.toList.drop (sIx items.size 0 lo)).take (sIx items.size items.size hi - sIx items.size 0 lo)).toArray } })
  (hsz:items.size<=sizeLine):wpAny (model prog w) A (getItem (.ref t) (.ref sl)) Q E s:=by
 have htake:sizeOk (.seq ((items.toList.drop (sIx items.size 0 lo)).take (sIx items.size items.size hi - sIx items.size 0 lo)).toArray):=by
  show ((items.toList.drop (sIx items.size 0 lo)).take (sIx items.size items.size hi - sIx items.size 0 lo)).toArray.size<=sizeLine
  rw[List.size_toArray,List.length_take,List.length_drop,Array.length_toList]
  omega
 have hj:sIx items.size items.size hi<=items.size:=sIx_le _ _ (Nat.le_refl _) hi
 obtain⟨os,hos,hcs,hds⟩:=id hs
 have hTs:s.TypeIs (.ref sl) "slice":=⟨os,hos,hcs⟩
 unfold getItem
 try with_reducible refine wpAny_holding ?_
 first | refine wpAny_bind (wpAny_pure ?_) | skip
 refine wpAny_bind (wpAny_sequenceKey ht.typeIs (by decide) ?_)
 refine wpAny_bind (wpAny_callSpecial?_slot (name:=Str.ofString "__getitem__") ht.typeIs PyProof.Rows.slot_tuple_getitem
  (wpAny_call_entry PyProof.Rows.slot_tuple_getitem ht.typeIs entry_tuple_getitem ?_ (args_tuple_getitem _ _)))
 show wpAny _ _ (Builtin.Tuple.tupleItemsOf (.ref t) >>= _) _ _ s
 refine wpAny_bind (tupleItemsOf_ ht ?_)
 refine wpAny_bind (wpAny_typeOf hTs ?_)
 rw[if_pos (by decide)]
 refine wpAny_bind (sliceApplied_gen hs pl pu ?_)
 have hno:¬ ((((sIx items.size 0 lo:Nat):Int) == 0 && (1:Int) == 1 && (sIx items.size items.size hi - sIx items.size 0 lo) == items.size)=true):=by
  intro q
  rw[Bool.and_eq_true,Bool.and_eq_true]at q
  have q1:((sIx items.size 0 lo:Nat):Int)=0:=eq_of_beq q.1.1
  have q2:sIx items.size items.size hi - sIx items.size 0 lo=items.size:=eq_of_beq q.2
  exact hw ⟨by omega,by omega⟩
 show wpAny _ _ (if (((sIx items.size 0 lo:Nat):Int) == 0 && (1:Int) == 1 && (sIx items.size items.size hi - sIx items.size 0 lo) == items.size)=true then _ else _) _ _ s
 rw[if_neg hno,pick_gen]
 first
  |exact wpAny_bind (m:=Builtin.Tuple.tupleExact _) (wpAny_newObj_type (wpAny_pure ⟨_,rfl,wpAny_pure h⟩) htake)
  |exact wpAny_bind (m:=Builtin.Tuple.tupleExact _) (wpAny_newObj_type (wpAny_bind (wpAny_pure (wpAny_pure ⟨_,rfl,wpAny_pure h⟩))) htake)
  |exact wpAny_bind (wpAny_bind (m:=Builtin.Tuple.tupleExact _) (wpAny_newObj_type (wpAny_pure (wpAny_pure ⟨_,rfl,wpAny_pure h⟩)) htake))
  |exact wpAny_bind (wpAny_bind (m:=Builtin.Tuple.tupleExact _) (wpAny_newObj_type (wpAny_pure ⟨_,rfl,wpAny_pure h⟩) htake))
end
end HT
namespace L2
open PySem PySem.Spec PyProof.Rows
abbrev TO:=St->Hp->(Option Int->Hp->Prop)->Prop
def PO (X:Cx)(e:Option Expr)(t:TO):Prop:=
 ∀ (pins:List (Addr×Obj))(s:Shared)(σ:St)(H:Hp)(Q:Option Int->Hp->Prop),Inv X pins σ H s->t σ H Q ->
  wpAny (model X.prog X.w) X.A (evalPart e X.env) (λu s'=>∃ o H',Inv X pins σ H' s'/\IsPart u o/\Q o H') X.xe s
def tNoPart:TO:=λ_ H Q=>Q none H
def tPart (t:TE):TO:=λσ H Q=>t σ H λx H1=>∃ i,x=.int i/\Q (some i) H1
section
variable {X:Cx}{e:Expr}{te:TE}{lo hi:Option Expr}{tl th:TO}{pos p2:Pos}
theorem po_none:PO X none tNoPart:=by
 intro pins s σ H Q I h
 rw[evalPart_none]
 exact wpAny_pure ⟨none,H,I,.none,h⟩
theorem po_some (h:PE X e te):PO X (some e) (tPart te):=by
 intro pins s σ H Q I hw
 rw[evalPart_some]
 refine thn (h pins s σ H _ I hw) λu s1 ⟨x,H1,I1,r1,q1⟩=>?_
 obtain⟨i,rfl,q⟩:=q1
 obtain⟨t,rfl⟩:=r1
 exact⟨some i,H1,I1,.int i t,q⟩
def SlR (X:Cx)(r:V->Option Int->Option Int->Hp->VK->Prop):Prop:=
 ∀ (pins:List (Addr×Obj))(s:Shared)(σ:St)(H:Hp)(x:V) (v vl vu:Value)(lo hi:Option Int)(sl:Addr)(Q:VK),Inv X pins σ H s->RelV x v->s.heap.IsSliceOf sl vl vu .none->IsPart vl lo->IsPart vu hi->r x lo hi H Q ->
  ∃ T id,typeLookup (.type T) "__getitem__" = pure (some (.builtin id))/\s.TypeIs v T/\wpAny (model X.prog X.w) X.A (getItem v (.ref sl)) (EP X pins σ Q) X.xe s
theorem SlR.or {r r':V->Option Int->Option Int->Hp->VK->Prop}(h:SlR X r)(h':SlR X r'):SlR X (λx lo hi H Q=>r x lo hi H Q\/r' x lo hi H Q):=by
 intro pins s σ H x v vl vu lo hi sl Q I rx hs pl pu q
 rcases q with q | q
 ·exact h pins s σ H x v vl vu lo hi sl Q I rx hs pl pu q
 ·exact h' pins s σ H x v vl vu lo hi sl Q I rx hs pl pu q
def tSl (r:V->Option Int->Option Int->Hp->VK->Prop)(te:TE)(tl th:TO):TE:=λσ H Q=>te σ H λx H1=>tl σ H1 λl H2=>th σ H2 λu H3=>r x l u H3 Q
theorem pe_slice {r:V->Option Int->Option Int->Hp->VK->Prop}(hr:SlR X r)(he:PE X e te)(hl:PO X lo tl)(hu:PO X hi th):PE X (.Subscript e (.Slice lo hi none p2) pos) (tSl r te tl th):=by
 intro pins s σ H Q I h
 refine Subscript_ (thn (he pins s σ H _ I h) λv s1 ⟨x,H1,I1,r1,q1⟩=>?_)
 refine wpAny_Slice (thn (hl pins s1 σ H1 _ I1 q1) λvl s2 ⟨l,H2,I2,pl,q2⟩=>thn (hu pins s2 σ H2 _ I2 q2) λvu s3 ⟨u,H3,I3,pu,q3⟩=>?_)
 rw[evalPart_none]
 refine wpAny_pure ?_
 have I4:Inv X pins σ H3 { s3 with heap:=s3.heap.push { cls:=.type "slice",data:=.fields #[vl,vu,.none] } }:=I3.kept (t':=s3.toks) λb ob q=>Heap.get?_push_of_some _ q
 obtain⟨T,id,hT,ht,hg⟩:=hr pins { s3 with heap:=s3.heap.push { cls:=.type "slice",data:=.fields #[vl,vu,.none] } } σ H3 x v vl vu l u s3.heap.objs.size Q I4 r1 (Heap.IsSliceOf.new ..) pl pu q3
 show wpAny (model X.prog X.w) X.A (subscriptTail e (.Slice lo hi none p2) v (.ref s3.heap.objs.size)) (EP X pins σ Q) X.xe { s3 with heap:=s3.heap.push { cls:=.type "slice",data:=.fields #[vl,vu,.none] } }
 exact tail_any (ops:=[.ref s3.heap.objs.size,v]) ht hT hg (by with_unfolding_all rfl)
def cutV (xs:List V)(lo hi:Option Int):List V:=(xs.drop (HT.sIx xs.length 0 lo)).take (HT.sIx xs.length xs.length hi - HT.sIx xs.length 0 lo)
theorem cutV_length (xs:List V)(lo hi:Option Int):(cutV xs lo hi).length<=xs.length:=by
 unfold cutV
 rw[List.length_take,List.length_drop]
 omega
def rSlT (K:PySem.W.Frag):V->Option Int->Option Int->Hp->VK->Prop:=λx lo hi H Q=>∃ a xs,x=.ref a/\SqT K H a xs ∧
 ¬ (HT.sIx xs.length 0 lo=0/\HT.sIx xs.length xs.length hi=xs.length)/\∀ p,H p=none->Q (.ref p) (upd H p (.tup (cutV xs lo hi)))
theorem sl_tup:SlR X (rSlT X.K):=by
 intro pins s σ H x v vl vu lo hi sl Q I rx hs pl pu h
 obtain⟨a,xs,rfl,hx,hw,q⟩:=h
 cases rx
 obtain⟨its,r,ht,hz⟩:=I.tuple hx
 have hlen:its.toArray.size=xs.length:=by rw[List.size_toArray];exact r.length.symm
 refine⟨"tuple",_,PyProof.Rows.slot_tuple_getitem.lookup,ht.typeIs,?_⟩
 refine HT.getItem_tuple_cut ht hs pl pu (by rw[hlen];exact hw) ?_ (by rw[hlen];exact hz)
 rw[hlen]
 refine⟨.ref s.heap.objs.size,_,I.laid (t':=s.toks) (o:=.tup (cutV xs lo hi)) (λb ob q=>Heap.get?_push_of_some _ q) (Nat.le_refl _) ?_,rfl,q _ (I.hok.fresh (Nat.le_refl _))⟩
 exact⟨Nat.le_trans (cutV_length xs lo hi) hz,_,(r.drop (HT.sIx xs.length 0 lo)).take (HT.sIx xs.length xs.length hi - HT.sIx xs.length 0 lo),IsTupD.new _ _⟩
def rCatT (K:PySem.W.Frag):R2:=λx y H Q=>∃ a b xs ys,x=.ref a/\y=.ref b/\SqT K H a xs/\SqT K H b ys/\xs≠[]/\xs.length+ys.length<=sizeLine ∧
 (ys=[]->Q (.ref a) H)/\(ys≠[]->∀ p,H p=none->Q (.ref p) (upd H p (.tup (xs++ys))))
theorem Vals.nil_iff {xs:List V}{us:List Value}(r:Vals xs us):us=[] ↔ xs=[]:=by
 cases r with
 |nil=>simp
 |cons _ _=>simp
theorem op_catT:OpR X (binaryOp .Add) (rCatT X.K):=by
 intro pins s σ H x y v u Q I rx ry h
 obtain⟨a,b,xs,ys,rfl,rfl,ha,hb,hx,hz,q1,q2⟩:=h
 cases rx
 cases ry
 obtain⟨its,r1,p1,_⟩:=I.tuple ha
 obtain⟨its2,r2,p2,_⟩:=I.tuple hb
 refine HT.cat_tup p1 p2 (λz=>hx (r1.nil_iff.mp z)) (λz=>⟨.ref a,H,I,rfl,q1 (r2.nil_iff.mp z)⟩) (λz=>?_) (by rw[<-r1.length,<-r2.length];exact hz)
 refine⟨.ref s.heap.objs.size,_,I.laid (t':=s.toks) (o:=.tup (xs++ys)) (λb ob q=>Heap.get?_push_of_some _ q) (Nat.le_refl _) ?_,rfl,q2 (λw=>z (r2.nil_iff.mpr w)) _ (I.hok.fresh (Nat.le_refl _))⟩
 exact⟨by rw[List.length_append];exact hz,_,r1.append r2,IsTupD.new _ _⟩
end
end L2
namespace L2
open PySem PySem.Spec PyProof.Rows
def ixN (n:Nat) (i:Int):Option Nat:=if 0<=i then (if i<n then some i.toNat else none) else if -(n:Int)<=i then some (i+n).toNat else none
def atI {α:Type}(xs:List α) (i:Int):Option α:=(ixN xs.length i).bind λj=>xs[j]?
theorem ixN_seq {n:Nat}{i:Int}{j:Nat}(h:ixN n i=some j):seqIndex? i n=some j/\j<n/\-(n:Int)<=i/\i<n:=by
 unfold ixN at h
 by_cases h0:0<=i
 ·rw[if_pos h0]at h
  by_cases h1:i<n
  ·rw[if_pos h1]at h
   have e:i.toNat=j:=Option.some.inj h
   exact⟨by rw[seqIndex_of h0 h1,e],by omega,by omega,h1⟩
  ·rw[if_neg h1]at h;cases h
 ·rw[if_neg h0]at h
  by_cases h1 : -(n:Int)<=i
  ·rw[if_pos h1]at h
   have e:(i+n).toNat=j:=Option.some.inj h
   exact⟨by rw[seqIndex_neg (by omega) h1,e],by omega,h1,by omega⟩
  ·rw[if_neg h1]at h;cases h
theorem atI_get {α:Type}{xs:List α}{i:Int}{v:α}(h:atI xs i=some v):∃ j,seqIndex? i xs.length=some j/\xs[j]? = some v/\j<xs.length/\-(xs.length:Int)<=i/\i<xs.length:=by
 unfold atI at h
 cases e:ixN xs.length i with
 |none=>rw[e]at h;cases h
 |some j=>
  rw[e]at h
  obtain⟨h1,h2,h3,h4⟩:=ixN_seq e
  exact⟨j,h1,h,h2,h3,h4⟩
def PlainIx (b:Expr):Prop:=∀ o i,subscripted b false o i=operate [o,i] (getItem o i)
def IxR (X:Cx)(r:R2):Prop:=
 ∀ (value slice:Expr)(pins:List (Addr×Obj))(s:Shared)(σ:St)(H:Hp)(x y:V) (v u:Value)(Q:VK),Inv X pins σ H s->RelV x v->RelV y u->r x y H Q ->
  subscripted slice false v u=operate [v,u] (getItem v u)->wpAny (model X.prog X.w) X.A (subscriptTail value slice v u) (EP X pins σ Q) X.xe s
def MtR (X:Cx) (id:String)(r:V->List V->Hp->VK->Prop):Prop:=
 ∀ (pins:List (Addr×Obj))(s:Shared)(σ:St)(H:Hp)(x:V)(xs:List V) (v:Value)(us:List Value)(Q:VK),Inv X pins σ H s->RelV x v->Vals xs us->r x xs H Q ->
  wpAny (model X.prog X.w) X.A (call (.builtin id) (v::us)) (EP X pins σ Q) X.xe s
section
variable {X:Cx}{a b:Expr}{ta tb:TE}{pos:Pos}
theorem IxR.or {r r':R2}(h:IxR X r)(h':IxR X r'):IxR X (λx y H Q=>r x y H Q\/r' x y H Q):=by
 intro value slice pins s σ H x y v u Q I rx ry q hs
 rcases q with q | q
 ·exact h value slice pins s σ H x y v u Q I rx ry q hs
 ·exact h' value slice pins s σ H x y v u Q I rx ry q hs
theorem pe_ix {r:R2}(hr:IxR X r)(ha:PE X a ta)(hb:PE X b tb)(hs:PlainIx b):PE X (.Subscript a b pos) (tOp r ta tb):=by
 intro pins s σ H Q I h
 exact Subscript_ (binT ha hb I h λv u s2 x y H2 I2 rx ry q=>hr a b pins s2 σ H2 x y v u Q I2 rx ry q (hs _ _))
def rIxL (K:PySem.W.Frag):R2:=λx y H Q=>∃ p xs i v,x=.ref p/\y=.int i/\SqL K H p xs/\atI xs i=some v/\Q v H
def rIxT (K:PySem.W.Frag):R2:=λx y H Q=>∃ p xs i v,x=.ref p/\y=.int i/\SqT K H p xs/\atI xs i=some v/\Q v H
def rIxS:R2:=λx y H Q=>∃ z i c,x=.str z/\y=.int i/\z.length<=sizeLine/\atI z.cps.toList i=some c/\Q (.str ⟨#[c]⟩) H
theorem ix_list:IxR X (rIxL X.K):=by
 intro value slice pins s σ H x y v u Q I rx ry h hs
 obtain⟨p,xs,i,z,rfl,rfl,hq,he,q⟩:=h
 cases rx
 obtain⟨t,rfl⟩:=ry
 obtain⟨its,r,pl,hz⟩:=I.list hq
 obtain⟨j,h1,h2,h3,h4,h5⟩:=atI_get he
 obtain⟨w,ew,rw'⟩:=r.get h2
 have hl:=r.length
 have hn:=line63
 have fin:EP X pins σ Q w s:=⟨z,H,I,rw',q⟩
 by_cases h0:0<=i
 ·have hj:i.toNat=j:=by
   rw[seqIndex_of h0 h5]at h1
   exact Option.some.inj h1
  exact item_listR pl.isList h0 (by omega) (by rw[hj];simpa using ew) fin hs
 ·have hj:(i+(its.toArray.size:Int)).toNat=j:=by
   rw[seqIndex_neg (by omega) h4]at h1
   rw[List.size_toArray,<-hl]
   exact Option.some.inj h1
  exact subscriptTail_builtinR (x:=w) pl.isList.typeIs slot_list_getitem.lookup
   (wpAny_getItem_list_neg (Q:=λr s'=>r=w/\EP X pins σ Q r s') pl.isList (by omega) (by rw[List.size_toArray]<;>omega) (by omega) (by rw[hj];simpa using ew) ⟨rfl,fin⟩) hs
theorem ix_tup:IxR X (rIxT X.K):=by
 intro value slice pins s σ H x y v u Q I rx ry h hs
 obtain⟨p,xs,i,z,rfl,rfl,hq,he,q⟩:=h
 cases rx
 obtain⟨t,rfl⟩:=ry
 obtain⟨its,r,pl,hz⟩:=I.tuple hq
 obtain⟨j,h1,h2,h3,h4,h5⟩:=atI_get he
 obtain⟨w,ew,rw'⟩:=r.get h2
 have hl:=r.length
 have hn:=line63
 have fin:EP X pins σ Q w s:=⟨z,H,I,rw',q⟩
 exact subscriptTail_builtinR (x:=w) pl.typeIs slot_tuple_getitem.lookup
  (getItem_tuple (j:=j) (Q:=λr s'=>r=w/\EP X pins σ Q r s') pl (by omega) (by omega) (by rw[List.size_toArray,<-hl];exact h1) (by simpa using ew) ⟨rfl,fin⟩) hs
theorem ix_str:IxR X rIxS:=by
 intro value slice pins s σ H x y v u Q I rx ry h hs
 obtain⟨z,i,c,rfl,rfl,hz,he,q⟩:=h
 obtain⟨t,rfl⟩:=rx
 obtain⟨t',rfl⟩:=ry
 obtain⟨j,h1,h2,h3,h4,h5⟩:=atI_get he
 have hl:z.cps.toList.length=z.length:=by simp[Str.length]
 rw[hl]at h1 h4 h5
 have hn:=line63
 exact tail_any (typeIs_str s z t) slot_str_getitem.lookup (getItem_str (c:=c) (by
  have e1:decide (i < -(2 ^ 63:Int))=false:=decide_eq_false (by omega)
  have e2:decide (i ≥ 2 ^ 63)=false:=decide_eq_false (by omega)
  rw[e1,e2,Bool.or_false]) (by rw[h1];simpa using h2) ⟨.str ⟨#[c]⟩,H,I.tok _,⟨_,rfl⟩,q⟩) hs
def rIx (K:PySem.W.Frag):R2:=λx y H Q=>rIxL K x y H Q\/rIxT K x y H Q\/rIxS x y H Q
theorem ix_seq:IxR X (rIx X.K):=ix_list.or (ix_tup.or ix_str)
theorem mapSeq_set (its:List Value) (n j:Nat) (u:Value):Obj.mapSeq (·.setIfInBounds j u) { cls:=.type "list",data:=.seq its.toArray n }={ cls:=.type "list",data:=.seq (its.set j u).toArray n }:=by
 simp[Obj.mapSeq]
theorem Inv.lst {pins:List (Addr×Obj)}{σ:St}{H:Hp}{s:Shared}{p:Addr}{xs:List V}(I:Inv X pins σ H s)(h:H p=some (.lst xs)) :
  ∃ (its:List Value) (n:Nat),Vals xs its/\s.heap.get? p=some { cls:=.type "list",data:=.seq its.toArray n }/\xs.length<=sizeLine:=by
 obtain⟨z,its,n,r,e⟩:=I.hok p _ h
 exact⟨its,n,r,e,z⟩
theorem Inv.lstUpd {pins:List (Addr×Obj)}{σ:St}{H:Hp}{s:Shared}{p:Addr}{xs ys:List V}{its its':List Value}{n n':Nat}{f:Obj->Obj}(I:Inv X pins σ H s)(h:H p=some (.lst xs))
  (ho:s.heap.get? p=some { cls:=.type "list",data:=.seq its.toArray n })(hf:f { cls:=.type "list",data:=.seq its.toArray n }={ cls:=.type "list",data:=.seq its'.toArray n' })(r:Vals ys its')(hz:ys.length<=sizeLine) (t:Nat) :
  Inv X pins σ (upd H p (.lst ys)) { s with heap:=s.heap.update p f,toks:=t }:=by
 have e:(s.heap.update p f).get? p=some { cls:=.type "list",data:=.seq its'.toArray n' }:=by
  rw[Heap.get?_update_self f ho (by rw[hf]<;>rfl),hf]
 refine I.write (x:=p) (e:=p) (by rw[h];trivial) (.inl rfl) (λb u hb q=>(Heap.get?_update_other _ _ (Ne.symm hb)).trans q) ⟨_,e⟩ ?_
 exact⟨hz,its',n',r,e⟩
def rSetL:V->V->V->Hp->(Hp->Prop)->Prop:=λo i v H Q=>∃ p xs k j,o=.ref p/\i=.int k/\H p=some (.lst xs)/\ixN xs.length k=some j/\Q (upd H p (.lst (xs.set j v)))
theorem set_list:PSet X rSetL:=by
 intro pins s σ H o i v ov iv u Q I ro ri rv h
 obtain⟨p,xs,k,j,rfl,rfl,hp,hj,q⟩:=h
 cases ro
 obtain⟨t,rfl⟩:=ri
 obtain⟨its,n,r,ho,hz⟩:=I.lst hp
 obtain⟨h1,h2,h3,h4⟩:=ixN_seq hj
 have hl:=r.length
 have hn:=line63
 have I':Inv X pins σ (upd H p (.lst (xs.set j v))) { s with heap:=s.heap.update p (Obj.mapSeq (·.setIfInBounds j u)) }:=
  I.lstUpd hp ho (mapSeq_set its n j u) (r.set rv j) (by rw[List.length_set];exact hz) s.toks
 by_cases h0:0<=k
 ·have hk:k.toNat=j:=by
   rw[seqIndex_of h0 h4]at h1
   exact Option.some.inj h1
  exact PySem.W.ki_setAt ho h0 (by omega) (by rw[List.size_toArray,<-hl];exact h4) (by rw[hk];exact⟨_,I',q⟩)
 ·have hk:(k+(its.toArray.size:Int)).toNat=j:=by
   rw[seqIndex_neg (by omega) h3]at h1
   rw[List.size_toArray,<-hl]
   exact Option.some.inj h1
  exact PySem.W.ki_setBack ho (by omega) (by rw[List.size_toArray,<-hl];exact h3) (by omega) (by rw[hk];exact⟨_,I',q⟩)
theorem slice_bounds (lo hi:Option Int) (n:Nat):(sliceBounds lo hi none n).1=((HT.sIx n 0 lo:Nat):Int)/\(sliceBounds lo hi none n).2.1=((HT.sIx n n hi:Nat):Int)/\(sliceBounds lo hi none n).2.2=1:=by
 refine⟨?_,?_,rfl⟩
 ·cases lo with
  |none=>simp[sliceBounds,HT.sIx]
  |some i=>
   simp only[sliceBounds,HT.sIx,Option.getD_none,show (1:Int) > 0 by decide,if_true]
   by_cases h:i<0
   ·simp only[h,if_true]<;>omega
   ·simp only[h,if_false]<;>omega
 ·cases hi with
  |none=>simp[sliceBounds,HT.sIx]
  |some i=>
   simp only[sliceBounds,HT.sIx,Option.getD_none,show (1:Int) > 0 by decide,if_true]
   by_cases h:i<0
   ·simp only[h,if_true]<;>omega
   ·simp only[h,if_false]<;>omega
theorem slicePick_cut (its:List Value)(lo hi:Option Int):slicePick its.toArray lo hi none=((its.drop (HT.sIx its.length 0 lo)).take (HT.sIx its.length its.length hi - HT.sIx its.length 0 lo)).toArray:=by
 obtain⟨h1,h2,h3⟩:=slice_bounds lo hi its.toArray.size
 unfold slicePick
 rw[h1,h2,h3]
 simp only[sliceRange_one,pick_run,List.size_toArray]<;>rfl
def rSlL (K:PySem.W.Frag):V->Option Int->Option Int->Hp->VK->Prop:=λx lo hi H Q=>∃ a xs,x=.ref a/\SqL K H a xs/\∀ p,H p=none->Q (.ref p) (upd H p (.lst (cutV xs lo hi)))
theorem sl_list:SlR X (rSlL X.K):=by
 intro pins s σ H x v vl vu lo hi sl Q I rx hs pl pu h
 obtain⟨a,xs,rfl,hx,q⟩:=h
 cases rx
 obtain⟨its,r,ht,hz⟩:=I.list hx
 have hlen:=r.length
 refine⟨"list",_,slot_list_getitem.lookup,ht.isList.typeIs,?_⟩
 refine wpAny_getItem_list_slice ht.isList hs pl pu .none (by simp) ?_ (by rw[List.size_toArray]<;>omega)
 rw[slicePick_cut,<-hlen]
 refine⟨.ref s.heap.objs.size,_,I.laid (t':=s.toks) (o:=.lst (cutV xs lo hi)) (λb ob q=>Heap.get?_push_of_some _ q) (Nat.le_refl _) ?_,rfl,q _ (I.hok.fresh (Nat.le_refl _))⟩
 exact⟨Nat.le_trans (cutV_length xs lo hi) hz,_,0,(r.drop (HT.sIx xs.length 0 lo)).take (HT.sIx xs.length xs.length hi - HT.sIx xs.length 0 lo),Heap.get?_push_size _ rfl⟩
theorem call_len_seq:CallR X (.builtin "len") (λxs H Q=>∃ p ys,xs=[.ref p]/\(SqL X.K H p ys\/SqT X.K H p ys)/\Q (.int ys.length) H):=by
 intro pins s σ H xs us Q I r h
 obtain⟨p,ys,rfl,hq,q⟩:=h
 obtain⟨u,rfl,rx⟩:=vals1 r
 cases rx
 have hn:=line63
 rcases hq with hq | hq
 ·obtain⟨its,r',pl,hz⟩:=I.list hq
  have hlen:=r'.length
  exact Calls.call_len_list pl.isList (by simp only[List.size_toArray]<;>omega) ⟨.int ys.length,H,I.tok _,⟨s.toks+1,by rw[List.size_toArray,hlen]⟩,q⟩
 ·obtain⟨its,r',pl,hz⟩:=I.tuple hq
  have hlen:=r'.length
  exact len_tuple pl (by simp only[List.size_toArray]<;>omega) ⟨.int ys.length,H,I.tok _,⟨s.toks+1,by rw[List.size_toArray,hlen]⟩,q⟩
theorem call_list_of:CallR X (.type "list") (λxs H Q=>∃ p ys,xs=[.ref p]/\(SqL X.K H p ys\/SqT X.K H p ys)/\∀ l,H l=none->Q (.ref l) (upd H l (.lst ys))):=by
 intro pins s σ H xs us Q I r h
 obtain⟨p,ys,rfl,hq,q⟩:=h
 obtain⟨u,rfl,rx⟩:=vals1 r
 cases rx
 have fin:∀ (its:List Value),Vals ys its->ys.length<=sizeLine->∀ (h':Heap) (c':Nat),(∀ b o',s.heap.get? b=some o'->h'.get? b=some o') ->
   h'.get? s.heap.objs.size=some { cls:=.type "list",dict:=none,data:=.seq its.toArray c',slots:=#[] }->EP X pins σ Q (.ref s.heap.objs.size) { s with heap:=h' }:=λits r' hz h' c' kp e=>
  ⟨.ref s.heap.objs.size,_,I.laid (t':=s.toks) kp (Nat.le_refl _) (show ObjOk X.prog X.w _ h' _ (.lst ys) from ⟨hz,its,c',r',e⟩),rfl,q _ (I.hok.fresh (Nat.le_refl _))⟩
 rcases hq with hq | hq
 ·obtain⟨its,r',pl,hz⟩:=I.list hq
  have hlen:=r'.length
  obtain⟨o,ho,hc,n,hd⟩:=pl.isList
  exact call_list_seq p (.inl rfl) ho hc hd (λh' c' kp e=>fin its r' hz h' c' kp e) (by simp only[List.size_toArray]<;>omega)
 ·obtain⟨its,r',pl,hz⟩:=I.tuple hq
  have hlen:=r'.length
  obtain⟨o,ho,hc,n,hd⟩:=pl
  exact call_list_seq p (.inr rfl) ho hc hd (λh' c' kp e=>fin its r' hz h' c' kp e) (by simp only[List.size_toArray]<;>omega)
theorem call_tuple_of:CallR X (.type "tuple") (λxs H Q=>∃ p ys,xs=[.ref p]/\((SqL X.K H p ys/\∀ l,H l=none->Q (.ref l) (upd H l (.tup ys)))\/(SqT X.K H p ys/\Q (.ref p) H))):=by
 intro pins s σ H xs us Q I r h
 obtain⟨p,ys,rfl,h⟩:=h
 obtain⟨u,rfl,rx⟩:=vals1 r
 cases rx
 rcases h with ⟨hq,q⟩ | ⟨hq,q⟩
 ·obtain⟨its,r',pl,hz⟩:=I.list hq
  have hlen:=r'.length
  refine call_tuple_list pl.isList (λh' kp=>?_) (by simp only[List.size_toArray]<;>omega)
  have I1:Inv X pins σ H { s with heap:=h' }:=I.kept (t':=s.toks) kp
  have I2:Inv X pins σ (upd H h'.objs.size (.tup ys)) { s with heap:=h'.push { cls:=.type "tuple",data:=.seq its.toArray } }:=
   I1.laid (t':=s.toks) (λb o e=>Heap.get?_push_of_some _ e) (Nat.le_refl _) (show ObjOk X.prog X.w _ _ _ (.tup ys) from ⟨hz,its,r',IsTupD.new _ _⟩)
  exact⟨.ref h'.objs.size,_,I2,rfl,q _ (I1.hok.fresh (Nat.le_refl _))⟩
 ·obtain⟨its,r',pl,hz⟩:=I.tuple hq
  exact call_tuple_same pl ⟨.ref p,H,I,rfl,q⟩
def tyV (K:PySem.W.Frag) (T:String)(x:V)(H:Hp):Prop:=match x with
 |.str _=>T = "str"
 |.int _=>T = "int"
 |.ref p=>(T = "list"/\∃ xs,SqL K H p xs)\/(T = "tuple"/\∃ o,K.lookup p=some o/\o.cls=.type "tuple"/\o.dict=none) ∨
   (T = "dict"/\((∃ kvs,H p=some (.dK kvs))\/∃ kvs,H p=some (.dT kvs)))\/(T = "set"/\∃ S n,H p=some (.set S n))
 |_=>False
theorem tyV_is {pins:List (Addr×Obj)}{σ:St}{H:Hp}{s:Shared}{T:String}{x:V}{v:Value}(I:Inv X pins σ H s)(r:RelV x v)(ty:tyV X.K T x H) :
  s.TypeIs v T/\∀ a,v=.ref a->∃ ob,s.heap.get? a=some ob/\ob.dict=none:=by
 cases x with
 |str z=>
  obtain⟨t,rfl⟩:=r
  cases (show T = "str" from ty)
  exact⟨typeIs_str s z t,λ_ e=>nomatch e⟩
 |int i=>
  obtain⟨t,rfl⟩:=r
  cases (show T = "int" from ty)
  exact⟨typeIs_int s i t,λ_ e=>nomatch e⟩
 |ref p=>
  cases r
  rcases ty with ⟨rfl,xs,hq⟩ | ⟨rfl,o,hk,hc,hd⟩ | ⟨rfl,hk⟩ | ⟨rfl,S,n,hk⟩
  ·obtain⟨its,_,pl,_⟩:=I.list hq
   refine⟨pl.isList.typeIs,λa e=>?_⟩
   cases e
   obtain⟨o,n,e,c,hd,_⟩:=pl
   exact⟨o,e,hd⟩
  ·refine⟨⟨o,I.kIn p o hk,hc⟩,λa e=>?_⟩
   cases e
   exact⟨o,I.kIn _ o hk,hd⟩
  ·have z:∃ o,s.heap.get? p=some o/\o.ExactDict:=by
    rcases hk with ⟨kvs,hk⟩ | ⟨kvs,hk⟩
    ·obtain⟨_,_,_,_,o,_,_,e,ex,_⟩:=I.hok p _ hk
     exact⟨o,e,ex⟩
    ·obtain⟨_,_,_,_,o,_,_,e,ex,_⟩:=I.hok p _ hk
     exact⟨o,e,ex⟩
   obtain⟨o,e,ex⟩:=z
   refine⟨⟨o,e,ex.1⟩,λa e2=>?_⟩
   cases e2
   exact⟨o,e,ex.2.1⟩
  ·obtain⟨o,_,_,_,e,ex,_⟩:=I.hok p _ hk
   refine⟨⟨o,e,ex.1⟩,λa e2=>?_⟩
   cases e2
   exact⟨o,e,ex.2.1⟩
 |_=>exact False.elim ty
def tBM (K:PySem.W.Frag) (T:String)(r:V->List V->Hp->VK->Prop)(to:TE)(t:TA):TE:=λσ H Q=>to σ H λx H1=>tyV K T x H1/\t σ H1 λxs H2=>r x xs H2 Q
variable {o e:Expr}{es:List Expr}{to:TE}{t:TA}{name:Str}{apos cpos:Pos}{T id:String}{r:V->List V->Hp->VK->Prop}
theorem pe_bm (pa:PlainAttrs T)(slot:Slot T name id)(hty:typeOf (.builtin id)=pure (.type "method_descriptor"))(hm:MtR X id r)(ho:PE X o to)(ha:PA X (e::es) t)
  (hbase:autoParam (attributeBase o name X.env (eval o X.env)=eval o X.env) aR._auto_1)
  (hfew:((backTo cpos (starEach (e::es) X.env)).all (λx=>!x.1) && (backToKw cpos (keywordEach [] X.env)).all (λx=>x.1.isSome)
   && decide ((e::es).length+([]:List Keyword).length+(if ([]:List Keyword).isEmpty then 0 else 1)<30))=true:=by rfl)
  (hline:autoParam ((apos.endLine == cpos.line)=true) aR._auto_1)(hs:autoParam (starEach (e::es) X.env=(false,eval e X.env)::starEach es X.env) aR._auto_1)(hplain:autoParam ((backTo cpos (starEach es X.env)).any (·.1)=false) aR._auto_1) :
  PE X (.Call (.Attribute o name apos) (e::es) [] cpos) (tBM X.K T r to t):=by
 intro pins s σ H Q I h
 refine wpAny_Call_method_late hbase hfew hline rfl (thn (ho pins s σ H _ I h) λv s1 ⟨x,H1,I1,r1,ty,q1⟩=>?_)
 obtain⟨h1,h2⟩:=tyV_is I1 r1 ty
 refine⟨T,id,pa,slot,hty,h1,h2,?_⟩
 have hA:=ha cpos pins s1 σ H1 _ I1 q1
 rw[hs]at hA ⊢
 refine Calls.callWith_builtin (by show (false || (backTo cpos (starEach es X.env)).any (·.1))=false;rw[hplain]<;>rfl) (Calls.evalArgs_plain ?_)
 exact thn hA λus s2 ⟨vs,H2,I2,r2,q2⟩=>hm pins s2 σ H2 x vs v us Q I2 r1 r2 q2
end
end L2
namespace L2
open PySem PySem.Spec PyProof.Rows
def MtM (X:Cx) (id:String)(r:V->List V->Hp->VK->Prop):Prop:=
 ∀ (pins:List (Addr×Obj))(s:Shared)(σ:St)(H:Hp)(x:V)(xs:List V) (v:Value)(us:List Value)(Q:VK),Inv X pins σ H s->RelV x v->Vals xs us->r x xs H Q ->
  wpAny (model X.prog X.w) X.A (call (.builtin id) (v::us)) (EP X pins σ Q) X.xe s
theorem Vals.one:∀ {x:V}{us:List Value},Vals [x] us->∃ u,us=[u]/\RelV x u
 |_,_,.cons r .nil=>⟨_,rfl,r⟩
theorem Vals.eraseIdx:∀ {xs:List V}{us:List Value} (i:Nat),Vals xs us->Vals (xs.eraseIdx i) (us.eraseIdx i)
 |_,_,_,.nil=>.nil
 |_,_,0,.cons _ t=>t
 |_,_,i+1,.cons r t=>.cons r (Vals.eraseIdx i t)
theorem Vals.rep {xs:List V}{us:List Value}(h:Vals xs us):∀ k:Nat,Vals (List.replicate k xs).flatten (List.replicate k us).flatten
 |0=>.nil
 |k+1=>by
  rw[List.replicate_succ,List.replicate_succ,List.flatten_cons,List.flatten_cons]
  exact Vals.append h (Vals.rep h k)
theorem len_erase {α:Type}:∀ (l:List α) (i:Nat),(l.eraseIdx i).length<=l.length
 |[],_=>Nat.le_refl _
 |_::_,0=>Nat.le_succ _
 |_::r,i+1=>Nat.succ_le_succ (len_erase r i)
section
variable {X:Cx}{pins:List (Addr×Obj)}{σ:St}{H:Hp}{s:Shared}{l b:Addr}{xs ys zs:List V}
theorem Inv.lset {its its':List Value}{n:Nat}{f:Array Value->Array Value}{t':Nat}(I:Inv X pins σ H s)(hH:H l=some (.lst xs))
  (e:s.heap.get? l=some { cls:=.type "list",data:=.seq its.toArray n })(hf:f its.toArray=its'.toArray)(hv:Vals ys its')(hz:ys.length<=sizeLine) :
  Inv X pins σ (upd H l (.lst ys)) { s with heap:=s.heap.update l (Obj.mapSeq f),toks:=t' }:=by
 have q:=PySem.IsL.update e f
 rw[hf]at q
 refine I.write (x:=l) (e:=l) (by rw[hH];exact trivial) (.inl rfl) (λb' u hb hu=>(Heap.get?_update_other s.heap (Obj.mapSeq f) (Ne.symm hb)).trans hu) ⟨_,q⟩ ?_
 exact⟨hz,its',_,hv,q⟩
theorem Inv.lnew {its:List Value}{t':Nat}(I:Inv X pins σ H s)(hv:Vals ys its)(hz:ys.length<=sizeLine) :
  Inv X pins σ (upd H s.heap.objs.size (.lst ys)) { s with heap:=s.heap.push { cls:=.type "list",data:=.seq its.toArray },toks:=t' }:=
 I.laid (λ_ _ q=>Heap.get?_push_of_some _ q) (Nat.le_refl _) ⟨hz,its,0,hv,Heap.get?_push_size _ rfl⟩
theorem Inv.fresh (I:Inv X pins σ H s):H s.heap.objs.size=none:=I.hok.fresh (Nat.le_refl _)
theorem Inv.lstM (I:Inv X pins σ H s)(hH:H l=some (.lst xs)):xs.length<=sizeLine/\∃ (its:List Value) (n:Nat),Vals xs its/\xs.length=its.length/\s.heap.get? l=some { cls:=.type "list",data:=.seq its.toArray n }:=by
 obtain⟨z,its,n,r,e⟩:=I.hok l _ hH
 exact⟨z,its,n,r,r.length,e⟩
theorem notLongL {n:Nat}(h:n<=sizeLine):Builtin.List.listTooLong n=false:=by
 unfold Builtin.List.listTooLong
 exact decide_eq_false (by omega)
end
section
variable {X:Cx}
def rAppend:V->List V->Hp->VK->Prop:=λx vs H Q=>∃ l xs y,x=.ref l/\vs=[y]/\H l=some (.lst xs)/\xs.length<sizeLine/\Q .non (upd H l (.lst (xs++[y])))
theorem mt_append:MtM X "list.append" rAppend:=by
 intro pins s σ H x vs v us Q I rx rv h
 obtain⟨l,xs,y,rfl,rfl,hH,hz,q⟩:=h
 cases rx
 obtain⟨u,rfl,ru⟩:=rv.one
 obtain⟨z,its,n,r,hl,e⟩:=I.lstM hH
 refine call_meets F.slot_list_append ⟨_,e,rfl⟩ F.entry_list_append (F.args_list_append_2 _ _) (PySem.list_append l its.toArray n u (by rw[List.size_toArray];omega)) ⟨e,?_⟩
 refine⟨.non,_,I.lset (its':=its++[u]) hH e (by simp) (r.append (.cons ru .nil)) ?_,rfl,q⟩
 rw[List.length_append,List.length_singleton]
 omega
def rPopAt:V->List V->Hp->VK->Prop:=λx vs H Q=>∃ l xs i k y,x=.ref l/\vs=[.int i]/\H l=some (.lst xs)/\-(2 ^ 63)<=i/\i<2 ^ 63/\seqIndex? i xs.length=some k/\xs[k]? = some y/\Q y (upd H l (.lst (xs.eraseIdx k)))
theorem mt_popAt:MtM X "list.pop" rPopAt:=by
 intro pins s σ H x vs v us Q I rx rv h
 obtain⟨l,xs,i,k,y,rfl,rfl,hH,h1,h2,hk,hy,q⟩:=h
 cases rx
 obtain⟨u,rfl,ru⟩:=rv.one
 obtain⟨t,rfl⟩:=ru
 obtain⟨z,its,n,r,hl,e⟩:=I.lstM hH
 obtain⟨w,hw,rw'⟩:=r.get hy
 refine call_meets F.slot_list_pop ⟨_,e,rfl⟩ F.entry_list_pop (F.args_list_pop_2 _ _)
  (MeetsSeq.list_pop_at l its.toArray n i t k w (fitsIndex_both h1 h2) (by rw[List.size_toArray,<-hl];exact hk) (by rw[<-Array.getElem?_toList];exact hw) (by rw[List.size_toArray];omega)) ⟨e,?_⟩
 refine⟨y,_,I.lset (its':=its.eraseIdx k) hH e ?_ (r.eraseIdx k) ?_,rw',q⟩
 ·show its.toArray.eraseIdxIfInBounds k=(its.eraseIdx k).toArray
  rw[List.eraseIdxIfInBounds_toArray]
 ·have:=len_erase xs k
  omega
theorem len_rep {α:Type}(xs:List α) (k:Nat):(List.replicate k xs).flatten.length=k * xs.length:=by
 induction k with
 |zero=>simp
 |succ k ih=>rw[List.replicate_succ,List.flatten_cons,List.length_append,ih,Nat.succ_mul,Nat.add_comm]
end
section
variable {prog:Program}{w:World}{A:Around}{E:Value->Shared->Prop}{s:Shared}
end
section
variable {X:Cx}
end
end L2
namespace L2
open PySem PySem.Spec PyProof.Rows
section
variable {κ:Type} [DecidableEq κ]
theorem RelO.isSome_eq {o:Option V}{u:Option Value}(r:RelO o u):o.isSome=u.isSome:=by
 cases o with
 |none=>cases u with
  |none=>rfl
  |some _=>exact (show False from r).elim
 |some _=>cases u with
  |none=>exact (show False from r).elim
  |some _=>rfl
end
section
variable {P:Program}{w:World}{H:Hp}{h:Heap}{a:Addr}
end
section
variable {X:Cx}{pins:List (Addr×Obj)}{σ:St}{H:Hp}{s:Shared}{a:Addr}{y v:V}{u r:Value}{o:Option V}{A:Around}{E:Value->Shared->Prop}
theorem Inv.big (I:Inv X pins σ H s):sysModules<s.heap.objs.size:=by
 have h:mainGlobals<s.heap.objs.size:=(I.mod.glob.keeps I.bk).lt
 exact Nat.lt_trans (by decide) h
theorem d_write {h':Heap}{t':Nat}{ob:HO}(I:Inv X pins σ H s)(mu:Mut (H a))(hs:Heap.SameBut a s.heap h')(he:∃ q,h'.get? a=some q)(new:ObjOk X.prog X.w (upd H a ob) h' a ob) :
  Inv X pins σ (upd H a ob) { s with heap:=h',toks:=t' }:=
 I.write (x:=a) (e:=a) mu (.inl rfl) (λb q hb z=>(hs.2 b hb).trans z) he new
end
section
variable {X:Cx}{pins:List (Addr×Obj)}{σ:St}{H:Hp}{s:Shared}{a:Addr}{kvs:List (Key×V)}{k:Key}{u:Value}{A:Around}{E:Value->Shared->Prop}
end
def NoSl (i:Expr):Prop:=∀ ov iv,subscripted i false ov iv=operate [ov,iv] (getItem ov iv)
theorem subD_of {prog:Program}{w:World}{A:Around}{E:Value->Shared->Prop}{s:Shared}{env:Env}{value slice:Expr}{pos:Pos}{T id:String}{Q:Value->Shared->Prop}
  (hl:typeLookup (.type T) "__getitem__" = pure (some (.builtin id)))(hs:NoSl slice)
  (h:wpAny (model prog w) A (eval value env) (λo s₁=>wpAny (model prog w) A (eval slice env) (λi s₂=>s₂.TypeIs o T/\wpAny (model prog w) A (getItem o i) Q E s₂) E s₁) E s) :
  wpAny (model prog w) A (eval (.Subscript value slice pos) env) Q E s:=by
 refine Subscript_ (wpAny_mono h (λo s₁ h₁=>wpAny_mono h₁ (λi s₂ h₂=>?_) λ_ _ x=>x) λ_ _ x=>x)
 obtain⟨hT,h₂⟩:=h₂
 unfold subscriptTail
 refine wpAny_bind ?_
 rw[getitemInPython_of_ne hT.not_modules]
 refine wpAny_bind (wpAny_specialOf hT hl ?_)
 have fin:wpAny (model prog w) A (subscripted slice false o i) (λr s₃=>wpAny (model prog w) A (letTemporaryGo value o r >>= λ_=>pure r) Q E s₃) E s₂:=by
  rw[hs o i]
  exact wpAny_operating (wpAny_mono h₂ (λr s₃ h₃=>wpAny_bind (wpAny_letTemporaryGo (wpAny_pure h₃))) λ_ _ x=>x)
 first
  |exact wpAny_pure (wpAny_bind fin)
  |exact wpAny_bind (wpAny_pure (wpAny_bind fin))
  |exact wpAny_bind fin
section
variable {X:Cx}{o i e value:Expr}{pos pos' tpos:Pos}{td ty tv:TE}
end
section
variable {X:Cx}{pos:Pos}
end
structure M1 (X:Cx)(o:Expr) (m:Str)(apos:Pos)(e:Expr)(cpos:Pos):Prop where
 base:attributeBase o m X.env (eval o X.env)=eval o X.env
 few:((backTo cpos (starEach [e] X.env)).all (λx=>!x.1) && (backToKw cpos (keywordEach [] X.env)).all (λx=>x.1.isSome)
  && decide (([e]:List Expr).length+([]:List Keyword).length+(if ([]:List Keyword).isEmpty then 0 else 1)<30))=true
 line:(apos.endLine == cpos.line)=true
 trees:backTo cpos (starEach [e] X.env)=[(false,eval e X.env)]
structure M2 (X:Cx)(o:Expr) (m:Str)(apos:Pos)(e f:Expr)(cpos:Pos):Prop where
 base:attributeBase o m X.env (eval o X.env)=eval o X.env
 few:((backTo cpos (starEach [e,f] X.env)).all (λx=>!x.1) && (backToKw cpos (keywordEach [] X.env)).all (λx=>x.1.isSome)
  && decide (([e,f]:List Expr).length+([]:List Keyword).length+(if ([]:List Keyword).isEmpty then 0 else 1)<30))=true
 line:(apos.endLine == cpos.line)=true
 trees:backTo cpos (starEach [e,f] X.env)=[(false,eval e X.env),(false,eval f X.env)]
section
variable {X:Cx}{pins:List (Addr×Obj)}{σ:St}{H:Hp}{s:Shared}{a:Addr}{y d:V}{u r:Value}{o:Option V}{A:Around}{E:Value->Shared->Prop}
end
section
variable {X:Cx}{o e f:Expr}{apos cpos:Pos}{td ty tx:TE}
end
section
variable {X:Cx}{pins:List (Addr×Obj)}{σ:St}{H:Hp}{s:Shared}{a:Addr}{kvs:List (Key×V)}{A:Around}{E:Value->Shared->Prop}
end
section
variable {X:Cx}{pins:List (Addr×Obj)}{σ:St}{H:Hp}{s:Shared}{a:Addr}{y:V}{u:Value}{A:Around}{E:Value->Shared->Prop}
end
end L2
namespace Att
open PySem PySem.W PySem.Calls PyProof.Rows
theorem ints_of_wellAll {P:Params}{h:Heap}:∀ (ns:List Int)(vs:List Value),WellAll P h vs (ns.map WData.int)->IntsAre vs ns:=by
 intro ns
 induction ns with
 |nil=>
  intro vs w
  rw[List.map_nil]at w
  cases w
  exact .nil
 |cons n ns ih=>
  intro vs w
  rw[List.map_cons]at w
  cases w with
  |cons a b=>
   cases a
   exact .cons _ _ (ih _ b)
theorem script_of {l:OpenLaw}{n:Nat}(hn:l.most=some n){P:Params}{h:Heap}{args:List WData}{vals:List Value}
  (hpre:l.row.toRowW.claim.pre args=true)(hwl:WellAll P h vals args) :
  ∃ a vs ns,vals=[Value.ref a]/\args=[WData.list (ns.map WData.int)]/\h.get? a=some { cls:=.type "list",data:=.seq vs.toArray }/\IntsAre vs ns/\ns.length<=n:=by
 have hsh:WShape.hasAll [] args [.list .int]=true:=(pre_splitW hpre).1
 have hc:l.pre.holds [] { args:=args }=true:=(pre_splitW hpre).2
 obtain⟨d,r,rfl,h1,h2⟩:=hasAllW_cons hsh
 obtain rfl:=hasAllW_nil h2
 obtain⟨xs,rfl,h3⟩:=hasW_list h1
 obtain⟨ns,rfl⟩:=items_int h3
 have hlen:ns.length<=n:=by
  unfold OpenLaw.pre at hc
  have h4:(WTm.not (.lt (.lit (.int (n:Int))) (.len (.arg 0)))).holds [] { args:=[.list (ns.map .int)] }=true:=by
   have h4:=(holds_andW hc).1
   rw[hn]at h4
   exact h4
  have h5:=condW_of h4 (w_not (w_lt w_lit (w_len_list (w_arg rfl))))
  rw[List.length_map]at h5
  refine Nat.le_of_not_lt λq=>?_
  have q':(n:Int)<((ns.length:Nat):Int):=by omega
  first
   |(rw[decide_eq_true q']at h5;exact absurd h5 (by decide))
   |(simp at h5;omega)
 cases hwl with
 |cons w1 w2=>
  cases w2
  cases w1 with
  |list ho hall=>exact⟨_,_,ns,rfl,rfl,ho,ints_of_wellAll ns _ hall,hlen⟩
theorem post_true (l:OpenLaw)(args:List WData):l.row.toRowW.claim.post args (.bool true) args=true:=
 postW_of (r:=l.row.toRowW) (X:=(true == true))
  (show WShape.has [] (.bool true) .bool=true by first | rfl | decide | simp[WShape.has,WShape.arms,WShape.armsAll])
  (show (WTm.eq .res (.lit (.bool true))).value [] { args:=args,res:=some (.bool true),after:=args }=some (.bool (true == true)) from w_eq_bool (w_res rfl) w_lit) rfl
theorem attach_call {l:OpenLaw}{n:Nat}{q:Program}{loose:List Str}{XP:(Str->Option Value)->Heap->Prop}{YP:World->Heap->Prop}{d:DefRec}
  (hn:l.most=some n)(hdf:d.params.defaults=[])
  (call:∀ (w:World)(s₀ s₁:Shared)(mg mb:Str->Option Value)(fa:Addr)(o:Obj) (pm cd doc:Value)(a:Addr)(vs:List Value)(ns:List Int),
   Ground q loose [] XP w s₀ mg mb s₁.heap->YP w s₁.heap ->
   s₁.heap.get? fa=some o->o.data=.func (docDef d.name d.params d.body d.scope pm cd doc)->s₁.heap.CodeRec cd d.name->mg d.name=some (.ref fa) ->
   s₁.heap.get? a=some { cls:=.type "list",data:=.seq vs.toArray }->IntsAre vs ns->ns.length<=n->s₁.gens=#[] ->
   codeAny (model l.prog w) callerA (.call (.ref fa) ⟨[.ref a],[]⟩) (λr s'=>r=.ok (.ret (.bool true))/\OldK s₁.heap s'.heap/\s'.os=s₁.os/\AllBare s'.gens) s₁) :
  WalkO q loose XP YP l.row.toRowW d [] (λf vs=>PySem.call f vs):=by
 intro w s₀ s₁ mg mb G Y fa o pm cd doc dV kV ho hd hcd hD hmg hg args vals as hpre hlay hrd hwl hlo
 obtain rfl:dV=.none:=Dflts.none hD hdf
 obtain rfl:kV=.none:=Dflts.noKw hD
 obtain⟨a,vs,ns,rfl,rfl,hobj,hints,hlen⟩:=script_of hn hpre hwl
 refine enter_call (codeAny_mono (call w s₀ s₁ mg mb fa o pm cd doc a vs ns G Y ho (fd_plain hd) hcd hmg hobj hints hlen hg) λr s' hq=>?_)
 obtain⟨rfl,h2,h3,h4⟩:=hq
 exact⟨.inl ⟨.bool true,.bool true,[],rfl,λ_=>rfl,.bool true,post_true l _,λ_=>⟨List.Pairwise.nil,λ_ hm=>(nomatch hm)⟩⟩,h2,h3,h4⟩
section
variable {prog:Program}{w:World}{A:Around}{E:Value->Shared->Prop}{s:Shared}{K:Frag}
end
end Att
namespace L2
open PySem PySem.Spec PyProof.Rows
theorem YV:∀ {vs:List Value}{ns:List Int},IntsAre vs ns->Vals (ns.map V.int) vs
 |_,_,.nil=>.nil
 |_,_,.cons n t h=>.cons ⟨t,rfl⟩ (YV h)
def Only (H:Hp):Prop:=∀ b,H b=none\/∃ o xs,H b=some (.frz o (.lst xs))
theorem law_call {P:Program}{w:World}{K:PySem.W.Frag}{mg mb:Str->Option Value}{CX:CXT}{k:Nat}{fa a:Addr}{fd:FuncData}{x:Str}{sp:Sp}{s₁:Shared}{vs:List Value}{ns:List Int}
  (KX:K.In s₁.heap)(hns:s₁.heap.Ns mainGlobals mg)(hb:s₁.heap.Ns builtinsNs mb)(hbb:∀ x:Str,x ≠ "__name__"->mb x=bootBuiltins x)(hlim:s₁.heap.NoLimit)(hg:s₁.gens=#[])
  (ha:s₁.heap.get? a=some { cls:=.type "list",data:=.seq vs.toArray })(hi:IntsAre vs ns)(hl:ns.length<=sizeLine)(hr:Room k callerA)
  (F:∀ base:Heap,K.In base->base.Ns mainGlobals mg->FnOk P w K mg base CX k fa fd [x] sp)(hbind:∀ (s:Shared) (u:Value),BindsTo s fd ⟨[u],[]⟩ [(x,u)])
  (hsp:∀ H:Hp,Only H->SqL K H a (ns.map V.int)->sp [.ref a] H (λv _=>v=.bl true) λ_ _ _=>False)
  (hCX:∀ H e s',CX [] H s₁ (λ_ _ _=>False) e s'->False) :
  codeAny (model P w) callerA (.call (.ref fa) ⟨[.ref a],[]⟩) (λr s'=>r=.ok (.ret (.bool true))/\OldK s₁.heap s'.heap/\s'.os=s₁.os/\AllBare s'.gens) s₁:=by
 have rv:=YV hi
 have lenV:=hi.length
 -- from an abstract heap in which nothing but the script may be tracked
 have core:∀ H:Hp,Only H->SqL K H a (ns.map V.int)->HOk P w H s₁.heap->(∀ b,H b≠none->b=a)->(H a≠none->K.lookup a=none) ->
   codeAny (model P w) callerA (.call (.ref fa) ⟨[.ref a],[]⟩) (λr s'=>r=.ok (.ret (.bool true))/\OldK s₁.heap s'.heap/\s'.os=s₁.os/\AllBare s'.gens) s₁:=by
  intro H hO hS hok hA hK
  have base_of:∀ {b:Addr}{o:Obj},s₁.heap.get? b=some o->H b=none->(hidT s₁.heap H).get? b=some o:=λe n=>hidT_get e n
  have noA:∀ {b:Addr}{o:Obj}{es:Array DictEntry}{ep:Nat},s₁.heap.get? b=some o->o.data=.dict es ep->H b=none:=fun {b o es ep} e d=>by
   cases q:H b with
   |none=>rfl
   |some u=>
    have e':b=a:=hA b (by rw[q];simp)
    subst e'
    rw[ha]at e;cases e
    have d':Data.seq vs.toArray _=Data.dict es ep:=d
    cases d'
  have nsK:∀ {b:Addr}{m:Str->Option Value},s₁.heap.Ns b m->(hidT s₁.heap H).Ns b m:=fun {b m} ⟨o,es,ep,e,d,r⟩=>⟨o,es,ep,base_of e (noA e d),d,r⟩
  have hKb:K.In (hidT s₁.heap H):=λb o e=>base_of (KX b o e) (by
   cases q:H b with
   |none=>rfl
   |some u=>
    have e':b=a:=hA b (by rw[q];simp)
    subst e'
    rw[hK (by rw[q];simp)]at e;cases e)
  have hM:Mod K mg (hidT s₁.heap H):=⟨hKb,nsK hns,⟨mb,nsK hb,hbb⟩,let ⟨mc,h1,h2⟩:=hlim;⟨mc,nsK h1,h2⟩⟩
  have e0:Env0 P w K mg (hidT s₁.heap H) callerA [] s₁ H:=⟨rfl,hM,λb o e=>of_hidT e,Nat.le_of_eq (hidT_size _ _),trivial,λb hb=>absurd (show b ∈ ([]:List Addr) from hb) (by simp),hok,.of_eq hg⟩
  refine codeAny_mono ((F _ hKb (nsK hns)).run callerA [] s₁ H ⟨[.ref a],[]⟩ [.ref a] [.ref a] _ _ hr e0 (hbind s₁ (.ref a)) (.cons rfl .nil) (hsp H hO hS)) λr s' h=>?_
  cases r with
  |error e=>exact (hCX H e s' h).elim
  |ok fl=>
   cases fl with
   |next=>exact False.elim h
   |brk=>exact False.elim h
   |cont=>exact False.elim h
   |ret u=>
    obtain⟨v,H',os,bare,un,hok',r',q⟩:=h
    have q':v=.bl true:=q
    subst q'
    obtain rfl:u=Value.bool true:=r'
    refine⟨rfl,OldK.of_keep λb o e=>?_,os,bare⟩
    cases q:H b with
    |none=>exact un.keep b o e q (by intro z;exact absurd (show b ∈ ([]:List Addr) from z) (by simp)) (by simp)
    |some u=>
     rcases hO b with z | ⟨ob,xs,z⟩
     ·rw[q]at z;cases z
     ·have z2:=un.frzs b ob _ z
      obtain⟨e1,_⟩:=hok b _ z
      obtain⟨e2,_⟩:=hok' b _ z2
      rw[e]at e1;cases e1
      exact e2
 cases hk:K.lookup a with
 |some o=>
  -- the script is one of the module's own objects
  have e:=KX a o hk
  rw[ha]at e
  cases e
  refine core (λ_=>none) (λ_=>.inl rfl) (.inr ⟨_,vs.toArray,_,hk,rfl,rfl,rfl,by rw[List.size_toArray,lenV];exact hl,by simpa using rv⟩) (λb u z=>by have z':(none:Option HO)=some u:=z;cases z') (λb z=>absurd rfl z) λz=>absurd rfl z
 |none=>
  refine core (λb=>if b=a then some (.frz { cls:=.type "list",data:=.seq vs.toArray } (.lst (ns.map V.int))) else none) (λb=>?_) (.inl (.inr ⟨{ cls:=.type "list",data:=.seq vs.toArray },if_pos rfl⟩)) (λb u z=>?_) (λb z=>?_) λ_=>hk
  ·by_cases hb:b=a
   ·exact .inr ⟨_,_,if_pos hb⟩
   ·exact .inl (if_neg hb)
  ·by_cases hb:b=a
   ·have z':=(if_pos hb).symm.trans z
    cases z'
    subst hb
    exact⟨ha,by rw[List.length_map];exact hl,vs,_,rv,ha⟩
   ·have z':=(if_neg hb).symm.trans z
    cases z'
  ·by_cases hb:b=a
   ·exact hb
   ·exact absurd (if_neg hb) z
end L2
namespace L2
open PySem PySem.Spec PyProof.Rows
theorem walk_of {l:PySem.W.OpenLaw}{n k:Nat}{q:Program}{loose:List Str}{XP:(Str->Option Value)->Heap->Prop}{YP:World->Heap->Prop}{d:DefRec}{K:Params->PySem.W.Frag}{CX:World->CXT}{sp:World->Sp}{x:Str}
  (hn:l.most=some n)(hn2:n<=sizeLine)(hdf:d.params.defaults=[])(hr:Room k callerA)
  (hY:∀ (w:World)(h:Heap),YP w h->(K w.params).In h)
  (F:∀ (w:World)(mg:Str->Option Value)(fa:Addr)(h:Heap),(K w.params).In h->h.Ns mainGlobals mg->mg d.name=some (.ref fa) ->
   ∃ fd:FuncData,(∀ (s:Shared) (u:Value),BindsTo s fd ⟨[u],[]⟩ [(x,u)]) ∧
    ∀ base:Heap,(K w.params).In base->base.Ns mainGlobals mg->FnOk l.prog w (K w.params) mg base (CX w) k fa fd [x] (sp w))
  (hsp:∀ (w:World)(H:Hp)(a:Addr)(ns:List Int),ns.length<=n->Only H->SqL (K w.params) H a (ns.map V.int)->sp w [.ref a] H (λv _=>v=.bl true) λ_ _ _=>False)
  (hCX:∀ (w:World)(H:Hp)(s:Shared) (e:Value)(s':Shared),CX w [] H s (λ_ _ _=>False) e s'->False) :
  PySem.W.WalkO q loose XP YP l.row.toRowW d [] (λf vs=>PySem.call f vs):=by
 refine Att.attach_call hn hdf λw s₀ s₁ mg mb fa o pm cd doc a vs ns G Y ho hd hcd hmg hobj hints hlen hg=>?_
 have KX:=hY w _ Y
 obtain⟨fd,hb,hF⟩:=F w mg fa _ KX G.T.g hmg
 exact law_call KX G.T.g G.T.b G.T.builtins G.T.nolimit hg hobj hints (Nat.le_trans hlen hn2) hr hF hb (λH hO hS=>hsp w H a ns hlen hO hS) λH e s'=>hCX w H s₁ e s'
end L2
namespace L2
open PySem PySem.Spec PyProof.Rows
def defArgs (s:Stmt):Arguments:=match s with
 |.FunctionDef _ a _ _ _ _ _ _ _ _=>a
 |_=>{ posonlyargs:=[],args:=[],vararg:=none,kwonlyargs:=[],kw_defaults:=[],kwarg:=none,defaults:=[] }
def defBody (s:Stmt):List Stmt:=match s with
 |.FunctionDef _ _ b _ _ _ _ _ _ _=>b
 |_=>[]
def defScope (s:Stmt):Scope:=match s with
 |.FunctionDef _ _ _ _ _ _ sc _ _ _=>sc
 |_=>{ kind:=.function,names:=[],isGenerator:=false,isCoroutine:=false }
abbrev E0:XK:=λ_ _ _=>False
structure Fun (K:PySem.W.Frag) (x qual:Str)(st:Stmt)(f:Addr)(fd:FuncData):Prop where
 ex:∃ (oc:Value)(od:Option Addr) (kV doc pm:Value)(an:Option Addr) (cdv ct:Value)(osl:Array (Option Value)),
  fd=PySem.W.fnOf x qual (defArgs st) (defBody st) (defScope st) .none kV doc pm an cdv ct/\K.lookup f=some ⟨oc,od,.func fd,osl⟩/\PySem.W.codeIn K cdv qual=true
 kp:PySem.W.keepIn K (.ref f)=true
section
variable {P:Program}{w:World}{K:PySem.W.Frag}{mg:Str->Option Value}{base:Heap}
theorem Fun.binds {x qual:Str}{st:Stmt}{f:Addr}{fd:FuncData}{ps:List Str}(F:Fun K x qual st f fd)
  (h:∀ (kV doc pm:Value)(an:Option Addr) (cdv ct:Value)(us:List Value),us.length=ps.length->bindArgs (PySem.W.fnOf x qual (defArgs st) (defBody st) (defScope st) .none kV doc pm an cdv ct) ⟨us,[]⟩=pure (ps.zip us)):Binds K fd ps []:=by
 obtain⟨oc,od,kV,doc,pm,an,cdv,ct,osl,rfl,lk,hcd⟩:=F.ex
 exact .all (h kV doc pm an cdv ct)
theorem fun_mk {x qual:Str}{st:Stmt}{f:Addr}{oc:Value}{od an:Option Addr}{osl:Array (Option Value)}{kV doc pm cdv ct:Value}(l:K.lookup f=some ⟨oc,od,.func (PySem.W.fnOf x qual (defArgs st) (defBody st) (defScope st) .none kV doc pm an cdv ct),osl⟩)
  (c:PySem.W.codeIn K cdv qual=true)(k:PySem.W.keepIn K (.ref f)=true):Fun K x qual st f (PySem.W.fnOf x qual (defArgs st) (defBody st) (defScope st) .none kV doc pm an cdv ct):=⟨⟨oc,od,kV,doc,pm,an,cdv,ct,osl,rfl,l,c⟩,k⟩
end
section
variable {X:Cx}
end
def Same (H H':Hp):Prop:=∀ b o,H b=some o->H' b=some o
theorem Same.refl (H:Hp):Same H H:=λ_ _ h=>h
theorem Same.trans {H H1 H2:Hp}(a:Same H H1)(b:Same H1 H2):Same H H2:=λc o h=>b c o (a c o h)
theorem Same.free {H H':Hp}(e:Same H H'){l:Addr}(h:H' l=Option.none):H l=Option.none:=by
 cases q:H l with
 |none=>rfl
 |some o=>
  rw[e l o q]at h
  cases h
theorem Same.seq {K:PySem.W.Frag}{H H':Hp}{a:Addr}{xs:List V}(e:Same H H')(h:SqL K H a xs):SqL K H' a xs:=by
 rcases h with (h | ⟨o,h⟩) | h
 ·exact .inl (.inl (e _ _ h))
 ·exact .inl (.inr ⟨o,e _ _ h⟩)
 ·exact .inr h
section
variable {κ:Type} [DecidableEq κ]
end
end L2
namespace PM
open PySem PySem.Spec PyProof.Rows
mutual
noncomputable def hOk:PyData->Bool
 |.none=>true
 |.int _=>true
 |.tuple xs=>xl xs
 |.bool _=>false
 |.str _=>false
 |.list _=>false
 |.dict _=>false
noncomputable def xl:List PyData->Bool
 |[]=>true
 |x::xs=>hOk x && xl xs
end
mutual
noncomputable def hPy:PyData->Int
 |.none=>reduceHash 0xFCA86420
 |.int i=>hashInt i
 |.tuple xs=>reduceHash (Builtin.Tuple.tupleHashOf (vJ xs))
 |.bool _=>0
 |.str _=>0
 |.list _=>0
 |.dict _=>0
noncomputable def vJ:List PyData->List Int
 |[]=>[]
 |x::xs=>hPy x::vJ xs
end
mutual
noncomputable def UM:PyData->Nat
 |.none=>1
 |.int _=>1
 |.tuple xs=>yu xs+1
 |.bool _=>0
 |.str _=>0
 |.list _=>0
 |.dict _=>0
noncomputable def yu:List PyData->Nat
 |[]=>0
 |x::xs=>UM x+yu xs
end
theorem wR:∀ (a b:List PyData),vJ (a++b)=vJ a++vJ b
 |[],b=>rfl
 |x::a,b=>by show hPy x::vJ (a++b)=_;rw[wR a b];rfl
theorem x9:∀ (a b:List PyData),yu (a++b)=yu a+yu b
 |[],b=>by show yu b=0+yu b;omega
 |x::a,b=>by show UM x+yu (a++b)=UM x+yu a+yu b;rw[x9 a b];omega
mutual
theorem wl:∀ {d:PyData},hOk d=true->d.canLay0=true
 |.none,_=>rfl
 |.int _,_=>rfl
 |.tuple xs,h=>by
  show PyData.canLayAll0 xs=true
  exact uq h
 |.bool _,h=>by cases h
 |.str _,h=>by cases h
 |.list _,h=>by cases h
 |.dict _,h=>by cases h
theorem uq:∀ {ds:List PyData},xl ds=true->PyData.canLayAll0 ds=true
 |[],_=>rfl
 |x::xs,h=>by
  have h':(hOk x && xl xs)=true:=h
  rw[Bool.and_eq_true]at h'
  show (PyData.canLay0 x && PyData.canLayAll0 xs)=true
  rw[wl h'.1,uq h'.2]
  rfl
end
mutual
theorem xN:∀ {a b:PyData},hOk a=true->hOk b=true->(PyData.eqv a b=true ↔ a=b)
 |.none,b,_,k=>by cases b<;>first | (cases k;done) | simp[PyData.eqv]
 |.int i,b,_,k=>by cases b<;>first | (cases k;done) | simp[PyData.eqv]
 |.tuple xs,b,h,k=>by
  cases b with
  |tuple ys=>
   have q:=ur (a:=xs) (b:=ys) h k
   show PyData.eqvAll xs ys=true ↔ _
   rw[q]
   simp
  |none=>simp[PyData.eqv]
  |int _=>simp[PyData.eqv]
  |bool _=>cases k
  |str _=>cases k
  |list _=>cases k
  |dict _=>cases k
 |.bool _,_,h,_=>by cases h
 |.str _,_,h,_=>by cases h
 |.list _,_,h,_=>by cases h
 |.dict _,_,h,_=>by cases h
theorem ur:∀ {a b:List PyData},xl a=true->xl b=true->(PyData.eqvAll a b=true ↔ a=b)
 |[],[],_,_=>by simp[PyData.eqvAll]
 |[],_::_,_,_=>by simp[PyData.eqvAll]
 |_::_,[],_,_=>by simp[PyData.eqvAll]
 |x::xs,y::ys,h,k=>by
  have h':(hOk x && xl xs)=true:=h
  have k':(hOk y && xl ys)=true:=k
  rw[Bool.and_eq_true]at h' k'
  show (PyData.eqv x y && PyData.eqvAll xs ys)=true ↔ _
  rw[Bool.and_eq_true,xN h'.1 k'.1,ur h'.2 k'.2]
  simp
end
noncomputable def NK:Type:={ d:PyData // hOk d=true }
instance:DecidableEq NK:=λa b=>if h:PyData.eqv a.1 b.1=true then .isTrue (Subtype.ext ((xN a.2 b.2).mp h)) else .isFalse λe=>h ((xN a.2 b.2).mpr (by rw[e]))
theorem NK.eqv (a b:NK):PyData.eqv a.1 b.1=decide (a=b):=by
 by_cases e:a=b
 ·rw[decide_eq_true e];exact (xN a.2 b.2).mpr (by rw[e])
 ·rw[decide_eq_false e]
  cases q:PyData.eqv a.1 b.1 with
  |false=>rfl
  |true=>exact absurd (Subtype.ext ((xN a.2 b.2).mp q)) e
section
variable {prog:Program}{w:World}
theorem wA:∀ {xs:List PyData}{x:PyData},x ∈ xs->x.depth<=PyData.depthAll xs
 |y::ys,x,h=>by
  show x.depth<=max y.depth (PyData.depthAll ys)
  rcases List.mem_cons.mp h with rfl | h
  ·omega
  ·have:=wA h
   omega
theorem Wh:∀ {xs:List PyData}{x:PyData},xl xs=true->x ∈ xs->hOk x=true
 |y::ys,x,h,m=>by
  have h':(hOk y && xl ys)=true:=h
  rw[Bool.and_eq_true]at h'
  rcases List.mem_cons.mp m with rfl | m
  ·exact h'.1
  ·exact Wh h'.2 m
theorem Ql {A:Around}{E:Value->Shared->Prop}{s:Shared}{Q:Int->Shared->Prop}(h:Q (hPy .none) { s with toks:=s.toks+1 }):wpAny (model prog w) A (pyHash .none) Q E s:=by
 have hT:s.TypeIs .none "NoneType":=rfl
 unfold pyHash
 first | unfold pyHashByItsType | skip
 have hv:[Value.none].any Value.onHeap=false:=rfl
 refine wpAny_bind ?_
 rw[cRoomFor,if_neg (by rw[hv];exact Bool.false_ne_true)];refine wpAny_pure ?_
 refine wpAny_bind (wpAny_specialOf hT F.slot_NoneType_hash.lookup ?_)
 show wpAny _ _ (if (some (Value.builtin "NoneType.__hash__") == some Value.none)=true then _ else _) Q E s
 rw[if_neg (by rw[beq_builtin_none];exact Bool.false_ne_true)]
 refine wpAny_bind (wpAny_specialOf hT F.slot_NoneType_hash.lookup ?_)
 show wpAny _ _ (callSpecialIfBoundUnlessNone? .none "__hash__" _ >>= _) Q E s
 refine wpAny_bind (wpAny_callSpecialIfBoundUnlessNone?_slot hT F.slot_NoneType_hash (wpAny_call_entry F.slot_NoneType_hash hT F.entry_NoneType_hash ?_ (F.args_NoneType_hash_1 _)))
 show wpAny _ _ (retInt 0xFCA86420) _ _ s
 refine wpAny_ret_mkInt ?_
 exact wpAny_pure h
noncomputable def V0 (prog:Program)(w:World)(d:PyData):Prop:=∀ (A:Around)(E:Value->Shared->Prop)(s:Shared) (v:Value)(as:List Addr)(Q:Int->Shared->Prop),Reads s.heap v d as->hOk d=true->A.units+d.depth<cLine ->
 Q (hPy d) { s with toks:=s.toks+UM d }->wpAny (model prog w) A (pyHash v) Q E s
theorem Um {xs:List PyData}(ih:∀ x ∈ xs,V0 prog w x):V0 prog w (.tuple xs):=by
 intro A E s v as Q r hk hu h
 cases r with
 |@tuple a o items n _ _ ho hc hd hi=>
 have hT:s.TypeIs (.ref a) "tuple":=⟨o,ho,hc⟩
 have hd1:PyData.depth (.tuple xs)=PyData.depthAll xs+1:=rfl
 rw[hd1]at hu
 unfold pyHash
 first | unfold pyHashByItsType | skip
 refine wpAny_bind (wpAny_cRoomFor_or (.inr (by omega)) ?_)
 refine wpAny_bind (wpAny_specialOf hT F.slot_tuple_hash.lookup ?_)
 show wpAny _ _ (if (some (Value.builtin "tuple.__hash__") == some Value.none)=true then _ else _) Q E s
 rw[if_neg (by rw[beq_builtin_none];exact Bool.false_ne_true)]
 refine wpAny_bind (wpAny_specialOf hT F.slot_tuple_hash.lookup ?_)
 show wpAny _ _ (callSpecialIfBoundUnlessNone? (.ref a) "__hash__" _ >>= _) Q E s
 refine wpAny_bind (wpAny_callSpecialIfBoundUnlessNone?_slot hT F.slot_tuple_hash (wpAny_call_entry F.slot_tuple_hash hT F.entry_tuple_hash ?_ (F.args_tuple_hash_1 _)))
 show wpAny _ _ (Builtin.Tuple.tupleItemsOf (.ref a) >>= _) _ _ s
 refine wpAny_bind (wpAny_tupleItemsOf ho hd ?_)
 refine wpAny_bind ?_
 rw[<-Array.forIn_toList]
 refine wpAny_forIn_list _
  (λrest (b:Array Int) s'=>∃ done left as',xs=done++left/\ReadsAll s.heap rest left as'/\b.toList=vJ done/\s'={ s with toks:=s.toks+yu done })
  _ ?_ ?_ _ _ ⟨[],xs,_,rfl,hi,rfl,rfl⟩
 ·rintro x rest b s' ⟨done,left,as',e,hl,hb,rfl⟩
  cases hl with
  |@cons _ _ d ds _ _ h1 hl'=>
   have hm:d ∈ xs:=by rw[e];simp
   refine wpAny_bind (ih d hm _ _ _ _ _ _ h1 (Wh hk hm) (by have:=wA hm;show A.units+1+d.depth<cLine;omega) ?_)
   have fin:∃ done' left' as'',xs=done'++left'/\ReadsAll s.heap rest left' as''/\(b.push (hPy d)).toList=vJ done'/\({ s with toks:=s.toks+yu done+UM d }:Shared)={ s with toks:=s.toks+yu done' }:=
    ⟨done++[d],ds,_,by rw[e];simp,hl',by rw[Array.toList_push,hb,wR];rfl,by rw[x9];show _={ s with toks:=s.toks+(yu done+(UM d+0)) };rw[Nat.add_zero,Nat.add_assoc]⟩
   first
    |exact wpAny_pure fin
    |exact wpAny_bind (wpAny_pure (wpAny_pure fin))
 ·rintro b s' ⟨done,left,as',e,hl,hb,rfl⟩
  cases hl
  rw[List.append_nil]at e
  subst e
  have h:Q (reduceHash (Builtin.Tuple.tupleHashOf (vJ xs))) { s with toks:=s.toks+(yu xs+1) }:=h
  show wpAny _ _ (retInt (Builtin.Tuple.tupleHashOf b.toList)) _ _ _
  rw[hb]
  refine wpAny_ret_mkInt ?_
  generalize Builtin.Tuple.tupleHashOf (vJ xs)=z at h ⊢
  show wpAny _ _ (if (decide (-(2:Int) ^ 63<=z) && decide (z<2 ^ 63))=true then _ else _) Q E _
  unfold reduceHash at h
  by_cases hr:(decide (-(2:Int) ^ 63<=z) && decide (z<2 ^ 63))=true
  ·rw[if_pos hr]
   rw[if_pos hr]at h
   exact wpAny_pure (by simpa[Nat.add_assoc] using h)
  ·rw[if_neg hr]
   rw[if_neg hr]at h
   exact wpAny_bind (wpAny_rule (wpAny_pure (by simpa[Nat.add_assoc] using h)))
mutual
theorem qU:∀ d:PyData,V0 prog w d
 |.none=>λA E s v as Q r _ _ h=>by cases r;exact Ql h
 |.int i=>λA E s v as Q r _ _ h=>by cases r;exact wpAny_pyHash_int h
 |.tuple xs=>Um (uo xs)
 |.bool _=>λA E s v as Q r h _ _=>by cases h
 |.str _=>λA E s v as Q r h _ _=>by cases h
 |.list _=>λA E s v as Q r h _ _=>by cases h
 |.dict _=>λA E s v as Q r h _ _=>by cases h
theorem uo:∀ xs:List PyData,∀ x ∈ xs,V0 prog w x
 |[],x,h=>by cases h
 |y::ys,x,h=>by
  rcases List.mem_cons.mp h with e | h
  ·rw[e];exact qU y
  ·exact uo ys x h
end
noncomputable def wq (prog:Program)(w:World)(d:PyData):Prop:=∀ (n:Nat)(A:Around)(E:Value->Shared->Prop)(s:Shared) (v:Value)(as:List Addr)(Q:Bool->Shared->Prop),Reads s.heap v d as->hOk d=true->d.depth<=n ->
 Q true s->wpAny (model prog w) A (eqIsQuiet n v) Q E s
theorem uG {xs:List PyData}(ih:∀ x ∈ xs,wq prog w x):wq prog w (.tuple xs):=by
 intro n A E s v as Q r hk hn h
 cases r with
 |@tuple a o items m _ _ ho hc hd hi=>
 have hT:s.TypeIs (.ref a) "tuple":=⟨o,ho,hc⟩
 have hd1:PyData.depth (.tuple xs)=PyData.depthAll xs+1:=rfl
 rw[hd1]at hn
 cases n with
 |zero=>omega
 |succ n=>
 unfold eqIsQuiet
 refine wpAny_bind (wpAny_specialOf hT F.slot_tuple_eq.lookup ?_)
 show wpAny _ _ (isInstance (.ref a) (.type "tuple") >>= _) _ _ s
 refine wpAny_bind (wpAny_isInstance hT isSubtype_tuple_tuple ?_)
 simp only[Bool.not_true,Bool.false_eq_true,if_false]
 refine wpAny_bind (wpAny_seqItems ho hd ?_)
 refine wpAny_bind ?_
 show wpAny _ _ (forIn items _ _) _ _ s
 rw[<-Array.forIn_toList]
 refine wpAny_forIn_list _ (λrest r s'=>r.1=none/\s'=s/\∃ done left as',xs=done++left/\ReadsAll s.heap rest left as') _ ?_ ?_ _ _ ⟨rfl,rfl,[],xs,_,rfl,hi⟩
 ·rintro v rest r s' ⟨hr,rfl,done,left,as',e,hl⟩
  cases hl with
  |@cons _ _ d ds _ _ h1 hl'=>
   have hm:d ∈ xs:=by rw[e];simp
   refine wpAny_bind (ih d hm n _ _ _ _ _ _ h1 (Wh hk hm) (by have:=wA hm;omega) ?_)
   simp only[Bool.not_true,Bool.false_eq_true,if_false]
   exact wpAny_pure ⟨rfl,rfl,done++[d],ds,_,by rw[e];simp,hl'⟩
 ·rintro⟨r1,r2⟩ s' ⟨hr,rfl,_⟩
  simp only at hr
  subst hr
  exact wpAny_pure h
mutual
theorem uH:∀ d:PyData,wq prog w d
 |.none=>λn A E s v as Q r _ _ h=>by cases r;rw[eqIsQuiet_byValue n rfl];exact wpAny_pure h
 |.int i=>λn A E s v as Q r _ _ h=>by cases r;rw[eqIsQuiet_byValue n rfl];exact wpAny_pure h
 |.tuple xs=>uG (vb xs)
 |.bool _=>λn A E s v as Q r h _ _=>by cases h
 |.str _=>λn A E s v as Q r h _ _=>by cases h
 |.list _=>λn A E s v as Q r h _ _=>by cases h
 |.dict _=>λn A E s v as Q r h _ _=>by cases h
theorem vb:∀ xs:List PyData,∀ x ∈ xs,wq prog w x
 |[],x,h=>by cases h
 |y::ys,x,h=>by
  rcases List.mem_cons.mp h with e | h
  ·rw[e];exact uH y
  ·exact vb ys x h
end
mutual
theorem va {h h':Heap}{d:Addr}{o:Obj} {es ep}(ho:h.get? d=some o)(hd:o.data=.dict es ep)(hs:Heap.SameBut d h h'):∀ {p:PyData}{v:Value}{as:List Addr},hOk p=true->Reads h v p as->Reads h' v p as
 |.none,v,as,_,r=>by cases r;exact .none
 |.int i,v,as,_,r=>by cases r;exact .int _ _
 |.tuple xs,v,as,k,r=>by
  cases r with
  |@tuple a o' items n _ _ ho' hc hd' hi=>
   have hne:a≠d:=by
    rintro rfl
    rw[ho]at ho'
    cases ho'
    rw[hd]at hd'
    exact nomatch hd'
   exact .tuple ((hs.2 a hne).trans ho') hc hd' (WE ho hd hs k hi)
 |.bool _,_,_,k,_=>by cases k
 |.str _,_,_,k,_=>by cases k
 |.list _,_,_,k,_=>by cases k
 |.dict _,_,_,k,_=>by cases k
theorem WE {h h':Heap}{d:Addr}{o:Obj} {es ep}(ho:h.get? d=some o)(hd:o.data=.dict es ep)(hs:Heap.SameBut d h h'):∀ {p:List PyData}{v:List Value}{as:List Addr},xl p=true->ReadsAll h v p as->ReadsAll h' v p as
 |[],v,as,_,r=>by cases r;exact .nil
 |x::xs,v,as,k,r=>by
  have k':(hOk x && xl xs)=true:=k
  rw[Bool.and_eq_true]at k'
  cases r with
  |cons r1 r2=>exact .cons (va ho hd hs k'.1 r1) (WE ho hd hs k'.2 r2)
end
noncomputable def NK.At (h:Heap)(k:NK)(a:Addr):Prop:=(∃ as,Reads h (.ref a) k.1 as)/\k.1.depth<=8
noncomputable def jz (prog:Program)(w:World):HeapKind prog w NK where
 is:=NK.At
 hash:=λk=>hPy k.1
 draws:=λk=>UM k.1
 room:=λA=>A.units+8<cLine
 inj:=fun {h a x y} hx hy=>by
  obtain⟨⟨as,r1⟩,_⟩:=hx
  obtain⟨⟨bs,r2⟩,_⟩:=hy
  exact Subtype.ext (SeqAt.Reads.unique _ _ _ _ _ (wl x.2) r1 r2)
 keeps:=fun {h h' k a d o es ep} x ho hd hs=>⟨⟨_,va ho hd hs k.2 x.1.choose_spec⟩,x.2⟩
 pyHash:=fun {A E s k a Q} hu hk h=>qU k.1 A E s _ _ Q hk.1.choose_spec k.2 (by have:=hk.2;omega) h
 eqBool:=fun {A E s x y a b Q} hu hx hy h=>by
  refine SeqAt.eqBoolOverData prog w A E s _ _ _ _ _ _ Q hx.1.choose_spec hy.1.choose_spec (wl x.2) (wl y.2) (by have:=hx.2;have:=Nat.min_le_left x.1.depth y.1.depth;omega) ?_
  rw[NK.eqv]
  exact h
 quiet:=fun {A E s k a Q} hk h=>uH k.1 8 A E s _ _ Q hk.1.choose_spec k.2 hk.2 h
end
end PM
namespace PM
open PySem
inductive D where
 |non | bl (b:Bool) | int (i:Int) | str (x:Str) | tup (xs:List D) | lst (xs:List D)
 |exc (c:Addr)
 |dct (ks:List Int)(vs:List D)
 |dcT (ks:List (List Int))(vs:List D)
 deriving Inhabited
inductive Slot where
 |un | fz (d:D) | own (ds:List D) | dic (kvs:List (Int×D)) | own2 (dss:List (List D)) | dicT (kvs:List (D×D))
 |ownM (ms:List (Bool×Int×List D)) | obj (C:Addr)(fs:List (Str×Bool×D)) | junk (n:Nat)
noncomputable abbrev Rho:=List Slot
inductive Res (α:Type) where
 |ok (a:α)(ρ:Rho) | exn (c:Addr)(ρ:Rho) | bad
noncomputable abbrev M (α:Type):=Rho->Res α
noncomputable def Res.bnd {α β:Type}(r:Res α)(k:α->Rho->Res β):Res β:=match r with
 |.ok a ρ'=>k a ρ'
 |.exn c ρ'=>.exn c ρ'
 |.bad=>.bad
theorem Res.bnd_ok {α β:Type}(a:α)(ρ:Rho)(k:α->Rho->Res β):(Res.ok a ρ).bnd k=k a ρ:=rfl
noncomputable def zU {α:Type}(o:Option α)(ρ:Rho):Res α:=match o with
 |some a=>.ok a ρ
 |none=>.bad
theorem zd {α:Type}(a:α)(ρ:Rho):zU (some a) ρ=.ok a ρ:=rfl
inductive Fl where
 |nx | ret (d:D) | brk | cont
mutual
noncomputable def D.eqv:D->D->Bool
 |.non,.non=>true
 |.bl a,.bl b=>a == b
 |.bl a,.int b=>(if a then 1 else 0) == b
 |.int a,.bl b=>a == (if b then 1 else 0)
 |.int a,.int b=>a == b
 |.str a,.str b=>a == b
 |.tup a,.tup b=>D.eqvs a b
 |.lst a,.lst b=>D.eqvs a b
 |_,_=>false
noncomputable def D.eqvs:List D->List D->Bool
 |[],[]=>true
 |a::r,b::s=>D.eqv a b && D.eqvs r s
 |_,_=>false
end
mutual
noncomputable def D.plain:D->Bool
 |.exc _=>false
 |.tup a=>D.plains a
 |.lst a=>D.plains a
 |.dct _ _=>false
 |.dcT _ _=>false
 |.str x=>x.cps.all (· < 0x110000)
 |_=>true
noncomputable def D.plains:List D->Bool
 |[]=>true
 |a::r=>D.plain a && D.plains r
end
mutual
noncomputable def D.deep:D->Nat
 |.tup a=>D.deeps a+1
 |.lst a=>D.deeps a+1
 |_=>0
noncomputable def D.deeps:List D->Nat
 |[]=>0
 |a::r=>max (D.deep a) (D.deeps r)
end
noncomputable def zl:D->D->Option D
 |.int a,.int b=>some (.int (a+b))
 |.lst a,.lst b=>if a.length+b.length<=sizeLine then some (.lst (a++b)) else none
 |.tup a,.tup b=>if a.length+b.length<=sizeLine then some (.tup (a++b)) else none
 |_,_=>none
noncomputable def V2:D->D->Option D
 |.int a,.int b=>some (.int (a - b))
 |_,_=>none
noncomputable def yx:D->D->Option D
 |.int a,.int b=>if (-(2 ^ 64)<a/\a<2 ^ 64)\/(-(2 ^ 64)<b/\b<2 ^ 64) then some (.int (a * b)) else none
 |.lst a,.int k=>if -(2 ^ 63)<=k/\k<2 ^ 63/\a.length * k.toNat<=sizeLine then some (.lst (List.replicate k.toNat a).flatten) else none
 |_,_=>none
noncomputable def Zv:D->D->Option D
 |.int a,.int b=>if 0<b/\b<1073741824 then some (.int (a / b)) else none
 |_,_=>none
noncomputable def Zq:D->D->Option D
 |.int a,.int b=>if 0<b then some (.int (a % b)) else none
 |_,_=>none
noncomputable def WS:D->Option D
 |.int a=>some (.int (-a))
 |_=>none
noncomputable def ltD:D->D->Option D
 |.int a,.int b=>some (.bl (decide (a<b)))
 |_,_=>none
noncomputable def leD:D->D->Option D
 |.int a,.int b=>some (.bl (decide (a<=b)))
 |_,_=>none
noncomputable def gtD:D->D->Option D
 |.int a,.int b=>some (.bl (decide (b<a)))
 |_,_=>none
noncomputable def geD:D->D->Option D
 |.int a,.int b=>some (.bl (decide (b<=a)))
 |_,_=>none
noncomputable def eqD (a b:D):Option D:=if a.plain && b.plain && decide (a.deep<=30) then some (.bl (a.eqv b)) else none
noncomputable def neD (a b:D):Option D:=if a.plain && b.plain && decide (a.deep<=30) then some (.bl (!a.eqv b)) else none
noncomputable def D.items? : D->Option (List D)
 |.tup a=>some a
 |.lst a=>some a
 |_=>none
noncomputable def inD (x y:D):Option D:=match y.items? with
 |some ys=>if x.plain && D.plains ys && decide (D.deeps ys<=30) then some (.bl (ys.any λy=>y.eqv x)) else none
 |none=>none
noncomputable def yV (x y:D):Option D:=match y.items? with
 |some ys=>if x.plain && D.plains ys && decide (D.deeps ys<=30) then some (.bl (!ys.any λy=>y.eqv x)) else none
 |none=>none
noncomputable def We:D->Bool
 |.non=>true
 |_=>false
noncomputable def YL:D->Option Bool
 |.non=>some false
 |.bl b=>some b
 |.int i=>some (i != 0)
 |.tup a=>some (!a.isEmpty)
 |.lst a=>some (!a.isEmpty)
 |_=>none
noncomputable def zQ:D->Option Bool
 |.bl b=>some b
 |_=>none
noncomputable def yX:D->Option D
 |.tup a=>some (.int a.length)
 |.lst a=>some (.int a.length)
 |_=>none
noncomputable def Yp (n:Nat) (i:Int):Option Nat:=if 0<=i then (if i<n then some i.toNat else none) else if -(n:Int)<=i then some (i+n).toNat else none
noncomputable def atD (xs:List D) (i:Int):Option D:=(Yp xs.length i).bind λj=>xs[j]?
noncomputable def ixD:D->D->Option D
 |.tup a,.int i=>atD a i
 |.lst a,.int i=>atD a i
 |_,_=>none
noncomputable def u2 (n d:Nat):Option Int->Nat
 |none=>d
 |some v=>if v<0 then (v+(n:Int)).toNat else min v.toNat n
noncomputable def cut {α:Type}(xs:List α)(lo hi:Option Int):List α:=(xs.drop (u2 xs.length 0 lo)).take (u2 xs.length xs.length hi - u2 xs.length 0 lo)
noncomputable def slD (x:D)(lo hi:Option Int):Option D:=match x with
 |.tup a=>some (.tup (cut a lo hi))
 |.lst a=>some (.lst (cut a lo hi))
 |_=>none
noncomputable def Xa:D->Option Int
 |.int i=>some i
 |_=>none
noncomputable def Xj:D->Option D
 |.int i=>some (.int i)
 |.bl b=>some (.int (if b then 1 else 0))
 |_=>none
noncomputable def yy:D->Option D
 |.tup a=>some (.lst a)
 |.lst a=>some (.lst a)
 |_=>none
noncomputable def tupleD:D->Option D
 |.tup a=>some (.tup a)
 |.lst a=>some (.tup a)
 |_=>none
noncomputable def yC (n:Nat):List D:=(List.range n).map λk:Nat=>D.int (k:Int)
noncomputable def yM:List D->Option (List Int)
 |[]=>some []
 |.int b::r=>(yM r).map (b :: ·)
 |_::_=>none
noncomputable def KO:Option Slot->Option D
 |some (.fz d)=>some d
 |_=>none
noncomputable def zY:Option Slot->Option (List D)
 |some (.own d)=>some d
 |_=>none
theorem xI (d:List D):zY (some (.own d))=some d:=rfl
noncomputable def vM (i:Nat):M D:=λρ=>zU (KO ρ[i]?) ρ
noncomputable def cM (d:D):M D:=λρ=>.ok d ρ
noncomputable def op2 (f:D->D->Option D)(a b:M D):M D:=λρ=>(a ρ).bnd λx ρ=>(b ρ).bnd λy ρ=>zU (f x y) ρ
noncomputable def op1 (f:D->Option D)(a:M D):M D:=λρ=>(a ρ).bnd λx ρ=>zU (f x) ρ
noncomputable def zm:List (M D)->M (List D)
 |[]=>λρ=>.ok [] ρ
 |a::r=>λρ=>(a ρ).bnd λx ρ=>(zm r ρ).bnd λxs ρ=>.ok (x::xs) ρ
noncomputable def zO (f:D->Option Bool)(e:M D):M Bool:=λρ=>(e ρ).bnd λx ρ=>zU (f x) ρ
noncomputable def orM (a b:M Bool):M Bool:=λρ=>(a ρ).bnd λx ρ=>if x=true then .ok true ρ else b ρ
noncomputable def Xw (a:M Bool):M Bool:=λρ=>(a ρ).bnd λx ρ=>.ok (!x) ρ
noncomputable def YY (c:M Bool)(a b:M D):M D:=λρ=>(c ρ).bnd λx ρ=>if x=true then a ρ else b ρ
noncomputable def W9 (a b:M D):M D:=λρ=>(a ρ).bnd λx ρ=>(zU (zQ x) ρ).bnd λk ρ=>if k=true then b ρ else .ok (.bl false) ρ
noncomputable def orV (a b:M D):M D:=λρ=>(a ρ).bnd λx ρ=>(zU (zQ x) ρ).bnd λk ρ=>if k=true then .ok (.bl true) ρ else b ρ
noncomputable def XN (p:Option (M D)):M (Option Int):=match p with
 |none=>λρ=>.ok none ρ
 |some a=>λρ=>(a ρ).bnd λx ρ=>(zU (Xa x) ρ).bnd λi ρ=>.ok (some i) ρ
noncomputable def Xo (a:M D)(lo hi:Option (M D)):M D:=λρ=>(a ρ).bnd λx ρ=>(XN lo ρ).bnd λl ρ=>(XN hi ρ).bnd λh ρ=>zU (slD x l h) ρ
noncomputable def ZP (as:List (M D)):M D:=λρ=>(zm as ρ).bnd λxs ρ=>if xs.length<=sizeLine then .ok (.tup xs) ρ else .bad
noncomputable def lstM (as:List (M D)):M D:=λρ=>(zm as ρ).bnd λxs ρ=>if xs.length<=sizeLine then .ok (.lst xs) ρ else .bad
noncomputable def zy (i:Nat)(e:M D):M Fl:=λρ=>(e ρ).bnd λx ρ=>.ok .nx (ρ.set i (.fz x))
noncomputable def zz (e:M D):M Fl:=λρ=>(e ρ).bnd λx ρ=>.ok (.ret x) ρ
noncomputable def yf (e:M D):M Fl:=λρ=>(e ρ).bnd λ_ ρ=>.ok .nx ρ
noncomputable def nxM:M Fl:=λρ=>.ok .nx ρ
noncomputable def yw (i:Nat)(as:List (M D)):M Fl:=λρ=>(zm as ρ).bnd λxs ρ=>if xs.length<=sizeLine then .ok .nx (ρ.set i (.own xs)) else .bad
noncomputable def yk (i:Nat)(b:M Fl):M Fl:=λρ=>(zU (zY ρ[i]?) ρ).bnd λds ρ=>b (ρ.set i (.fz (.lst ds)))
noncomputable def ZT (i:Nat)(e:M D):M Fl:=λρ=>(zU (zY ρ[i]?) ρ).bnd λ_ ρ=>(e ρ).bnd λx ρ=>(zU (zY ρ[i]?) ρ).bnd λds ρ=>if ds.length<sizeLine then .ok .nx (ρ.set i (.own (ds++[x]))) else .bad
noncomputable def Zr (i:Nat):M D:=λρ=>(zU (zY ρ[i]?) ρ).bnd λds ρ=>.ok (.int ds.length) ρ
noncomputable def ixO (i:Nat)(e:M D):M D:=λρ=>(zU (zY ρ[i]?) ρ).bnd λ_ ρ=>(e ρ).bnd λx ρ=>(zU (zY ρ[i]?) ρ).bnd λds ρ=>zU (ixD (.lst ds) x) ρ
noncomputable def qv (i:Nat):M Bool:=λρ=>(zU (zY ρ[i]?) ρ).bnd λds ρ=>.ok (!ds.isEmpty) ρ
noncomputable def inO (f:D->D->Option D)(e:M D) (i:Nat):M D:=λρ=>(e ρ).bnd λx ρ=>(zU (zY ρ[i]?) ρ).bnd λds ρ=>zU (f x (.lst ds)) ρ
noncomputable def YN (i:Nat)(e:M D):M D:=λρ=>(zU (zY ρ[i]?) ρ).bnd λ_ ρ=>(e ρ).bnd λx ρ=>(zU (zY ρ[i]?) ρ).bnd λds ρ=>(zU (Xa x) ρ).bnd λk ρ=>(zU (if ds.length<=sizeLine then Yp ds.length k else none) ρ).bnd λj ρ=>
 (zU (ds[j]?) ρ).bnd λy ρ=>.ok y (ρ.set i (.own (ds.eraseIdx j)))
noncomputable def xb (i:Nat)(e v:M D):M Fl:=λρ=>(v ρ).bnd λy ρ=>(zU (zY ρ[i]?) ρ).bnd λ_ ρ=>(e ρ).bnd λx ρ=>(zU (zY ρ[i]?) ρ).bnd λds ρ=>(zU (Xa x) ρ).bnd λk ρ=>(zU (Yp ds.length k) ρ).bnd λj ρ=>
 .ok .nx (ρ.set i (.own (ds.set j y)))
noncomputable def Fl.isNx:Fl->Bool
 |.nx=>true
 |_=>false
noncomputable def zG (a b:M Fl):M Fl:=λρ=>(a ρ).bnd λf ρ=>if f.isNx=true then b ρ else .ok f ρ
noncomputable def ifM (c:M Bool)(a b:M Fl):M Fl:=λρ=>(c ρ).bnd λx ρ=>if x=true then a ρ else b ρ
noncomputable def Yt (f:Fl)(ρ:Rho)(go:M Fl):Res Fl:=match f with
 |.nx=>go ρ
 |.cont=>go ρ
 |.brk=>.ok .nx ρ
 |.ret d=>.ok (.ret d) ρ
noncomputable abbrev GM:=D->Rho->Option Rho
noncomputable def ZG (g:GM)(b:M Fl):List D->M Fl
 |[]=>λρ=>.ok .nx ρ
 |d::ds=>λρ=>(zU (g d ρ) ρ).bnd λρ _=>(b ρ).bnd λf ρ=>Yt f ρ (ZG g b ds)
noncomputable def YT (it:M D)(items:D->Option (List D))(g:GM)(b:M Fl):M Fl:=λρ=>(it ρ).bnd λx ρ=>(zU (items x) ρ).bnd λds ρ=>ZG g b ds ρ
noncomputable def yh (c:M Bool)(b:M Fl):Nat->M Fl
 |0=>λ_=>.bad
 |n+1=>λρ=>(c ρ).bnd λx ρ=>if x=true then (b ρ).bnd λf ρ=>Yt f ρ (yh c b n) else .ok .nx ρ
noncomputable def ZC (i:Nat):GM:=λd ρ=>some (ρ.set i (.fz d))
noncomputable def Y9:List Nat->List D->Rho->Option Rho
 |[],[],ρ=>some ρ
 |i::r,d::ds,ρ=>Y9 r ds (ρ.set i (.fz d))
 |_,_,_=>none
noncomputable def Yw (is:List Nat):GM:=λd ρ=>match d with
 |.tup ds=>Y9 is ds ρ
 |_=>none
noncomputable def Za:D->Option (List D)
 |.int j=>if -(2 ^ 62)<=j/\j<2 ^ 62 then some (yC j.toNat) else none
 |_=>none
noncomputable def yB:D->Option (List D)
 |.lst a=>some a
 |_=>none
noncomputable def Y1:D->Option (List D)
 |.tup a=>some a
 |_=>none
noncomputable def wZ (e:M D)(g:GM):M Fl:=λρ=>(e ρ).bnd λx ρ=>(zU (g x ρ) ρ).bnd λρ _=>.ok .nx ρ
inductive FR where
 |ok (d:D) | exn (c:Addr) | bad
noncomputable def FR.of:Res Fl->FR
 |.ok .nx _=>.ok .non
 |.ok (.ret d) _=>.ok d
 |.ok _ _=>.bad
 |.exn c _=>.exn c
 |.bad=>.bad
noncomputable def FR.to:FR->Rho->Res D
 |.ok d,ρ=>.ok d ρ
 |.exn c,ρ=>.exn c ρ
 |.bad,_=>.bad
noncomputable def ZJ (n:Nat)(args:List D):Rho:=args.map .fz++List.replicate (n - args.length) .un
noncomputable def ZS (n:Nat)(b:M Fl)(args:List D):FR:=FR.of (b (ZJ n args))
noncomputable def zK (F:List D->FR)(as:List (M D)):M D:=λρ=>(zm as ρ).bnd λds ρ=>(F ds).to ρ
end PM
namespace PM
open PySem
noncomputable def UK (cs:List Addr) (iy:Nat)(m:M Fl):M Fl:=λρ=>match m ρ with
 |.exn c _=>if cs.contains c then .ok .nx ((List.replicate ρ.length Slot.un).set iy (.fz (.exc c))) else .bad
 |r=>r
noncomputable def Zj (c:Addr):M Fl:=λρ=>.exn c ρ
end PM
namespace PM
open PySem
noncomputable def Vv:Slot->Slot
 |.fz d=>.fz d
 |_=>.un
noncomputable def y6 (nt:Nat)(idx:List Nat)(ρ:Rho):Rho:=List.replicate nt .un++(idx.map λi=>Vv (ρ.getD i .un))++[.own []]
noncomputable def ym (k:Nat)(c:Option (M Bool))(e:M D):M Fl:=match c with
 |none=>ZT k e
 |some c=>ifM c (ZT k e) nxM
noncomputable def YK (acc:Slot) (nt:Nat)(idx:List Nat)(ρ:Rho):Rho:=List.replicate nt .un++(idx.map λi=>Vv (ρ.getD i .un))++[acc]
noncomputable def Z9 (c:Option (M Bool))(bm:M Fl):M Fl:=match c with
 |none=>bm
 |some c=>ifM c bm nxM
theorem Jl (k:Nat)(c:Option (M Bool))(e:M D):ym k c e=Z9 c (ZT k e):=by cases c<;>rfl
noncomputable def wS (k:Nat):Res Fl->Option (List D)
 |.ok .nx ρ'=>zY ρ'[k]?
 |_=>none
noncomputable def yU (mi:M (List D)) (nt:Nat)(idx:List Nat)(g:GM)(c:Option (M Bool))(e:M D):M D:=λρ=>(mi ρ).bnd λds ρ=>
 (zU (wS (nt+idx.length) (ZG g (ym (nt+idx.length) c e) ds (y6 nt idx ρ))) ρ).bnd λys ρ=>.ok (.lst ys) ρ
noncomputable def ZI (f:D->Option (List D))(e:M D):M (List D):=λρ=>(e ρ).bnd λx ρ=>zU (f x) ρ
end PM
namespace PM
open PySem
noncomputable def yc (own:Bool) (i:Nat)(mi:M (List D)) (nt:Nat)(idx:List Nat)(g:GM)(c:Option (M Bool))(e:M D):M Fl:=λρ=>(mi ρ).bnd λds ρ=>
 (zU (wS (nt+idx.length) (ZG g (ym (nt+idx.length) c e) ds (y6 nt idx ρ))) ρ).bnd λys ρ=>.ok .nx (ρ.set i (if own then .own ys else .fz (.lst ys)))
end PM
namespace PM
open PySem
noncomputable def za (f:List D->Option D)(as:List (M D)):M D:=λρ=>(zm as ρ).bnd λds ρ=>zU (f ds) ρ
noncomputable def WQ (a:M D):M D:=λρ=>(a ρ).bnd λx ρ=>(zU (zQ x) ρ).bnd λk ρ=>.ok (.bl (!k)) ρ
noncomputable def Ya (e:M D)(g:GM)(b:M Fl):M Fl:=λρ=>(zm [e] ρ).bnd λxs ρ=>(zU (match xs with | [x]=>Za x | _=>none) ρ).bnd λds ρ=>ZG g b ds ρ
noncomputable def isD (x y:D):Option D:=if We y=true then some (.bl (We x)) else none
noncomputable def zx (f:D->Option D):List D->Option D
 |[x]=>f x
 |_=>none
noncomputable def z0:List Int->List Int
 |[]=>[]
 |a::r=>a::(z0 r).filter (· != a)
noncomputable def xL:D->Option D
 |.tup ds=>(yM ds).bind λns=>if ns.length<1000 then some (.int (z0 ns).length) else none
 |.lst ds=>(yM ds).bind λns=>if ns.length<1000 then some (.int (z0 ns).length) else none
 |_=>none
noncomputable def uu (ys:List D)(x:D):Option Nat:=ys.findIdx? λy=>y.eqv x
noncomputable def YR (s x:D):Option D:=match s.items? with
 |some ys=>if x.plain && D.plains ys && decide (D.deeps ys<=30) then (uu ys x).map λj=>.int (j:Nat) else none
 |none=>none
noncomputable def Wu (s x:D):Option D:=match s with
 |.lst ys=>if x.plain && D.plains ys && decide (D.deeps ys<=30) then some (.int ((ys.filter λy=>y.eqv x).length:Nat)) else none
 |_=>none
noncomputable def yW (i:Nat)(e:M D):M Fl:=λρ=>(e ρ).bnd λx ρ=>(zU (Za x) ρ).bnd λds ρ=>if ds.length<=sizeLine then .ok .nx (ρ.set i (.own ds)) else .bad
noncomputable def XW (f:D->D->Option D) (i:Nat)(e:M D):M D:=λρ=>(zU (zY ρ[i]?) ρ).bnd λ_ ρ=>(e ρ).bnd λx ρ=>(zU (zY ρ[i]?) ρ).bnd λds ρ=>zU (f (.lst ds) x) ρ
noncomputable def vm (f:D->D->Option D)(a b:M D):M D:=λρ=>(a ρ).bnd λx ρ=>(zU (Y1 x) ρ).bnd λ_ ρ=>(b ρ).bnd λy ρ=>zU (f x y) ρ
noncomputable def Wf (f:D->Bool):D->Option D
 |.dct _ _=>none
 |.dcT _ _=>none
 |.exc _=>none
 |d=>some (.bl (f d))
noncomputable def D.isLst:D->Bool
 |.lst _=>true
 |_=>false
noncomputable def yS (f:Addr->Option Bool):D->Option D
 |.exc c=>(f c).map .bl
 |_=>none
end PM
namespace PM
open PySem
theorem qY:∃ n:Nat,n=1000000000:=⟨_,rfl⟩
noncomputable def Qo:Nat:=Classical.choose qY
theorem qZ:Qo=1000000000:=Classical.choose_spec qY
structure Cls where
 be:Addr
 bm:Addr
 bw:Addr
 tm:Addr
 bt:Addr
noncomputable def Cls.all (A:Cls):List Addr:=[A.bm,A.bw,A.tm,A.bt]
noncomputable def Cls.is (A:Cls)(c x:Addr):Option Bool:=if A.all.contains x then some (x == c) else none
noncomputable def Cls.isVE (A:Cls)(x:Addr):Option Bool:=if A.all.contains x then some true else none
end PM
namespace PM
open PySem
end PM
namespace PM
open PySem
noncomputable def Ze:Option Slot->Option (List (D×D))
 |some (.dicT d)=>some d
 |_=>none
noncomputable def Yy (kvs:List (D×D))(k:D)(v:D):List (D×D):=
 if kvs.any (λp=>p.1.eqv k) then kvs.map (λp=>if p.1.eqv k=true then (p.1,v) else p) else kvs++[(k,v)]
noncomputable def yT:List (D×D)->D->Option D
 |[],_=>none
 |p::r,k=>if p.1.eqv k=true then some p.2 else yT r k
mutual
noncomputable def D.hk:D->Bool
 |.non=>true
 |.int _=>true
 |.tup ds=>D.hks ds
 |_=>false
noncomputable def D.hks:List D->Bool
 |[]=>true
 |d::ds=>d.hk && D.hks ds
end
noncomputable def D.isTup:D->Bool
 |.tup _=>true
 |_=>false
noncomputable def ZH (d:D):Option D:=if d.isTup=true/\d.hk=true/\d.deep<=8 then some d else none
noncomputable def Wr (i:Nat)(ek ev:M D):M Fl:=λρ=>(ev ρ).bnd λv ρ=>(zU (Ze ρ[i]?) ρ).bnd λ_ ρ=>(ek ρ).bnd λx ρ=>(zU (Ze ρ[i]?) ρ).bnd λkvs ρ=>(zU (ZH x) ρ).bnd λk ρ=>
 if kvs.length<sizeLine then .ok .nx (ρ.set i (.dicT (Yy kvs k v))) else .bad
noncomputable def qh (i:Nat)(ek:M D):M D:=λρ=>(zU (Ze ρ[i]?) ρ).bnd λ_ ρ=>(ek ρ).bnd λx ρ=>(zU (Ze ρ[i]?) ρ).bnd λkvs ρ=>(zU (ZH x) ρ).bnd λk ρ=>(zU (yT kvs k) ρ).bnd λy ρ=>.ok y ρ
noncomputable def Ws (i:Nat)(ek:M D):M D:=λρ=>(ek ρ).bnd λx ρ=>(zU (Ze ρ[i]?) ρ).bnd λkvs ρ=>(zU (ZH x) ρ).bnd λk ρ=>.ok (.bl (!(yT kvs k).isSome)) ρ
noncomputable def Ut (i:Nat)(k v:D):M Fl:=λρ=>(zU (ZH k) ρ).bnd λk ρ=>.ok .nx (ρ.set i (.dicT [(k,v)]))
inductive NR where
 |ok (d:D)(ds:List D)(kvs:List (D×D)) | exn (c:Addr) | bad
noncomputable abbrev FN:=D->List D->List (D×D)->NR
noncomputable def xD (i j:Nat)(F:FN)(ea:M D):M D:=λρ=>(ea ρ).bnd λx ρ=>(zU (zY ρ[i]?) ρ).bnd λds ρ=>(zU (Ze ρ[j]?) ρ).bnd λkvs ρ=>match F x ds kvs with
 |.ok d ds' kvs'=>.ok d ((ρ.set i (.own ds')).set j (.dicT kvs'))
 |.exn c=>.exn c ((ρ.set i .un).set j .un)
 |.bad=>.bad
noncomputable def xB (n:Nat)(x:D)(ds:List D)(kvs:List (D×D)):Rho:=.fz x :: .own ds :: .dicT kvs::List.replicate (n - 3) .un
noncomputable def UA (n:Nat)(b:M Fl):FN:=λx ds kvs=>match b (xB n x ds kvs) with
 |.ok (.ret d) ρ=>match zY ρ[1]?,Ze ρ[2]? with
  |some ds',some kvs'=>.ok d ds' kvs'
  |_,_=>.bad
 |.exn c _=>.exn c
 |_=>.bad
end PM
namespace PM
open PySem
noncomputable def XQ (i:Nat)(ma mb:M D):M Fl:=λρ=>(ma ρ).bnd λx ρ=>(mb ρ).bnd λy ρ=>(zU (match x,y with
 |.lst a,.lst b=>if a.length+b.length<=sizeLine then some (a++b) else none
 |_,_=>none) ρ).bnd λds ρ=>.ok .nx (ρ.set i (.own ds))
noncomputable def x0 (d:D):Option D:=(Za d).bind λds=>if ds.length<=1000 then some (.tup ds) else none
end PM
namespace PM
open PySem PySem.Spec PyProof.Rows L2
noncomputable abbrev St:=L2.St
noncomputable def Vt (a c:Addr):HO:=.ext λh=>∃ o vs,h.get? a=some o/\o.cls=.ref c/\o.data=.fields vs
section
variable (K:PySem.W.Frag)
mutual
noncomputable def Rep (G:Hp):D->V->Prop
 |.non,v=>v=.non
 |.bl b,v=>v=.bl b
 |.int i,v=>v=.int i
 |.str x,v=>v=.str x
 |.tup ds,v=>∃ a vs,v=.ref a/\SqT K G a vs/\zL G ds vs
 |.lst ds,v=>∃ a vs,v=.ref a/\SqL K G a vs/\zL G ds vs
 |.exc c,v=>∃ a,v=.ref a/\G a=some (Vt a c)
 |.dct ks ds,v=>∃ a vs,v=.ref a/\ks.length=ds.length/\zL G ds vs/\G a=some (.dK ((ks.map Sum.inl).zip vs))
 |.dcT ks ds,v=>∃ a o vs,v=.ref a/\ks.length=ds.length/\zL G ds vs/\G a=some (.frz o (.dT ((ks.map (List.map (Sum.inl:Int->Key))).zip vs)))
noncomputable def zL (G:Hp):List D->List V->Prop
 |[],vs=>vs=[]
 |d::ds,vs=>∃ v r,vs=v::r/\Rep G d v/\zL G ds r
end
end
theorem SqT.same {K:PySem.W.Frag}{H H':Hp}{a:Addr}{xs:List V}(e:Same H H')(h:SqT K H a xs):SqT K H' a xs:=by
 rcases h with (h | ⟨o,h⟩) | h
 ·exact .inl (.inl (e _ _ h))
 ·exact .inl (.inr ⟨o,e _ _ h⟩)
 ·exact .inr h
instance sqtCoe {K:PySem.W.Frag}{H:Hp}{a:Addr}{xs:List V}:Coe (H a=some (HO.tup xs)) (SqT K H a xs):=⟨SqT.of⟩
section
variable {K:PySem.W.Frag}{G G' H H':Hp}
mutual
theorem Rep.mono (e:Same G G'):∀ {d:D}{v:V},Rep K G d v->Rep K G' d v
 |.non,_,h=>h
 |.bl _,_,h=>h
 |.int _,_,h=>h
 |.str _,_,h=>h
 |.tup ds,v,h=>by
  unfold Rep at h ⊢
  obtain⟨a,vs,h1,h2,h3⟩:=h
  exact⟨a,vs,h1,SqT.same e h2,zL.mono e h3⟩
 |.lst ds,v,h=>by
  unfold Rep at h ⊢
  obtain⟨a,vs,h1,h2,h3⟩:=h
  exact⟨a,vs,h1,e.seq h2,zL.mono e h3⟩
 |.exc c,v,h=>by
  unfold Rep at h ⊢
  obtain⟨a,h1,h2⟩:=h
  exact⟨a,h1,e _ _ h2⟩
 |.dct ks ds,v,h=>by
  unfold Rep at h ⊢
  obtain⟨a,vs,h1,h2,h3,h4⟩:=h
  exact⟨a,vs,h1,h2,zL.mono e h3,e _ _ h4⟩
 |.dcT ks ds,v,h=>by
  unfold Rep at h ⊢
  obtain⟨a,o,vs,h1,h2,h3,h4⟩:=h
  exact⟨a,o,vs,h1,h2,zL.mono e h3,e _ _ h4⟩
theorem zL.mono (e:Same G G'):∀ {ds:List D}{vs:List V},zL K G ds vs->zL K G' ds vs
 |[],_,h=>h
 |d::ds,vs,h=>by
  unfold zL at h ⊢
  obtain⟨v,r,h1,h2,h3⟩:=h
  exact⟨v,r,h1,Rep.mono e h2,zL.mono e h3⟩
end
theorem zL.nil:zL K G [] []:=by unfold zL;rfl
theorem zL.cons {d:D}{v:V}{ds:List D}{vs:List V}(h:Rep K G d v)(t:zL K G ds vs):zL K G (d::ds) (v::vs):=by
 unfold zL
 exact⟨v,vs,rfl,h,t⟩
theorem zL.nil_inv {vs:List V}(h:zL K G [] vs):vs=[]:=by unfold zL at h;exact h
theorem zL.cons_inv {d:D}{ds:List D}{vs:List V}(h:zL K G (d::ds) vs):∃ v r,vs=v::r/\Rep K G d v/\zL K G ds r:=by unfold zL at h;exact h
theorem zL.len:∀ {ds:List D}{vs:List V},zL K G ds vs->ds.length=vs.length
 |[],_,h=>by rw[h.nil_inv];rfl
 |d::ds,_,h=>by
  obtain⟨v,r,rfl,_,t⟩:=h.cons_inv
  simp[t.len]
theorem zL.get:∀ {ds:List D}{vs:List V}{i:Nat}{d:D},zL K G ds vs->ds[i]? = some d->∃ v,vs[i]? = some v/\Rep K G d v
 |[],_,_,_,_,e=>by simp at e
 |d::ds,_,0,_,h,e=>by
  obtain⟨v,r,rfl,h1,t⟩:=h.cons_inv
  simp at e
  subst e
  exact⟨v,rfl,h1⟩
 |d::ds,_,i+1,_,h,e=>by
  obtain⟨v,r,rfl,h1,t⟩:=h.cons_inv
  simp at e
  simpa using t.get e
theorem zL.app:∀ {ds es:List D}{vs ws:List V},zL K G ds vs->zL K G es ws->zL K G (ds++es) (vs++ws)
 |[],_,_,_,h,k=>by rw[h.nil_inv];exact k
 |d::ds,_,_,_,h,k=>by
  obtain⟨v,r,rfl,h1,t⟩:=h.cons_inv
  exact zL.cons h1 (t.app k)
theorem zL.take:∀ {ds:List D}{vs:List V} (n:Nat),zL K G ds vs->zL K G (ds.take n) (vs.take n)
 |_,_,0,_=>by simpa using zL.nil
 |[],_,n+1,h=>by rw[h.nil_inv];simpa using zL.nil
 |d::ds,_,n+1,h=>by
  obtain⟨v,r,rfl,h1,t⟩:=h.cons_inv
  exact zL.cons h1 (t.take n)
theorem zL.drop:∀ {ds:List D}{vs:List V} (n:Nat),zL K G ds vs->zL K G (ds.drop n) (vs.drop n)
 |_,_,0,h=>h
 |[],_,n+1,h=>by rw[h.nil_inv];simpa using zL.nil
 |d::ds,_,n+1,h=>by
  obtain⟨v,r,rfl,h1,t⟩:=h.cons_inv
  exact t.drop n
theorem zL.set {d:D}{v:V}(k:Rep K G d v):∀ {ds:List D}{vs:List V} (n:Nat),zL K G ds vs->zL K G (ds.set n d) (vs.set n v)
 |[],_,n,h=>by rw[h.nil_inv];simpa using zL.nil
 |d::ds,_,0,h=>by
  obtain⟨v,r,rfl,h1,t⟩:=h.cons_inv
  exact zL.cons k t
 |d::ds,_,n+1,h=>by
  obtain⟨v,r,rfl,h1,t⟩:=h.cons_inv
  exact zL.cons h1 (t.set k n)
theorem zL.erase:∀ {ds:List D}{vs:List V} (n:Nat),zL K G ds vs->zL K G (ds.eraseIdx n) (vs.eraseIdx n)
 |[],_,n,h=>by rw[h.nil_inv];simpa using zL.nil
 |d::ds,_,0,h=>by
  obtain⟨v,r,rfl,h1,t⟩:=h.cons_inv
  exact t
 |d::ds,_,n+1,h=>by
  obtain⟨v,r,rfl,h1,t⟩:=h.cons_inv
  exact zL.cons h1 (t.erase n)
theorem zL.rep {ds:List D}{vs:List V}(h:zL K G ds vs):∀ n:Nat,zL K G (List.replicate n ds).flatten (List.replicate n vs).flatten
 |0=>by simpa using zL.nil
 |n+1=>by
  rw[List.replicate_succ,List.replicate_succ,List.flatten_cons,List.flatten_cons]
  exact h.app (zL.rep h n)
theorem zL.ofInts (ns:List Int):zL K G (ns.map D.int) (ns.map V.int):=by
 induction ns with
 |nil=>exact zL.nil
 |cons n r ih=>exact zL.cons (by unfold Rep;rfl) ih
noncomputable def NT (o:Option HO):Prop:=o≠none/\∀ xs,o≠some (.tup xs)
theorem NT.lst {o:Option HO}{xs:List V}(h:o=some (.lst xs)):NT o:=by rw[h];exact⟨λz=>(by cases z),λ_ z=>by cases z⟩
theorem NT.dK {o:Option HO}{xs:List (Key×V)}(h:o=some (.dK xs)):NT o:=by rw[h];exact⟨λz=>(by cases z),λ_ z=>by cases z⟩
theorem NT.ins {o:Option HO}{C dx:Addr}{fs:List (Str×V)}(h:o=some (.ins C dx fs)):NT o:=by rw[h];exact⟨λz=>(by cases z),λ_ z=>by cases z⟩
theorem NT.ext {o:Option HO}{φ:Heap->Prop}(h:o=some (.ext φ)):NT o:=by rw[h];exact⟨λz=>(by cases z),λ_ z=>by cases z⟩
structure Ext (G H G' H':Hp):Prop where
 g:Same G G'
 s:Same G' H'
 n:∀ b,NT (H b)->G b=none->G' b=none
 t:Same H H'
theorem NT.same (h:NT (H b))(s:Same H H'):NT (H' b):=by
 cases q:H b with
 |none=>exact absurd q h.1
 |some o=>rw[s _ _ q,<-q];exact h
theorem Ext.refl (h:Same G H):Ext G H G H:=⟨Same.refl _,h,λ_ _ e=>e,Same.refl _⟩
theorem Ext.trans {G1 H1 G2 H2:Hp}(a:Ext G H G1 H1)(b:Ext G1 H1 G2 H2):Ext G H G2 H2:=
 ⟨a.g.trans b.g,b.s,λc h e=>b.n c (h.same a.t) (a.n c h e),a.t.trans b.t⟩
theorem Same.upd {p:Addr}{o:HO}(h:H p=none):Same H (upd H p o):=λb u e=>by rw[upd_ne (ne_of_none e h)];exact e
theorem Ext.new {p:Addr}{o:HO}(h:Same G H)(hp:H p=none):Ext G H (upd G p o) (upd H p o):=by
 have gp:G p=none:=h.free hp
 refine⟨Same.upd gp,λb u e=>?_,λb hb e=>?_,Same.upd hp⟩
 ·by_cases q:b=p
  ·subst q;rw[upd_same]at e ⊢;exact e
  ·rw[upd_ne q]at e ⊢;exact h _ _ e
 ·rw[upd_ne (λq=>hb.1 (by rw[q];exact hp))];exact e
end
noncomputable def Slot.mut:Slot->Bool
 |.own _=>true
 |.dic _=>true
 |.dicT _=>true
 |.obj _ _=>true
 |.junk _=>true
 |_=>false
noncomputable def Uu (G H0:Hp):Hp:=λb=>match H0 b with
 |some (.lst _)=>none
 |_=>G b
theorem v6 {G H0:Hp}{b:Addr}{u:HO}(h:Uu G H0 b=some u):G b=some u/\∀ ws,H0 b≠some (.lst ws):=by
 unfold Uu at h
 split at h
 ·cases h
 ·rename_i n;exact⟨h,λws q=>n ws q⟩
theorem KQ {G H0:Hp}{b:Addr}{u:HO}(h:G b=some u)(n:∀ ws,H0 b≠some (.lst ws)):Uu G H0 b=some u:=by
 unfold Uu
 split
 ·rename_i ws q;exact absurd q (n ws)
 ·exact h
theorem Qw {G G' H0:Hp}(h:Same G G'):Same (Uu G H0) (Uu G' H0):=λb u q=>KQ (h _ _ (v6 q).1) (v6 q).2
noncomputable def Kd (K:PySem.W.Frag)(H0 G:Hp)(fs:List (Str×Bool×D))(ws:List (Str×V)):Prop:=Paired (λ(p:Str×Bool×D)(q:Str×V)=>q.1=p.1/\Rep K (if p.2.1=true then Uu G H0 else G) p.2.2 q.2) fs ws
theorem Kd.mono {K:PySem.W.Frag}{H0 G G':Hp}{fs:List (Str×Bool×D)}{ws:List (Str×V)}(e:Same G G')(h:Kd K H0 G fs ws):Kd K H0 G' fs ws:=Paired.mapP h λp q z=>⟨z.1,by
 by_cases c:p.2.1=true
 ·rw[if_pos c];have:=z.2;rw[if_pos c]at this;exact this.mono (Qw e)
 ·rw[if_neg c];have:=z.2;rw[if_neg c]at this;exact this.mono e⟩
noncomputable def Kh (K:PySem.W.Frag)(G:Hp)(kvs:List (Int×D))(ws:List (Key×V)):Prop:=Paired (λ(p:Int×D)(q:Key×V)=>q.1=Sum.inl p.1/\Rep K G p.2 q.2) kvs ws
mutual
noncomputable def D.py:D->PyData
 |.non=>.none
 |.bl b=>.bool b
 |.int i=>.int i
 |.str x=>.str x
 |.tup a=>.tuple (D.pys a)
 |.lst a=>.list (D.pys a)
 |.exc _=>.none
 |.dct _ _=>.none
 |.dcT _ _=>.none
noncomputable def D.pys:List D->List PyData
 |[]=>[]
 |a::r=>D.py a::D.pys r
end
noncomputable def dnO (a:Addr)(ws:List (NK×Addr×V)):HO:=.ext λh=>ws.length<=sizeLine/\(a == sysModules)=false/\∃ xs:List (NK×Addr×Value),Paired (λ(p:NK×Addr×V)(q:NK×Addr×Value)=>p.1=q.1/\p.2.1=q.2.1/\RelV p.2.2 q.2.2) ws xs ∧
 ∃ o es ep,h.get? a=some o/\o.ExactDict/\o.data=.dict es ep/\es.toList=xs.map (λx=>(⟨hPy x.1.1,.ref x.2.1,x.2.2⟩ : DictEntry))/\(xs.map (·.1)).Nodup
noncomputable def xG (K:PySem.W.Frag)(G:Hp)(kvs:List (D×D))(ws:List (NK×Addr×V)):Prop:=Paired (λ(p:D×D)(q:NK×Addr×V)=>(q.1.1=p.1.py/\ZH p.1=some p.1)/\Rep K G p.1 (.ref q.2.1)/\Rep K G p.2 q.2.2) kvs ws
noncomputable def InR (K:PySem.W.Frag)(H0 G H:Hp)(ds:List D)(b:Addr):Prop:=∃ vs,H b=some (.lst vs)/\G b=none/\H0 b=none/\zL K G ds vs
noncomputable def Yc (K:PySem.W.Frag)(H0 G H:Hp)(s:Slot)(o:Option (Option V)):Prop:=match s with
 |.un=>True
 |.fz d=>∃ v,o=some (some v)/\Rep K G d v
 |.own ds=>∃ a vs,o=some (some (.ref a))/\H a=some (.lst vs)/\G a=none/\H0 a=none/\zL K G ds vs
 |.dic kvs=>∃ a ws,o=some (some (.ref a))/\H a=some (.dK ws)/\G a=none/\H0 a=none/\Kh K G kvs ws
 |.dicT kvs=>∃ a ws,o=some (some (.ref a))/\H a=some (dnO a ws)/\G a=none/\H0 a=none/\xG K G kvs ws
 |.own2 dss=>∃ (a:Addr)(as:List Addr),o=some (some (.ref a))/\H a=some (.lst (as.map V.ref))/\G a=none/\H0 a=none/\a ∉ as/\as.Nodup/\as.length=dss.length/\∀ (k:Nat)(b:Addr)(ds:List D),as[k]? = some b->dss[k]? = some ds->InR K H0 G H ds b
 |.ownM ms=>∃ (a:Addr)(ts as:List Addr),o=some (some (.ref a))/\H a=some (.lst (ts.map V.ref))/\G a=none/\H0 a=none/\a ∉ as/\as.Nodup/\ts.length=ms.length/\as.length=ms.length ∧
   ∀ (k:Nat)(t b:Addr)(g:Bool) (n:Int)(ds:List D),ts[k]? = some t->as[k]? = some b->ms[k]? = some (g,n,ds)->H t=some (.tup [.bl g,.int n,.ref b])/\InR K H0 G H ds b
 |.obj C fs=>∃ (a dx:Addr)(ws:List (Str×V)),o=some (some (.ref a))/\H a=some (.ins C dx ws)/\G a=none/\H0 a=none/\Kd K H0 G fs ws
 |.junk n=>∃ (a:Addr)(vs:List V),o=some (some (.ref a))/\H a=some (.lst vs)/\G a=none/\H0 a=none/\vs.length=n
theorem Kh.mono {K:PySem.W.Frag}{G G':Hp}{kvs:List (Int×D)}{ws:List (Key×V)}(e:Same G G')(h:Kh K G kvs ws):Kh K G' kvs ws:=Paired.mapP h λ_ _ q=>⟨q.1,q.2.mono e⟩
theorem xG.mono {K:PySem.W.Frag}{G G':Hp}{kvs:List (D×D)}{ws:List (NK×Addr×V)}(e:Same G G')(h:xG K G kvs ws):xG K G' kvs ws:=Paired.mapP h λ_ _ q=>⟨q.1,q.2.1.mono e,q.2.2.mono e⟩
noncomputable def Slot.foot (H:Hp)(s:Slot)(o:Option (Option V))(b:Addr):Prop:=match s with
 |.own _=>o=some (some (.ref b))
 |.dic _=>o=some (some (.ref b))
 |.dicT _=>o=some (some (.ref b))
 |.own2 _=>o=some (some (.ref b))\/∃ a vs,o=some (some (.ref a))/\H a=some (.lst vs)/\V.ref b ∈ vs
 |.obj _ _=>o=some (some (.ref b))
 |.junk _=>o=some (some (.ref b))
 |.ownM _=>o=some (some (.ref b))\/∃ a vs t ws,o=some (some (.ref a))/\H a=some (.lst vs)/\V.ref t ∈ vs/\H t=some (.tup ws)/\V.ref b ∈ ws
 |_=>False
theorem Wl {H:Hp}{s:Slot}{o:Option (Option V)}{b:Addr}(m:s.mut=true)(h:s.foot H o b):o=some (some (.ref b)):=by
 cases s<;>first | exact h | cases m
theorem WU {H:Hp}{s:Slot}{o:Option (Option V)}{b:Addr}(m:s.mut=true)(h:o=some (some (.ref b))):s.foot H o b:=by
 cases s<;>first | exact h | cases m
structure Hold (K:PySem.W.Frag)(G0 H0:Hp)(ρ:Rho)(σ:St)(G H:Hp):Prop where
 e:Ext G0 H0 G H
 b:Same H0 H
 sl:∀ (i:Nat)(s:Slot),ρ[i]? = some s->Yc K H0 G H s σ[i]?
 ds:∀ (i j:Nat)(si sj:Slot)(a:Addr),ρ[i]? = some si->ρ[j]? = some sj->si.foot H σ[i]? a->sj.foot H σ[j]? a->i=j
 len:ρ.length=σ.length
section
variable {K:PySem.W.Frag}{G0 H0:Hp}{ρ:Rho}{σ σ':St}{G H G' H':Hp}
theorem Yc.foot_in {s:Slot}{o:Option (Option V)}{b:Addr}(r:Yc K H0 G H s o)(f:s.foot H o b):NT (H b)/\G b=none/\H0 b=none:=by
 cases s with
 |un=>exact f.elim
 |fz d=>exact f.elim
 |own ds=>
  obtain⟨a,vs,e1,e2,e3,e4,_⟩:=r
  have f:o=some (some (.ref b)):=f
  rw[e1]at f
  cases f
  exact⟨NT.lst e2,e3,e4⟩
 |dic ds=>
  obtain⟨a,vs,e1,e2,e3,e4,_⟩:=r
  have f:o=some (some (.ref b)):=f
  rw[e1]at f
  cases f
  exact⟨NT.dK e2,e3,e4⟩
 |dicT ds=>
  obtain⟨a,vs,e1,e2,e3,e4,_⟩:=r
  have f:o=some (some (.ref b)):=f
  rw[e1]at f
  cases f
  exact⟨NT.ext e2,e3,e4⟩
 |own2 dss=>
  obtain⟨a,as,e1,e2,e3,e4,_,_,hl,r⟩:=r
  rcases f with f | ⟨a',vs,f1,f2,f3⟩
  ·rw[e1]at f
   cases f
   exact⟨NT.lst e2,e3,e4⟩
  ·rw[e1]at f1
   cases f1
   rw[e2]at f2
   cases f2
   obtain⟨b',hb,eb⟩:=List.mem_map.mp f3
   cases eb
   obtain⟨k,hk⟩:=List.getElem?_of_mem hb
   have hk':k<dss.length:=by rw[<-hl];exact (List.getElem?_eq_some_iff.mp hk).1
   obtain⟨vs,g1,g2,g3,_⟩:=r k b _ hk (List.getElem?_eq_getElem hk')
   exact⟨NT.lst g1,g2,g3⟩
 |obj C fs=>
  obtain⟨a,dx,ws,e1,e2,e3,e4,_⟩:=r
  have f:o=some (some (.ref b)):=f
  rw[e1]at f
  cases f
  exact⟨NT.ins e2,e3,e4⟩
 |junk n=>
  obtain⟨a,vs,e1,e2,e3,e4,_⟩:=r
  have f:o=some (some (.ref b)):=f
  rw[e1]at f
  cases f
  exact⟨NT.lst e2,e3,e4⟩
 |ownM ms=>
  obtain⟨a,ts,as,e1,e2,e3,e4,_,_,hl1,hl2,r⟩:=r
  rcases f with f | ⟨a',vs,t,ws,f1,f2,f3,f4,f5⟩
  ·rw[e1]at f
   cases f
   exact⟨NT.lst e2,e3,e4⟩
  ·rw[e1]at f1
   cases f1
   rw[e2]at f2
   cases f2
   obtain⟨t',ht,et⟩:=List.mem_map.mp f3
   cases et
   obtain⟨k,hk⟩:=List.getElem?_of_mem ht
   have hk':k<ms.length:=by rw[<-hl1];exact (List.getElem?_eq_some_iff.mp hk).1
   obtain⟨g1,vs,g2,g3,g4,_⟩:=r k t as[k] ms[k].1 ms[k].2.1 ms[k].2.2 hk (List.getElem?_eq_getElem (by omega)) (List.getElem?_eq_getElem hk')
   rw[f4]at g1
   cases g1
   have:b=as[k]:=by simpa using f5
   rw[this]
   exact⟨NT.lst g2,g3,g4⟩
theorem yY {s:Slot}{o:Option (Option V)}{b:Addr}(r:Yc K H0 G H s o)(tp:∀ t ws,H t=some (.tup ws)->H' t=some (.tup ws))(hk:∀ b,s.foot H o b->H' b=H b)(f:s.foot H' o b):s.foot H o b:=by
 cases s with
 |un=>exact f
 |fz d=>exact f
 |own ds=>exact f
 |dic ds=>exact f
 |dicT ds=>exact f
 |obj C fs=>exact f
 |junk n=>exact f
 |ownM ms=>
  rcases f with f | ⟨a,vs,t,ws,f1,f2,f3,f4,f5⟩
  ·exact .inl f
  ·have f2:=(hk a (.inl f1)).symm.trans f2
   obtain⟨a',ts,as,e1,e2,e3,e4,_,_,hl1,hl2,r⟩:=r
   rw[e1]at f1
   cases f1
   rw[e2]at f2
   cases f2
   obtain⟨t',ht,et⟩:=List.mem_map.mp f3
   cases et
   obtain⟨k,hk⟩:=List.getElem?_of_mem ht
   have hk':k<ms.length:=by rw[<-hl1];exact (List.getElem?_eq_some_iff.mp hk).1
   obtain⟨g1,_⟩:=r k t as[k] ms[k].1 ms[k].2.1 ms[k].2.2 hk (List.getElem?_eq_getElem (by omega)) (List.getElem?_eq_getElem hk')
   have:=tp _ _ g1
   rw[f4]at this
   cases this
   exact .inr ⟨a,_,t,_,e1,e2,f3,g1,f5⟩
 |own2 dss=>
  rcases f with f | ⟨a,vs,f1,f2,f3⟩
  ·exact .inl f
  ·exact .inr ⟨a,vs,f1,(hk a (.inl f1)).symm.trans f2,f3⟩
theorem Yc.keep {s:Slot}{o:Option (Option V)}(r:Yc K H0 G H s o)(tp:∀ t ws,H t=some (.tup ws)->H' t=some (.tup ws))(sg:Same G G')(hk:∀ b,s.foot H o b->H' b=H b/\G' b=none):Yc K H0 G' H' s o:=by
 cases s with
 |un=>exact trivial
 |fz d=>obtain⟨v,e1,r⟩:=r;exact⟨v,e1,r.mono sg⟩
 |own ds=>
  obtain⟨a,vs,e1,e2,e3,e4,r⟩:=r
  obtain⟨k1,k2⟩:=hk a e1
  exact⟨a,vs,e1,k1.trans e2,k2,e4,r.mono sg⟩
 |dic ds=>
  obtain⟨a,vs,e1,e2,e3,e4,r⟩:=r
  obtain⟨k1,k2⟩:=hk a e1
  exact⟨a,vs,e1,k1.trans e2,k2,e4,r.mono sg⟩
 |dicT ds=>
  obtain⟨a,vs,e1,e2,e3,e4,r⟩:=r
  obtain⟨k1,k2⟩:=hk a e1
  exact⟨a,vs,e1,k1.trans e2,k2,e4,r.mono sg⟩
 |own2 dss=>
  obtain⟨a,as,e1,e2,e3,e4,n1,n2,hl,r⟩:=r
  obtain⟨k1,k2⟩:=hk a (.inl e1)
  refine⟨a,as,e1,k1.trans e2,k2,e4,n1,n2,hl,λk b ds h1 h2=>?_⟩
  obtain⟨vs,g1,g2,g3,g4⟩:=r k b ds h1 h2
  obtain⟨j1,j2⟩:=hk b (.inr ⟨a,_,e1,e2,List.mem_map_of_mem (List.mem_of_getElem? h1)⟩)
  exact⟨vs,j1.trans g1,j2,g3,g4.mono sg⟩
 |obj C fs=>
  obtain⟨a,dx,ws,e1,e2,e3,e4,r⟩:=r
  obtain⟨k1,k2⟩:=hk a e1
  exact⟨a,dx,ws,e1,k1.trans e2,k2,e4,r.mono sg⟩
 |junk n=>
  obtain⟨a,vs,e1,e2,e3,e4,e5⟩:=r
  obtain⟨k1,k2⟩:=hk a e1
  exact⟨a,vs,e1,k1.trans e2,k2,e4,e5⟩
 |ownM ms=>
  obtain⟨a,ts,as,e1,e2,e3,e4,n1,n2,hl1,hl2,r⟩:=r
  obtain⟨k1,k2⟩:=hk a (.inl e1)
  refine⟨a,ts,as,e1,k1.trans e2,k2,e4,n1,n2,hl1,hl2,λk t b g n ds h1 h2 h3=>?_⟩
  obtain⟨g0,vs,g1,g2,g3,g4⟩:=r k t b g n ds h1 h2 h3
  obtain⟨j1,j2⟩:=hk b (.inr ⟨a,_,t,_,e1,e2,List.mem_map_of_mem (List.mem_of_getElem? h1),g0,by simp⟩)
  exact⟨tp _ _ g0,vs,j1.trans g1,j2,g3,g4.mono sg⟩
theorem YD {α:Type}{l:List α}{i j:Nat}{x y:α}(h:(l.set i x)[j]? = some y):(j=i/\i<l.length/\y=x)\/(j≠i/\l[j]? = some y):=by
 by_cases e:j=i
 ·subst e
  rw[List.getElem?_set_self']at h
  cases q:l[j]? with
  |none=>rw[q]at h;simp at h
  |some z=>
   rw[q]at h
   simp at h
   exact .inl ⟨rfl,(List.getElem?_eq_some_iff.mp q).1,h.symm⟩
 ·rw[List.getElem?_set_ne (Ne.symm e)]at h
  exact .inr ⟨e,h⟩
theorem xa {α:Type}{l:List α}{i:Nat}{x:α}(h:i<l.length):(l.set i x)[i]? = some x:=by
 rw[List.getElem?_set_self h]
theorem Hold.grow (h:Hold K G0 H0 ρ σ G H)(x:Ext G H G' H')(hs:Same H H'):Hold K G0 H0 ρ σ G' H':=by
 have kp:∀ (i:Nat)(s:Slot),ρ[i]? = some s->∀ b,s.foot H σ[i]? b->H' b=H b/\G' b=none:=λi s e b f=>by
  obtain⟨g1,g2,g3⟩:=(h.sl i s e).foot_in f
  refine⟨?_,x.n b g1 g2⟩
  cases q:H b with
  |none=>exact absurd q g1.1
  |some o=>exact hs _ _ q
 have tp:∀ t ws,H t=some (.tup ws)->H' t=some (.tup ws):=λ_ _ q=>hs _ _ q
 refine⟨h.e.trans x,h.b.trans hs,λi s e=>(h.sl i s e).keep tp x.g (kp i s e),λi j si sj a e1 e2 f1 f2=>?_,h.len⟩
 exact h.ds i j si sj a e1 e2 (yY (h.sl i si e1) tp (λb f=>(kp i si e1 b f).1) f1) (yY (h.sl j sj e2) tp (λb f=>(kp j sj e2 b f).1) f2)
theorem Hold.put {i:Nat}{s':Slot}(h:Hold K G0 H0 ρ σ G H)(tp:∀ t ws,H t=some (.tup ws)->H' t=some (.tup ws))(x:Ext G0 H0 G' H')(b:Same H0 H')(sg:Same G G')
  (keep:∀ (j:Nat)(t:Slot)(c:Addr),j≠i->ρ[j]? = some t->t.foot H σ[j]? c->H' c=H c/\G' c=none)(hσ:∀ j,j≠i->σ'[j]? = σ[j]?)(hl:σ'.length=σ.length)
  (r:i<ρ.length->Yc K H0 G' H' s' σ'[i]?)(f:∀ (c:Addr),s'.foot H' σ'[i]? c->∀ (j:Nat)(t:Slot),j≠i->ρ[j]? = some t->¬ t.foot H σ[j]? c):Hold K G0 H0 (ρ.set i s') σ' G' H':=by
 refine⟨x,b,λj t e=>?_,λj k sj sk a e1 e2 f1 f2=>?_,by rw[List.length_set,hl];exact h.len⟩
 ·rcases YD e with ⟨rfl,hl,rfl⟩ | ⟨ne,e⟩
  ·exact r hl
  ·rw[hσ j ne]
   exact (h.sl j t e).keep tp sg λc fc=>keep j t c ne e fc
 ·rcases YD e1 with ⟨rfl,hl1,rfl⟩ | ⟨n1,q1⟩
  ·rcases YD e2 with ⟨rfl,_,rfl⟩ | ⟨n2,e2⟩
   ·rfl
   ·rw[hσ k n2]at f2
    exact absurd (yY (h.sl k sk e2) tp (λc fc=>(keep k sk c n2 e2 fc).1) f2) (f a f1 k sk n2 e2)
  ·skip
   rw[hσ j n1]at f1
   have f1:=yY (h.sl j sj q1) tp (λc fc=>(keep j sj c n1 q1 fc).1) f1
   rcases YD e2 with ⟨rfl,_,rfl⟩ | ⟨n2,e2⟩
   ·exact absurd f1 (f a f2 j sj n1 q1)
   ·rw[hσ k n2]at f2
    exact h.ds j k sj sk a q1 e2 f1 (yY (h.sl k sk e2) tp (λc fc=>(keep k sk c n2 e2 fc).1) f2)
theorem Hold.setFz {i:Nat}{d:D}{v:V}(h:Hold K G0 H0 ρ σ G H)(r:Rep K G d v):Hold K G0 H0 (ρ.set i (.fz d)) (σ.set i (some v)) G H:=
 h.put (λ_ _ q=>q) h.e h.b (Same.refl _) (λj t c _ e f=>⟨rfl,((h.sl j t e).foot_in f).2.1⟩) (λj n=>List.getElem?_set_ne (Ne.symm n)) (by rw[List.length_set]) (λhl=>⟨v,xa (by rw[<-h.len];exact hl),r⟩) λc f=>f.elim
theorem Hold.mutAt {j:Nat}{s:Slot}{a:Addr}(h:Hold K G0 H0 ρ σ G H)(e:ρ[j]? = some s)(m:s.foot H σ[j]? a):H a≠none:=((h.sl j s e).foot_in m).1.1
theorem Hold.setNew {i:Nat}{s:Slot}{p:Addr}{o:HO}(h:Hold K G0 H0 ρ σ G H)(hp:H p=none)
  (r:Yc K H0 G (upd H p o) s (some (some (.ref p))))(m:s.mut=true):Hold K G0 H0 (ρ.set i s) (σ.set i (some (.ref p))) G (upd H p o):=by
 have hs:Same H (upd H p o):=Same.upd hp
 refine h.put (λ_ _ q=>hs _ _ q) ⟨h.e.g,λb u e=>hs _ _ (h.e.s _ _ e),h.e.n,h.b.trans hs⟩ (h.b.trans hs) (Same.refl _) (λj t c _ e f=>⟨upd_ne λz=>h.mutAt e f (by rw[z];exact hp),((h.sl j t e).foot_in f).2.1⟩) (λj n=>List.getElem?_set_ne (Ne.symm n)) (by rw[List.length_set])
  (λhl=>by rw[xa (by rw[<-h.len];exact hl)];exact r) λc f j t n e f'=>?_
 ·by_cases hl:i<σ.length
  ·rw[xa hl]at f
   have:=Wl m f
   cases this
   exact h.mutAt e f' hp
  ·rw[List.getElem?_eq_none (by rw[List.length_set];omega)]at f
   have:=Wl m f
   cases this
theorem Hold.setAt {i:Nat}{s s':Slot}{a:Addr}{o:HO}(h:Hold K G0 H0 ρ σ G H)(e:ρ[i]? = some s)(fa:s.foot H σ[i]? a)
  (r:Yc K H0 G (upd H a o) s' σ[i]?)(f':∀ c,s'.foot (upd H a o) σ[i]? c->s.foot H σ[i]? c):Hold K G0 H0 (ρ.set i s') σ G (upd H a o):=by
 obtain⟨na,ga,h0⟩:=(h.sl i s e).foot_in fa
 have keep:∀ b u,b≠a->H b=some u->upd H a o b=some u:=λb u n q=>by rw[upd_ne n];exact q
 refine h.put (λt ws q=>keep t _ (λz=>na.2 ws (by rw[<-z];exact q)) q) ⟨h.e.g,λb u q=>keep b u (ne_of_none q ga) (h.e.s _ _ q),h.e.n,λb u q=>keep b u (ne_of_none q h0) (h.b _ _ q)⟩ (λb u q=>keep b u (ne_of_none q h0) (h.b _ _ q)) (Same.refl _)
  (λj t c n q f=>⟨upd_ne λz=>n (h.ds j i t s c q e f (by rw[z];exact fa)),((h.sl j t q).foot_in f).2.1⟩) (λ_ _=>rfl) rfl (λ_=>r) λc fc j t n q f=>n (h.ds j i t s c q e f (f' c fc))
theorem Hold.setMut {i:Nat}{s s':Slot}{a:Addr}{o:HO}(h:Hold K G0 H0 ρ σ G H)(e:ρ[i]? = some s)(m:s.mut=true)(ea:σ[i]? = some (some (.ref a)))(ga:G a=none)(h0:H0 a=none)
  (r:Yc K H0 G (upd H a o) s' (some (some (.ref a))))(m':s'.mut=true):Hold K G0 H0 (ρ.set i s') σ G (upd H a o):=
 h.setAt e (WU m ea) (by rw[ea];exact r) λc fc=>WU m (Wl m' fc)
theorem Hold.freeze {i:Nat}{s:Slot}{d:D}{a:Addr}{o:HO}(h:Hold K G0 H0 ρ σ G H)(e:ρ[i]? = some s)(m:s.mut=true)(ea:σ[i]? = some (some (.ref a)))(ha:H a=some o)(ga:G a=none)(h0:H0 a=none)
  (r:Rep K (upd G a o) d (.ref a)):Hold K G0 H0 (ρ.set i (.fz d)) σ (upd G a o) H/\Same G (upd G a o):=by
 have hg:Same G (upd G a o):=Same.upd ga
 refine⟨h.put (λ_ _ q=>q) ⟨h.e.g.trans hg,λb u q=>?_,λb hb q=>?_,h.e.t⟩ h.b hg (λj t c n q f=>⟨rfl,?_⟩) (λ_ _=>rfl) rfl (λ_=>⟨_,ea,r⟩) λc f=>f.elim,hg⟩
 ·by_cases z:b=a
  ·subst z;rw[upd_same]at q;rw[ha];exact q
  ·rw[upd_ne z]at q;exact h.e.s _ _ q
 ·rw[upd_ne (λz=>hb.1 (by rw[z];exact h0))];exact h.e.n b hb q
 ·rw[upd_ne λz=>n (h.ds j i t s c q e f (by rw[z];exact WU m ea))]
  exact ((h.sl j t q).foot_in f).2.1
end
end PM
namespace PM
open PySem PySem.Spec PyProof.Rows L2
noncomputable abbrev TX (β:Type):=St->Hp->(β->Hp->Prop)->Prop
section
variable (K:PySem.W.Frag)(E:XK)
noncomputable def Uz {α β:Type}(rel:Hp->α->β->Prop)(G0 H0:Hp)(σ:St)(G:Hp)(r:Res α)(Q:β->Hp->Prop):Prop:=match r with
 |.ok a ρ'=>∀ b G' H',Same G G'->Hold K G0 H0 ρ' σ G' H'->rel G' a b->Q b H'
 |.exn c ρ'=>∀ G' H',Same G G'->Hold K G0 H0 ρ' σ G' H'->E (.ref c) none H'
 |.bad=>False
noncomputable def RAt {α β:Type}(rel:Hp->α->β->Prop)(t:TX β)(r:Res α)(G0 H0:Hp)(σ:St)(G H:Hp):Prop:=∀ Q,Uz K E rel G0 H0 σ G r Q->t σ H Q
noncomputable def RA {α β:Type}(rel:Hp->α->β->Prop)(t:TX β)(m:M α):Prop:=∀ G0 H0 ρ σ G H,Hold K G0 H0 ρ σ G H->RAt K E rel t (m ρ) G0 H0 σ G H
noncomputable def RE (t:TE)(m:M D):Prop:=RA K E (λG d v=>Rep K G d v) t m
noncomputable def RT (t:TT)(m:M Bool):Prop:=RA K E (λ_ a b=>b=a) t m
noncomputable def RL (t:TA)(m:M (List D)):Prop:=RA K E (λG ds vs=>zL K G ds vs) t m
noncomputable def zp (G0 H0 G:Hp)(r:Res Fl)(D:Ends):Prop:=match r with
 |.ok .nx ρ'=>∀ σ' G' H',Same G G'->Hold K G0 H0 ρ' σ' G' H'->D.nx σ' H'
 |.ok (.ret d) ρ'=>∀ v σ' G' H',Same G G'->Hold K G0 H0 ρ' σ' G' H'->Rep K G' d v->D.rt v H'
 |.ok .brk ρ'=>∀ σ' G' H',Same G G'->Hold K G0 H0 ρ' σ' G' H'->D.bk σ' H'
 |.ok .cont ρ'=>∀ σ' G' H',Same G G'->Hold K G0 H0 ρ' σ' G' H'->D.ct σ' H'
 |.exn c ρ'=>∀ σ' G' H',Same G G'->Hold K G0 H0 ρ' σ' G' H'->E (.ref c) none H'
 |.bad=>False
noncomputable def RSt (t:TS)(r:Res Fl)(G0 H0:Hp)(σ:St)(G H:Hp):Prop:=∀ D,zp K E G0 H0 G r D->t D σ H
noncomputable def RS (t:TS)(m:M Fl):Prop:=∀ G0 H0 ρ σ G H,Hold K G0 H0 ρ σ G H->RSt K E t (m ρ) G0 H0 σ G H
noncomputable def RG (g:TG)(gm:GM):Prop:=∀ G0 H0 ρ σ G H d v (Q:St->Hp->Prop),Hold K G0 H0 ρ σ G H->Rep K G d v ->
 (∃ ρ',gm d ρ=some ρ'/\∀ σ' G' H',Same G G'->Hold K G0 H0 ρ' σ' G' H'->Q σ' H')->g v σ H Q
noncomputable def OpM (r:R2)(f:D->D->Option D):Prop:=∀ (G H:Hp)(x y:V)(dx dy d:D)(Q:VK),Same G H->Rep K G dx x->Rep K G dy y->f dx dy=some d ->
 (∀ v G' H',Ext G H G' H'->Same H H'->Rep K G' d v->Q v H')->r x y H Q
noncomputable def UnM (r:V->Hp->VK->Prop)(f:D->Option D):Prop:=∀ (G H:Hp)(x:V)(dx d:D)(Q:VK),Same G H->Rep K G dx x->f dx=some d ->
 (∀ v G' H',Ext G H G' H'->Same H H'->Rep K G' d v->Q v H')->r x H Q
noncomputable def ClM (r:List V->Hp->VK->Prop)(f:List D->Option D):Prop:=∀ (G H:Hp)(xs:List V)(ds:List D)(d:D)(Q:VK),Same G H->zL K G ds xs->f ds=some d ->
 (∀ v G' H',Ext G H G' H'->Same H H'->Rep K G' d v->Q v H')->r xs H Q
noncomputable def spM (n:Nat)(F:List D->FR):Sp:=λvs H Q E=>vs.length=n/\∃ G ds,Same G H/\zL K G ds vs/\(match F ds with
 |.ok d=>∀ v G' H',Ext G H G' H'->Same H H'->Rep K G' d v->Q v H'
 |.exn c=>∀ G' H',Ext G H G' H'->Same H H'->E (.ref c) none H'
 |.bad=>False)
end
section
variable {K:PySem.W.Frag}{E:XK}{G0 H0:Hp}{ρ:Rho}{σ:St}{G H:Hp}
theorem Uz.mono {α β:Type}{rel:Hp->α->β->Prop}{r:Res α}{Q:β->Hp->Prop}{G':Hp}(s:Same G G')(h:Uz K E rel G0 H0 σ G r Q):Uz K E rel G0 H0 σ G' r Q:=by
 cases r with
 |ok a ρ'=>exact λb G2 H2 s2=>h b G2 H2 (s.trans s2)
 |exn c ρ'=>exact λG2 H2 s2=>h G2 H2 (s.trans s2)
 |bad=>exact h
theorem zp.mono {r:Res Fl}{D:Ends}{G':Hp}(s:Same G G')(h:zp K E G0 H0 G r D):zp K E G0 H0 G' r D:=by
 cases r with
 |ok f ρ'=>
  cases f with
  |nx=>exact λσ2 G2 H2 s2=>h σ2 G2 H2 (s.trans s2)
  |ret d=>exact λv σ2 G2 H2 s2=>h v σ2 G2 H2 (s.trans s2)
  |brk=>exact λσ2 G2 H2 s2=>h σ2 G2 H2 (s.trans s2)
  |cont=>exact λσ2 G2 H2 s2=>h σ2 G2 H2 (s.trans s2)
 |exn c ρ'=>exact λσ2 G2 H2 s2=>h σ2 G2 H2 (s.trans s2)
 |bad=>exact h
theorem RAt.bind {α β γ δ:Type}{r1:Hp->α->β->Prop}{r2:Hp->δ->γ->Prop}{r:Res α}{k:α->Rho->Res δ}{t1:TX β}{t2:β->TX γ}(h1:RAt K E r1 t1 r G0 H0 σ G H)
  (h2:∀ a ρ' b G' H',Same G G'->Hold K G0 H0 ρ' σ G' H'->r1 G' a b->RAt K E r2 (t2 b) (k a ρ') G0 H0 σ G' H') :
  RAt K E r2 (λσ H Q=>t1 σ H λb H1=>t2 b σ H1 Q) (r.bnd k) G0 H0 σ G H:=by
 intro Q hQ
 apply h1
 cases r with
 |ok a ρ'=>exact λb G' H' s ho rl=>h2 a ρ' b G' H' s ho rl Q (Uz.mono s hQ)
 |exn c ρ'=>exact hQ
 |bad=>exact hQ
theorem RSt.bind {α β:Type}{r1:Hp->α->β->Prop}{r:Res α}{k:α->Rho->Res Fl}{t1:TX β}{t2:β->TS}(h1:RAt K E r1 t1 r G0 H0 σ G H)
  (h2:∀ a ρ' b G' H',Same G G'->Hold K G0 H0 ρ' σ G' H'->r1 G' a b->RSt K E (t2 b) (k a ρ') G0 H0 σ G' H') :
  RSt K E (λD σ H=>t1 σ H λb H1=>t2 b D σ H1) (r.bnd k) G0 H0 σ G H:=by
 intro D hD
 apply h1
 cases r with
 |ok a ρ'=>exact λb G' H' s ho rl=>h2 a ρ' b G' H' s ho rl D (zp.mono s hD)
 |exn c ρ'=>exact λG' H' s ho=>hD σ G' H' s ho
 |bad=>exact hD
theorem RAt.done {α β:Type}{rel:Hp->α->β->Prop}{a:α}{b:β}(h:Hold K G0 H0 ρ σ G H)(r:rel G a b):RAt K E rel (λ_ H Q=>Q b H) (.ok a ρ) G0 H0 σ G H:=
 λQ hQ=>hQ b G H (Same.refl _) h r
theorem RAt.opt {α β δ:Type}{rel:Hp->δ->β->Prop}{t:TX β}{o:Option α}{k:α->Rho->Res δ}(h:∀ a,o=some a->RAt K E rel t (k a ρ) G0 H0 σ G H):RAt K E rel t ((zU o ρ).bnd k) G0 H0 σ G H:=by
 cases o with
 |none=>exact λQ hQ=>hQ.elim
 |some a=>exact h a rfl
theorem RAt.opt1 {β α:Type}{rel:Hp->α->β->Prop}{t:TX β}{o:Option α}(h:∀ a,o=some a->RAt K E rel t (.ok a ρ) G0 H0 σ G H):RAt K E rel t (zU o ρ) G0 H0 σ G H:=by
 cases o with
 |none=>exact λQ hQ=>hQ.elim
 |some a=>exact h a rfl
theorem RSt.opt {α:Type}{t:TS}{o:Option α}{k:α->Rho->Res Fl}(h:∀ a,o=some a->RSt K E t (k a ρ) G0 H0 σ G H):RSt K E t ((zU o ρ).bnd k) G0 H0 σ G H:=by
 cases o with
 |none=>exact λQ hQ=>hQ.elim
 |some a=>exact h a rfl
theorem Jb {o:Option Slot}{d:D}(h:KO o=some d):o=some (.fz d):=by
 cases o with
 |none=>cases h
 |some s=>cases s<;>first | (cases h;rfl) | cases h
theorem ZN {o:Option Slot}{d:List D}(h:zY o=some d):o=some (.own d):=by
 cases o with
 |none=>cases h
 |some s=>cases s<;>first | (cases h;rfl) | cases h
end
section
variable {K:PySem.W.Frag}{E:XK}
theorem zAN {i:Nat}:RE K E (tVar i) (vM i):=by
 intro G0 H0 ρ σ G H ho
 refine RAt.opt1 λd e=>?_
 obtain⟨v,e1,r⟩:=ho.sl i _ (Jb e)
 intro Q hQ
 exact⟨v,e1,hQ v G H (Same.refl _) ho r⟩
theorem QF {v:V}{d:D}(r:∀ G,Rep K G d v):RE K E (tC v) (cM d):=λG0 H0 ρ σ G H ho=>RAt.done ho (r G)
theorem qF {r:R2}{f:D->D->Option D}{ta tb:TE}{ma mb:M D}(hr:OpM K r f)(ha:RE K E ta ma)(hb:RE K E tb mb):RE K E (tOp r ta tb) (op2 f ma mb):=by
 intro G0 H0 ρ σ G H ho
 refine RAt.bind (t2:=λx σ H1 Q=>tb σ H1 λy H2=>r x y H2 Q) (ha G0 H0 ρ σ G H ho) λdx ρ1 x G1 H1 s1 h1 r1=>?_
 refine RAt.bind (t2:=λy σ H2 Q=>r x y H2 Q) (hb G0 H0 ρ1 σ G1 H1 h1) λdy ρ2 y G2 H2 s2 h2 r2=>?_
 refine RAt.opt1 λd e=>?_
 intro Q hQ
 exact hr G2 H2 x y dx dy d Q h2.e.s (r1.mono s2) r2 e λv G' H' x' hs rv=>hQ v G' H' x'.g (h2.grow x' hs) rv
theorem zBD {r:V->Hp->VK->Prop}{f:D->Option D}{ta:TE}{ma:M D}(hr:UnM K r f)(ha:RE K E ta ma):RE K E (tUn r ta) (op1 f ma):=by
 intro G0 H0 ρ σ G H ho
 refine RAt.bind (t2:=λx σ H1 Q=>r x H1 Q) (ha G0 H0 ρ σ G H ho) λdx ρ1 x G1 H1 s1 h1 r1=>?_
 refine RAt.opt1 λd e=>?_
 intro Q hQ
 exact hr G1 H1 x dx d Q h1.e.s r1 e λv G' H' x' hs rv=>hQ v G' H' x'.g (h1.grow x' hs) rv
theorem UQ:RL K E tNil (zm []):=λG0 H0 ρ σ G H ho=>RAt.done ho zL.nil
theorem qE {ta:TE}{tr:TA}{ma:M D}{mr:List (M D)}(ha:RE K E ta ma)(hr:RL K E tr (zm mr)):RL K E (tCons ta tr) (zm (ma::mr)):=by
 intro G0 H0 ρ σ G H ho
 refine RAt.bind (t2:=λx σ H1 Q=>tr σ H1 λxs H2=>Q (x::xs) H2) (ha G0 H0 ρ σ G H ho) λdx ρ1 x G1 H1 s1 h1 r1=>?_
 refine RAt.bind (t2:=λxs σ H2 Q=>Q (x::xs) H2) (hr G0 H0 ρ1 σ G1 H1 h1) λds ρ2 xs G2 H2 s2 h2 r2=>?_
 exact RAt.done h2 (zL.cons (r1.mono s2) r2)
theorem v7:∀ {as:List (M D)}{ρ ρ':Rho}{ds:List D},zm as ρ=.ok ds ρ'->ds.length=as.length
 |[],_,_,_,h=>by cases h;rfl
 |a::r,ρ,ρ',ds,h=>by
  unfold zm at h
  cases e:a ρ with
  |ok x ρ1=>
   rw[e]at h
   simp only[Res.bnd]at h
   cases e2:zm r ρ1 with
   |ok xs ρ2=>
    rw[e2]at h
    cases h
    simp[v7 e2]
   |exn c ρ2=>rw[e2]at h;cases h
   |bad=>rw[e2]at h;cases h
  |exn c ρ1=>rw[e]at h;cases h
  |bad=>rw[e]at h;cases h
theorem zL.ln {G:Hp}{ds:List D}{vs:List V}(h:zL K G ds vs):vs.length=ds.length:=h.len.symm
theorem qG {n:Nat}{F:List D->FR}{ta:TA}{as:List (M D)}(ha:RL K E ta (zm as))(hn:as.length=n):RE K E (tCall (spM K n F) [] E ta) (zK F as):=by
 intro G0 H0 ρ σ G H ho
 intro Q hQ
 unfold zK at hQ
 refine ha G0 H0 ρ σ G H ho _ ?_
 cases e:zm as ρ with
 |ok ds ρ1=>
  rw[e]at hQ
  intro vs G1 H1 s1 h1 r1
  refine⟨by rw[List.append_nil,r1.ln,v7 e];exact hn,G1,ds,h1.e.s,by rw[List.append_nil];exact r1,?_⟩
  have hQ':Uz K E (λG d v=>Rep K G d v) G0 H0 σ G ((F ds).to ρ1) Q:=hQ
  cases q:F ds with
  |ok d=>rw[q]at hQ';exact λv G' H' x hs rv=>hQ' v G' H' (s1.trans x.g) (h1.grow x hs) rv
  |exn c=>rw[q]at hQ';exact λG' H' x hs=>hQ' G' H' (s1.trans x.g) (h1.grow x hs)
  |bad=>rw[q]at hQ';exact hQ'
 |exn c ρ1=>rw[e]at hQ;exact hQ
 |bad=>rw[e]at hQ;exact hQ
theorem uE {r:List V->Hp->VK->Prop}{f:List D->Option D}{ta:TA}{as:List (M D)}(hr:ClM K r f)(ha:RL K E ta (zm as)):RE K E (tCB r ta) (za f as):=by
 intro G0 H0 ρ σ G H ho
 refine RAt.bind (t2:=λvs σ H1 Q=>r vs H1 Q) (ha G0 H0 ρ σ G H ho) λds ρ1 vs G1 H1 s1 h1 r1=>?_
 refine RAt.opt1 λd e=>?_
 intro Q hQ
 exact hr G1 H1 vs ds d Q h1.e.s r1 e λv G' H' x' hs rv=>hQ v G' H' x'.g (h1.grow x' hs) rv
theorem zAO {ta:TA}{as:List (M D)}(ha:RL K E ta (zm as)):RE K E (tTup ta) (ZP as):=by
 intro G0 H0 ρ σ G H ho
 refine RAt.bind (t2:=λxs σ H1 (Q:VK)=>xs.length<=sizeLine/\∀ p,H1 p=none->Q (V.ref p) (upd H1 p (.tup xs))) (ha G0 H0 ρ σ G H ho) λds ρ1 vs G1 H1 s1 h1 r1=>?_
 intro Q hQ
 split at hQ
 ·rename_i hz
  refine⟨by rw[r1.ln];exact hz,λp hp=>?_⟩
  have x:=Ext.new (o:=.tup vs) h1.e.s hp
  refine hQ _ (upd G1 p (.tup vs)) _ x.g (h1.grow x (Same.upd hp)) ?_
  unfold Rep
  exact⟨p,vs,rfl,SqT.of upd_same,r1.mono x.g⟩
 ·exact hQ.elim
theorem zAQ {ta:TA}{as:List (M D)}(ha:RL K E ta (zm as)):RE K E (tLst ta) (lstM as):=by
 intro G0 H0 ρ σ G H ho
 refine RAt.bind (t2:=λxs σ H1 (Q:VK)=>xs.length<=sizeLine/\∀ p,H1 p=none->Q (V.ref p) (upd H1 p (.lst xs))) (ha G0 H0 ρ σ G H ho) λds ρ1 vs G1 H1 s1 h1 r1=>?_
 intro Q hQ
 split at hQ
 ·rename_i hz
  refine⟨by rw[r1.ln];exact hz,λp hp=>?_⟩
  have x:=Ext.new (o:=.lst vs) h1.e.s hp
  refine hQ _ (upd G1 p (.lst vs)) _ x.g (h1.grow x (Same.upd hp)) ?_
  unfold Rep
  exact⟨p,vs,rfl,SqL.of upd_same,r1.mono x.g⟩
 ·exact hQ.elim
theorem qD {t:TE}{m:M D}(h:RE K E t m):RT K E (tB t) (zO zQ m):=by
 intro G0 H0 ρ σ G H ho
 refine RAt.bind (t2:=λx σ H1 Q=>∃ c,x=.bl c/\Q c H1) (h G0 H0 ρ σ G H ho) λd ρ1 v G1 H1 s1 h1 r1=>?_
 refine RAt.opt1 λb e=>?_
 intro Q hQ
 cases d<;>first | cases e | skip
 unfold Rep at r1
 exact⟨_,r1,hQ _ G1 H1 (Same.refl _) h1 rfl⟩
theorem qA {t:TE}{m:M D}(h:RE K E t m):RT K E (tTest t) (zO zQ m):=qD h
theorem zBB {t u:TT}{a b:M Bool}(ha:RT K E t a)(hb:RT K E u b):RT K E (tOr t u) (orM a b):=by
 intro G0 H0 ρ σ G H ho
 refine RAt.bind (t2:=λc σ H1 Q=>if c=true then Q true H1 else u σ H1 Q) (ha G0 H0 ρ σ G H ho) λx ρ1 c G1 H1 s1 h1 r1=>?_
 subst r1
 intro Q hQ
 cases c with
 |true=>rw[if_pos rfl]at hQ ⊢;exact hQ _ G1 H1 (Same.refl _) h1 rfl
 |false=>rw[if_neg (by simp)]at hQ ⊢;exact hb G0 H0 ρ1 σ G1 H1 h1 Q hQ
theorem zAE {t:TT}{a:M Bool}(ha:RT K E t a):RT K E (tNot t) (Xw a):=by
 intro G0 H0 ρ σ G H ho
 refine RAt.bind (t2:=λc σ H1 Q=>Q (!c) H1) (ha G0 H0 ρ σ G H ho) λx ρ1 c G1 H1 s1 h1 r1=>?_
 subst r1
 exact RAt.done h1 rfl
theorem zAS {t:TT}{ta tb:TE}{c:M Bool}{a b:M D}(hc:RT K E t c)(ha:RE K E ta a)(hb:RE K E tb b):RE K E (tIf t ta tb) (YY c a b):=by
 intro G0 H0 ρ σ G H ho
 refine RAt.bind (t2:=λc σ H1 Q=>if c=true then ta σ H1 Q else tb σ H1 Q) (hc G0 H0 ρ σ G H ho) λx ρ1 c G1 H1 s1 h1 r1=>?_
 subst r1
 intro Q hQ
 cases c with
 |true=>rw[if_pos rfl]at hQ ⊢;exact ha G0 H0 ρ1 σ G1 H1 h1 Q hQ
 |false=>rw[if_neg (by simp)]at hQ ⊢;exact hb G0 H0 ρ1 σ G1 H1 h1 Q hQ
theorem ka {ta tb:TE}{a b:M D}(ha:RE K E ta a)(hb:RE K E tb b):RE K E (tAndV ta tb) (W9 a b):=by
 intro G0 H0 ρ σ G H ho
 refine RAt.bind (t2:=λx σ H1 Q=>∃ c,x=.bl c/\if c=true then tb σ H1 Q else Q (.bl false) H1) (ha G0 H0 ρ σ G H ho) λd ρ1 v G1 H1 s1 h1 r1=>?_
 refine RAt.opt λk e=>?_
 intro Q hQ
 cases d<;>first | cases e | skip
 unfold Rep at r1
 refine⟨_,r1,?_⟩
 cases k with
 |true=>rw[if_pos rfl]at hQ ⊢;exact hb G0 H0 ρ1 σ G1 H1 h1 Q hQ
 |false=>rw[if_neg (by simp)]at hQ ⊢;exact hQ _ G1 H1 (Same.refl _) h1 (by unfold Rep;rfl)
theorem zAP {ta tb:TE}{a b:M D}(ha:RE K E ta a)(hb:RE K E tb b):RE K E (tOrV ta tb) (orV a b):=by
 intro G0 H0 ρ σ G H ho
 refine RAt.bind (t2:=λx σ H1 Q=>∃ c,x=.bl c/\if c=true then Q (.bl true) H1 else tb σ H1 Q) (ha G0 H0 ρ σ G H ho) λd ρ1 v G1 H1 s1 h1 r1=>?_
 refine RAt.opt λk e=>?_
 intro Q hQ
 cases d<;>first | cases e | skip
 unfold Rep at r1
 refine⟨_,r1,?_⟩
 cases k with
 |true=>rw[if_pos rfl]at hQ ⊢;exact hQ _ G1 H1 (Same.refl _) h1 (by unfold Rep;rfl)
 |false=>rw[if_neg (by simp)]at hQ ⊢;exact hb G0 H0 ρ1 σ G1 H1 h1 Q hQ
theorem kX {ta:TE}{a:M D}(ha:RE K E ta a):RE K E (tNotV ta) (WQ a):=by
 intro G0 H0 ρ σ G H ho
 refine RAt.bind (t2:=λx σ H1 (Q:VK)=>∃ c,x=V.bl c/\Q (V.bl (!c)) H1) (ha G0 H0 ρ σ G H ho) λd ρ1 v G1 H1 s1 h1 r1=>?_
 refine RAt.opt λk e=>?_
 intro Q hQ
 cases d<;>first | cases e | skip
 unfold Rep at r1
 exact⟨_,r1,hQ _ G1 H1 (Same.refl _) h1 (by unfold Rep;rfl)⟩
theorem kP:RS K E tNext nxM:=λG0 H0 ρ σ G H ho D hD=>hD σ G H (Same.refl _) ho
theorem zAG {t u:TS}{a b:M Fl}(ha:RS K E t a)(hb:RS K E u b):RS K E (tSeq t u) (zG a b):=by
 intro G0 H0 ρ σ G H ho D hD
 refine ha G0 H0 ρ σ G H ho _ ?_
 unfold zG at hD
 cases e:a ρ with
 |ok f ρ1=>
  rw[e]at hD
  cases f with
  |nx=>
   have hD':zp K E G0 H0 G (b ρ1) D:=by simpa[Res.bnd,Fl.isNx] using hD
   exact λσ1 G1 H1 s1 h1=>hb G0 H0 ρ1 σ1 G1 H1 h1 D (zp.mono s1 hD')
  |ret d=>exact hD
  |brk=>exact hD
  |cont=>exact hD
 |exn c ρ1=>rw[e]at hD;exact hD
 |bad=>rw[e]at hD;exact hD
theorem kT {te:TE}{m:M D}(he:RE K E te m):RS K E (tDrop te) (yf m):=by
 intro G0 H0 ρ σ G H ho
 refine RSt.bind (t2:=λ_ D σ H1=>D.nx σ H1) (he G0 H0 ρ σ G H ho) λd ρ1 v G1 H1 s1 h1 r1=>?_
 exact λD hD=>hD σ G1 H1 (Same.refl _) h1
theorem zAH {te:TE}{m:M D}(he:RE K E te m):RS K E (tRet te) (zz m):=by
 intro G0 H0 ρ σ G H ho
 refine RSt.bind (t2:=λv D σ H1=>D.rt v H1) (he G0 H0 ρ σ G H ho) λd ρ1 v G1 H1 s1 h1 r1=>?_
 exact λD hD=>hD v σ G1 H1 (Same.refl _) h1 r1
theorem zBC {t:TT}{u w:TS}{c:M Bool}{a b:M Fl}(hc:RT K E t c)(ha:RS K E u a)(hb:RS K E w b):RS K E (tIfS t u w) (ifM c a b):=by
 intro G0 H0 ρ σ G H ho
 refine RSt.bind (t2:=λb D σ H1=>if b=true then u D σ H1 else w D σ H1) (hc G0 H0 ρ σ G H ho) λx ρ1 k G1 H1 s1 h1 r1=>?_
 subst r1
 intro D hD
 cases k with
 |true=>rw[if_pos rfl]at hD ⊢;exact ha G0 H0 ρ1 σ G1 H1 h1 D hD
 |false=>rw[if_neg (by simp)]at hD ⊢;exact hb G0 H0 ρ1 σ G1 H1 h1 D hD
theorem kW {i:Nat}:RG K (gName i) (ZC i):=λG0 H0 ρ σ G H d v Q ho r ⟨ρ',e,hQ⟩=>by cases e;exact hQ _ G H (Same.refl _) (ho.setFz r)
theorem zAK {te:TE}{m:M D}{g:TG}{gm:GM}(he:RE K E te m)(hg:RG K g gm):RS K E (tAsg te g) (wZ m gm):=by
 intro G0 H0 ρ σ G H ho
 refine RSt.bind (t2:=λv D σ H1=>g v σ H1 D.nx) (he G0 H0 ρ σ G H ho) λd ρ1 v G1 H1 s1 h1 r1=>?_
 refine RSt.opt λρ2 e=>?_
 intro D hD
 exact hg G0 H0 ρ1 σ G1 H1 d v _ h1 r1 ⟨ρ2,e,λσ' G' H' s h=>hD σ' G' H' s h⟩
noncomputable def RGs (K:PySem.W.Frag)(g:TGs)(is:List Nat):Prop:=∀ G0 H0 ρ σ G H ds vs (Q:St->Hp->Prop),Hold K G0 H0 ρ σ G H->zL K G ds vs ->
 (∃ ρ',Y9 is ds ρ=some ρ'/\∀ σ' G' H',Same G G'->Hold K G0 H0 ρ' σ' G' H'->Q σ' H')->g vs σ H Q
theorem kU:RGs K gNil []:=by
 intro G0 H0 ρ σ G H ds vs Q ho r ⟨ρ',e,hQ⟩
 cases ds with
 |nil=>cases e;exact⟨r.nil_inv,hQ σ G H (Same.refl _) ho⟩
 |cons d ds=>cases e
theorem jg {i:Nat}{is:List Nat}{g:TGs}(h:RGs K g is):RGs K (gCons (gName i) g) (i::is):=by
 intro G0 H0 ρ σ G H ds vs Q ho r ⟨ρ',e,hQ⟩
 cases ds with
 |nil=>cases e
 |cons d ds=>
  obtain⟨v,vr,rfl,r1,r2⟩:=r.cons_inv
  exact⟨v,vr,rfl,h G0 H0 _ _ G H ds vr Q (ho.setFz r1) r2 ⟨ρ',e,hQ⟩⟩
theorem X6:∀ {is:List Nat}{ds:List D}{ρ ρ':Rho},Y9 is ds ρ=some ρ'->ds.length=is.length
 |[],[],_,_,_=>rfl
 |i::r,d::ds,ρ,ρ',h=>by simp[X6 (is:=r) (ds:=ds) h]
 |[],_::_,_,_,h=>by cases h
 |_::_,[],_,_,h=>by cases h
theorem zAM {n:Nat}{is:List Nat}{g:TGs}(h:RGs K g is)(hn:is.length=n):RG K (gTup K n g) (Yw is):=by
 intro G0 H0 ρ σ G H d v Q ho r ⟨ρ',e,hQ⟩
 cases d<;>first | (cases e;done) | skip
 rename_i ds
 unfold Rep at r
 obtain⟨a,vs,rfl,hq,rl⟩:=r
 have e':Y9 is ds ρ=some ρ':=e
 exact⟨a,vs,rfl,SqT.same ho.e.s hq,by rw[rl.ln,X6 e'];exact hn,h G0 H0 ρ σ G H ds vs Q ho rl ⟨ρ',e',hQ⟩⟩
theorem zAF {i:Nat}{te:TE}{m:M D}(he:RE K E te m):RS K E (tAsg te (gName i)) (zy i m):=by
 intro G0 H0 ρ σ G H ho
 refine RSt.bind (t2:=λv D σ H1=>D.nx (σ.set i (some v)) H1) (he G0 H0 ρ σ G H ho) λd ρ1 v G1 H1 s1 h1 r1=>?_
 exact λD hD=>hD _ G1 H1 (Same.refl _) (h1.setFz r1)
theorem zAI {i:Nat}{ta:TA}{as:List (M D)}(ha:RL K E ta (zm as)):RS K E (tAsg (tLst ta) (gName i)) (yw i as):=by
 intro G0 H0 ρ σ G H ho
 refine RSt.bind (t2:=λxs D σ H1=>xs.length<=sizeLine/\∀ p,H1 p=none->D.nx (σ.set i (some (.ref p))) (upd H1 p (.lst xs))) (ha G0 H0 ρ σ G H ho) λds ρ1 vs G1 H1 s1 h1 r1=>?_
 intro D hD
 split at hD
 ·rename_i hz
  refine⟨by rw[r1.ln];exact hz,λp hp=>?_⟩
  refine hD _ G1 _ (Same.refl _) (h1.setNew hp (s:=.own ds) ?_ rfl)
  exact⟨p,vs,rfl,upd_same,h1.e.s.free hp,h1.b.free hp,r1⟩
 ·exact hD.elim
theorem zAJ {i:Nat}{t:TS}{m:M Fl}(h:RS K E t m):RS K E t (yk i m):=by
 intro G0 H0 ρ σ G H ho
 refine RSt.opt λds e=>?_
 obtain⟨a,vs,e1,e2,e3,e4,r⟩:=ho.sl i _ (ZN e)
 obtain⟨h1,s1⟩:=ho.freeze (d:=.lst ds) (ZN e) rfl e1 e2 e3 e4 (by unfold Rep;exact⟨a,vs,rfl,SqL.of upd_same,r.mono (Same.upd e3)⟩)
 exact λD hD=>h G0 H0 _ σ _ H h1 D (zp.mono s1 hD)
theorem X8 {J:It}{g:TG}{tb:TS}{gm:GM}{b:M Fl}{ds:List D}{vs:List V}{G0 H0:Hp}{ρ:Rho}{σ:St}{G H:Hp}{D:Ends}(ho:Hold K G0 H0 ρ σ G H)(hg:RG K g gm)(hb:RS K E tb b)(r:zL K G ds vs)
  (hgo:∀ G' H' i v,Same G G'->Same G' H'->vs[i]? = some v->J.go i H'/\∀ x H'',J.yld i H' x H''->H''=H'/\x=v)(hst:∀ G' H',Same G G'->Same G' H'->J.stop vs.length H')
  (hD:zp K E G0 H0 G (ZG gm b ds ρ) D) :
  ∃ W:Nat->Nat->St->Hp->Prop,(∃ m,W 0 m σ H)/\∀ i m σ H,W i m σ H ->
   (J.stop i H/\D.nx σ H)\/(J.go i H/\∃ N:St->Hp->Prop,(∀ σ' H',N σ' H'->∃ m',m'<m/\W (i+1) m' σ' H')/\∀ x H',J.yld i H x H'->g x σ H' λσ2 H2=>tb { D with nx:=N,ct:=N,bk:=D.nx } σ2 H2):=by
 refine⟨λi m σ H=>m=ds.length - i/\i<=ds.length/\∃ ρ G',Same G G'/\Hold K G0 H0 ρ σ G' H/\zp K E G0 H0 G' (ZG gm b (ds.drop i) ρ) D,
  ⟨ds.length,by simp,Nat.zero_le _,ρ,G,Same.refl _,ho,by simpa using hD⟩,?_⟩
 rintro i m σ H ⟨rfl,hi,ρ,G',sg,h,hp⟩
 by_cases hlt:i<ds.length
 ·refine .inr ?_
  have hd:ds[i]? = some ds[i]:=List.getElem?_eq_getElem hlt
  obtain⟨v,hv,rv⟩:=r.get hd
  obtain⟨go,yl⟩:=hgo G' H i v sg h.e.s hv
  rw[List.drop_eq_getElem_cons hlt]at hp
  unfold ZG at hp
  refine⟨go,λσ' H'=>∃ ρ2 G2,Same G G2/\Hold K G0 H0 ρ2 σ' G2 H'/\zp K E G0 H0 G2 (ZG gm b (ds.drop (i+1)) ρ2) D,λσ' H' ⟨ρ2,G2,s2,h2,p2⟩=>⟨ds.length - (i+1),by omega,rfl,hlt,ρ2,G2,s2,h2,p2⟩,λx H' y=>?_⟩
  obtain⟨rfl,rfl⟩:=yl x H' y
  refine hg G0 H0 ρ σ G' H' ds[i] x _ h (rv.mono sg) ?_
  cases q:gm ds[i] ρ with
  |some ρ1=>
   rw[q]at hp
   refine⟨ρ1,rfl,λσ1 G1 H1 s1 h1=>?_⟩
   refine hb G0 H0 ρ1 σ1 G1 H1 h1 _ ?_
   have hp':zp K E G0 H0 G' ((b ρ1).bnd λf ρ=>Yt f ρ (ZG gm b (ds.drop (i+1)))) D:=hp
   cases q2:b ρ1 with
   |ok f ρ2=>
    rw[q2]at hp'
    cases f with
    |nx=>exact λσ2 G2 H2 s2 h2=>⟨ρ2,G2,sg.trans (s1.trans s2),h2,zp.mono (s1.trans s2) hp'⟩
    |cont=>exact λσ2 G2 H2 s2 h2=>⟨ρ2,G2,sg.trans (s1.trans s2),h2,zp.mono (s1.trans s2) hp'⟩
    |brk=>exact λσ2 G2 H2 s2 h2=>hp' σ2 G2 H2 (s1.trans s2) h2
    |ret d=>exact λv σ2 G2 H2 s2 h2=>hp' v σ2 G2 H2 (s1.trans s2) h2
   |exn c ρ2=>rw[q2]at hp';exact λσ2 G2 H2 s2 h2=>hp' σ2 G2 H2 (s1.trans s2) h2
   |bad=>rw[q2]at hp';exact hp'
  |none=>rw[q]at hp;exact hp.elim
 ·have e:i=ds.length:=by omega
  subst e
  rw[List.drop_length]at hp
  exact .inl ⟨by rw[r.len];exact hst G' H sg h.e.s,hp σ G' H (Same.refl _) h⟩
theorem kS {tl:TE}{m:M D}{g:TG}{gm:GM}{tb:TS}{b:M Fl}(hl:RE K E tl m)(hg:RG K g gm)(hb:RS K E tb b):RS K E (tFor (iList K tl) g tb) (YT m yB gm b):=by
 intro G0 H0 ρ σ G H ho
 refine RSt.bind (t2:=λx D σ H1=>∃ a,x=.ref a/\(∃ xs,SqL K H1 a xs)/\∃ W:Nat->Nat->St->Hp->Prop,(∃ m,W 0 m σ H1)/\∀ i m σ H,W i m σ H ->
  ((Itl K a).stop i H/\D.nx σ H)\/((Itl K a).go i H/\∃ N:St->Hp->Prop,(∀ σ' H',N σ' H'->∃ m',m'<m/\W (i+1) m' σ' H')/\∀ x H',(Itl K a).yld i H x H'->g x σ H' λσ2 H2=>tb { D with nx:=N,ct:=N,bk:=D.nx } σ2 H2)) (hl G0 H0 ρ σ G H ho) λd ρ1 v G1 H1 s1 h1 r1=>?_
 refine RSt.opt λds e=>?_
 intro D hD
 cases d<;>first | (cases e;done) | skip
 cases e
 unfold Rep at r1
 obtain⟨a,vs,rfl,hq,rl⟩:=r1
 refine⟨a,rfl,⟨vs,h1.e.s.seq hq⟩,X8 h1 hg hb rl (λG' H' i v sg sh hv=>?_) (λG' H' sg sh=>⟨vs,sh.seq (sg.seq hq),Nat.le_refl _⟩) hD⟩
 have q:SqL K H' a vs:=sh.seq (sg.seq hq)
 refine⟨⟨vs,v,q,hv⟩,λx H'' ⟨e1,e2⟩=>⟨e1,?_⟩⟩
 have:=e2 vs q
 rw[hv]at this
 cases this
 rfl
theorem kQ {tl:TE}{m:M D}{g:TG}{gm:GM}{tb:TS}{b:M Fl}(hl:RE K E tl m)(hg:RG K g gm)(hb:RS K E tb b):RS K E (tFor (iTup K tl) g tb) (YT m Y1 gm b):=by
 intro G0 H0 ρ σ G H ho
 refine RSt.bind (t2:=λx D σ H1=>∃ a,x=.ref a/\(∃ xs,SqT K H1 a xs)/\∃ W:Nat->Nat->St->Hp->Prop,(∃ m,W 0 m σ H1)/\∀ i m σ H,W i m σ H ->
  ((Itt K a).stop i H/\D.nx σ H)\/((Itt K a).go i H/\∃ N:St->Hp->Prop,(∀ σ' H',N σ' H'->∃ m',m'<m/\W (i+1) m' σ' H')/\∀ x H',(Itt K a).yld i H x H'->g x σ H' λσ2 H2=>tb { D with nx:=N,ct:=N,bk:=D.nx } σ2 H2)) (hl G0 H0 ρ σ G H ho) λd ρ1 v G1 H1 s1 h1 r1=>?_
 refine RSt.opt λds e=>?_
 intro D hD
 cases d<;>first | (cases e;done) | skip
 cases e
 unfold Rep at r1
 obtain⟨a,vs,rfl,hq,rl⟩:=r1
 refine⟨a,rfl,⟨vs,SqT.same h1.e.s hq⟩,X8 h1 hg hb rl (λG' H' i v sg sh hv=>?_) (λG' H' sg sh=>⟨vs,SqT.same sh (SqT.same sg hq),Nat.le_refl _⟩) hD⟩
 have q:SqT K H' a vs:=SqT.same sh (SqT.same sg hq)
 refine⟨⟨vs,v,q,hv⟩,λx H'' ⟨e1,e2⟩=>⟨e1,?_⟩⟩
 have:=e2 vs q
 rw[hv]at this
 cases this
 rfl
theorem Xr (G:Hp) (n:Nat):zL K G (yC n) ((List.range n).map λk:Nat=>V.int (k:Int)):=by
 unfold yC
 generalize List.range n=l
 induction l with
 |nil=>exact zL.nil
 |cons k r ih=>exact zL.cons (by unfold Rep;rfl) ih
theorem Yj {x:D}{ds:List D}(h:Za x=some ds):∃ j:Int,x=.int j/\(-(2 ^ 62)<=j/\j<2 ^ 62)/\ds=yC j.toNat:=by
 cases x with
 |int j=>
  by_cases hj : -(2 ^ 62)<=j/\j<2 ^ 62
  ·have:Za (.int j)=some (yC j.toNat):=by show (if _ then _ else _)=_;rw[if_pos hj]
   rw[this]at h
   exact⟨j,rfl,hj,(Option.some.inj h).symm⟩
  ·have:Za (.int j)=none:=by show (if _ then _ else _)=_;rw[if_neg hj]
   rw[this]at h
   cases h
 |_=>cases h
theorem kR {te:TE}{m:M D}{g:TG}{gm:GM}{tb:TS}{b:M Fl}(hl:RE K E te m)(hg:RG K g gm)(hb:RS K E tb b):RS K E (tFor (iRng1 (tCons te tNil)) g tb) (Ya m gm b):=by
 intro G0 H0 ρ σ G H ho
 refine RSt.bind (t2:=λvs D σ H1=>∃ j:Int,vs=[.int j]/\-(2 ^ 62)<=j/\j<2 ^ 62/\∃ W:Nat->Nat->St->Hp->Prop,(∃ m,W 0 m σ H1)/\∀ i m σ H,W i m σ H ->
  ((Itr 0 j.toNat).stop i H/\D.nx σ H)\/((Itr 0 j.toNat).go i H/\∃ N:St->Hp->Prop,(∀ σ' H',N σ' H'->∃ m',m'<m/\W (i+1) m' σ' H')/\∀ x H',(Itr 0 j.toNat).yld i H x H'->g x σ H' λσ2 H2=>tb { D with nx:=N,ct:=N,bk:=D.nx } σ2 H2)) (qE hl UQ G0 H0 ρ σ G H ho) λxs ρ1 vs G1 H1 s1 h1 r1=>?_
 refine RSt.opt λds e=>?_
 intro D hD
 cases xs with
 |nil=>cases e
 |cons x r=>
  cases r with
  |cons _ _=>cases e
  |nil=>
   obtain⟨v,vr,rfl,rv,rr⟩:=r1.cons_inv
   obtain⟨j,rfl,hj,rfl⟩:=Yj (show Za x=some ds from e)
   unfold Rep at rv
   subst rv
   rw[rr.nil_inv]
   have el:((List.range j.toNat).map λk:Nat=>V.int (k:Int)).length=j.toNat:=by simp
   refine⟨j,rfl,hj.1,hj.2,X8 h1 hg hb (Xr G1 j.toNat) (λG' H' i v sg sh hv=>?_) (λG' H' sg sh=>by rw[el];exact Nat.le_refl _) hD⟩
   have hi:i<j.toNat:=by rw[<-el];exact (List.getElem?_eq_some_iff.mp hv).1
   refine⟨hi,λx H'' ⟨e1,e2⟩=>⟨e1,?_⟩⟩
   rw[List.getElem?_map,List.getElem?_range hi]at hv
   cases hv
   rw[e2]
   simp
theorem ja {t:TT}{tb:TS}{c:M Bool}{b:M Fl} (n:Nat)(hc:RT K E t c)(hb:RS K E tb b):RS K E (tWhile t tb) (yh c b n):=by
 intro G0 H0 ρ σ G H ho D hD
 refine⟨λm σ H=>∃ ρ G',Same G G'/\Hold K G0 H0 ρ σ G' H/\zp K E G0 H0 G' (yh c b m ρ) D,⟨n,ρ,G,Same.refl _,ho,hD⟩,?_⟩
 rintro m σ H ⟨ρ,G',sg,h,hp⟩
 cases m with
 |zero=>exact hp.elim
 |succ m=>
  unfold yh at hp
  refine hc G0 H0 ρ σ G' H h _ ?_
  cases q:c ρ with
  |ok x ρ1=>
   rw[q]at hp
   intro k G1 H1 s1 h1 rk
   subst rk
   have hp':zp K E G0 H0 G' (if k=true then (b ρ1).bnd λf ρ=>Yt f ρ (yh c b m) else .ok .nx ρ1) D:=hp
   cases k with
   |true=>
    rw[if_pos rfl]at hp' ⊢
    refine⟨λσ' H'=>∃ ρ2 G2,Same G G2/\Hold K G0 H0 ρ2 σ' G2 H'/\zp K E G0 H0 G2 (yh c b m ρ2) D,λσ' H' z=>⟨m,Nat.lt_succ_self _,z⟩,hb G0 H0 ρ1 σ G1 H1 h1 _ ?_⟩
    cases q2:b ρ1 with
    |ok f ρ2=>
     rw[q2]at hp'
     cases f with
     |nx=>exact λσ2 G2 H2 s2 h2=>⟨ρ2,G2,sg.trans (s1.trans s2),h2,zp.mono (s1.trans s2) hp'⟩
     |cont=>exact λσ2 G2 H2 s2 h2=>⟨ρ2,G2,sg.trans (s1.trans s2),h2,zp.mono (s1.trans s2) hp'⟩
     |brk=>exact λσ2 G2 H2 s2 h2=>hp' σ2 G2 H2 (s1.trans s2) h2
     |ret d=>exact λv σ2 G2 H2 s2 h2=>hp' v σ2 G2 H2 (s1.trans s2) h2
    |exn c ρ2=>rw[q2]at hp';exact λσ2 G2 H2 s2 h2=>hp' σ2 G2 H2 (s1.trans s2) h2
    |bad=>rw[q2]at hp';exact hp'
   |false=>
    rw[if_neg (by simp)]at hp' ⊢
    exact hp' σ G1 H1 s1 h1
  |exn c ρ1=>rw[q]at hp;exact λG1 H1 s1 h1=>hp σ G1 H1 s1 h1
  |bad=>rw[q]at hp;exact hp
end
end PM
namespace PM
open PySem PySem.Spec PyProof.Rows L2
section
variable {X:Cx}
noncomputable def uF (K:PySem.W.Frag):R2:=λx y H Q=>∃ l b xs zs,x=.ref l/\y=.ref b/\SqL K H l xs/\SqL K H b zs/\xs.length+zs.length<=sizeLine/\∀ p,H p=none->Q (.ref p) (upd H p (.lst (xs++zs)))
theorem qK:OpR X (binaryOp .Add) (uF X.K):=by
 intro pins s σ H x y v u Q I rx ry h
 obtain⟨l,b,xs,zs,rfl,rfl,hH,hB,hz,q⟩:=h
 cases rx
 cases ry
 obtain⟨its,r,p1,z1⟩:=I.list hH
 obtain⟨its2,r2,p2,z2⟩:=I.list hB
 have hl:=r.length
 have hl2:=r2.length
 obtain⟨⟨cls,dd,data,sl⟩,ho,hc,n,hd⟩:=p1.isList
 obtain⟨⟨cls2,dd2,data2,sl2⟩,ho2,hc2,n2,hd2⟩:=p2.isList
 simp only at hc hd hc2 hd2
 subst hc hd hc2 hd2
 have e:its.toArray++its2.toArray=(its++its2).toArray:=by simp
 refine concat_meets ⟨_,ho,rfl⟩ ⟨_,ho2,rfl⟩ noFill_list_add seq_list_add PySem.F.slot_list_add PySem.F.entry_list_add (PySem.F.args_list_add_2 _ _) (list_addW l b its.toArray its2.toArray n n2 dd dd2 sl sl2 (by simp only[List.size_toArray];omega)) ⟨ho,ho2,?_⟩
 rw[e]
 exact⟨.ref _,_,I.lnew (t':=s.toks) (r.append r2) (by rw[List.length_append];omega),rfl,q _ I.fresh⟩
noncomputable def Km (K:PySem.W.Frag):R2:=λx y H Q=>∃ l k xs,x=.ref l/\y=.int k/\SqL K H l xs/\-(2 ^ 63)<=k/\k<2 ^ 63/\xs.length * k.toNat<=sizeLine ∧
 ∀ p,H p=none->Q (.ref p) (upd H p (.lst (List.replicate k.toNat xs).flatten))
theorem ku:OpR X (binaryOp .Mult) (Km X.K):=by
 intro pins s σ H x y v u Q I rx ry h
 obtain⟨l,k,xs,rfl,rfl,hH,h1,h2,hz,q⟩:=h
 cases rx
 obtain⟨t,rfl⟩:=ry
 obtain⟨its,r,p1,z1⟩:=I.list hH
 have hl:=r.length
 obtain⟨⟨cls,dd,data,sl⟩,ho,hc,n,hd⟩:=p1.isList
 simp only at hc hd
 subst hc hd
 have hsz:its.toArray.size * k.toNat<=sizeLine:=by rw[List.size_toArray,<-hl];exact hz
 have hcap:¬ its.toArray.size * k.toNat > (2 ^ 63 - 1) / 8:=by
  have:(sizeLine:Nat)<=(2 ^ 63 - 1) / 8:=by decide
  omega
 have hfit:¬ (!Builtin.List.listFitsIndex k)=true:=by
  rw[fitsIndex_both h1 h2]
  exact Bool.false_ne_true
 have hlong:¬ Builtin.List.listTooLong (its.toArray.size * k.toNat)=true:=by
  rw[notLongL hsz]
  exact Bool.false_ne_true
 refine wpAny_binaryOp_repeat_ref (T:="list") (U:="int") (by decide) ⟨_,ho,rfl⟩ (λs'=>typeIs_int s' k t) noFill_list_mul F.fills_int_mul F.slot_int_rmul repeat_list F.slot_int_index.lookup
  (call_meets F.slot_int_rmul (typeIs_int s k t) F.entry_int_rmul (F.args_int_rmul_2 _ _) (lm_int_rmul_list_any k t l its.toArray n dd sl)
   ⟨ho,rfl,⟨_,ho,rfl⟩,call_meets F.slot_list_mul ⟨_,ho,rfl⟩ F.entry_list_mul (F.args_list_mul_2 _ _) (lm_list_mul_any l its.toArray n dd sl k t hfit hcap hlong) ⟨ho,?_⟩⟩)
 rw[listMul_foldl_if]
 exact⟨.ref _,_,I.lnew (t':=s.toks) (r.rep k.toNat) (by rw[len_rep,Nat.mul_comm];exact hz),rfl,q _ I.fresh⟩
noncomputable def Kq (K:PySem.W.Frag):R2:=λx y H Q=>∃ a b xs ys,x=.ref a/\y=.ref b/\SqT K H a xs/\SqT K H b ys/\xs.length+ys.length<=sizeLine ∧
 (xs=[]->Q (.ref b) H)/\(xs≠[]->ys=[]->Q (.ref a) H)/\(xs≠[]->ys≠[]->∀ p,H p=none->Q (.ref p) (upd H p (.tup (xs++ys))))
theorem kx:OpR X (binaryOp .Add) (Kq X.K):=by
 intro pins s σ H x y v u Q I rx ry h
 obtain⟨a,b,xs,ys,rfl,rfl,ha,hb,hz,q0,q1,q2⟩:=h
 by_cases hx:xs=[]
 ·subst hx
  cases rx
  cases ry
  obtain⟨its,r1,p1,_⟩:=I.tuple ha
  obtain⟨its2,r2,p2,_⟩:=I.tuple hb
  have e0:its=[]:=r1.nil_iff.mpr rfl
  subst e0
  obtain⟨⟨cls,dd,data,sl⟩,ho,hc,n,hd⟩:=p1
  obtain⟨⟨cls2,dd2,data2,sl2⟩,ho2,hc2,n2,hd2⟩:=p2
  simp only at hc hd hc2 hd2
  subst hc hd hc2 hd2
  exact concat_meets ⟨_,ho,rfl⟩ ⟨_,ho2,rfl⟩ noFill_tuple_add seq_tuple_add PySem.F.slot_tuple_add PySem.F.entry_tuple_add (PySem.F.args_tuple_add_2 _ _)
   (tuple_addW0 a b ([]:List Value).toArray its2.toArray n n2 dd dd2 sl sl2 (by simp)) ⟨ho,ho2,.ref b,H,I,rfl,q0 rfl⟩
 ·exact op_catT pins s σ H _ _ v u Q I rx ry ⟨a,b,xs,ys,rfl,rfl,ha,hb,hx,hz,q1 hx,q2 hx⟩
end
section
variable {K:PySem.W.Frag}
theorem zM {G:Hp}{i:Int}{v:V}:Rep K G (.int i) v ↔ v=.int i:=by unfold Rep;exact Iff.rfl
theorem ZZ {G:Hp}{i:Bool}{v:V}:Rep K G (.bl i) v ↔ v=.bl i:=by unfold Rep;exact Iff.rfl
theorem YE {G:Hp}{i:Str}{v:V}:Rep K G (.str i) v ↔ v=.str i:=by unfold Rep;exact Iff.rfl
theorem Yh {G:Hp}{v:V}:Rep K G .non v ↔ v=.non:=by unfold Rep;exact Iff.rfl
theorem zg {G:Hp}{ds:List D}{v:V}:Rep K G (.tup ds) v ↔ ∃ a vs,v=.ref a/\SqT K G a vs/\zL K G ds vs:=by conv=>lhs;unfold Rep
theorem zj {G:Hp}{ds:List D}{v:V}:Rep K G (.lst ds) v ↔ ∃ a vs,v=.ref a/\SqL K G a vs/\zL K G ds vs:=by conv=>lhs;unfold Rep
theorem qJ {C:Int->Int->Prop}{g:Int->Int->V}{f:D->D->Option D}(h:∀ dx dy d,f dx dy=some d->∃ i j,dx=.int i/\dy=.int j/\C i j/\∀ G,Rep K G d (g i j)):OpM K (rI C g) f:=by
 intro G H x y dx dy d Q s rx ry e q
 obtain⟨i,j,rfl,rfl,c,r⟩:=h dx dy d e
 exact⟨i,j,zM.mp rx,zM.mp ry,c,q _ G H (Ext.refl s) (Same.refl _) (r G)⟩
theorem Y5 {g:Int->Int->V}{f:D->D->Option D}(h:∀ dx dy d,f dx dy=some d->∃ i j,dx=.int i/\dy=.int j/\∀ G,Rep K G d (g i j)):OpM K (rI0 g) f:=by
 intro G H x y dx dy d Q s rx ry e q
 obtain⟨i,j,rfl,rfl,r⟩:=h dx dy d e
 exact⟨i,j,zM.mp rx,zM.mp ry,q _ G H (Ext.refl s) (Same.refl _) (r G)⟩
theorem ko:OpM K (rI0 λi j=>.int (i - j)) V2:=Y5 λdx dy d e=>by
 cases dx<;>first | (cases e;done) | (cases dy<;>first | (cases e;done) | skip)
 cases e
 exact⟨_,_,rfl,rfl,λG=>zM.mpr rfl⟩
theorem Xt:OpM K (rI0 λi j=>.bl (decide (i<j))) ltD:=Y5 λdx dy d e=>by
 cases dx<;>first | (cases e;done) | (cases dy<;>first | (cases e;done) | skip)
 cases e
 exact⟨_,_,rfl,rfl,λG=>ZZ.mpr rfl⟩
theorem zAZ:OpM K (rI0 λi j=>.bl (decide (i<=j))) leD:=Y5 λdx dy d e=>by
 cases dx<;>first | (cases e;done) | (cases dy<;>first | (cases e;done) | skip)
 cases e
 exact⟨_,_,rfl,rfl,λG=>ZZ.mpr rfl⟩
theorem UT:OpM K (rI0 λi j=>.bl (decide (j<i))) gtD:=Y5 λdx dy d e=>by
 cases dx<;>first | (cases e;done) | (cases dy<;>first | (cases e;done) | skip)
 cases e
 exact⟨_,_,rfl,rfl,λG=>ZZ.mpr rfl⟩
theorem VR:OpM K (rI0 λi j=>.bl (decide (j<=i))) geD:=Y5 λdx dy d e=>by
 cases dx<;>first | (cases e;done) | (cases dy<;>first | (cases e;done) | skip)
 cases e
 exact⟨_,_,rfl,rfl,λG=>ZZ.mpr rfl⟩
theorem ju:OpM K (rI CDiv λi j=>.int (i / j)) Zv:=qJ λdx dy d e=>by
 cases dx<;>first | (cases e;done) | (cases dy<;>first | (cases e;done) | skip)
 rename_i a b
 by_cases h:0<b/\b<1073741824
 ·have e':Zv (.int a) (.int b)=some (.int (a / b)):=by show (if _ then _ else _)=_;rw[if_pos h]
  rw[e']at e
  cases e
  exact⟨_,_,rfl,rfl,h,λG=>zM.mpr rfl⟩
 ·have e':Zv (.int a) (.int b)=none:=by show (if _ then _ else _)=_;rw[if_neg h]
  rw[e']at e
  cases e
theorem kr:OpM K (rI (λ_ j=>0<j) λi j=>.int (i % j)) Zq:=qJ λdx dy d e=>by
 cases dx<;>first | (cases e;done) | (cases dy<;>first | (cases e;done) | skip)
 rename_i a b
 by_cases h:0<b
 ·have e':Zq (.int a) (.int b)=some (.int (a % b)):=by show (if _ then _ else _)=_;rw[if_pos h]
  rw[e']at e
  cases e
  exact⟨_,_,rfl,rfl,h,λG=>zM.mpr rfl⟩
 ·have e':Zq (.int a) (.int b)=none:=by show (if _ then _ else _)=_;rw[if_neg h]
  rw[e']at e
  cases e
noncomputable def Kr (K:PySem.W.Frag):R2:=λx y H Q=>rI0 (λi j=>.int (i+j)) x y H Q\/uF K x y H Q\/Kq K x y H Q
theorem kt:OpM K (Kr K) zl:=by
 intro G H x y dx dy d Q s rx ry e q
 cases dx<;>first | (cases e;done) | (cases dy<;>first | (cases e;done) | skip)
 ·cases e
  exact .inl ⟨_,_,zM.mp rx,zM.mp ry,q _ G H (Ext.refl s) (Same.refl _) (zM.mpr rfl)⟩
 ·rename_i a b
  obtain⟨p,vs,rfl,h1,r1⟩:=zg.mp rx
  obtain⟨p2,ws,rfl,h2,r2⟩:=zg.mp ry
  by_cases h:a.length+b.length<=sizeLine
  ·have e':zl (.tup a) (.tup b)=some (.tup (a++b)):=by show (if _ then _ else _)=_;rw[if_pos h]
   rw[e']at e
   cases e
   refine .inr (.inr ⟨p,p2,vs,ws,rfl,rfl,SqT.same s h1,SqT.same s h2,by rw[r1.ln,r2.ln];exact h,λz=>?_,λz1 z2=>?_,λz1 z2 n hn=>?_⟩)
   ·subst z
    have:a=[]:=List.length_eq_zero_iff.mp (by rw[r1.len];rfl)
    subst this
    exact q _ G H (Ext.refl s) (Same.refl _) (zg.mpr ⟨p2,ws,rfl,h2,r2⟩)
   ·subst z2
    have:b=[]:=List.length_eq_zero_iff.mp (by rw[r2.len];rfl)
    subst this
    rw[List.append_nil]at q
    exact q _ G H (Ext.refl s) (Same.refl _) (zg.mpr ⟨p,vs,rfl,h1,r1⟩)
   ·have x:=Ext.new (o:=.tup (vs++ws)) s hn
    exact q _ _ _ x (Same.upd hn) (zg.mpr ⟨n,_,rfl,SqT.of upd_same,(r1.app r2).mono x.g⟩)
  ·have e':zl (.tup a) (.tup b)=none:=by show (if _ then _ else _)=_;rw[if_neg h]
   rw[e']at e
   cases e
 ·rename_i a b
  obtain⟨p,vs,rfl,h1,r1⟩:=zj.mp rx
  obtain⟨p2,ws,rfl,h2,r2⟩:=zj.mp ry
  by_cases h:a.length+b.length<=sizeLine
  ·have e':zl (.lst a) (.lst b)=some (.lst (a++b)):=by show (if _ then _ else _)=_;rw[if_pos h]
   rw[e']at e
   cases e
   refine .inr (.inl ⟨p,p2,vs,ws,rfl,rfl,s.seq h1,s.seq h2,by rw[r1.ln,r2.ln];exact h,λn hn=>?_⟩)
   have x:=Ext.new (o:=.lst (vs++ws)) s hn
   exact q _ _ _ x (Same.upd hn) (zj.mpr ⟨n,_,rfl,SqL.of upd_same,(r1.app r2).mono x.g⟩)
  ·have e':zl (.lst a) (.lst b)=none:=by show (if _ then _ else _)=_;rw[if_neg h]
   rw[e']at e
   cases e
noncomputable def Kn (K:PySem.W.Frag):R2:=λx y H Q=>rI CMul (λi j=>.int (i * j)) x y H Q\/Km K x y H Q
theorem kq:OpM K (Kn K) yx:=by
 intro G H x y dx dy d Q s rx ry e q
 cases dx<;>first | (cases e;done) | (cases dy<;>first | (cases e;done) | skip)
 ·rename_i a b
  by_cases h:(-(2 ^ 64)<a/\a<2 ^ 64)\/(-(2 ^ 64)<b/\b<2 ^ 64)
  ·have e':yx (.int a) (.int b)=some (.int (a * b)):=by show (if _ then _ else _)=_;rw[if_pos h]
   rw[e']at e
   cases e
   exact .inl ⟨_,_,zM.mp rx,zM.mp ry,h,q _ G H (Ext.refl s) (Same.refl _) (zM.mpr rfl)⟩
  ·have e':yx (.int a) (.int b)=none:=by show (if _ then _ else _)=_;rw[if_neg h]
   rw[e']at e
   cases e
 ·rename_i a k
  by_cases h : -(2 ^ 63)<=k/\k<2 ^ 63/\a.length * k.toNat<=sizeLine
  ·have e':yx (.lst a) (.int k)=some (.lst (List.replicate k.toNat a).flatten):=by show (if _ then _ else _)=_;rw[if_pos h]
   rw[e']at e
   cases e
   obtain⟨p,vs,rfl,h1,r1⟩:=zj.mp rx
   refine .inr ⟨p,k,vs,rfl,zM.mp ry,s.seq h1,h.1,h.2.1,by rw[r1.ln];exact h.2.2,λn hn=>?_⟩
   have x:=Ext.new (o:=.lst (List.replicate k.toNat vs).flatten) s hn
   exact q _ _ _ x (Same.upd hn) (zj.mpr ⟨n,_,rfl,SqL.of upd_same,(r1.rep k.toNat).mono x.g⟩)
  ·have e':yx (.lst a) (.int k)=none:=by show (if _ then _ else _)=_;rw[if_neg h]
   rw[e']at e
   cases e
theorem Vl (n:Nat) (i:Int):Yp n i=ixN n i:=rfl
theorem Vy {G:Hp}{ds:List D}{vs:List V}{i:Int}{d:D}(r:zL K G ds vs)(e:atD ds i=some d):∃ v,atI vs i=some v/\Rep K G d v:=by
 unfold atD at e
 unfold atI
 rw[r.ln]
 rw[Vl]at e
 cases q:ixN ds.length i with
 |none=>rw[q]at e;cases e
 |some j=>
  rw[q]at e
  exact r.get (show ds[j]? = some d from e)
theorem zAa:OpM K (rIx K) ixD:=by
 intro G H x y dx dy d Q s rx ry e q
 cases dx<;>first | (cases e;done) | (cases dy<;>first | (cases e;done) | skip)
 ·rename_i a i
  obtain⟨p,vs,rfl,h1,r1⟩:=zg.mp rx
  obtain⟨v,ev,rv⟩:=Vy r1 (show atD a i=some d from e)
  exact .inr (.inl ⟨p,vs,i,v,rfl,zM.mp ry,SqT.same s h1,ev,q _ G H (Ext.refl s) (Same.refl _) rv⟩)
 ·rename_i a i
  obtain⟨p,vs,rfl,h1,r1⟩:=zj.mp rx
  obtain⟨v,ev,rv⟩:=Vy r1 (show atD a i=some d from e)
  exact .inl ⟨p,vs,i,v,rfl,zM.mp ry,s.seq h1,ev,q _ G H (Ext.refl s) (Same.refl _) rv⟩
theorem Qh {G:Hp}{d:D}{v:V}(r:Rep K G d v):decide (v=.non)=We d:=by
 cases d with
 |non=>rw[Yh.mp r];rfl
 |bl b=>rw[ZZ.mp r];rfl
 |int b=>rw[zM.mp r];rfl
 |str b=>rw[YE.mp r];rfl
 |tup b=>obtain⟨a,vs,rfl,_⟩:=zg.mp r;rfl
 |lst b=>obtain⟨a,vs,rfl,_⟩:=zj.mp r;rfl
 |exc c=>unfold Rep at r;obtain⟨a,rfl,_⟩:=r;rfl
 |dct ks ds=>unfold Rep at r;obtain⟨a,vs,rfl,_⟩:=r;rfl
 |dcT ks ds=>unfold Rep at r;obtain⟨a,o,vs,rfl,_⟩:=r;rfl
theorem Uj {d:D}(h:We d=true):d=.non:=by cases d<;>first | rfl | cases h
theorem US:OpM K (λx y H Q=>y=.non/\Q (.bl (decide (x=.non))) H) isD:=by
 intro G H x y dx dy d Q s rx ry e q
 unfold isD at e
 split at e
 ·rename_i h
  cases e
  have:=Uj h
  subst this
  exact⟨Yh.mp ry,q _ G H (Ext.refl s) (Same.refl _) (ZZ.mpr (by rw[Qh rx]))⟩
 ·cases e
theorem kE:UnM K (rU λi=>.int (-i)) WS:=by
 intro G H x dx d Q s rx e q
 cases dx<;>first | (cases e;done) | skip
 cases e
 exact⟨_,zM.mp rx,q _ G H (Ext.refl s) (Same.refl _) (zM.mpr rfl)⟩
theorem Zs:ClM K (λxs H Q=>∃ p ys,xs=[.ref p]/\(SqL K H p ys\/SqT K H p ys)/\Q (.int ys.length) H) (zx yX):=by
 intro G H xs ds d Q s r e q
 cases ds with
 |nil=>cases e
 |cons x t=>
  cases t with
  |cons _ _=>cases e
  |nil=>
   obtain⟨v,vr,rfl,rv,rr⟩:=r.cons_inv
   rw[rr.nil_inv]
   have e':yX x=some d:=e
   cases x<;>first | (cases e';done) | skip
   ·cases e'
    obtain⟨a,vs,rfl,h1,r1⟩:=zg.mp rv
    exact⟨a,vs,rfl,.inr (SqT.same s h1),q _ G H (Ext.refl s) (Same.refl _) (zM.mpr (by rw[r1.ln]))⟩
   ·cases e'
    obtain⟨a,vs,rfl,h1,r1⟩:=zj.mp rv
    exact⟨a,vs,rfl,.inl (s.seq h1),q _ G H (Ext.refl s) (Same.refl _) (zM.mpr (by rw[r1.ln]))⟩
theorem KS:ClM K (λxs H Q=>(∃ i,xs=[.int i]/\Q (.int i) H)\/∃ k,xs=[.bl k]/\Q (.int (if k then 1 else 0)) H) (zx Xj):=by
 intro G H xs ds d Q s r e q
 cases ds with
 |nil=>cases e
 |cons x t=>
  cases t with
  |cons _ _=>cases e
  |nil=>
   obtain⟨v,vr,rfl,rv,rr⟩:=r.cons_inv
   rw[rr.nil_inv]
   have e':Xj x=some d:=e
   cases x<;>first | (cases e';done) | skip
   ·cases e'
    exact .inr ⟨_,by rw[ZZ.mp rv],q _ G H (Ext.refl s) (Same.refl _) (zM.mpr rfl)⟩
   ·cases e'
    exact .inl ⟨_,by rw[zM.mp rv],q _ G H (Ext.refl s) (Same.refl _) (zM.mpr rfl)⟩
theorem Jo:ClM K (λxs H Q=>∃ p ys,xs=[.ref p]/\(SqL K H p ys\/SqT K H p ys)/\∀ l,H l=none->Q (.ref l) (upd H l (.lst ys))) (zx yy):=by
 intro G H xs ds d Q s r e q
 cases ds with
 |nil=>cases e
 |cons x t=>
  cases t with
  |cons _ _=>cases e
  |nil=>
   obtain⟨v,vr,rfl,rv,rr⟩:=r.cons_inv
   rw[rr.nil_inv]
   have e':yy x=some d:=e
   cases x<;>first | (cases e';done) | skip
   ·cases e'
    obtain⟨a,vs,rfl,h1,r1⟩:=zg.mp rv
    refine⟨a,vs,rfl,.inr (SqT.same s h1),λn hn=>?_⟩
    have x:=Ext.new (o:=.lst vs) s hn
    exact q _ _ _ x (Same.upd hn) (zj.mpr ⟨n,_,rfl,SqL.of upd_same,r1.mono x.g⟩)
   ·cases e'
    obtain⟨a,vs,rfl,h1,r1⟩:=zj.mp rv
    refine⟨a,vs,rfl,.inl (s.seq h1),λn hn=>?_⟩
    have x:=Ext.new (o:=.lst vs) s hn
    exact q _ _ _ x (Same.upd hn) (zj.mpr ⟨n,_,rfl,SqL.of upd_same,r1.mono x.g⟩)
theorem Qz:ClM K (λxs H Q=>∃ p ys,xs=[.ref p]/\((SqL K H p ys/\∀ l,H l=none->Q (.ref l) (upd H l (.tup ys)))\/(SqT K H p ys/\Q (.ref p) H))) (zx tupleD):=by
 intro G H xs ds d Q s r e q
 cases ds with
 |nil=>cases e
 |cons x t=>
  cases t with
  |cons _ _=>cases e
  |nil=>
   obtain⟨v,vr,rfl,rv,rr⟩:=r.cons_inv
   rw[rr.nil_inv]
   have e':tupleD x=some d:=e
   cases x<;>first | (cases e';done) | skip
   ·cases e'
    obtain⟨a,vs,rfl,h1,r1⟩:=zg.mp rv
    exact⟨a,vs,rfl,.inr ⟨SqT.same s h1,q _ G H (Ext.refl s) (Same.refl _) (zg.mpr ⟨a,vs,rfl,h1,r1⟩)⟩⟩
   ·cases e'
    obtain⟨a,vs,rfl,h1,r1⟩:=zj.mp rv
    refine⟨a,vs,rfl,.inl ⟨s.seq h1,λn hn=>?_⟩⟩
    have x:=Ext.new (o:=.tup vs) s hn
    exact q _ _ _ x (Same.upd hn) (zg.mpr ⟨n,_,rfl,SqT.of upd_same,r1.mono x.g⟩)
end
end PM
namespace PM
open PySem PySem.Spec PyProof.Rows L2
abbrev Yb:List Value:=[.type "ValueError",.type "Exception",.type "BaseException",.type "object"]
abbrev Z0:String:="ValueError.__new__"
theorem wB {K:PySem.W.Frag}{h:Heap}{C:Addr}(X:K.In h)(q:PySem.W.excIn K C Yb Z0=true) :
  ∃ bm N nm qn bs hdct sn sub ab col dd k0 k1 k2 k3 k5 mN,h.get? C=some (excClassObj nm qn C N bs bm hdct sn sub ab col dd k0 k1 k2 k3 k5 Z0)/\h.Ns N mN/\mN "__init__" = none/\OwnTail h Yb bm ∧
   ∃ dd' cd sl,K.lookup C=some ⟨.type "type",dd',.cls cd,sl⟩/\cd.mro=.ref C::bm:=by
 unfold PySem.W.excIn at q
 split at q
 ·rename_i dd cd sl ho
  split at q
  ·rename_i C' bm k0 k1 k2 k3 n k5 hm hs
   simp only[Bool.and_eq_true,beq_iff_eq,Bool.not_eq_true']at q
   obtain⟨⟨⟨⟨⟨rfl,rfl⟩,hdel⟩,ht⟩,hok⟩,hni⟩:=q
   have hm':=hm
   have ho':=ho
   obtain⟨nm,bs,mro,ns,qn,hd,sn,sub,ab,col,del⟩:=cd
   dsimp only at hm hdel hok hni
   subst hm hdel
   have hsl:sl=#[k0,k1,k2,k3,some (.builtin Z0),k5]:=by
    obtain⟨l⟩:=sl
    simp only at hs
    rw[hs]
   subst hsl
   exact⟨bm,ns,nm,qn,bs,hd,sn,sub,ab,col,dd,k0,k1,k2,k3,k5,_,X _ _ ho,.of_isNs (PySem.W.isNs_of_in X hok),PySem.W.nsMap_none_of_in X hok hni,PySem.W.tail_of_in X ht,_,_,_,ho',hm'⟩
  ·cases q
 ·cases q
theorem wO {P:Program}{w:World}{H:Hp}{h:Heap}{a:Addr}{o:HO}(x:ObjOk P w H h a o):∃ ob,h.get? a=some ob:=by
 cases o with
 |lst xs=>obtain⟨_,_,_,_,e⟩:=x;exact⟨_,e⟩
 |tup xs=>obtain⟨_,_,_,ob,e,_⟩:=x;exact⟨_,e⟩
 |dK kvs=>obtain⟨_,_,_,_,o,_,_,e,_⟩:=x;exact⟨_,e⟩
 |dT kvs=>obtain⟨_,_,_,_,o,_,_,e,_⟩:=x;exact⟨_,e⟩
 |set S n=>obtain⟨o,_,_,_,e,_⟩:=x;exact⟨_,e⟩
 |ins C dx fs=>obtain⟨_,_,_,e,_⟩:=x;exact⟨_,e⟩
 |own y=>exact x
 |xd fs=>obtain⟨_,⟨_,_,_,e,_⟩,_⟩:=x;exact⟨_,e⟩
 |rng lo hi=>obtain⟨_,_,_,e⟩:=x;exact⟨_,e⟩
 |frz ob u=>obtain⟨e,_⟩:=x;exact⟨_,e⟩
 |tbl ps=>exact⟨_,show h.get? a=some _ from x⟩
 |met f y=>exact⟨_,show h.get? a=some _ from x⟩
 |ext φ=>obtain⟨_,e,_⟩:=x;exact e
structure Flying (P:Program)(w:World)(stack:List Env)(H H':Hp)(s:Shared) (cls:Value) (e:Value)(s':Shared)(B:Heap)(e0:Addr) (a0:Value):Prop where
 ev:e=.ref e0
 fl:Heap.FlyingW B stack e0 cls a0 s'.heap
 hok:HOk P w H' B
 os:s'.os=s.os
 gens:AllBare s'.gens
 un:Un (frs stack) [] H H' s.heap s'.heap
 kb:∀ b o,s.heap.get? b=some o->H b=none->b ∉ frs stack->B.get? b=some o
 tb:∀ b o,s.heap.get? b=some o->b ∉ frs stack->∃ o',B.get? b=some o'
noncomputable def CX1 (P:Program)(w:World):CXT:=λouter H s E e s'=>∃ H' cls B e0 a0,Flying P w outer H H' s cls e s' B e0 a0/\E cls none H'
theorem wg {env:Env}{outer:List Env}{b:Addr}{L:Addr}(hf:env.frame=some L):b ∈ frs (env::outer) ↔ b=L\/b ∈ frs outer:=by
 unfold frs
 rw[List.filterMap_cons]
 simp[hf]
section
variable {P:Program}{w:World}{K:PySem.W.Frag}{mg:Str->Option Value}{base:Heap}{N:List Str}{qual:Str}{scope:Scope}{f:Addr}{cd:Value}{A:Around}{outer:List Env}{s₀:Shared}{H₀:Hp}{E:XK}
 {pins:List (Addr×Obj)}{σ:St}{H:Hp}{s:Shared}
theorem JX {X:Cx}(I:Inv X pins σ H s):HOk X.prog X.w H (PySem.W.hideAll s.heap (frs X.stack)):=λa o e=>by
 have nofr:∀ b u,H b=some u->b ∉ frs X.stack:=λb u q z=>by
  rw[I.stkFree b z]at q
  cases q
 refine (I.hok a o e).stay (λb u hb q=>PySem.W.hideAll_get _ q ?_) (λb q=>q) λb xs q=>q
 rcases hb with rfl | hb
 ·exact nofr _ _ e
 ·exact nofr _ _ hb
theorem zAr {l:List Env}:∀ env ∈ l,∀ a,env.frame=some a->a ∈ frs l:=λenv he a hf=>List.mem_filterMap.mpr ⟨env,he,hf⟩
theorem uh {e:Addr}{cls:Value}{vs:List Value}{h':Heap}(I:Inv (cxOf (CX1 P w) P w K mg base N qual scope f cd A outer s₀ H₀ E) pins σ H s)(hx:Heap.MadeExcOf s.heap h' e cls vs)(he:E cls none H) :
  (cxOf (CX1 P w) P w K mg base N qual scope f cd A outer s₀ H₀ E).xe (.ref e) { s with heap:=h' }:=by
 have hL:s₀.heap.objs.size<=(envOfC qual scope s₀.heap.objs.size f cd).locals:=Nat.le_refl _
 have hf:(envOfC qual scope s₀.heap.objs.size f cd).frame=some s₀.heap.objs.size:=rfl
 refine wpAny_leaves_madeW (base:=PySem.W.hideAll s.heap (frs (envOfC qual scope s₀.heap.objs.size f cd::outer))) (h:=s.heap) I.ok.frames hf (λb o q=>PySem.W.of_hideAll _ q) (PySem.W.funFrames_hide I.stack zAr) hx λh'' t x1 x2 x3 x4=>?_
 have base0:∀ b o,s₀.heap.get? b=some o->b≠s₀.heap.objs.size:=λb o q z=>by
  subst z
  exact absurd (Heap.lt_size q) (Nat.lt_irrefl _)
 have kb:∀ b o,s₀.heap.get? b=some o->H₀ b=none->b ∉ frs outer->(PySem.W.hideAll s.heap (frs (envOfC qual scope s₀.heap.objs.size f cd::outer))).get? b=some o:=λb o q n hb=>
  PySem.W.hideAll_get _ (I.base.keep b o q n hb (by intro z;cases z)) λz=>by
   rcases (wg hf).mp z with z | z
   ·exact base0 b o q z
   ·exact hb z
 have tb:∀ b o,s₀.heap.get? b=some o->b ∉ frs outer->∃ o',(PySem.W.hideAll s.heap (frs (envOfC qual scope s₀.heap.objs.size f cd::outer))).get? b=some o':=λb o q hb=>by
  obtain⟨o',q'⟩:=I.base.there b o q (by intro z;cases z)
  exact⟨o',PySem.W.hideAll_get _ q' λz=>by
   rcases (wg hf).mp z with z | z
   ·exact base0 b o q z
   ·exact hb z⟩
 have fr:∀ b o,s₀.heap.get? b=some o->b ∈ frs outer->∃ sl,h''.get? b=some { o with slots:=sl }:=λb o q hb=>by
  obtain⟨sl,q1⟩:=I.base.slot b o q (I.ok.frf b hb) hb (by intro z;cases z)
  have nf:∀ vs,o.data≠.fields vs:=by
   obtain⟨_,o2,q2,nf⟩:=I.ok.funs.mem hb
   have q2':s₀.heap.get? b=some o2:=q2
   rw[q]at q2'
   cases q2'
   exact nf
  obtain⟨sl2,q2⟩:=x4 b _ (hx.keeps b _ q1) nf
  exact⟨sl2,q2⟩
 refine⟨H,cls,_,e,.ref t,⟨rfl,x1,JX I,I.os,I.bare,⟨λb o q n hb _=>x1.1 b o (kb b o q n hb),λb o q n hb _=>fr b o q hb,λb o q n _=>I.base.free b o q n (by intro z;cases z),λb o q _=>?_,I.base.tups,I.base.frzs,I.base.tbls⟩,kb,tb⟩,he⟩
 by_cases hb:b ∈ frs outer
 ·obtain⟨sl,q'⟩:=fr b o q hb
  exact⟨_,q'⟩
 ·obtain⟨o',q'⟩:=tb b o q hb
  exact⟨o',x1.1 b o' q'⟩
theorem zS:Passes (CX1 P w) (cxOf (CX1 P w) P w K mg base N qual scope f cd A outer s₀ H₀ E) E:=by
 intro pins σ H s e s' I hx
 obtain⟨H',cls,B,e0,a0,F,he⟩:=hx
 have hf:(envOfC qual scope s₀.heap.objs.size f cd).frame=some s₀.heap.objs.size:=rfl
 have base0:∀ b o,s₀.heap.get? b=some o->b≠s₀.heap.objs.size:=λb o q z=>by
  subst z
  exact absurd (Heap.lt_size q) (Nat.lt_irrefl _)
 rw[F.ev]
 refine wpAny_leaves_onW I.ok.frames hf F.fl λh'' x1 x4=>?_
 have nofr:∀ b o,s₀.heap.get? b=some o->b ∉ frs outer->b ∉ frs (envOfC qual scope s₀.heap.objs.size f cd::outer):=λb o q hb z=>by
  rcases (wg hf).mp z with z | z
  ·exact base0 b o q z
  ·exact hb z
 have kb:∀ b o,s₀.heap.get? b=some o->H₀ b=none->b ∉ frs outer->B.get? b=some o:=λb o q n hb=>
  F.kb b o (I.base.keep b o q n hb (by intro z;cases z)) (I.base.free b o q n (by intro z;cases z)) (nofr b o q hb)
 have tb:∀ b o,s₀.heap.get? b=some o->b ∉ frs outer->∃ o',B.get? b=some o':=λb o q hb=>by
  obtain⟨o',q'⟩:=I.base.there b o q (by intro z;cases z)
  exact F.tb b o' q' (nofr b o q hb)
 have fr:∀ b o,s₀.heap.get? b=some o->b ∈ frs outer->∃ sl,h''.get? b=some { o with slots:=sl }:=λb o q hb=>by
  obtain⟨sl,q1⟩:=I.base.slot b o q (I.ok.frf b hb) hb (by intro z;cases z)
  have nf:∀ vs,o.data≠.fields vs:=by
   obtain⟨_,o2,q2,nf⟩:=I.ok.funs.mem hb
   have q2':s₀.heap.get? b=some o2:=q2
   rw[q]at q2'
   cases q2'
   exact nf
  obtain⟨sl1,q2⟩:=F.un.slot b _ q1 (I.base.free b o q (I.ok.frf b hb) (by intro z;cases z)) ((wg hf).mpr (.inr hb)) (by intro z;cases z)
  obtain⟨sl2,q3⟩:=x4 b _ q2 nf
  exact⟨sl2,q3⟩
 refine⟨H',cls,B,e0,a0,⟨rfl,x1,F.hok,F.os.trans I.os,F.gens,⟨λb o q n hb _=>x1.1 b o (kb b o q n hb),λb o q n hb _=>fr b o q hb,λb o q n hx=>(let ⟨o',q'⟩:=I.base.there b o q hx;F.un.free b o' q' (I.base.free b o q n hx) hx),λb o q _=>?_,λb xs q=>F.un.tups b xs (I.base.tups b xs q),λb o u q=>F.un.frzs b o u (I.base.frzs b o u q),λb ps q=>by
  obtain⟨m1,e1⟩:=I.base.tbls b ps q
  obtain⟨m2,e2⟩:=F.un.tbls b _ e1
  exact⟨m1++m2,by rw[e2,Array.append_assoc]⟩⟩,kb,tb⟩,he⟩
 by_cases hb:b ∈ frs outer
 ·obtain⟨sl,q'⟩:=fr b o q hb
  exact⟨_,q'⟩
 ·obtain⟨o',q'⟩:=tb b o q hb
  exact⟨o',x1.1 b o' q'⟩
noncomputable def UO (E:XK)(C:Addr):TS:=λ_ _ H=>E (.ref C) none H
theorem uK {C:Addr}{x:Str}{z:Str}{np cpos pos ap:Pos}{j:Nat}(q:PySem.W.excIn K C Yb Z0=true)(hm:mg x=some (.ref C))(hgl:Gl (cxOf (CX1 P w) P w K mg base N qual scope f cd A outer s₀ H₀ E) x)
  (hd:autoParam ((x == ("__debug__" : Str))=false) aD._auto_1):PS (cxOf (CX1 P w) P w K mg base N qual scope f cd A outer s₀ H₀ E) (.Raise (some (.Call (.Name x np) [.Constant (.str z) j ap] [] cpos)) none pos) (UO E C):=by
 intro pins s σ H D I h
 obtain⟨bm,N',nm,qn,bs,hdct,sn,sub,ab,col,dd,k0,k1,k2,k3,k5,mN,hC,hN,hni,T,_⟩:=wB I.kIn q
 refine wpAny_Raise_call_subT (C:=C) (nm:=nm) (q:=qn) (N:=N') (bs:=bs) (bm:=bm) (hdct:=hdct) (sn:=sn) (sub:=sub) (ab:=ab) (col:=col) (dd:=dd) (k0:=k0) (k1:=k1) (k2:=k2) (k3:=k3) (k5:=k5)
  PySem.F.excBase_ValueError (mN:=mN) (T.hasType PySem.F.excBase_ValueError.hasBase) (I.ok.hd rfl) rfl hni (ld_glob I hgl hm ⟨rfl,?_⟩ hd)
 refine Calls.evalArgs_plain (Calls.spliced_cons (Calls.Constant_str (k:=j) (pos:=ap) (Calls.spliced_nil ⟨rfl,(by show 1<=sizeLine;decide),?_⟩)))
 have I1:=I.tok (s.toks+1)
 refine⟨hC,hN,T,λh' e hx=>uh I1 hx h⟩
theorem jc {C:Addr}:RS K E (UO E C) (Zj C):=λG0 H0 ρ σ G H ho D hD=>hD σ G H (Same.refl _) ho
theorem qr {X:Cx}{M:Model}{A:Around}{E:Value->Shared->Prop}{i:Nat}{x:Str}{pos:Pos}{Q:Unit->Shared->Prop}(I:Inv X pins σ H s)(hN:X.N.Nodup)(hi:X.N[i]? = some x)(hk:X.env.scope.names.lookup x=some .local)
  (h:∀ s',Inv X pins (σ.set i none) H s'->Q () s'):wpAny M A (do bindName X.env x .none;unbindBehindTheSuite X.env x pos) Q E s:=by
 obtain⟨m,hn,hl⟩:=id I.loc
 have hcls:(X.env.scope.kind == .class || (X.env.scope.kind == .module && X.env.locals != X.env.globals))=false:=by rw[I.ok.kind];rfl
 have hiσ:i<σ.length:=by rw[I.len];exact (List.getElem?_eq_some_iff.mp hi).1
 have cne:=I.cne
 refine wpAny_nameGoes_keeps hk hn hcls λh' v hn' hs=>?_
 obtain⟨oL,_,_,hoL,_⟩:=id hn
 have tracked:HOk X.prog X.w H h':=λb ob e=>by
  refine (I.hok b ob e).stay (λc w' hc q=>(hs.2 c ?_).trans q) (λ_ q=>q) λ_ _ q=>q
  rintro rfl
  rcases hc with z | hc
  ·rw[<-z,I.free]at e;cases e
  ·rw[I.free]at hc;cases hc
 refine h _ ⟨I.ok,I.os,I.bare,⟨λb o e n hb hx=>?_,λb o e n hb hx=>?_,I.base.free,λb o e hx=>?_,I.base.tups,I.base.frzs,I.base.tbls⟩,⟨_,hn',λj y v' e1 e2 e3=>?_⟩,λy c e=>?_,I.free,I.freeC,λp hp=>?_,tracked,by simpa using I.len⟩
 ·exact (hs.2 b (Nat.ne_of_lt (Nat.lt_of_lt_of_le (Heap.lt_size e) I.ok.above))).trans (I.base.keep b o e n hb hx)
 ·obtain⟨sl,e1⟩:=I.base.slot b o e n hb hx
  exact⟨sl,(hs.2 b (Nat.ne_of_lt (Nat.lt_of_lt_of_le (Heap.lt_size e) I.ok.above))).trans e1⟩
 ·obtain⟨o',e1⟩:=I.base.there b o e hx
  exact⟨o',(hs.2 b (Nat.ne_of_lt (Nat.lt_of_lt_of_le (Heap.lt_size e) I.ok.above))).trans e1⟩
 ·by_cases hj:j=i
  ·subst hj
   rw[List.getElem?_set_self hiσ]at e2
   cases e2
  ·rw[List.getElem?_set_ne (Ne.symm hj)]at e2
   obtain⟨u',r',q⟩:=hl j y v' e1 e2 e3
   refine⟨u',r',?_⟩
   rcases q with ⟨k,e⟩ | ⟨k,c,e,z⟩
   ·refine .inl ⟨k,?_⟩
    have:y≠x:=λe=>hj (nodup_ix hN e1 (e ▸ hi))
    simp[this,e]
   ·exact .inr ⟨k,c,e,z.sameBut hs (cne y c e)⟩
 ·obtain⟨w',z⟩:=I.cell y c e
  exact⟨w',z.sameBut hs (cne y c e)⟩
 ·obtain⟨e,n,ne,nf,d⟩:=I.pin p hp
  exact⟨(hs.2 p.1 ne).trans e,n,ne,nf,d⟩
theorem xt {M:Model}{A:Around}{E:Value->Shared->Prop}{nm q nm2 q2:Str}{C N C2 N2:Addr}{bs bm bs2 bm2:List Value}{hdct hdct2:Bool}{sn sn2:List Str}{sub sub2:List Value}{ab ab2:Bool}{col col2:Option Bool}{dd dd2:Option Addr}
  {k0 k1 k2 k3 k5 j0 j1 j2 j3 j5:Option Value}{newId newId2:String}{h:Heap}{g:Array GenState}{d:Drawn}{t:Nat}{os:OsState}{e:Addr}{oe:Obj}{Q:Bool->Shared->Prop}
  (hC:h.get? C=some (excClassObj nm q C N bs bm hdct sn sub ab col dd k0 k1 k2 k3 k5 newId))(hC2:h.get? C2=some (excClassObj nm2 q2 C2 N2 bs2 bm2 hdct2 sn2 sub2 ab2 col2 dd2 j0 j1 j2 j3 j5 newId2))
  (he:h.get? e=some oe)(hcls:oe.cls=.ref C)(hbase:bm2.contains (.type "BaseException")=true)(hin:(Value.ref C::bm).contains (.ref C2)=true)
  (hq:Q true ⟨h,g,d,t,os⟩):wpAny M A (excMatches (.ref e) (.ref C2)) Q E ⟨h,g,d,t,os⟩:=by
 have hcB:(Value.ref C2::bm2).contains (.type "BaseException")=true:=by rw[List.contains_cons,hbase,Bool.or_true]
 have f:=tc_notTuple
 unfold excMatches
 repeat (first | (with_reducible refine wpAny_loadPart_at he ?_;rw[hcls]) | with_reducible refine wpAny_loadPart_at hC2 ?_ | (with_reducible refine wpAny_isSubtype_exc hC2 ?_;rw[hcB]) | (with_reducible refine wpAny_isSubtype_exc hC ?_;rw[hin]) | wp_step)
 exact hq
noncomputable abbrev Cx.tr (X:Cx)(pins:List (Addr×Obj))(xe:Value->Shared->Prop):Cx:={ X with xe:=xe,pn:=X.pn++pins }
theorem Inv.tr {X:Cx}{pins':List (Addr×Obj)}{xe:Value->Shared->Prop}(I:Inv X (pins++pins') σ H s):Inv (Cx.tr X pins xe) pins' σ H s:=
 ⟨⟨I.ok.mod,I.ok.kind,I.ok.glob,I.ok.blt,I.ok.above,I.ok.inj,I.ok.has,I.ok.cab,I.ok.hd,I.ok.frames,I.ok.stk,I.ok.exf,I.ok.bs,I.ok.bsz,I.ok.noex,I.ok.exfs,I.ok.funs,I.ok.frf⟩,I.os,I.bare,I.base,I.loc,I.cell,I.free,I.freeC,by
  intro p hp
  refine I.pin p ?_
  have hp':p ∈ (X.pn++pins)++pins':=hp
  rw[List.append_assoc]at hp'
  exact hp',I.hok,I.len⟩
theorem Inv.untr {X:Cx}{pins':List (Addr×Obj)}{xe:Value->Shared->Prop}(I:Inv (Cx.tr X pins xe) pins' σ H s):Inv X (pins++pins') σ H s:=
 ⟨⟨I.ok.mod,I.ok.kind,I.ok.glob,I.ok.blt,I.ok.above,I.ok.inj,I.ok.has,I.ok.cab,I.ok.hd,I.ok.frames,I.ok.stk,I.ok.exf,I.ok.bs,I.ok.bsz,I.ok.noex,I.ok.exfs,I.ok.funs,I.ok.frf⟩,I.os,I.bare,I.base,I.loc,I.cell,I.free,I.freeC,by
  intro p hp
  refine I.pin p ?_
  show p ∈ (X.pn++pins)++pins'
  rw[List.append_assoc]
  exact hp,I.hok,I.len⟩
theorem K7 {CB:Addr}{cx n y:Str}{iy ie:Nat}{body:List Stmt}{D:Ends}{E':XK}{np py pn hpos apos pos:Pos}(I:Inv (cxOf (CX1 P w) P w K mg base N qual scope f cd A outer s₀ H₀ E) pins σ H s)
  (qB:PySem.W.excIn K CB Yb Z0=true)(hm:mg cx=some (.ref CB))(hgl:Gl (cxOf (CX1 P w) P w K mg base N qual scope f cd A outer s₀ H₀ E) cx)
  (hb:∀ (xe:Value->Shared->Prop),Passes (CX1 P w) (Cx.tr (cxOf (CX1 P w) P w K mg base N qual scope f cd A outer s₀ H₀ E) pins xe) E' ->
   ∃ t,PSs (Cx.tr (cxOf (CX1 P w) P w K mg base N qual scope f cd A outer s₀ H₀ E) pins xe) body t/\t D σ H)
  (h2:∀ cls H',E' cls none H'->∃ C,cls=.ref C/\PySem.W.excIn K C Yb Z0=true/\PySem.W.mroIn K C (.ref CB)=some true ∧
   ∀ (σ':St) e0,σ'.length=σ.length->H' e0=none->D.nx ((σ'.set iy (some (.ref e0))).set ie none) (upd H' e0 (Vt e0 C)))
  (nd:N.Nodup)(hy:N[iy]? = some y)(he:N[ie]? = some n)(ly:scope.names.lookup y=some .local)(le:scope.names.lookup n=some .local)(hne:iy≠ie)(hd:autoParam ((cx == ("__debug__" : Str))=false) aD._auto_1)(hdn:autoParam ((n == ("__debug__" : Str))=false) aD._auto_1)
  (hsw:autoParam (swapsWith (.Name n pn) (some (.Name y py)) apos.line (cxOf (CX1 P w) P w K mg base N qual scope f cd A outer s₀ H₀ E).env=pure false) aR._auto_1) :
  wpAny (model P w) (cxOf (CX1 P w) P w K mg base N qual scope f cd A outer s₀ H₀ E).A (exec (.Try body [.ExceptHandler (some (.Name cx np)) (some n) [.Assign [.Name y py] (.Name n pn) apos] hpos] [] [] pos) (cxOf (CX1 P w) P w K mg base N qual scope f cd A outer s₀ H₀ E).env)
   (SP (cxOf (CX1 P w) P w K mg base N qual scope f cd A outer s₀ H₀ E) pins D) (cxOf (CX1 P w) P w K mg base N qual scope f cd A outer s₀ H₀ E).xe s:=by
 have hf:(envOfC qual scope s₀.heap.objs.size f cd).frame=some s₀.heap.objs.size:=rfl
 refine wpAny_Try_except ?_
 have I0:Inv (Cx.tr (cxOf (CX1 P w) P w K mg base N qual scope f cd A outer s₀ H₀ E) pins (λe s₁=>wpAny (model P w) (A.deeper (envOfC qual scope s₀.heap.objs.size f cd)) (noteFrame e (envOfC qual scope s₀.heap.objs.size f cd)) (λ_ s₂=>wpAny (model P w) (A.deeper (envOfC qual scope s₀.heap.objs.size f cd)) (setFlight e none) (λ_ s₃=>wpAny (model P w) (A.deeper (envOfC qual scope s₀.heap.objs.size f cd)) (handleBy e (envOfC qual scope s₀.heap.objs.size f cd) [.ExceptHandler (some (.Name cx np)) (some n) [.Assign [.Name y py] (.Name n pn) apos] hpos]) (SP (cxOf (CX1 P w) P w K mg base N qual scope f cd A outer s₀ H₀ E) pins D) (cxOf (CX1 P w) P w K mg base N qual scope f cd A outer s₀ H₀ E).xe s₃) (cxOf (CX1 P w) P w K mg base N qual scope f cd A outer s₀ H₀ E).xe s₂) (cxOf (CX1 P w) P w K mg base N qual scope f cd A outer s₀ H₀ E).xe s₁)) [] σ H s:=Inv.tr (pins:=pins) (by rw[List.append_nil];exact I)
 have hps:Passes (CX1 P w) (Cx.tr (cxOf (CX1 P w) P w K mg base N qual scope f cd A outer s₀ H₀ E) pins (λe s₁=>wpAny (model P w) (A.deeper (envOfC qual scope s₀.heap.objs.size f cd)) (noteFrame e (envOfC qual scope s₀.heap.objs.size f cd)) (λ_ s₂=>wpAny (model P w) (A.deeper (envOfC qual scope s₀.heap.objs.size f cd)) (setFlight e none) (λ_ s₃=>wpAny (model P w) (A.deeper (envOfC qual scope s₀.heap.objs.size f cd)) (handleBy e (envOfC qual scope s₀.heap.objs.size f cd) [.ExceptHandler (some (.Name cx np)) (some n) [.Assign [.Name y py] (.Name n pn) apos] hpos]) (SP (cxOf (CX1 P w) P w K mg base N qual scope f cd A outer s₀ H₀ E) pins D) (cxOf (CX1 P w) P w K mg base N qual scope f cd A outer s₀ H₀ E).xe s₃) (cxOf (CX1 P w) P w K mg base N qual scope f cd A outer s₀ H₀ E).xe s₂) (cxOf (CX1 P w) P w K mg base N qual scope f cd A outer s₀ H₀ E).xe s₁)) E':=?hps
 ·obtain⟨t,ht,h1⟩:=hb _ hps
  refine wpAny_mono (ht [] s σ H D I0 h1) (λfl s' hs=>?_) λe s' x=>x
  -- the body's own end
  cases fl with
  |next=>
   obtain⟨σ',H',I',q⟩:=hs
   have:=Inv.untr I'
   rw[List.append_nil]at this
   exact wpAny_execs_nil ⟨σ',H',this,q⟩
  |brk=>
   obtain⟨σ',H',I',q⟩:=hs
   have:=Inv.untr I'
   rw[List.append_nil]at this
   exact⟨σ',H',this,q⟩
  |cont=>
   obtain⟨σ',H',I',q⟩:=hs
   have:=Inv.untr I'
   rw[List.append_nil]at this
   exact⟨σ',H',this,q⟩
  |ret u=>
   obtain⟨v,σ',H',I',r,q⟩:=hs
   have:=Inv.untr I'
   rw[List.append_nil]at this
   exact⟨v,σ',H',this,r,q⟩
 case hps=>
  -- an exception of a callee is caught
  intro pins' σ1 H1 s1 e s1' I1 hx
  obtain⟨H',cls,B,e0,a0,F,hE⟩:=hx
  obtain⟨C,rfl,qC,hmro,hnx⟩:=h2 cls H' hE
  have I1':=(Inv.untr I1)
  rw[F.ev]
  refine wpAny_looks_onW I1.ok.frames hf F.fl λh4 x4 u4=>?_
  refine wpAny_landsW x4 λh5 x5 u5'=>?_
  have u5:=u4.trans u5'
  -- the state behind the landing
  have un5:∀ h6,B.StaysIn h6->s1'.heap.UpToSlots h6->∀ H'',(∀ b o,s1.heap.get? b=some o->H'' b=H' b)->Un (frs (envOfC qual scope s₀.heap.objs.size f cd::outer)) [] H1 H'' s1.heap h6:=λh6 sB u6 H'' hH=>by
   have fr:∀ b o,s1.heap.get? b=some o->b ∈ frs (envOfC qual scope s₀.heap.objs.size f cd::outer)->∃ sl,h6.get? b=some { o with slots:=sl }:=λb o q hb=>by
    have nf:∀ vs,o.data≠.fields vs:=by
     obtain⟨_,o2,q2,nf⟩:=I1'.stack.mem hb
     rw[q]at q2
     cases q2
     exact nf
    obtain⟨sl,q1⟩:=F.un.slot b o q (I1'.stkFree b hb) hb (by intro z;cases z)
    obtain⟨sl2,q2⟩:=u6 b _ q1 nf
    exact⟨sl2,q2⟩
   have inn:∀ b o,H1 b=some o->∃ ob,s1.heap.get? b=some ob:=λb o q=>by
    exact wO (I1'.hok b o q)
   refine⟨λb o q n hb _=>sB b o (F.kb b o q n hb),λb o q n hb _=>fr b o q hb,λb o q n hx=>by rw[hH b o q];exact F.un.free b o q n hx,λb o q _=>?_,λb xs q=>?_,λb o u q=>?_,λb ps q=>?_⟩
   ·by_cases hb:b ∈ frs (envOfC qual scope s₀.heap.objs.size f cd::outer)
    ·obtain⟨sl,q'⟩:=fr b o q hb
     exact⟨_,q'⟩
    ·obtain⟨o',q'⟩:=F.tb b o q hb
     exact⟨o',sB b o' q'⟩
   ·obtain⟨ob,z⟩:=inn b _ q
    rw[hH b ob z];exact F.un.tups b xs q
   ·obtain⟨ob,z⟩:=inn b _ q
    rw[hH b ob z];exact F.un.frzs b o u q
   ·obtain⟨ob,z⟩:=inn b _ q
    rw[hH b ob z];exact F.un.tbls b ps q
  have new0:s1.heap.get? e0=none:=by
   cases z:s1.heap.get? e0 with
   |none=>rfl
   |some ob=>
    exfalso
    by_cases hb:e0 ∈ frs (envOfC qual scope s₀.heap.objs.size f cd::outer)
    ·obtain⟨_,o2,q2,nf⟩:=x5.2.2.1.mem hb
     obtain⟨oe,ws,qe,_,qd,_⟩:=x5.first
     rw[q2]at qe
     cases qe
     exact nf _ qd
    ·obtain⟨o',q'⟩:=F.tb e0 ob z hb
     rw[x5.2.1]at q'
     cases q'
  have free0:H' e0=none:=by
   cases z:H' e0 with
   |none=>rfl
   |some u=>
    obtain⟨ob,q⟩:=wO (F.hok e0 u z)
    rw[x5.2.1]at q
    cases q
  have hok6:∀ h6,Heap.FlyingW B (envOfC qual scope s₀.heap.objs.size f cd::outer) e0 (.ref C) a0 h6->HOk P w (upd H' e0 (Vt e0 C)) h6:=λh6 x6 b u q=>by
   by_cases hb:b=e0
   ·subst hb
    rw[upd_same]at q
    cases q
    obtain⟨oe,ws,qe,qc,qd,_⟩:=x6.first
    exact⟨⟨oe,ws,qe,qc,qd⟩,⟨oe,qe⟩,λh1 h2 ⟨o,vs,p1,p2,p3⟩ k=>⟨o,vs,k o p1,p2,p3⟩⟩
   ·rw[upd_ne hb]at q
    exact (F.hok b u q).stay (λc v _ r=>x6.1 c v r) (λc r=>by rw[upd_ne (ne_of_none r free0)];exact r) λc xs r=>by rw[upd_ne (ne_of_none r free0)];exact r
  have J:∀ h6 tk,Heap.FlyingW B (envOfC qual scope s₀.heap.objs.size f cd::outer) e0 (.ref C) a0 h6->s1'.heap.UpToSlots h6->Inv (cxOf (CX1 P w) P w K mg base N qual scope f cd A outer s₀ H₀ E) (pins++pins') σ1 (upd H' e0 (Vt e0 C)) { s1' with heap:=h6,toks:=tk }:=λh6 tk x6 u6=>
   I1'.call' (s':={ s1' with heap:=h6,toks:=tk }) (ch:=[]) F.os (un5 h6 x6.1 u6 _ λb o q=>upd_ne (λz=>by rw[z,new0]at q;cases q)) (hok6 h6 x6) F.gens λb z=>by cases z
  obtain⟨bm,N',nm,qn,bs,hdct,sn,sub,ab,col,dd,k0,k1,k2,k3,k5,mN,hC,_,_,_,dd',cdC,slC,hKC,hmC⟩:=wB (J h5 s1'.toks x5 u5).kIn qC
  obtain⟨bm2,N2,nm2,qn2,bs2,hdct2,sn2,sub2,ab2,col2,dd2,j0,j1,j2,j3,j5,mN2,hC2,_,_,T2,_⟩:=wB (J h5 s1'.toks x5 u5).kIn qB
  have hin:(Value.ref C::bm).contains (.ref CB)=true:=by
   unfold PySem.W.mroIn PySem.W.clsIn at hmro
   have hKC':List.lookup C K=some _:=hKC
   rw[hKC']at hmro
   simp only[Option.bind_some,hmC]at hmro
   simpa using hmro
  obtain⟨oe,ws,qe,qc,qd,_⟩:=x5.first
  have J5:=J h5 s1'.toks x5 u5
  refine wpAny_handleBy_cons (codeAny_handlers_test (Calls.Name_function_global J5.ok.kind hgl (Calls.loadGlobal_global (show h5.Ns mainGlobals mg from J5.mod.glob.keeps J5.bk) hm ?_) hd)) (by intro q;cases q)
  refine xt hC hC2 qe qc (T2.hasType PySem.F.excBase_ValueError.hasBase) hin ?_
  refine codeAny_handlers_suite_as ?_
  refine lands_againW x5 λh6 x6 u6=>?_
  have J6:=J h6 s1'.toks x6 (u5.trans u6)
  refine store_ok J6 nd he (.inl le) (v:=.ref e0) rfl (λs7 J7=>?_) (.inr le)
  have hv7:(σ1.set ie (some (.ref e0)))[ie]? = some (some (V.ref e0)):=xa (by rw[I1'.len];exact (List.getElem?_eq_some_iff.mp he).1)
  obtain⟨m7,hn7,hl7⟩:=J7.loc
  obtain⟨u7,r7,l7⟩:=hl7 ie n (.ref e0) he hv7 (.inl le)
  cases r7
  have hm7:m7 n=some (.ref e0):=by
   rcases l7 with ⟨_,z⟩ | ⟨hk,_⟩
   ·exact z
   ·exfalso
    have hk':scope.names.lookup n=some .cell\/scope.names.lookup n=some .free:=hk
    rw[le]at hk'
    rcases hk' with z | z<;>cases z
  refine wpAny_execs_cons (wpAny_Assign_Name (wpAny_Name (wpAny_loadName_local J7.ok.kind le hn7 hm7 ?_) hdn) hsw)
  refine store_ok J7 nd hy (.inl ly) (v:=.ref e0) rfl (λs8 J8=>?_) (.inr ly)
  refine wpAny_execs_nil ?_
  refine qr J8 nd he le λs9 J9=>?_
  exact⟨_,_,J9.unpinned,hnx (σ1.set ie (some (.ref e0))) e0 (by rw[List.length_set,I1'.len,I.len]) free0⟩
end
end PM
namespace PM
open PySem PySem.Spec PyProof.Rows L2
noncomputable def ME (X:Cx)(E:XK)(e:Expr)(m:M D):Prop:=∃ t,PE X e t/\RE X.K E t m
noncomputable def MT (X:Cx)(E:XK)(e:Expr)(m:M Bool):Prop:=∃ t,PT X e t/\RT X.K E t m
noncomputable def MW (X:Cx)(E:XK)(e:Expr)(m:M Bool):Prop:=∃ t,PW X e t/\RT X.K E t m
noncomputable def MA (X:Cx)(E:XK)(es:List Expr)(ms:List (M D)):Prop:=∃ t,PA X es t/\RL X.K E t (zm ms)
noncomputable def MS (X:Cx)(E:XK)(st:Stmt)(m:M Fl):Prop:=∃ t,PS X st t/\RS X.K E t m
noncomputable def MSs (X:Cx)(E:XK)(sts:List Stmt)(m:M Fl):Prop:=∃ t,PSs X sts t/\RS X.K E t m
noncomputable def MG (X:Cx)(tg:Expr)(gm:GM):Prop:=∃ g,PG X tg g/\RG X.K g gm
noncomputable def MGs (X:Cx)(tgs:List Expr)(is:List Nat):Prop:=∃ g,PGs X tgs g/\RGs X.K g is
section
variable {X:Cx}{E:XK}{a b c e:Expr}{es rest:List Expr}{pos p2:Pos}{ma mb mc:M D}{st:Stmt}{sts:List Stmt}
theorem zA (i:Nat){x:Str}(hN:autoParam (X.N[i]? = some x) aR._auto_1)(hv:autoParam (Vis X.env.scope x) aV._auto_1)(hd:autoParam ((x == ("__debug__" : Str))=false) aD._auto_1)
  (hcd:autoParam ((x == ("__classdict__" : Str))=false) aD._auto_1):ME X E (.Name x pos) (vM i):=⟨_,pe_var hN hv hd hcd,zAN⟩
theorem zE {i:Int} {j}:ME X E (.Constant (.int i) j pos) (cM (.int i)):=⟨_,pe_int,QF λG=>zM.mpr rfl⟩
theorem Yv {i:Bool} {j}:ME X E (.Constant (.bool i) j pos) (cM (.bl i)):=⟨_,pe_bl,QF λG=>ZZ.mpr rfl⟩
theorem YO {j}:ME X E (.Constant .none j pos) (cM .non):=⟨_,pe_non,QF λG=>Yh.mpr rfl⟩
theorem z5 {x:Str} {j}:ME X E (.Constant (.str x) j pos) (cM (.str x)):=⟨_,pe_str,QF λG=>YE.mpr rfl⟩
theorem wj {x:Str}{i:Int}(hg:Gl X x)(hm:∃ t,X.mg x=some (.int i t))(hd:autoParam ((x == ("__debug__" : Str))=false) aD._auto_1):ME X E (.Name x pos) (cM (.int i)):=by
 obtain⟨t,hm⟩:=hm
 exact⟨_,pe_glob (v:=.int i) hg hm ⟨t,rfl⟩ hd,QF λG=>zM.mpr rfl⟩
theorem ky:OpR X (binaryOp .Add) (Kr X.K):=op_add.or (qK.or kx)
theorem kw:OpR X (binaryOp .Mult) (Kn X.K):=op_mul.or ku
theorem WX {op:Operator}{r:R2}{f:D->D->Option D}(ho:OpR X (binaryOp op) r)(hm:OpM X.K r f)(ha:ME X E a ma)(hb:ME X E b mb):ME X E (.BinOp a op b pos) (op2 f ma mb):=by
 obtain⟨ta,pa,ra⟩:=ha
 obtain⟨tb,pb,rb⟩:=hb
 exact⟨_,pe_op ho pa pb,qF hm ra rb⟩
theorem zk (ha:ME X E a ma)(hb:ME X E b mb):ME X E (.BinOp a .Add b pos) (op2 zl ma mb):=WX ky kt ha hb
theorem zAl (ha:ME X E a ma)(hb:ME X E b mb):ME X E (.BinOp a .Sub b pos) (op2 V2 ma mb):=WX op_sub ko ha hb
theorem xj (ha:ME X E a ma)(hb:ME X E b mb):ME X E (.BinOp a .Mult b pos) (op2 yx ma mb):=WX kw kq ha hb
theorem xK (ha:ME X E a ma)(hb:ME X E b mb):ME X E (.BinOp a .FloorDiv b pos) (op2 Zv ma mb):=WX op_fdiv ju ha hb
theorem Z8 (ha:ME X E a ma)(hb:ME X E b mb):ME X E (.BinOp a .Mod b pos) (op2 Zq ma mb):=WX op_mod kr ha hb
theorem Vd (ha:ME X E a ma):ME X E (.UnaryOp .USub a pos) (op1 WS ma):=by
 obtain⟨ta,pa,ra⟩:=ha
 exact⟨_,pe_un un_neg pa,zBD kE ra⟩
theorem zZ (ha:ME X E a ma)(hb:ME X E b mb)(hs:PlainIx b:=by intro _ _;rfl):ME X E (.Subscript a b pos) (op2 ixD ma mb):=by
 obtain⟨ta,pa,ra⟩:=ha
 obtain⟨tb,pb,rb⟩:=hb
 exact⟨_,pe_ix ix_seq pa pb hs,qF zAa ra rb⟩
theorem zD:MA X E [] []:=⟨_,pa_nil,UQ⟩
theorem zB {ms:List (M D)}(ha:ME X E e ma)(hr:MA X E es ms)(hs:autoParam (starEach (e::es) X.env=(false,eval e X.env)::starEach es X.env) aR._auto_1):MA X E (e::es) (ma::ms):=by
 obtain⟨ta,pa,ra⟩:=ha
 obtain⟨tb,pb,rb⟩:=hr
 exact⟨_,pa_cons pa pb hs,qE ra rb⟩
theorem ZL {ms:List (M D)} {x1}(h:MA X E es ms):ME X E (.Tuple es x1 pos) (ZP ms):=by
 obtain⟨ta,pa,ra⟩:=h
 exact⟨_,pe_tup pa,zAO ra⟩
theorem Zk {ms:List (M D)}(h:MA X E es ms):ME X E (.List es pos) (lstM ms):=by
 obtain⟨ta,pa,ra⟩:=h
 exact⟨_,pe_lst pa,zAQ ra⟩
theorem KJ {CX:CXT}{k n:Nat}{f:Addr}{fd:FuncData}{ps:List Str}{F:List D->FR}{x:Str}{p:Pos}{ms:List (M D)}(G:FnOk X.prog X.w X.K X.mg X.base CX k f fd ps (spM X.K n F))(hr:Room k X.A)(hg:Gl X x)(hm:X.mg x=some (.ref f))
  (hk:PySem.W.keepIn X.K (.ref f)=true)(hb:Binds X.K fd ps [])(hx:Passes CX X E)(ha:MA X E (e::es) ms)(hn:autoParam (ms.length=n) aR._auto_1)
  (hdb:autoParam ((x == ("__debug__" : Str))=false) aD._auto_1)(he:autoParam (starEach (e::es) X.env=(false,eval e X.env)::starEach es X.env) aR._auto_1)(hpl:autoParam ((backTo pos (starEach es X.env)).any (·.1)=false) aR._auto_1) :
  ME X E (.Call (.Name x p) (e::es) [] pos) (zK F ms):=by
 obtain⟨ta,pa,ra⟩:=ha
 exact⟨_,pe_call G hr hg hm hk hb .nil hx pa hdb he hpl,qG ra hn⟩
theorem ZB {id:String}{r:List V->Hp->VK->Prop}{f:List D->Option D}{x:Str}{p:Pos}{ms:List (M D)}(hc:CallR X (.builtin id) r)(hf:ClM X.K r f)(hg:Gl X x)(hm:X.mg x=none)(hv:bootBuiltins x=some (.builtin id))(ha:MA X E (e::es) ms)
  (hn:x ≠ "__name__":=by decide)(hdb:autoParam ((x == ("__debug__" : Str))=false) aD._auto_1)(he:autoParam (starEach (e::es) X.env=(false,eval e X.env)::starEach es X.env) aR._auto_1)(hpl:autoParam ((backTo pos (starEach es X.env)).any (·.1)=false) aR._auto_1) :
  ME X E (.Call (.Name x p) (e::es) [] pos) (za f ms):=by
 obtain⟨ta,pa,ra⟩:=ha
 exact⟨_,pe_callB hc hg hm hv pa hn hdb he hpl,uE hf ra⟩
theorem Xz {T:String}{r:List V->Hp->VK->Prop}{f:List D->Option D}{x:Str}{p:Pos}{ms:List (M D)}(hc:CallR X (.type T) r)(hf:ClM X.K r f)(hg:Gl X x)(hm:X.mg x=none)(hv:bootBuiltins x=some (.type T))(ha:MA X E (e::es) ms)
  (hn:x ≠ "__name__":=by decide)(hdb:autoParam ((x == ("__debug__" : Str))=false) aD._auto_1)(he:autoParam (starEach (e::es) X.env=(false,eval e X.env)::starEach es X.env) aR._auto_1)(hpl:autoParam ((backTo pos (starEach es X.env)).any (·.1)=false) aR._auto_1) :
  ME X E (.Call (.Name x p) (e::es) [] pos) (za f ms):=by
 obtain⟨ta,pa,ra⟩:=ha
 exact⟨_,pe_callTy hc hg hm hv pa hn hdb he hpl,uE hf ra⟩
theorem Xy {op:CmpOp}{r:R2}{f:D->D->Option D}(ho:OpR X (compareOp op) r)(hm:OpM X.K r f)(ha:ME X E a ma)(hb:ME X E b mb)(hk:behindInMarks op b=false):ME X E (.Compare a [op] [b] pos) (op2 f ma mb):=by
 obtain⟨ta,pa,ra⟩:=ha
 obtain⟨tb,pb,rb⟩:=hb
 exact⟨_,pe_cmpR ho pa pb hk,qF hm ra rb⟩
theorem zc {op:CmpOp}{r:R2}{f:D->D->Option D}(ho:OpR X (compareOp op) r)(hm:OpM X.K r f)(ha:ME X E a ma)(hb:ME X E b mb)(hk:behindInMarks op b=false):MT X E (.Compare a [op] [b] pos) (zO zQ (op2 f ma mb)):=by
 obtain⟨ta,pa,ra⟩:=ha
 obtain⟨tb,pb,rb⟩:=hb
 exact⟨_,pt_cmpR ho pa pb hk,qA (qF hm ra rb)⟩
variable {ta tb:M Bool}
theorem UX (h:MT X E a ta):MT X E (.UnaryOp .Not a pos) (Xw ta):=by
 obtain⟨t,p,r⟩:=h
 exact⟨_,pt_not p,zAE r⟩
theorem xf (h:MT X E a ta):MW X E (.BoolOp .Or [a] pos) ta:=by
 obtain⟨t,p,r⟩:=h
 exact⟨_,pw_or1 p,r⟩
theorem WT (h:MT X E a ta)(h2:MW X E (.BoolOp .Or (b::rest) pos) tb):MW X E (.BoolOp .Or (a::b::rest) pos) (orM ta tb):=by
 obtain⟨t,p,r⟩:=h
 obtain⟨t2,p2,r2⟩:=h2
 exact⟨_,pw_or p p2,zBB r r2⟩
theorem MW.mt (h:MW X E e ta):MT X E e ta:=by
 obtain⟨t,p,r⟩:=h
 exact⟨_,p.pt,r⟩
theorem xi {op}(h:ME X E a ma):ME X E (.BoolOp op [a] pos) ma:=by
 obtain⟨t,p,r⟩:=h
 exact⟨_,pe_one p,r⟩
theorem WY (h:ME X E a ma)(h2:ME X E (.BoolOp .And (b::rest) pos) mb):ME X E (.BoolOp .And (a::b::rest) pos) (W9 ma mb):=by
 obtain⟨t,p,r⟩:=h
 obtain⟨t2,p2,r2⟩:=h2
 exact⟨_,pe_and p p2,ka r r2⟩
theorem Kt (h:ME X E a ma)(h2:ME X E (.BoolOp .Or (b::rest) pos) mb):ME X E (.BoolOp .Or (a::b::rest) pos) (orV ma mb):=by
 obtain⟨t,p,r⟩:=h
 obtain⟨t2,p2,r2⟩:=h2
 exact⟨_,pe_or p p2,zAP r r2⟩
theorem Vc (h:ME X E a ma):ME X E (.UnaryOp .Not a pos) (WQ ma):=by
 obtain⟨t,p,r⟩:=h
 exact⟨_,pe_not p,kX r⟩
theorem WV (h:MT X E c ta)(ha:ME X E a ma)(hb:ME X E b mb):ME X E (.IfExp c a b pos) (YY ta ma mb):=by
 obtain⟨t,p,r⟩:=h
 obtain⟨t1,p1,r1⟩:=ha
 obtain⟨t2,p2,r2⟩:=hb
 exact⟨_,pe_ifExp p p1 p2,zAS r r1 r2⟩
variable {m m':M Fl}
theorem zh:MSs X E [] nxM:=⟨_,pss_nil,kP⟩
theorem zF (h:MS X E st m):MSs X E [st] m:=by
 obtain⟨t,p,r⟩:=h
 exact⟨_,pss_one p,r⟩
theorem zC (h:MS X E st m)(h2:MSs X E sts m'):MSs X E (st::sts) (zG m m'):=by
 obtain⟨t,p,r⟩:=h
 obtain⟨t2,p2,r2⟩:=h2
 exact⟨_,pss_cons p p2,zAG r r2⟩
theorem Zp (i:Nat)(h:MSs X E sts m):MSs X E sts (yk i m):=by
 obtain⟨t,p,r⟩:=h
 exact⟨_,p,zAJ r⟩
theorem Yl (h:ME X E e ma)(hs:autoParam (swapsWith e none pos.line X.env=pure false) aR._auto_1):MS X E (.Expr e pos) (yf ma):=by
 obtain⟨t,p,r⟩:=h
 exact⟨_,ps_expr p hs,kT r⟩
theorem ze (h:ME X E e ma):MS X E (.Return (some e) pos) (zz ma):=by
 obtain⟨t,p,r⟩:=h
 exact⟨_,ps_ret p,zAH r⟩
theorem ZQ {sa sb:List Stmt}(h:MT X E c ta)(ha:MSs X E sa m)(hb:MSs X E sb m'):MS X E (.If c sa sb pos) (ifM ta m m'):=by
 obtain⟨t,p,r⟩:=h
 obtain⟨t1,p1,r1⟩:=ha
 obtain⟨t2,p2,r2⟩:=hb
 exact⟨_,ps_if p p1 p2,zBC r r1 r2⟩
theorem ZK (i:Nat){x:Str}(hN:X.N.Nodup)(hi:autoParam (X.N[i]? = some x) aR._auto_1)(hx:autoParam (Loc X.env.scope x) aL._auto_1)(hf:autoParam (X.fn x=true\/X.env.scope.names.lookup x=some .local) aF._auto_1):MG X (.Name x pos) (ZC i):=⟨_,pg_name hN hi hx hf,kW⟩
theorem Ym:MGs X [] []:=⟨_,pgs_nil,kU⟩
theorem ZA (i:Nat){x:Str}{is:List Nat}(hN:X.N.Nodup)(h2:MGs X es is)(hi:autoParam (X.N[i]? = some x) aR._auto_1)(hx:autoParam (Loc X.env.scope x) aL._auto_1)(hf:autoParam (X.fn x=true\/X.env.scope.names.lookup x=some .local) aF._auto_1)
  (hs:autoParam ((assignEach (.Name x pos::es) X.env).map (·.2)=assign (.Name x pos) X.env::(assignEach es X.env).map (·.2)) aR._auto_1):MGs X (.Name x pos::es) (i::is):=by
 obtain⟨g,p,r⟩:=h2
 exact⟨_,pgs_cons (pg_name hN hi hx hf) p hs,jg r⟩
theorem xg {is:List Nat}{k n:Nat}(hc:X.calm=true)(h:MGs X es is)(hl:is.length=n)(hn:autoParam ((assignEach es X.env).length=n) aR._auto_1)(hst:autoParam ((assignEach es X.env).findIdx? (·.1)=none) aR._auto_1):MG X (.Tuple es k pos) (Yw is):=by
 obtain⟨g,p,r⟩:=h
 exact⟨_,pg_tup hc p hn hst,zAM r hl⟩
theorem zf (i:Nat){x:Str}(hN:X.N.Nodup)(h:ME X E e ma)(hi:autoParam (X.N[i]? = some x) aR._auto_1)(hx:autoParam (Loc X.env.scope x) aL._auto_1)
  (hs:autoParam (swapsWith e (some (.Name x p2)) pos.line X.env=pure false) aR._auto_1)(hf:autoParam (X.fn x=true\/X.env.scope.names.lookup x=some .local) aF._auto_1):MS X E (.Assign [.Name x p2] e pos) (zy i ma):=by
 obtain⟨t,p,r⟩:=h
 exact⟨_,ps_set hN hi hx p hs hf,zAF r⟩
theorem Z7 (i:Nat){x:Str}{ms:List (M D)}{lp:Pos}(hN:X.N.Nodup)(h:MA X E es ms)(hi:autoParam (X.N[i]? = some x) aR._auto_1)(hx:autoParam (Loc X.env.scope x) aL._auto_1)
  (hs:autoParam (swapsWith (.List es lp) (some (.Name x p2)) pos.line X.env=pure false) aR._auto_1)(hf:autoParam (X.fn x=true\/X.env.scope.names.lookup x=some .local) aF._auto_1):MS X E (.Assign [.Name x p2] (.List es lp) pos) (yw i ms):=by
 obtain⟨t,p,r⟩:=h
 exact⟨_,ps_set hN hi hx (pe_lst p) hs hf,zAI r⟩
theorem Va {tg:Expr}{gm:GM}(h:ME X E e ma)(hg:MG X tg gm)(hs:autoParam (swapsWithSole [tg] e pos.line X.env=pure false) aR._auto_1)(hw:autoParam (swappedStores [tg] e X.env=pure none) aR._auto_1)
  (h1:autoParam ((assignEach [tg] X.env).map (·.2)=[assign tg X.env]) aR._auto_1):MS X E (.Assign [tg] e pos) (wZ ma gm):=by
 obtain⟨t,p,r⟩:=h
 obtain⟨g,pg,rg⟩:=hg
 exact⟨_,ps_asg p pg hs hw h1,zAK r rg⟩
theorem YG {tg iter:Expr}{gm:GM}{body:List Stmt}(hp:PassesOwn (model X.prog X.w) X.A X.env X.xe)(hc:X.calm=true)(hi:ME X E iter ma)(hg:MG X tg gm)(hb:MSs X E body m)
  (hs:∀ x,foldedSetIterable iter X.env x=pure x:=by intro _;rfl):MS X E (.For tg iter body [] pos) (YT ma yB gm m):=by
 obtain⟨t,p,r⟩:=hi
 obtain⟨g,pg,rg⟩:=hg
 obtain⟨tb,pb,rb⟩:=hb
 exact⟨_,ps_for hp hc (pi_list p) pg pb hs,kS r rg rb⟩
theorem qL {tg iter:Expr}{gm:GM}{body:List Stmt}(hp:PassesOwn (model X.prog X.w) X.A X.env X.xe)(hc:X.calm=true)(hi:ME X E iter ma)(hg:MG X tg gm)(hb:MSs X E body m)
  (hs:∀ x,foldedSetIterable iter X.env x=pure x:=by intro _;rfl):MS X E (.For tg iter body [] pos) (YT ma Y1 gm m):=by
 obtain⟨t,p,r⟩:=hi
 obtain⟨g,pg,rg⟩:=hg
 obtain⟨tb,pb,rb⟩:=hb
 exact⟨_,ps_for hp hc (pi_tup p) pg pb hs,kQ r rg rb⟩
theorem yb {tg:Expr}{gm:GM}{body:List Stmt}{p q:Pos}(hp:PassesOwn (model X.prog X.w) X.A X.env X.xe)(hc:X.calm=true)(hr:X.mg "range" = none)(hi:ME X E e ma)(hg:MG X tg gm)(hb:MSs X E body m)(hgl:autoParam (Gl X "range") aR._auto_1)
  (hst:autoParam (starEach [e] X.env=[(false,eval e X.env)]) aR._auto_1)(hs:∀ x,foldedSetIterable (.Call (.Name "range" p) [e] [] q) X.env x=pure x:=by intro _;rfl):MS X E (.For tg (.Call (.Name "range" p) [e] [] q) body [] pos) (Ya ma gm m):=by
 obtain⟨t,p,r⟩:=hi
 obtain⟨g,pg,rg⟩:=hg
 obtain⟨tb,pb,rb⟩:=hb
 exact⟨_,ps_for hp hc (pi_range1 hgl hr (pa_cons p pa_nil hst) hst) pg pb hs,kR r rg rb⟩
theorem uX {body:List Stmt} (n:Nat)(hp:PassesOwn (model X.prog X.w) X.A X.env X.xe)(hc:MT X E c ta)(hb:MSs X E body m):MS X E (.While c body [] pos) (yh ta m n):=by
 obtain⟨t,p,r⟩:=hc
 obtain⟨tb,pb,rb⟩:=hb
 exact⟨_,ps_while hp p pb,ja n r rb⟩
end
section
variable {P:Program}{w:World}{K:PySem.W.Frag}{mg:Str->Option Value}{base:Heap}
theorem Ul {G H:Hp}{ds:List D}{vs:List V}{N:List Str}(s:Same G H)(r:zL K G ds vs)(hl:vs.length<=N.length):Hold K G H (ZJ N.length ds) (L2.start N vs) G H:=by
 have hlen:=r.len
 refine⟨Ext.refl s,Same.refl _,λi sl e=>?_,λi j si sj a e1 e2 m1 m2=>?_,?_⟩
 ·unfold ZJ at e
  by_cases hi:i<ds.length
  ·rw[List.getElem?_append_left (by simpa using hi),List.getElem?_map]at e
   cases q:ds[i]? with
   |none=>rw[q]at e;cases e
   |some d=>
    rw[q]at e
    cases e
    obtain⟨v,ev,rv⟩:=r.get q
    refine⟨v,?_,rv⟩
    unfold L2.start
    rw[List.getElem?_append_left (by simpa using (by omega:i<vs.length)),List.getElem?_map,ev]
    rfl
  ·rw[List.getElem?_append_right (by simpa using hi),List.getElem?_replicate]at e
   split at e
   ·cases e;exact trivial
   ·cases e
 ·have nm:∀ {i:Nat}{s:Slot},(ZJ N.length ds)[i]? = some s->∀ {o:Option (Option V)}{c:Addr},¬ s.foot H o c:=fun {i s} e {o c} f=>by
   have hm:s ∈ ZJ N.length ds:=List.mem_of_getElem? e
   unfold ZJ at hm
   rcases List.mem_append.mp hm with h | h
   ·obtain⟨d,_,rfl⟩:=List.mem_map.mp h
    exact f
   ·rw[(List.mem_replicate.mp h).2]at f
    exact f
  exact absurd m1 (nm e1)
 ·unfold ZJ L2.start
  simp only[List.length_append,List.length_map,List.length_replicate]
  omega
theorem zn {x qual:Str}{st:Stmt}{f:Addr}{fd:FuncData}{N ps:List Str}{k n:Nat}{m:M Fl}(F:Fun K x qual st f fd)(S:FnScope N ps (defScope st))(hn:ps.length=n)(hN:n<=N.length)
  (hbody:∀ (cdv:Value)(A:Around)(outer:List Env)(s:Shared)(H:Hp)(E:XK),Room k (A.deeper (envOfC qual (defScope st) s.heap.objs.size f cdv)) ->
   MSs (cxOf (CX1 P w) P w K mg base N qual (defScope st) f cdv A outer s H E) E (defBody st) m):FnOk P w K mg base (CX1 P w) (k+1) f fd ps (spM K n (ZS N.length m)):=by
 obtain⟨oc,od,kV,doc,pm,an,cdv,ct,osl,rfl,lk,hcd⟩:=F.ex
 refine fn_of lk hcd S (λvs H Q E h=>by rw[hn];exact h.1) λA outer s H vs Q E hr hsp=>?_
 obtain⟨hl,G,ds,sg,r,hq⟩:=hsp
 obtain⟨t,p,rs⟩:=hbody cdv A outer s H E hr
 refine⟨t,p,rs G H (ZJ N.length ds) (L2.start N vs) G H (Ul sg r (by omega)) _ ?_⟩
 have hq':(match FR.of (m (ZJ N.length ds)) with
  |.ok d=>∀ v G' H',Ext G H G' H'->Same H H'->Rep K G' d v->Q v H'
  |.exn c=>∀ G' H',Ext G H G' H'->Same H H'->E (.ref c) none H'
  |.bad=>False):=hq
 cases e:m (ZJ N.length ds) with
 |ok fl ρ'=>
  rw[e]at hq'
  cases fl with
  |nx=>exact λσ' G' H' s1 h1=>hq' .non G' H' h1.e h1.b (Yh.mpr rfl)
  |ret d=>exact λv σ' G' H' s1 h1 rv=>hq' v G' H' h1.e h1.b rv
  |brk=>exact hq'.elim
  |cont=>exact hq'.elim
 |exn c ρ'=>rw[e]at hq';exact λσ' G' H' s1 h1=>hq' G' H' h1.e h1.b
 |bad=>rw[e]at hq';exact hq'
theorem yv {N:List Str}{qual:Str}{scope:Scope}{f:Addr}{cd:Value}{A:Around}{outer:List Env}{s₀:Shared}{H₀:Hp}{E:XK} :
  PassesOwn (model P w) (cxOf (CX1 P w) P w K mg base N qual scope f cd A outer s₀ H₀ E).A (cxOf (CX1 P w) P w K mg base N qual scope f cd A outer s₀ H₀ E).env (cxOf (CX1 P w) P w K mg base N qual scope f cd A outer s₀ H₀ E).xe:=λe s' h=>
 wpAny_leaving_again (SameStack.refl _) h
end
end PM
namespace PM
open PySem PySem.Spec PyProof.Rows L2
section
variable {K:PySem.W.Frag}{E:XK}
theorem Hold.own {G0 H0:Hp}{ρ:Rho}{σ:St}{G H:Hp}{i:Nat}{ds:List D}(ho:Hold K G0 H0 ρ σ G H)(e:zY ρ[i]? = some ds) :
  ∃ a vs,σ[i]? = some (some (.ref a))/\H a=some (.lst vs)/\G a=none/\H0 a=none/\zL K G ds vs:=ho.sl i _ (ZN e)
theorem kY {i:Nat}:RE K E (tCB (λxs H Q=>∃ p ys,xs=[.ref p]/\(SqL K H p ys\/SqT K H p ys)/\Q (.int ys.length) H) (tCons (tVar i) tNil)) (Zr i):=by
 intro G0 H0 ρ σ G H ho
 refine RAt.opt λds e=>?_
 obtain⟨a,vs,e1,e2,e3,e4,r⟩:=ho.own e
 intro Q hQ
 exact⟨_,e1,a,vs,rfl,.inl (SqL.of e2),hQ _ G H (Same.refl _) ho (zM.mpr (by rw[r.ln]))⟩
theorem zAR {i:Nat}{te:TE}{m:M D}(he:RE K E te m):RE K E (tOp (rIx K) (tVar i) te) (ixO i m):=by
 intro G0 H0 ρ σ G H ho
 refine RAt.opt λds0 e0=>?_
 obtain⟨a,vs0,e1,_,_,_,_⟩:=ho.own e0
 intro Q hQ
 refine⟨_,e1,?_⟩
 have q:RAt K E (λG d v=>Rep K G d v) (λσ H1 Q=>te σ H1 λy H2=>rIx K (.ref a) y H2 Q) ((m ρ).bnd λx ρ=>(zU (zY ρ[i]?) ρ).bnd λds ρ=>zU (ixD (.lst ds) x) ρ) G0 H0 σ G H:=by
  refine RAt.bind (t2:=λy σ H2 Q=>rIx K (.ref a) y H2 Q) (he G0 H0 ρ σ G H ho) λx ρ1 y G1 H1 s1 h1 r1=>?_
  refine RAt.opt λds e=>?_
  obtain⟨a',vs,f1,f2,f3,f4,r⟩:=h1.own e
  rw[e1]at f1
  cases f1
  refine RAt.opt1 λd ed=>?_
  intro Q hQ
  cases x<;>first | (cases ed;done) | skip
  rename_i k
  obtain⟨v,ev,rv⟩:=Vy r (show atD ds k=some d from ed)
  exact .inl ⟨a,vs,k,v,rfl,zM.mp r1,SqL.of f2,ev,hQ _ G1 H1 (Same.refl _) h1 rv⟩
 exact q Q hQ
noncomputable def jQ (K:PySem.W.Frag)(ta:TE):TT:=λσ H Q=>ta σ H λx H1=>∃ k,TruV K x H1 k/\Q k H1
theorem kO {i:Nat}:RT K E (jQ K (tVar i)) (qv i):=by
 intro G0 H0 ρ σ G H ho
 refine RAt.opt λds e=>?_
 obtain⟨a,vs,e1,e2,e3,e4,r⟩:=ho.own e
 intro Q hQ
 refine⟨_,e1,!vs.isEmpty,.inl ⟨vs,SqL.of e2,rfl⟩,hQ _ G H (Same.refl _) ho ?_⟩
 have:=r.len
 cases ds<;>cases vs<;>simp_all
theorem zAD {ta:TE}{m:M D}(h:RE K E ta m):RT K E (jQ K ta) (zO YL m):=by
 intro G0 H0 ρ σ G H ho
 refine RAt.bind (t2:=λx σ H1 Q=>∃ k,TruV K x H1 k/\Q k H1) (h G0 H0 ρ σ G H ho) λd ρ1 v G1 H1 s1 h1 r1=>?_
 refine RAt.opt1 λb e=>?_
 intro Q hQ
 have fin:=hQ b G1 H1 (Same.refl _) h1 rfl
 cases d<;>first | (cases e;done) | skip
 ·cases e;rw[Yh.mp r1];exact⟨_,rfl,fin⟩
 ·cases e;rw[ZZ.mp r1];exact⟨_,rfl,fin⟩
 ·cases e;rw[zM.mp r1];exact⟨_,rfl,fin⟩
 ·rename_i ds
  cases e
  obtain⟨a,vs,rfl,hq,rl⟩:=zg.mp r1
  refine⟨_,.inr (.inl ⟨vs,SqT.same h1.e.s hq,rfl⟩),?_⟩
  have:=rl.len
  have e':(!vs.isEmpty) = !ds.isEmpty:=by cases ds<;>cases vs<;>simp_all
  rw[e'];exact fin
 ·rename_i ds
  cases e
  obtain⟨a,vs,rfl,hq,rl⟩:=zj.mp r1
  refine⟨_,.inl ⟨vs,h1.e.s.seq hq,rfl⟩,?_⟩
  have:=rl.len
  have e':(!vs.isEmpty) = !ds.isEmpty:=by cases ds<;>cases vs<;>simp_all
  rw[e'];exact fin
theorem zAL {i:Nat}{te:TE}{m:M D}(he:RE K E te m):RS K E (tDrop (tBM K "list" rAppend (tVar i) (tCons te tNil))) (ZT i m):=by
 intro G0 H0 ρ σ G H ho
 refine RSt.opt λds0 e0=>?_
 obtain⟨a,vs0,e1,e2,_,_,_⟩:=ho.own e0
 intro D hD
 refine⟨_,e1,.inl ⟨rfl,vs0,SqL.of e2⟩,?_⟩
 have q:RSt K E (λD σ H1=>te σ H1 λy H2=>rAppend (.ref a) [y] H2 λ_ H3=>D.nx σ H3) ((m ρ).bnd λx ρ=>(zU (zY ρ[i]?) ρ).bnd λds ρ=>if ds.length<sizeLine then .ok .nx (ρ.set i (.own (ds++[x]))) else .bad) G0 H0 σ G H:=by
  refine RSt.bind (t2:=λy D σ H2=>rAppend (.ref a) [y] H2 λ_ H3=>D.nx σ H3) (he G0 H0 ρ σ G H ho) λx ρ1 y G1 H1 s1 h1 r1=>?_
  refine RSt.opt λds e=>?_
  obtain⟨a',vs,f1,f2,f3,f4,r⟩:=h1.own e
  rw[e1]at f1
  cases f1
  intro D hD
  split at hD
  ·rename_i hz
   refine⟨a,vs,y,rfl,rfl,f2,by rw[r.ln];exact hz,hD σ G1 _ (Same.refl _) ?_⟩
   exact h1.setMut (ZN e) rfl e1 f3 f4 (s':=.own (ds++[x])) ⟨a,vs++[y],rfl,upd_same,f3,f4,r.app (zL.cons r1 zL.nil)⟩ rfl
  ·exact hD.elim
 exact q D hD
theorem jk {i:Nat}{te:TE}{m:M D}(he:RE K E te m):RE K E (tBM K "list" rPopAt (tVar i) (tCons te tNil)) (YN i m):=by
 intro G0 H0 ρ σ G H ho
 refine RAt.opt λds0 e0=>?_
 obtain⟨a,vs0,e1,e2,_,_,_⟩:=ho.own e0
 intro Q hQ
 refine⟨_,e1,.inl ⟨rfl,vs0,SqL.of e2⟩,?_⟩
 have q:RAt K E (λG d v=>Rep K G d v) (λσ H1 Q=>te σ H1 λy H2=>rPopAt (.ref a) [y] H2 Q) ((m ρ).bnd λx ρ=>(zU (zY ρ[i]?) ρ).bnd λds ρ=>(zU (Xa x) ρ).bnd λk ρ=>(zU (if ds.length<=sizeLine then Yp ds.length k else none) ρ).bnd λj ρ=>
   (zU (ds[j]?) ρ).bnd λy ρ=>.ok y (ρ.set i (.own (ds.eraseIdx j)))) G0 H0 σ G H:=by
  refine RAt.bind (t2:=λy σ H2 Q=>rPopAt (.ref a) [y] H2 Q) (he G0 H0 ρ σ G H ho) λx ρ1 y G1 H1 s1 h1 r1=>?_
  refine RAt.opt λds e=>?_
  obtain⟨a',vs,f1,f2,f3,f4,r⟩:=h1.own e
  rw[e1]at f1
  cases f1
  refine RAt.opt λk ek=>?_
  refine RAt.opt λj ej=>?_
  refine RAt.opt λd ed=>?_
  intro Q hQ
  cases x<;>first | (cases ek;done) | skip
  cases ek
  obtain⟨v,ev,rv⟩:=r.get ed
  split at ej
  ·rename_i hz
   rw[Vl]at ej
   obtain⟨g1,g2,g3,g4⟩:=ixN_seq ej
   have hz63:=line63
   rw[r.len]at g1
   refine⟨a,vs,_,j,v,rfl,by rw[zM.mp r1],f2,by omega,by omega,g1,ev,hQ v G1 _ (Same.refl _) ?_ rv⟩
   exact h1.setMut (ZN e) rfl e1 f3 f4 (s':=.own (ds.eraseIdx j)) ⟨a,vs.eraseIdx j,rfl,upd_same,f3,f4,r.erase j⟩ rfl
  ·cases ej
 exact q Q hQ
theorem jb {i:Nat}{te tv:TE}{m mv:M D}(he:RE K E te m)(hv:RE K E tv mv):RS K E (tAsg tv (gSub (tVar i) te rSetL)) (xb i m mv):=by
 intro G0 H0 ρ σ G H ho
 refine RSt.bind (t2:=λv D σ H1=>gSub (tVar i) te rSetL v σ H1 D.nx) (hv G0 H0 ρ σ G H ho) λdy ρ0 y G0' H0' s0 h0 r0=>?_
 refine RSt.opt λds0 e0=>?_
 obtain⟨a,vs0,e1,e2,_,_,_⟩:=h0.own e0
 intro D hD
 refine⟨_,e1,?_⟩
 have q:RSt K E (λD σ H1=>te σ H1 λx H2=>rSetL (.ref a) x y H2 λH3=>D.nx σ H3) ((m ρ0).bnd λx ρ=>(zU (zY ρ[i]?) ρ).bnd λds ρ=>(zU (Xa x) ρ).bnd λk ρ=>(zU (Yp ds.length k) ρ).bnd λj ρ=>
   .ok .nx (ρ.set i (.own (ds.set j dy)))) G0 H0 σ G0' H0':=by
  refine RSt.bind (t2:=λx D σ H2=>rSetL (.ref a) x y H2 λH3=>D.nx σ H3) (he G0 H0 ρ0 σ G0' H0' h0) λx ρ1 xv G1 H1 s1 h1 r1=>?_
  refine RSt.opt λds e=>?_
  obtain⟨a',vs,f1,f2,f3,f4,r⟩:=h1.own e
  rw[e1]at f1
  cases f1
  refine RSt.opt λk ek=>?_
  refine RSt.opt λj ej=>?_
  intro D hD
  cases x<;>first | (cases ek;done) | skip
  cases ek
  rw[Vl,r.len]at ej
  refine⟨a,vs,_,j,rfl,zM.mp r1,f2,ej,hD σ G1 _ (Same.refl _) ?_⟩
  exact h1.setMut (ZN e) rfl e1 f3 f4 (s':=.own (ds.set j dy)) ⟨a,vs.set j y,rfl,upd_same,f3,f4,r.set (r0.mono s1) j⟩ rfl
 exact q D hD
end
section
variable {X:Cx}{E:XK}{e v:Expr}{pos p2 p3:Pos}{m mv:M D}
theorem yL (i:Nat){x:Str}{p:Pos}(hm:X.mg "len" = none)(hN:autoParam (X.N[i]? = some x) aR._auto_1)(hv:autoParam (Vis X.env.scope x) aV._auto_1)(hg:Gl X "len":=by rfl)
  (he:autoParam (starEach [.Name x p2] X.env=(false,eval (.Name x p2) X.env)::starEach [] X.env) aR._auto_1)(hpl:autoParam ((backTo pos (starEach [] X.env)).any (·.1)=false) aR._auto_1)(hd:autoParam ((x == ("__debug__" : Str))=false) aD._auto_1)
  (hcd:autoParam ((x == ("__classdict__" : Str))=false) aD._auto_1):ME X E (.Call (.Name "len" p) [.Name x p2] [] pos) (Zr i):=
 ⟨_,pe_callB call_len_seq hg hm PySem.boot_len (pa_cons (pe_var hN hv hd hcd) pa_nil he) (by decide) (by decide) he hpl,kY⟩
theorem xk (i:Nat){x:Str}(h:ME X E e m)(hN:autoParam (X.N[i]? = some x) aR._auto_1)(hv:autoParam (Vis X.env.scope x) aV._auto_1)(hs:PlainIx e:=by intro _ _;rfl)(hd:autoParam ((x == ("__debug__" : Str))=false) aD._auto_1)
  (hcd:autoParam ((x == ("__classdict__" : Str))=false) aD._auto_1):ME X E (.Subscript (.Name x p2) e pos) (ixO i m):=by
 obtain⟨t,p,r⟩:=h
 exact⟨_,pe_ix ix_seq (pe_var hN hv hd hcd) p hs,zAR r⟩
theorem qI {a:Expr}{ta:TE}(ha:PE X a ta)(he:∀ whole,isTrue a X.env whole=(do let v <-whole;standAt a.pos;holding [v] (truthy v)):=by intro _;rfl):PT X a (jQ X.K ta):=by
 intro pins s σ H Q I h
 refine isTrue_plain (thn (ha pins s σ H _ I h) λv s1 ⟨x,H1,I1,r1,q1⟩=>?_) (he _)
 exact tru_ok pins s1 σ H1 x v Q I1 r1 q1
theorem KA (i:Nat){x:Str}(hN:autoParam (X.N[i]? = some x) aR._auto_1)(hv:autoParam (Vis X.env.scope x) aV._auto_1)(hd:autoParam ((x == ("__debug__" : Str))=false) aD._auto_1)
  (hcd:autoParam ((x == ("__classdict__" : Str))=false) aD._auto_1):MT X E (.Name x pos) (qv i):=⟨_,qI (pe_var hN hv hd hcd),kO⟩
theorem VZ (h:ME X E e m)(he:∀ whole,isTrue e X.env whole=(do let v <-whole;standAt e.pos;holding [v] (truthy v)):=by intro _;rfl):MT X E e (zO YL m):=by
 obtain⟨t,p,r⟩:=h
 exact⟨_,qI p he,zAD r⟩
theorem yK (i:Nat){x:Str}{ap cp:Pos}(h:ME X E e m)(hN:autoParam (X.N[i]? = some x) aR._auto_1)(hv:autoParam (Vis X.env.scope x) aV._auto_1)(hd:autoParam ((x == ("__debug__" : Str))=false) aD._auto_1)
  (hcd:autoParam ((x == ("__classdict__" : Str))=false) aD._auto_1)(hs0:autoParam (starEach [e] X.env=(false,eval e X.env)::starEach [] X.env) aR._auto_1)(hbase:autoParam (attributeBase (.Name x p2) "append" X.env (eval (.Name x p2) X.env)=eval (.Name x p2) X.env) aR._auto_1)
  (hfew:autoParam (((backTo cp (starEach [e] X.env)).all (λx=>!x.1) && (backToKw cp (keywordEach [] X.env)).all (λx=>x.1.isSome) && decide ([e].length+([]:List Keyword).length+(if ([]:List Keyword).isEmpty then 0 else 1)<30))=true) aR._auto_1)
  (hline:autoParam ((ap.endLine == cp.line)=true) aR._auto_1)(hplain:autoParam ((backTo cp (starEach [] X.env)).any (·.1)=false) aR._auto_1)
  (hs:autoParam (swapsWith (.Call (.Attribute (.Name x p2) "append" ap) [e] [] cp) none pos.line X.env=pure false) aR._auto_1):MS X E (.Expr (.Call (.Attribute (.Name x p2) "append" ap) [e] [] cp) pos) (ZT i m):=by
 obtain⟨t,p,r⟩:=h
 exact⟨_,ps_expr (pe_bm PySem.F.plainAttrs_list PySem.F.slot_list_append PySem.F.type_list_append mt_append (pe_var hN hv hd hcd) (pa_cons p pa_nil hs0) hbase hfew hline hs0 hplain) hs,zAL r⟩
theorem JJ (i:Nat){x:Str}{ap:Pos}(h:ME X E e m)(hN:autoParam (X.N[i]? = some x) aR._auto_1)(hv:autoParam (Vis X.env.scope x) aV._auto_1)(hd:autoParam ((x == ("__debug__" : Str))=false) aD._auto_1)
  (hcd:autoParam ((x == ("__classdict__" : Str))=false) aD._auto_1)(hs0:autoParam (starEach [e] X.env=(false,eval e X.env)::starEach [] X.env) aR._auto_1)(hbase:attributeBase (.Name x p2) "pop" X.env (eval (.Name x p2) X.env)=eval (.Name x p2) X.env:=by rfl)
  (hfew:autoParam (((backTo pos (starEach [e] X.env)).all (λx=>!x.1) && (backToKw pos (keywordEach [] X.env)).all (λx=>x.1.isSome) && decide ([e].length+([]:List Keyword).length+(if ([]:List Keyword).isEmpty then 0 else 1)<30))=true) aR._auto_1)
  (hline:autoParam ((ap.endLine == pos.line)=true) aR._auto_1)(hplain:autoParam ((backTo pos (starEach [] X.env)).any (·.1)=false) aR._auto_1) :
  ME X E (.Call (.Attribute (.Name x p2) "pop" ap) [e] [] pos) (YN i m):=by
 obtain⟨t,p,r⟩:=h
 exact⟨_,pe_bm PySem.F.plainAttrs_list PySem.F.slot_list_pop PySem.F.type_list_pop mt_popAt (pe_var hN hv hd hcd) (pa_cons p pa_nil hs0) hbase hfew hline hs0 hplain,jk r⟩
theorem JB (i:Nat){x:Str}(h:ME X E e m)(h2:ME X E v mv)(hN:autoParam (X.N[i]? = some x) aR._auto_1)(hv:autoParam (Vis X.env.scope x) aV._auto_1)(hd:autoParam ((x == ("__debug__" : Str))=false) aD._auto_1)
  (hcd:autoParam ((x == ("__classdict__" : Str))=false) aD._auto_1)
  (ha:∀ v,assign (.Subscript (.Name x p2) e p3) X.env v=(do
   let ov <-holding [v] (eval (.Name x p2) X.env)
   let iv <-holding [v,ov] (eval e X.env)
   standAt p3
   holding [v,ov,iv] (setItem ov iv v)
   release [v,ov,iv] []):=by intro _;rfl)
  (hs:autoParam (swapsWithSole [.Subscript (.Name x p2) e p3] v pos.line X.env=pure false) aR._auto_1)(hw:autoParam (swappedStores [.Subscript (.Name x p2) e p3] v X.env=pure none) aR._auto_1)
  (h1:autoParam ((assignEach [.Subscript (.Name x p2) e p3] X.env).map (·.2)=[assign (.Subscript (.Name x p2) e p3) X.env]) aR._auto_1):MS X E (.Assign [.Subscript (.Name x p2) e p3] v pos) (xb i m mv):=by
 obtain⟨t,p,r⟩:=h
 obtain⟨t2,p2',r2⟩:=h2
 exact⟨_,ps_asg p2' (pg_sub (pe_var hN hv hd hcd) p set_list ha) hs hw h1,jb r r2⟩
end
end PM
namespace PM
open PySem PySem.Spec PyProof.Rows L2
mutual
theorem YM:∀ {d:D},d.plain=true->d.py.canLay0=true
 |.non,_=>rfl
 |.bl _,_=>rfl
 |.int _,_=>rfl
 |.str x,h=>h
 |.tup a,h=>by
  show PyData.canLayAll0 (D.pys a)=true
  exact yp h
 |.lst a,h=>by
  show PyData.canLayAll0 (D.pys a)=true
  exact yp h
 |.exc _,h=>by cases h
 |.dct _ _,h=>by cases h
 |.dcT _ _,h=>by cases h
theorem yp:∀ {ds:List D},D.plains ds=true->PyData.canLayAll0 (D.pys ds)=true
 |[],_=>rfl
 |a::r,h=>by
  have h':(a.plain && D.plains r)=true:=h
  rw[Bool.and_eq_true]at h'
  show ((D.py a).canLay0 && PyData.canLayAll0 (D.pys r))=true
  rw[YM h'.1,yp h'.2]
  rfl
end
mutual
theorem XM:∀ {d:D},d.plain=true->d.py.depth=d.deep
 |.non,_=>rfl
 |.bl _,_=>rfl
 |.int _,_=>rfl
 |.str x,h=>rfl
 |.tup a,h=>by
  show PyData.depthAll (D.pys a)+1=D.deeps a+1
  rw[yt h]
 |.lst a,h=>by
  show PyData.depthAll (D.pys a)+1=D.deeps a+1
  rw[yt h]
 |.exc _,h=>by cases h
 |.dct _ _,h=>by cases h
 |.dcT _ _,h=>by cases h
theorem yt:∀ {ds:List D},D.plains ds=true->PyData.depthAll (D.pys ds)=D.deeps ds
 |[],_=>rfl
 |a::r,h=>by
  have h':(a.plain && D.plains r)=true:=h
  rw[Bool.and_eq_true]at h'
  show max (D.py a).depth (PyData.depthAll (D.pys r))=max a.deep (D.deeps r)
  rw[XM h'.1,yt h'.2]
end
mutual
theorem Xs:∀ {a b:D},a.plain=true->b.plain=true->PyData.eqv a.py b.py=a.eqv b
 |.tup a,.tup b,h,k=>by
  show PyData.eqvAll (D.pys a) (D.pys b)=D.eqvs a b
  exact VP h k
 |.lst a,.lst b,h,k=>by
  show PyData.eqvAll (D.pys a) (D.pys b)=D.eqvs a b
  exact VP h k
 |.exc _,_,h,_=>by cases h
 |.dct _ _,_,h,_=>by cases h
 |.dcT _ _,_,h,_=>by cases h
 |.non,b,_,k=>by cases b<;>first | rfl | cases k
 |.bl _,b,_,k=>by cases b<;>first | rfl | cases k
 |.int _,b,_,k=>by cases b<;>first | rfl | cases k
 |.str _,b,_,k=>by cases b<;>first | rfl | cases k
 |.tup _,.non,_,_=>rfl
 |.tup _,.bl _,_,_=>rfl
 |.tup _,.int _,_,_=>rfl
 |.tup _,.str _,_,_=>rfl
 |.tup _,.lst _,_,_=>rfl
 |.tup _,.exc _,_,k=>by cases k
 |.tup _,.dct _ _,_,k=>by cases k
 |.tup _,.dcT _ _,_,k=>by cases k
 |.lst _,.non,_,_=>rfl
 |.lst _,.bl _,_,_=>rfl
 |.lst _,.int _,_,_=>rfl
 |.lst _,.str _,_,_=>rfl
 |.lst _,.tup _,_,_=>rfl
 |.lst _,.exc _,_,k=>by cases k
 |.lst _,.dct _ _,_,k=>by cases k
 |.lst _,.dcT _ _,_,k=>by cases k
theorem VP:∀ {a b:List D},D.plains a=true->D.plains b=true->PyData.eqvAll (D.pys a) (D.pys b)=D.eqvs a b
 |[],[],_,_=>rfl
 |[],_::_,_,_=>rfl
 |_::_,[],_,_=>rfl
 |a::r,b::t,h,k=>by
  have h':(a.plain && D.plains r)=true:=h
  have k':(b.plain && D.plains t)=true:=k
  rw[Bool.and_eq_true]at h' k'
  show (PyData.eqv (D.py a) (D.py b) && PyData.eqvAll (D.pys r) (D.pys t))=(a.eqv b && D.eqvs r t)
  rw[Xs h'.1 k'.1,VP h'.2 k'.2]
end
section
variable {X:Cx}{pins:List (Addr×Obj)}{σ:St}{H:Hp}{s:Shared}
mutual
theorem yI (I:Inv X pins σ H s):∀ {d:D}{x:V}{v:Value},Rep X.K H d x->RelV x v->d.plain=true->∃ as,Reads s.heap v d.py as
 |.non,x,v,r,rv,_=>by rw[Yh.mp r]at rv;cases rv;exact⟨_,.none⟩
 |.bl b,x,v,r,rv,_=>by rw[ZZ.mp r]at rv;cases rv;exact⟨_,.bool b⟩
 |.int b,x,v,r,rv,_=>by rw[zM.mp r]at rv;obtain⟨t,rfl⟩:=rv;exact⟨_,.int b t⟩
 |.str b,x,v,r,rv,_=>by rw[YE.mp r]at rv;obtain⟨t,rfl⟩:=rv;exact⟨_,.str b t⟩
 |.tup ds,x,v,r,rv,h=>by
  obtain⟨a,vs,rfl,hq,rl⟩:=zg.mp r
  cases rv
  obtain⟨its,rt,⟨o,ho,hc,n,hd⟩,_⟩:=I.tuple hq
  obtain⟨as,ra⟩:=ZW I rl rt h
  exact⟨_,.tuple ho hc hd (by simpa using ra)⟩
 |.lst ds,x,v,r,rv,h=>by
  obtain⟨a,vs,rfl,hq,rl⟩:=zj.mp r
  cases rv
  obtain⟨its,rt,pl,_⟩:=I.list hq
  obtain⟨o,ho,hc,n,hd⟩:=pl.isList
  obtain⟨as,ra⟩:=ZW I rl rt h
  exact⟨_,.list ho hc hd (by simpa using ra)⟩
 |.exc _,_,_,_,_,h=>by cases h
 |.dct _ _,_,_,_,_,h=>by cases h
 |.dcT _ _,_,_,_,_,h=>by cases h
theorem ZW (I:Inv X pins σ H s):∀ {ds:List D}{xs:List V}{vs:List Value},zL X.K H ds xs->Vals xs vs->D.plains ds=true->∃ as,ReadsAll s.heap vs (D.pys ds) as
 |[],xs,vs,r,rv,_=>by
  rw[r.nil_inv]at rv
  cases rv
  exact⟨_,.nil⟩
 |d::ds,xs,vs,r,rv,h=>by
  obtain⟨x,xr,rfl,r1,r2⟩:=r.cons_inv
  have h':(d.plain && D.plains ds)=true:=h
  rw[Bool.and_eq_true]at h'
  cases rv with
  |cons rv1 rv2=>
   obtain⟨as,ra⟩:=yI I r1 rv1 h'.1
   obtain⟨bs,rb⟩:=ZW I r2 rv2 h'.2
   exact⟨_,.cons ra rb⟩
end
end
section
variable {X:Cx}{K:PySem.W.Frag}
theorem xy {A:Around}{k d e:Nat}(hr:Room k A)(h:d<=30):A.units+1+min d e<cLine:=by
 have:=hr.units
 omega
noncomputable def kg (K:PySem.W.Frag)(neg:Bool):R2:=λx y H Q=>∃ dx dy,Rep K H dx x/\Rep K H dy y/\dx.plain=true/\dy.plain=true/\dx.deep<=30/\Q (.bl (if neg then !dx.eqv dy else dx.eqv dy)) H
theorem yj {k:Nat}(hr:Room k X.A):OpR X (compareOp .Eq) (kg X.K false):=by
 intro pins s σ H x y v u Q I rx ry h
 obtain⟨dx,dy,r1,r2,p1,p2,hd,q⟩:=h
 obtain⟨as,ra⟩:=yI I r1 rx p1
 obtain⟨bs,rb⟩:=yI I r2 ry p2
 refine SeqAt.compareEq_reads ra rb (YM p1) (YM p2) ?_ ⟨.bl _,H,I,rfl,?_⟩
 ·rw[XM p1]
  have:=xy (e:=dy.py.depth) hr hd
  omega
 ·rw[Xs p1 p2];exact q
theorem Z6 {k:Nat}(hr:Room k X.A):OpR X (compareOp .NotEq) (kg X.K true):=by
 intro pins s σ H x y v u Q I rx ry h
 obtain⟨dx,dy,r1,r2,p1,p2,hd,q⟩:=h
 obtain⟨as,ra⟩:=yI I r1 rx p1
 obtain⟨bs,rb⟩:=yI I r2 ry p2
 refine SeqAt.compareNe_reads ra rb (YM p1) (YM p2) ?_ ⟨.bl _,H,I,rfl,?_⟩
 ·rw[XM p1]
  have:=xy (e:=dy.py.depth) hr hd
  omega
 ·rw[Xs p1 p2];exact q
theorem yi:OpM K (kg K false) eqD:=by
 intro G H x y dx dy d Q s rx ry e q
 unfold eqD at e
 split at e
 ·rename_i h
  cases e
  simp only[Bool.and_eq_true,decide_eq_true_eq]at h
  exact⟨dx,dy,rx.mono s,ry.mono s,h.1.1,h.1.2,h.2,q _ G H (Ext.refl s) (Same.refl _) (ZZ.mpr rfl)⟩
 ·cases e
theorem Z5:OpM K (kg K true) neD:=by
 intro G H x y dx dy d Q s rx ry e q
 unfold neD at e
 split at e
 ·rename_i h
  cases e
  simp only[Bool.and_eq_true,decide_eq_true_eq]at h
  exact⟨dx,dy,rx.mono s,ry.mono s,h.1.1,h.1.2,h.2,q _ G H (Ext.refl s) (Same.refl _) (ZZ.mpr rfl)⟩
 ·cases e
noncomputable def jq (K:PySem.W.Frag)(neg:Bool):R2:=λx y H Q=>∃ dx ys p vs,y=.ref p/\(SqL K H p vs\/SqT K H p vs)/\zL K H ys vs/\Rep K H dx x/\dx.plain=true/\D.plains ys=true/\D.deeps ys<=30 ∧
 Q (.bl (if neg then !ys.any λy=>y.eqv dx else ys.any λy=>y.eqv dx)) H
theorem W8 {dx:D}(p:dx.plain=true):∀ {ys:List D},D.plains ys=true->((D.pys ys).any λy=>PyData.eqv y dx.py)=ys.any λy=>y.eqv dx
 |[],_=>rfl
 |a::r,h=>by
  have h':(a.plain && D.plains r)=true:=h
  rw[Bool.and_eq_true]at h'
  show (PyData.eqv (D.py a) dx.py || (D.pys r).any λy=>PyData.eqv y dx.py)=(a.eqv dx || r.any λy=>y.eqv dx)
  rw[Xs h'.1 p,W8 p h'.2]
theorem zAc {k:Nat}(hr:Room k X.A):OpR X (compareOp .In) (jq X.K false):=by
 intro pins s σ H x y v u Q I rx ry h
 obtain⟨dx,ys,p,vs,rfl,hq,rl,r1,p1,p2,hd,q⟩:=h
 cases ry
 obtain⟨as,ra⟩:=yI I r1 rx p1
 have hu:X.A.units+1+min (PyData.depthAll (D.pys ys)) dx.py.depth<cLine:=by rw[yt p2];exact xy hr hd
 rcases hq with hq | hq
 ·obtain⟨its,rt,pl,_⟩:=I.list hq
  obtain⟨o,ho,hc,n,hdt⟩:=pl.isList
  obtain⟨bs,rb⟩:=ZW I rl rt p2
  refine SeqAt.in_list_reads (.list ho hc hdt (by simpa using rb)) ra (yp p2) (YM p1) hu ⟨.bl _,H,I,rfl,?_⟩
  rw[W8 p1 p2];exact q
 ·obtain⟨its,rt,⟨o,ho,hc,n,hdt⟩,_⟩:=I.tuple hq
  obtain⟨bs,rb⟩:=ZW I rl rt p2
  refine SeqAt.in_tuple_reads (.tuple ho hc hdt (by simpa using rb)) ra (yp p2) (YM p1) hu ⟨.bl _,H,I,rfl,?_⟩
  rw[W8 p1 p2];exact q
theorem vd {k:Nat}(hr:Room k X.A):OpR X (compareOp .NotIn) (jq X.K true):=by
 intro pins s σ H x y v u Q I rx ry h
 obtain⟨dx,ys,p,vs,rfl,hq,rl,r1,p1,p2,hd,q⟩:=h
 cases ry
 obtain⟨as,ra⟩:=yI I r1 rx p1
 have hu:X.A.units+1+min (PyData.depthAll (D.pys ys)) dx.py.depth<cLine:=by rw[yt p2];exact xy hr hd
 rcases hq with hq | hq
 ·obtain⟨its,rt,pl,_⟩:=I.list hq
  obtain⟨o,ho,hc,n,hdt⟩:=pl.isList
  obtain⟨bs,rb⟩:=ZW I rl rt p2
  refine SeqAt.notIn_list_reads (.list ho hc hdt (by simpa using rb)) ra (yp p2) (YM p1) hu ⟨.bl _,H,I,rfl,?_⟩
  rw[W8 p1 p2];exact q
 ·obtain⟨its,rt,⟨o,ho,hc,n,hdt⟩,_⟩:=I.tuple hq
  obtain⟨bs,rb⟩:=ZW I rl rt p2
  refine SeqAt.notIn_tuple_reads (.tuple ho hc hdt (by simpa using rb)) ra (yp p2) (YM p1) hu ⟨.bl _,H,I,rfl,?_⟩
  rw[W8 p1 p2];exact q
theorem vU {G H:Hp}{dy:D}{y:V}{ys:List D}(s:Same G H)(ry:Rep K G dy y)(e:dy.items? = some ys):∃ p vs,y=.ref p/\(SqL K H p vs\/SqT K H p vs)/\zL K H ys vs:=by
 cases dy<;>first | (cases e;done) | skip
 ·cases e
  obtain⟨p,vs,rfl,h1,r1⟩:=zg.mp ry
  exact⟨p,vs,rfl,.inr (SqT.same s h1),r1.mono s⟩
 ·cases e
  obtain⟨p,vs,rfl,h1,r1⟩:=zj.mp ry
  exact⟨p,vs,rfl,.inl (s.seq h1),r1.mono s⟩
theorem zAb:OpM K (jq K false) inD:=by
 intro G H x y dx dy d Q s rx ry e q
 unfold inD at e
 cases hi:dy.items? with
 |none=>rw[hi]at e;cases e
 |some ys=>
  rw[hi]at e
  dsimp only at e
  split at e
  ·rename_i h
   cases e
   simp only[Bool.and_eq_true,decide_eq_true_eq]at h
   obtain⟨p,vs,rfl,hq,rl⟩:=vU s ry hi
   exact⟨dx,ys,p,vs,rfl,hq,rl,rx.mono s,h.1.1,h.1.2,h.2,q _ G H (Ext.refl s) (Same.refl _) (ZZ.mpr rfl)⟩
  ·cases e
theorem vc:OpM K (jq K true) yV:=by
 intro G H x y dx dy d Q s rx ry e q
 unfold yV at e
 cases hi:dy.items? with
 |none=>rw[hi]at e;cases e
 |some ys=>
  rw[hi]at e
  dsimp only at e
  split at e
  ·rename_i h
   cases e
   simp only[Bool.and_eq_true,decide_eq_true_eq]at h
   obtain⟨p,vs,rfl,hq,rl⟩:=vU s ry hi
   exact⟨dx,ys,p,vs,rfl,hq,rl,rx.mono s,h.1.1,h.1.2,h.2,q _ G H (Ext.refl s) (Same.refl _) (ZZ.mpr rfl)⟩
  ·cases e
end
end PM
namespace PM
open PySem PySem.Spec PyProof.Rows L2
section
variable {P:Program}{w:World}{K:PySem.W.Frag}{mg:Str->Option Value}{base:Heap}{N:List Str}{qual:Str}{scope:Scope}{f:Addr}{cd:Value}{A:Around}{outer:List Env}{s₀:Shared}{H₀:Hp}{E:XK}
theorem KN {G0 H0:Hp}{ρ:Rho}{σ σ':St}{G H:Hp}{iy ie n:Nat}{e0 c:Addr}(x:Ext G0 H0 G H)(b:Same H0 H)(hn:H e0=none)(hl:σ'.length=n)(hy:iy<n)(hne:iy≠ie) :
  Hold K G0 H0 ((List.replicate n Slot.un).set iy (.fz (.exc c))) ((σ'.set iy (some (.ref e0))).set ie none) (upd G e0 (Vt e0 c)) (upd H e0 (Vt e0 c)):=by
 have xn:=Ext.new (o:=Vt e0 c) x.s hn
 refine⟨x.trans xn,b.trans (Same.upd hn),λj s e=>?_,λj k sj sk a e1 e2 m1 m2=>?_,by simp[hl]⟩
 ·rcases YD e with ⟨rfl,_,rfl⟩ | ⟨ne,e⟩
  ·refine⟨.ref e0,?_,?_⟩
   ·rw[List.getElem?_set_ne (Ne.symm hne)]
    exact xa (by rw[hl];exact hy)
   ·unfold Rep
    exact⟨e0,rfl,upd_same⟩
  ·rw[List.getElem?_replicate]at e
   split at e
   ·cases e;exact trivial
   ·cases e
 ·rcases YD e1 with ⟨rfl,_,rfl⟩ | ⟨_,e1⟩
  ·exact m1.elim
  ·rw[List.getElem?_replicate]at e1
   split at e1
   ·cases e1;exact m1.elim
   ·cases e1
theorem zAf {CB:Addr}{cx n y:Str}{iy ie:Nat}{body:List Stmt}{m:M Fl}{np py pn hpos apos pos:Pos}(cs:List Addr)(hcs:∀ c ∈ cs,PySem.W.excIn K c Yb Z0=true/\PySem.W.mroIn K c (.ref CB)=some true)
  (qB:PySem.W.excIn K CB Yb Z0=true)(hm:mg cx=some (.ref CB))
  (hb:∀ (pins:List (Addr×Obj))(xe:Value->Shared->Prop)(E':XK),Passes (CX1 P w) (Cx.tr (cxOf (CX1 P w) P w K mg base N qual scope f cd A outer s₀ H₀ E) pins xe) E' ->
   MSs (Cx.tr (cxOf (CX1 P w) P w K mg base N qual scope f cd A outer s₀ H₀ E) pins xe) E' body m)
  (nd:N.Nodup)(hy:N[iy]? = some y)(he:N[ie]? = some n)(ly:scope.names.lookup y=some .local)(le:scope.names.lookup n=some .local)(hne:iy≠ie)
  (hgl:autoParam (Gl (cxOf (CX1 P w) P w K mg base N qual scope f cd A outer s₀ H₀ E) cx) aR._auto_1)(hd:autoParam ((cx == ("__debug__" : Str))=false) aD._auto_1)(hdn:autoParam ((n == ("__debug__" : Str))=false) aD._auto_1)
  (hsw:autoParam (swapsWith (.Name n pn) (some (.Name y py)) apos.line (cxOf (CX1 P w) P w K mg base N qual scope f cd A outer s₀ H₀ E).env=pure false) aR._auto_1) :
  MS (cxOf (CX1 P w) P w K mg base N qual scope f cd A outer s₀ H₀ E) E (.Try body [.ExceptHandler (some (.Name cx np)) (some n) [.Assign [.Name y py] (.Name n pn) apos] hpos] [] [] pos) (UK cs iy m):=by
 refine⟨λD σ H=>∃ G0 H0 ρ G,Hold K G0 H0 ρ σ G H/\zp K E G0 H0 G (UK cs iy m ρ) D,?_,λG0 H0 ρ σ G H ho D hD=>⟨G0,H0,ρ,G,ho,hD⟩⟩
 intro pins s σ H D I h
 obtain⟨G0,H0,ρ,G,ho,hD⟩:=h
 refine K7 (iy:=iy) (ie:=ie) (E':=λcls _ H'=>∃ c ρ' G',cls=.ref c/\m ρ=.exn c ρ'/\Same G G'/\Ext G0 H0 G' H'/\Same H0 H') I qB hm hgl (λxe hp=>?_) (λcls H' hE=>?_) nd hy he ly le hne hd hdn hsw
 ·obtain⟨t,ps,rs⟩:=hb pins xe _ hp
  refine⟨t,ps,rs G0 H0 ρ σ G H ho D ?_⟩
  unfold UK at hD
  cases q:m ρ with
  |ok fl ρ'=>rw[q]at hD;cases fl<;>exact hD
  |exn c ρ'=>exact λσ' G' H' s1 h1=>⟨c,ρ',G',rfl,rfl,s1,h1.e,h1.b⟩
  |bad=>rw[q]at hD;exact hD
 ·obtain⟨c,ρ',G',rfl,q,sg,ex,sb⟩:=hE
  unfold UK at hD
  rw[q]at hD
  dsimp only at hD
  split at hD
  ·rename_i hc
   obtain⟨q1,q2⟩:=hcs c (by simpa using hc)
   refine⟨c,rfl,q1,q2,λσ' e0 hl hn=>?_⟩
   have hiy:iy<ρ.length:=by rw[ho.len,I.len];exact (List.getElem?_eq_some_iff.mp hy).1
   exact hD _ _ _ (sg.trans (Same.upd (ex.s.free hn))) (KN (ρ:=ρ) (σ:=σ) ex sb hn (by rw[hl,ho.len]) hiy hne)
  ·exact hD.elim
end
structure ItOk (K:PySem.W.Frag)(J:It)(G:Hp)(ds:List D):Prop where
 go:∀ G' H' i d,Same G G'->Same G' H'->ds[i]? = some d->J.go i H'/\∀ x H'',J.yld i H' x H''->∃ G'',Ext G' H' G'' H''/\Same H' H''/\Rep K G'' d x
 stop:∀ G' H',Same G G'->Same G' H'->J.stop ds.length H'
theorem ItOk.of {K:PySem.W.Frag}{J:It}{G:Hp}{ds:List D}{vs:List V}(rl:zL K G ds vs)(go:∀ G' H' i v,Same G G'->Same G' H'->vs[i]? = some v->J.go i H'/\∀ x H'',J.yld i H' x H''->H''=H'/\x=v)
  (stop:∀ G' H',Same G G'->Same G' H'->J.stop vs.length H'):ItOk K J G ds:=by
 refine⟨λG' H' i d sg sh hd=>?_,λG' H' sg sh=>by rw[rl.len];exact stop G' H' sg sh⟩
 obtain⟨v,hv,rv⟩:=rl.get hd
 obtain⟨g,y⟩:=go G' H' i v sg sh hv
 refine⟨g,λx H'' q=>?_⟩
 obtain⟨rfl,rfl⟩:=y x H'' q
 exact⟨G',Ext.refl sh,Same.refl _,rv.mono sg⟩
noncomputable def RI (K:PySem.W.Frag)(E:XK)(wi:TI)(mi:M (List D)):Prop:=∀ G0 H0 ρ σ G H (R:It->Hp->Prop),Hold K G0 H0 ρ σ G H->(match mi ρ with
 |.ok ds ρ'=>∀ J G' H',Same G G'->Hold K G0 H0 ρ' σ G' H'->ItOk K J G' ds->R J H'
 |.exn c ρ'=>∀ G' H',Same G G'->Hold K G0 H0 ρ' σ G' H'->E (.ref c) none H'
 |.bad=>False)->wi σ H R
noncomputable def MI (X:Cx)(E:XK)(tg iter:Expr)(mi:M (List D)):Prop:=∃ wi,PI X tg iter wi/\RI X.K E wi mi
theorem RI.of {K:PySem.W.Frag}{E:XK}{te:TE}{m:M D}{f:D->Option (List D)}{t2:V->Hp->(It->Hp->Prop)->Prop}(he:RE K E te m)
  (h2:∀ G H d v ds R,Same G H->Rep K G d v->f d=some ds->(∀ J,ItOk K J G ds->R J H)->t2 v H R):RI K E (λσ H R=>te σ H λv H1=>t2 v H1 R) (ZI f m):=by
 intro G0 H0 ρ σ G H R ho hR
 unfold ZI at hR
 refine he G0 H0 ρ σ G H ho _ ?_
 cases q:m ρ with
 |ok d ρ1=>
  rw[q]at hR
  intro v G1 H1 s1 h1 r1
  simp only[Res.bnd_ok]at hR
  cases q2:f d with
  |some ds=>
   rw[q2]at hR
   exact h2 G1 H1 d v ds R h1.e.s r1 q2 λJ io=>hR J G1 H1 s1 h1 io
  |none=>rw[q2]at hR;exact hR.elim
 |exn c ρ1=>rw[q]at hR;exact hR
 |bad=>rw[q]at hR;exact hR
section
variable {X:Cx}{E:XK}{tg iter e:Expr}{m:M D}
theorem wf (h:ME X E iter m):MI X E tg iter (ZI yB m):=by
 obtain⟨t,p,r⟩:=h
 refine⟨_,pi_list p,RI.of (t2:=λx H1 R=>∃ a,x=.ref a/\(∃ xs,SqL X.K H1 a xs)/\R (Itl X.K a) H1) r λG H d v ds R s rv e hR=>?_⟩
 cases d<;>first | (cases e;done) | skip
 cases e
 obtain⟨a,vs,rfl,hq,rl⟩:=zj.mp rv
 refine⟨a,rfl,⟨vs,s.seq hq⟩,hR (Itl X.K a) (ItOk.of rl (λG' H' i v sg sh hv=>?_) λG' H' sg sh=>⟨vs,sh.seq (sg.seq hq),Nat.le_refl _⟩)⟩
 have q:SqL X.K H' a vs:=sh.seq (sg.seq hq)
 refine⟨⟨vs,v,q,hv⟩,λx H'' ⟨e1,e2⟩=>⟨e1,?_⟩⟩
 have:=e2 vs q
 rw[hv]at this
 exact (Option.some.inj this).symm
theorem zAk (h:ME X E iter m):MI X E tg iter (ZI Y1 m):=by
 obtain⟨t,p,r⟩:=h
 refine⟨_,pi_tup p,RI.of (t2:=λx H1 R=>∃ a,x=.ref a/\(∃ xs,SqT X.K H1 a xs)/\R (Itt X.K a) H1) r λG H d v ds R s rv e hR=>?_⟩
 cases d<;>first | (cases e;done) | skip
 cases e
 obtain⟨a,vs,rfl,hq,rl⟩:=zg.mp rv
 refine⟨a,rfl,⟨vs,SqT.same s hq⟩,hR (Itt X.K a) (ItOk.of rl (λG' H' i v sg sh hv=>?_) λG' H' sg sh=>⟨vs,SqT.same sh (SqT.same sg hq),Nat.le_refl _⟩)⟩
 have q:SqT X.K H' a vs:=SqT.same sh (SqT.same sg hq)
 refine⟨⟨vs,v,q,hv⟩,λx H'' ⟨e1,e2⟩=>⟨e1,?_⟩⟩
 have:=e2 vs q
 rw[hv]at this
 exact (Option.some.inj this).symm
theorem XV {p q:Pos}(hr:X.mg "range" = none)(h:ME X E e m)(hgl:autoParam (Gl X "range") aR._auto_1)(hst:autoParam (starEach [e] X.env=[(false,eval e X.env)]) aR._auto_1):MI X E tg (.Call (.Name "range" p) [e] [] q) (ZI Za m):=by
 obtain⟨t,p',r⟩:=h
 refine⟨_,pi_range1 hgl hr (pa_cons p' pa_nil hst) hst,RI.of (t2:=λx H1 R=>∃ j:Int,[x]=[V.int j]/\-(2 ^ 62)<=j/\j<2 ^ 62/\R (Itr 0 j.toNat) H1) r λG H d v ds R s rv e hR=>?_⟩
 obtain⟨j,rfl,hj,rfl⟩:=Yj e
 rw[zM.mp rv]
 refine⟨j,rfl,hj.1,hj.2,hR (Itr 0 j.toNat) (ItOk.of (Xr G j.toNat) ?_ ?_)⟩
 rotate_left
 ·exact λG' H' sg sh=>by show j.toNat<=_;simp
 intro G' H' i v sg sh hv
 have el:((List.range j.toNat).map λk:Nat=>V.int (k:Int)).length=j.toNat:=by simp
 have hi:i<j.toNat:=by rw[<-el];exact (List.getElem?_eq_some_iff.mp hv).1
 refine⟨hi,λx H'' ⟨e1,e2⟩=>⟨e1,?_⟩⟩
 rw[List.getElem?_map,List.getElem?_range hi]at hv
 cases hv
 rw[e2]
 simp
end
section
variable {prog:Program}{w:World}{A:Around}{R:Result->Shared->Prop}{s:Shared}
theorem u8 {elt target iter:Expr}{ifs:List Expr}{scope:Scope}{pos:Pos}{it acc:Value}{env:Env}(I:Nat->Shared->Prop)
  (turn:∀ n s,I n s->wpAny (model prog w) A (pyNext it) (λr s₁=>match r with
   |none=>R (.ok .next) s₁
   |some v=>wpAny (model prog w) A (letOwnedTupleGo target it v) (λ_ s₁=>wpAny (model prog w) A (assign target env v) (λ_ s₂=>
     wpAny (model prog w) A (forIn ifs true λc r=>if r=true then do let ok <-isTrue c env (eval c env);pure (ForInStep.yield ok) else pure (ForInStep.yield r)) (λok s₃=>
      if ok=true then wpAny (model prog w) A (eval elt env) (λx s₄=>
       wpAny (model prog w) A (call (.builtin "list.append") [acc,x]) (λ_ s₅=>∃ m,m<n/\I m s₅) (notedBy (model prog w) A env λe s'=>R (.error e) s') s₄) (notedBy (model prog w) A env λe s'=>R (.error e) s') s₃
      else ∃ m,m<n/\I m s₃) (notedBy (model prog w) A env λe s'=>R (.error e) s') s₂) (notedBy (model prog w) A env λe s'=>R (.error e) s') s₁) (notedBy (model prog w) A env λe s'=>R (.error e) s') s₁) (notedBy (model prog w) A env λe s'=>R (.error e) s') s)
  (n:Nat)(h:I n s) :
  codeAny (model prog w) A (.compLoop (.ListComp elt [⟨target,iter,ifs,0⟩] scope pos) 0 it acc env) R s:=by
 refine codeAny_loop rfl I (λn s hI=>?_) n h
 show wpAny _ A ((compTurn (.ListComp elt [⟨target,iter,ifs,0⟩] scope pos) 0 it acc env).onRaise (λx=>do noteFrame x env;theTreesLotGoes x)) _ _ s
 refine wpAny_noted ?_
 rw[compTurn_list]
 refine wpAny_bind (wpAny_standAt (wpAny_bind (wpAny_mono (turn n s hI) (λr s₁ h₁=>?_) λ_ _ h'=>h')))
 cases r with
 |none=>exact wpAny_pure h₁
 |some v=>
  refine wpAny_bind (wpAny_mono h₁ (λ_ s₁' h₁'=>?_) λ_ _ h'=>h')
  refine wpAny_bind (wpAny_mono h₁' (λ_ s₂ h₂=>wpAny_bind (wpAny_mono h₂ (λok s₃ h₃=>?_) λ_ _ h'=>h')) λ_ _ h'=>h')
  cases ok with
  |false=>exact wpAny_pure ⟨rfl,h₃⟩
  |true=>
   exact wpAny_bind (wpAny_bind (wpAny_mono h₃ (λx s₄ h₄=>wpAny_bind (wpAny_mono h₄ (λ_ s₅ h₅=>wpAny_pure (wpAny_pure ⟨rfl,h₅⟩)) λ_ _ h'=>h')) λ_ _ h'=>h'))
end
end PM
namespace PM
open PySem PySem.Spec PyProof.Rows L2
noncomputable def Zg (X:Cx)(scope:Scope)(cl:List (Str×Addr))(N':List Str)(C:Addr)(s₀:Shared)(H₀:Hp)(fp:List Addr)(pn:List (Addr×Obj)):Cx:=
 {X with N:=N',s₀:=s₀,H₀:=H₀,env:=compEnvC scope cl C X.env,outer:=X.stack,ex:=fp,fn:=λ_=>false,pn:=pn,xe:=λ_ _=>False }
structure BlkScope (X:Cx)(scope:Scope)(cl:List (Str×Addr)) (nt:Nat)(N':List Str)(idx:List Nat):Prop where
 clos:closureFor scope X.env=pure cl
 kind:scope.kind=.function
 nocell:∀ y ∈ scope.names,y.2≠.cell
 names:∀ y ∈ scope.names,y.2=.local->scope.names.lookup y.1=some .local
 sub:∀ x c,cl.lookup x=some c->X.env.cells.lookup x=some c
 has:∀ x,scope.names.lookup x=some .free->(cl.lookup x).isSome=true
 len:N'.length=nt+idx.length+1
 cap:∀ (j:Nat) i,idx[j]? = some i->∃ x,X.N[i]? = some x/\N'[nt+j]? = some x/\scope.names.lookup x=some .free/\X.env.scope.names.lookup x=some .cell
 acc:∃ x,N'[nt+idx.length]? = some x/\scope.names.lookup x=none
theorem Yi {env:Env}:∀ {names:List (Str×NameKind)}{x:Str}{k:NameKind},(∀ y ∈ names,y.2≠.cell) ->
  (names.map λ(n,k)=>if (k == NameKind.free && env.scope.kind == .function && env.kindOf n == some .cell) then (n,NameKind.cell) else (n,k)).lookup x=some k->(k=.cell\/k=.free)->names.lookup x=some .free
 |[],_,_,_,h,_=>by simp at h
 |(n,k0)::r,x,k,hc,h,hk=>by
  have ih:=@Yi env r x k (λy hy=>hc y (List.mem_cons_of_mem _ hy))
  have h':List.lookup x ((if (k0 == NameKind.free && env.scope.kind == .function && env.kindOf n == some .cell)=true then (n,NameKind.cell) else (n,k0))::_)=some k:=h
  cases hx:x == n with
  |true=>
   by_cases hcnd:(k0 == NameKind.free && env.scope.kind == .function && env.kindOf n == some .cell)=true
   ·have:k0=.free:=by
     simp only[Bool.and_eq_true,beq_iff_eq]at hcnd
     exact hcnd.1.1
    subst this
    simp[List.lookup_cons,hx]
   ·rw[if_neg hcnd]at h'
    simp only[List.lookup_cons,hx]at h'
    cases h'
    rcases hk with rfl | rfl
    ·exact absurd rfl (hc _ List.mem_cons_self)
    ·simp[List.lookup_cons,hx]
  |false=>
   have:(if (k0 == NameKind.free && env.scope.kind == .function && env.kindOf n == some .cell)=true then (n,NameKind.cell) else (n,k0)).1=n:=by split<;>rfl
   rw[List.lookup_cons]at h'
   rw[this,hx]at h'
   simp only[List.lookup_cons,hx]
   exact ih h' hk
theorem XJ {env:Env}:∀ {names:List (Str×NameKind)}{x:Str},names.lookup x=none ->
  (names.map λ(n,k)=>if (k == NameKind.free && env.scope.kind == .function && env.kindOf n == some .cell) then (n,NameKind.cell) else (n,k)).lookup x=none
 |[],_,_=>rfl
 |(n,k0)::r,x,h=>by
  cases hx:x == n with
  |true=>simp[List.lookup_cons,hx]at h
  |false=>
   simp only[List.lookup_cons,hx]at h
   show List.lookup x ((if (k0 == NameKind.free && env.scope.kind == .function && env.kindOf n == some .cell)=true then (n,NameKind.cell) else (n,k0))::_)=none
   have:(if (k0 == NameKind.free && env.scope.kind == .function && env.kindOf n == some .cell)=true then (n,NameKind.cell) else (n,k0)).1=n:=by split<;>rfl
   rw[List.lookup_cons,this,hx]
   exact XJ h
theorem XL {env:Env}:∀ {names:List (Str×NameKind)}{x:Str},names.lookup x=some .free ->
  ∃ k,(k=.cell\/k=.free)/\(names.map λ(n,k)=>if (k == NameKind.free && env.scope.kind == .function && env.kindOf n == some .cell) then (n,NameKind.cell) else (n,k)).lookup x=some k
 |[],_,h=>by simp at h
 |(n,k0)::r,x,h=>by
  cases hx:x == n with
  |true=>
   simp only[List.lookup_cons,hx]at h
   cases h
   by_cases hcnd:(NameKind.free == NameKind.free && env.scope.kind == .function && env.kindOf n == some .cell)=true
   ·exact⟨.cell,.inl rfl,by show List.lookup x ((if _ then _ else _)::_)=_;rw[if_pos hcnd];simp[List.lookup_cons,hx]⟩
   ·exact⟨.free,.inr rfl,by show List.lookup x ((if _ then _ else _)::_)=_;rw[if_neg hcnd];simp[List.lookup_cons,hx]⟩
  |false=>
   simp only[List.lookup_cons,hx]at h
   obtain⟨k,hk,e⟩:=XL (env:=env) h
   refine⟨k,hk,?_⟩
   show List.lookup x ((if (k0 == NameKind.free && env.scope.kind == .function && env.kindOf n == some .cell)=true then (n,NameKind.cell) else (n,k0))::_)=some k
   have:(if (k0 == NameKind.free && env.scope.kind == .function && env.kindOf n == some .cell)=true then (n,NameKind.cell) else (n,k0)).1=n:=by split<;>rfl
   rw[List.lookup_cons,this,hx]
   exact e
section
variable {X:Cx}{pins:List (Addr×Obj)}{σ:St}{H:Hp}{s:Shared}{scope:Scope}{cl:List (Str×Addr)}{nt:Nat}{N':List Str}{idx:List Nat}{fp:List Addr}
noncomputable def Zw (nt:Nat)(idx:List Nat)(σ:St)(p:Addr):St:=List.replicate nt none++(idx.map λi=>σ.getD i none)++[some (.ref p)]
theorem Q7 {h1:Heap}{tk:Nat}{p:Addr}(B:BlkScope X scope cl nt N' idx)(I:Inv X pins σ H s)(hf:∀ b ∈ fp,FpOk X pins H b)(ho:∀ b ∈ fp,∃ o,s.heap.get? b=some o/\∀ v,o.data≠.cell v)
  (hn:h1.Ns s.heap.objs.size (λ_=>none))(hk:∀ b o,s.heap.get? b=some o->h1.get? b=some o) :
  Inv (Zg X scope cl N' s.heap.objs.size s H fp (X.pn++pins)) [] (Zw nt idx σ p) H { s with heap:=h1,toks:=tk }:=by
 have szlt:∀ b o,s.heap.get? b=some o->b≠s.heap.objs.size:=λb o q=>Nat.ne_of_lt (Heap.lt_size q)
 have stk:∀ b ∈ fp,b ∉ frs X.stack:=λb hb z=>by
  obtain⟨_,h2,h3,_⟩:=hf b hb
  rcases List.mem_cons.mp (I.stkSub b z) with q | q
  ·exact h2 q
  ·exact h3 q
 have ok:(Zg X scope cl N' s.heap.objs.size s H fp (X.pn++pins)).Ok:=by
  refine⟨I.ok.mod,B.kind,I.ok.glob,I.ok.blt,Nat.le_refl _,λx y c e1 e2=>I.ok.inj x y c (B.sub x c e1) (B.sub y c e2),λx hx=>?_,(λx c e=>by cases e),I.ok.hd,I.ok.frames,.inl rfl,λb hb=>?_,I.bs,Nat.le_trans I.ok.bsz I.sz,λb o e hb=>?_,stk,I.stack,I.stkFree⟩
  ·have hx':(relabel scope X.env).names.lookup x=some .cell\/(relabel scope X.env).names.lookup x=some .free:=hx
   have:scope.names.lookup x=some .free:=by
    rcases hx' with z | z
    ·exact Yi B.nocell z (.inl rfl)
    ·exact Yi B.nocell z (.inr rfl)
   exact Option.isSome_iff_exists.mp (B.has x this)
  ·obtain⟨o,q,_⟩:=ho b hb
   exact⟨szlt b o q,λx c e=>(hf b hb).2.2.2.2.1 x c (B.sub x c e)⟩
  ·obtain⟨_,_,_,h4,_⟩:=hf b hb
   rcases h4 with z | z
   ·exact I.ok.noex b o e z
   ·have h5:b<X.base.objs.size:=Heap.lt_size e
    exact absurd (Nat.lt_of_lt_of_le h5 (Nat.le_trans I.ok.bsz z)) (Nat.lt_irrefl _)
 refine⟨ok,rfl,I.bare,Un.kept hk,⟨_,hn,λi x v e1 e2 e3=>?_⟩,λx c e=>?_,I.hok.fresh (Nat.le_refl _),λx c e=>I.freeC x c (B.sub x c e),λq hq=>?_,I.hok.kept hk,?_⟩
 ·have e1':N'[i]? = some x:=e1
  have e3':Vis (relabel scope X.env) x:=e3
  by_cases h1:i<nt
  ·exfalso
   unfold Zw at e2
   rw[List.append_assoc,List.getElem?_append_left (by simpa using h1),List.getElem?_replicate]at e2
   split at e2<;>cases e2
  ·by_cases h2:i<nt+idx.length
   ·obtain⟨j,rfl⟩ : ∃ j,i=nt+j:=⟨i - nt,by omega⟩
    have hj:j<idx.length:=by omega
    have ej:idx[j]? = some idx[j]:=List.getElem?_eq_getElem hj
    obtain⟨y,y1,y2,y3,y4⟩:=B.cap j _ ej
    rw[e1']at y2
    cases y2
    have ev:σ[idx[j]]? = some (some v):=by
     unfold Zw at e2
     rw[List.getElem?_append_left (by simp;omega),List.getElem?_append_right (by simp),List.getElem?_map]at e2
     simp only[List.length_replicate,Nat.add_sub_cancel_left,ej,Option.map_some]at e2
     have e2':=Option.some.inj e2
     rw[List.getD_eq_getElem?_getD]at e2'
     cases q:σ[idx[j]]? with
     |none=>rw[q]at e2';cases e2'
     |some o=>rw[q]at e2';exact congrArg some e2'
    obtain⟨m,hm,hl⟩:=I.loc
    obtain⟨u,r,l⟩:=hl _ x v y1 ev (.inr (.inl y4))
    refine⟨u,r,.inr ?_⟩
    have hc:∃ c,X.env.cells.lookup x=some c/\s.heap.IsCell c (some u):=by
     rcases l with ⟨k,_⟩ | ⟨_,c,e,z⟩
     ·have k':X.env.scope.names.lookup x=some .local:=k
      rw[y4]at k'
      cases k'
     ·exact⟨c,e,z⟩
    obtain⟨c,e,z⟩:=hc
    obtain⟨c',e'⟩:=Option.isSome_iff_exists.mp (B.has x y3)
    have:=B.sub x c' e'
    rw[e]at this
    cases this
    obtain⟨k,hk',hlk⟩:=XL (env:=X.env) y3
    obtain⟨o,ho,hd⟩:=z
    refine⟨?_,c,e',o,hk _ _ ho,hd⟩
    rcases hk' with rfl | rfl
    ·exact .inl hlk
    ·exact .inr hlk
   ·exfalso
    have hil:i<N'.length:=(List.getElem?_eq_some_iff.mp e1').1
    have:i=nt+idx.length:=by rw[B.len]at hil;omega
    subst this
    obtain⟨y,y1,y2⟩:=B.acc
    rw[e1']at y1
    cases y1
    have hno:=XJ (env:=X.env) y2
    have hno':(relabel scope X.env).names.lookup x=none:=hno
    unfold Vis at e3'
    rw[hno']at e3'
    rcases e3' with z | z | z<;>cases z
 ·obtain⟨v,o,ho,hd⟩:=I.cell x c (B.sub x c e)
  exact⟨v,o,hk _ _ ho,hd⟩
 ·have hq0:q ∈ (X.pn++pins)++[]:=hq
  have hq':q ∈ X.pn++pins:=by rw[List.append_nil]at hq0;exact hq0
  obtain⟨p1,p2,p3,p4,p5⟩:=I.pin q hq'
  refine⟨hk _ _ p1,p2,szlt _ _ p1,λz=>?_,p5⟩
  rcases List.mem_cons.mp (I.stkSub q.1 z) with y | y
  ·exact p3 y
  ·exact p4 y
 ·show (Zw nt idx σ p).length=N'.length
  rw[B.len]
  unfold Zw
  simp
  omega
theorem KT {s':Shared}{h'':Heap}{pins':List (Addr×Obj)}{C:Addr}{σ':St}{H':Hp}(I:Inv X pins σ H s)(hf:∀ b ∈ fp,FpOk X pins H b)(J:Inv (Zg X scope cl N' C s H fp (X.pn++pins)) pins' σ' H' s')
  (hC:s.heap.objs.size<=C)(hs:Heap.SameBut C s'.heap h'')(hk:HOk X.prog X.w H' h''):Inv X pins σ H' { s' with heap:=h'' }:=by
 have up:∀ b o,b≠C->s'.heap.get? b=some o->h''.get? b=some o:=λb o n q=>(hs.2 b n).trans q
 have ne:∀ b o,s.heap.get? b=some o->b≠C:=λb o q z=>by
  subst z
  exact absurd (Nat.lt_of_lt_of_le (Heap.lt_size q) hC) (Nat.lt_irrefl _)
 have u:=J.base
 refine I.call' (s':={ s' with heap:=h'' }) (ch:=fp) J.os ⟨λb o q n hb hx=>up b o (ne b o q) (u.keep b o q n hb hx),λb o q n hb hx=>?_,u.free,λb o q hx=>?_,u.tups,u.frzs,u.tbls⟩ hk J.bare λb hb=>?_
 ·obtain⟨sl,e⟩:=u.slot b o q n hb hx
  exact⟨sl,up b _ (ne b o q) e⟩
 ·obtain⟨o',e⟩:=u.there b o q hx
  exact⟨o',up b _ (ne b o q) e⟩
 ·obtain⟨h1,h2,h3,h4,h5,h6⟩:=hf b hb
  exact⟨h4,h2,h5,h6⟩
end
end PM
namespace PM
open PySem PySem.Spec PyProof.Rows L2
section
variable {K:PySem.W.Frag}
theorem Q0 {H0 H0' G H H':Hp}{s:Slot}{o:Option (Option V)}(h:Yc K H0 G H s o):Yc K H0' G H' (Vv s) o:=by
 cases s with
 |un=>exact trivial
 |fz d=>exact h
 |own d=>exact trivial
 |dic d=>exact trivial
 |own2 d=>exact trivial
 |dicT d=>exact trivial
 |ownM d=>exact trivial
 |obj C d=>exact trivial
 |junk n=>exact trivial
theorem Q1 (s:Slot){H:Hp}{o:Option (Option V)}{b:Addr}:¬ (Vv s).foot H o b:=by cases s<;>exact λh=>h
theorem JW {G0 H0:Hp}{ρ:Rho}{σ:St}{G H:Hp}{nt:Nat}{idx:List Nat}{p:Addr}{acc:Slot}(hacc:acc=.own []\/acc=.own2 []\/acc=.ownM [])(ho:Hold K G0 H0 ρ σ G H)(hp:H p=none)(hidx:∀ i ∈ idx,i<σ.length) :
  Hold K G H (YK acc nt idx ρ) (Zw nt idx σ p) G (upd H p (.lst [])):=by
 have hg:G p=none:=ho.e.s.free hp
 have cases3:∀ (i:Nat)(s:Slot),(YK acc nt idx ρ)[i]? = some s->(s=.un)\/(∃ j k,i=nt+j/\idx[j]? = some k/\s=Vv (ρ.getD k .un)/\(Zw nt idx σ p)[i]? = some (σ.getD k none))\/(i=nt+idx.length/\s=acc/\(Zw nt idx σ p)[i]? = some (some (.ref p))):=λi s e=>by
  unfold YK at e
  by_cases h1:i<nt
  ·rw[List.append_assoc,List.getElem?_append_left (by simpa using h1),List.getElem?_replicate]at e
   split at e<;>first | (cases e;exact .inl rfl) | cases e
  ·by_cases h2:i<nt+idx.length
   ·obtain⟨j,rfl⟩ : ∃ j,i=nt+j:=⟨i - nt,by omega⟩
    have hj:j<idx.length:=by omega
    have ej:idx[j]? = some idx[j]:=List.getElem?_eq_getElem hj
    rw[List.getElem?_append_left (by simp;omega),List.getElem?_append_right (by simp),List.getElem?_map]at e
    simp only[List.length_replicate,Nat.add_sub_cancel_left,ej,Option.map_some]at e
    cases e
    refine .inr (.inl ⟨j,idx[j],rfl,ej,rfl,?_⟩)
    unfold Zw
    rw[List.getElem?_append_left (by simp;omega),List.getElem?_append_right (by simp),List.getElem?_map]
    simp only[List.length_replicate,Nat.add_sub_cancel_left,ej,Option.map_some]
   ·have hi:i<(List.replicate nt Slot.un++(idx.map λi=>Vv (ρ.getD i .un))++[acc]).length:=(List.getElem?_eq_some_iff.mp e).1
    have hi':i=nt+idx.length:=by simp at hi;omega
    subst hi'
    rw[List.getElem?_append_right (by simp)]at e
    simp at e
    refine .inr (.inr ⟨rfl,e.symm,?_⟩)
    unfold Zw
    rw[List.getElem?_append_right (by simp)]
    simp
 refine⟨⟨Same.refl _,ho.e.s.trans (Same.upd hp),λ_ _ e=>e,Same.upd hp⟩,Same.upd hp,λi s e=>?_,λi j si sj a e1 e2 m1 m2=>?_,by unfold YK Zw;simp⟩
 ·rcases cases3 i s e with rfl | ⟨j,k,rfl,ek,rfl,es⟩ | ⟨rfl,rfl,es⟩
  ·exact trivial
  ·rw[es]
   have hk:=hidx k (List.mem_of_getElem? ek)
   have hkρ:k<ρ.length:=by rw[ho.len];exact hk
   have q:=ho.sl k ρ[k] (List.getElem?_eq_getElem hkρ)
   have e1:ρ.getD k .un=ρ[k]:=by rw[List.getD_eq_getElem?_getD,List.getElem?_eq_getElem hkρ];rfl
   have e2:σ[k]? = some (σ.getD k none):=by rw[List.getD_eq_getElem?_getD,List.getElem?_eq_getElem hk];rfl
   rw[e1,<-e2]
   exact Q0 q
  ·rw[es]
   rcases hacc with rfl | rfl | rfl
   ·exact⟨p,[],rfl,upd_same,hg,hp,zL.nil⟩
   ·exact⟨p,[],rfl,upd_same,hg,hp,(by simp),List.nodup_nil,rfl,λk b ds h=>by simp at h⟩
   ·exact⟨p,[],[],rfl,upd_same,hg,hp,(by simp),List.nodup_nil,rfl,rfl,λk t b g n ds h=>by simp at h⟩
 ·have only:∀ {i:Nat}{s:Slot},(YK acc nt idx ρ)[i]? = some s->∀ {H':Hp}{o:Option (Option V)}{c:Addr},s.foot H' o c->i=nt+idx.length:=fun {i s} e {H' o c} m=>by
   rcases cases3 i s e with rfl | ⟨j,k,rfl,ek,rfl,es⟩ | ⟨rfl,rfl,es⟩
   ·exact m.elim
   ·exact absurd m (Q1 _)
   ·rfl
  rw[only e1 m1,only e2 m2]
end
section
variable {X:Cx}{E:XK}{elt iter tg:Expr}{scope:Scope}{cl:List (Str×Addr)}{nt:Nat}{N':List Str}{idx:List Nat}{pos:Pos}{mi:M (List D)}{gm:GM}{me:M D}
noncomputable def RGk (K:PySem.W.Frag)(g:TG)(gm:GM) (k:Nat):Prop:=∀ G0 H0 ρ σ G H d v (Q:St->Hp->Prop),Hold K G0 H0 ρ σ G H->Rep K G d v ->
 (∃ ρ',gm d ρ=some ρ'/\∀ (σ':St) G' H',Same G G'->Hold K G0 H0 ρ' σ' G' H'->(∀ t,k<=t->σ'[t]? = σ[t]?)->Q σ' H')->g v σ H Q
noncomputable def MGk (X:Cx)(tg:Expr)(gm:GM) (k:Nat):Prop:=∃ g,PG X tg g/\RGk X.K g gm k
noncomputable def zBY (K:PySem.W.Frag)(g:TGs)(is:List Nat) (k:Nat):Prop:=∀ G0 H0 ρ σ G H ds vs (Q:St->Hp->Prop),Hold K G0 H0 ρ σ G H->zL K G ds vs ->
 (∃ ρ',Y9 is ds ρ=some ρ'/\∀ (σ':St) G' H',Same G G'->Hold K G0 H0 ρ' σ' G' H'->(∀ t,k<=t->σ'[t]? = σ[t]?)->Q σ' H')->g vs σ H Q
noncomputable def Ke (X:Cx)(tgs:List Expr)(is:List Nat) (k:Nat):Prop:=∃ g,PGs X tgs g/\zBY X.K g is k
theorem ye (i k:Nat){x:Str}(hik:i<k)(hN:X.N.Nodup)(hi:autoParam (X.N[i]? = some x) aR._auto_1)(hx:autoParam (Loc X.env.scope x) aL._auto_1)(hf:autoParam (X.fn x=true\/X.env.scope.names.lookup x=some .local) aF._auto_1):MGk X (.Name x pos) (ZC i) k:=
 ⟨_,pg_name hN hi hx hf,λG0 H0 ρ σ G H d v Q ho r ⟨ρ',e,hQ⟩=>by
  cases e
  exact hQ _ G H (Same.refl _) (ho.setFz r) λt ht=>List.getElem?_set_ne (by omega)⟩
theorem JF (k:Nat):Ke X [] [] k:=⟨_,pgs_nil,by
 intro G0 H0 ρ σ G H ds vs Q ho r ⟨ρ',e,hQ⟩
 cases ds with
 |nil=>cases e;exact⟨r.nil_inv,hQ σ G H (Same.refl _) ho λ_ _=>rfl⟩
 |cons d ds=>cases e⟩
theorem vk (i k:Nat){x:Str}{es:List Expr}{is:List Nat}(hik:i<k)(hN:X.N.Nodup)(h2:Ke X es is k)(hi:autoParam (X.N[i]? = some x) aR._auto_1)(hx:autoParam (Loc X.env.scope x) aL._auto_1)(hf:autoParam (X.fn x=true\/X.env.scope.names.lookup x=some .local) aF._auto_1)
  (hs:autoParam ((assignEach (.Name x pos::es) X.env).map (·.2)=assign (.Name x pos) X.env::(assignEach es X.env).map (·.2)) aR._auto_1):Ke X (.Name x pos::es) (i::is) k:=by
 obtain⟨g,p,r⟩:=h2
 refine⟨_,pgs_cons (pg_name hN hi hx hf) p hs,?_⟩
 intro G0 H0 ρ σ G H ds vs Q ho rl ⟨ρ',e,hQ⟩
 cases ds with
 |nil=>cases e
 |cons d ds=>
  obtain⟨v,vr,rfl,r1,r2⟩:=rl.cons_inv
  exact⟨v,vr,rfl,r G0 H0 _ _ G H ds vr Q (ho.setFz r1) r2 ⟨ρ',e,λσ' G' H' s h e'=>hQ σ' G' H' s h λt ht=>(e' t ht).trans (List.getElem?_set_ne (by omega))⟩⟩
theorem KE {es:List Expr}{is:List Nat}{k0 n:Nat} (k:Nat)(hc:X.calm=true)(h:Ke X es is k)(hl:is.length=n)(hn:autoParam ((assignEach es X.env).length=n) aR._auto_1)(hst:autoParam ((assignEach es X.env).findIdx? (·.1)=none) aR._auto_1):MGk X (.Tuple es k0 pos) (Yw is) k:=by
 obtain⟨g,p,r⟩:=h
 refine⟨_,pg_tup hc p hn hst,?_⟩
 intro G0 H0 ρ σ G H d v Q ho rv ⟨ρ',e,hQ⟩
 cases d<;>first | (cases e;done) | skip
 rename_i ds
 obtain⟨a,vs,rfl,hq,rl⟩:=zg.mp rv
 have e':Y9 is ds ρ=some ρ':=e
 exact⟨a,vs,rfl,SqT.same ho.e.s hq,by rw[rl.ln,X6 e'];exact hl,r G0 H0 ρ σ G H ds vs Q ho rl ⟨ρ',e',hQ⟩⟩
noncomputable def MC (X:Cx)(ifs:List Expr)(c:Option (M Bool)):Prop:=(ifs=[]/\c=none)\/∃ e m,ifs=[e]/\c=some m/\MT X E0 e m
noncomputable def ElR (X:Cx)(elt:Expr)(bm:M Fl) (k:Nat):Prop:=∀ (pins:List (Addr×Obj))(s:Shared)(σ:St)(H G0 H0 G:Hp)(ρ:Rho)(p:Addr)(D:Ends)(E':Value->Shared->Prop),Inv X pins σ H s->Hold X.K G0 H0 ρ σ G H->σ[k]? = some (some (.ref p))->zp X.K E0 G0 H0 G (bm ρ) D->(∀ v s,X.xe v s->E' v s) ->
 wpAny (model X.prog X.w) X.A (eval elt X.env) (λxv s₄=>wpAny (model X.prog X.w) X.A (call (.builtin "list.append") [.ref p,xv]) (λ_ s₅=>∃ H5,Inv X pins σ H5 s₅/\D.nx σ H5) E' s₄) E' s
theorem zAy {k:Nat}(he:ME X E0 elt me):ElR X elt (ZT k me) k:=by
 intro pins s9 σ8 H9 G1 H2 G9 ρ9 p D E' I9 h9 k8 p9 hx
 obtain⟨te,pe,re⟩:=he
 unfold ZT at p9
 cases eo:zY ρ9[k]? with
 |none=>rw[eo]at p9;exact p9.elim
 |some ys0=>
  rw[eo]at p9
  have p9':zp X.K E0 G1 H2 G9 ((me ρ9).bnd λx ρ=>(zU (zY ρ[k]?) ρ).bnd λds ρ=>if ds.length<sizeLine then .ok .nx (ρ.set k (.own (ds++[x]))) else .bad) D:=p9
  have step:=re G1 H2 ρ9 σ8 G9 H9 h9 (λxx H10=>∃ dd ρ10 G10,me ρ9=.ok dd ρ10/\Same G9 G10/\Hold X.K G1 H2 ρ10 σ8 G10 H10/\Rep X.K G10 dd xx) (by
   cases qe:me ρ9 with
   |ok dd ρ10=>exact λxx G' H' s1 h1 r1=>⟨dd,ρ10,G',rfl,s1,h1,r1⟩
   |exn cc ρ10=>rw[qe]at p9';exact λG' H' s1 h1=>p9' σ8 G' H' s1 h1
   |bad=>rw[qe]at p9';exact p9')
  refine wpAny_mono (pe _ s9 σ8 H9 _ I9 step) (λxu s10 ⟨xx,H10,I10,r10,dd,ρ10,G10,qe,sg10,h10,rd⟩=>?_) hx
  rw[qe]at p9'
  have p10:zp X.K E0 G1 H2 G9 ((zU (zY ρ10[k]?) ρ10).bnd λds ρ=>if ds.length<sizeLine then .ok .nx (ρ.set k (.own (ds++[dd]))) else .bad) D:=p9'
  cases eo2:zY ρ10[k]? with
  |none=>rw[eo2]at p10;exact p10.elim
  |some ys=>
   rw[eo2]at p10
   obtain⟨a,ws,a1,a2,a3,a4,a5⟩:=h10.own eo2
   have a1':=a1
   rw[k8]at a1'
   cases a1'
   by_cases hz:ys.length<sizeLine
   ·simp only[zd,Res.bnd_ok,if_pos hz]at p10
    refine wpAny_mono (mt_append (X:=X) _ s10 σ8 H10 (.ref _) [xx] (.ref _) [xu] (λ_ H11=>H11=upd H10 p (.lst (ws++[xx]))) I10 rfl (.cons r10 .nil) ⟨_,ws,xx,rfl,rfl,a2,by rw[a5.ln];exact hz,rfl⟩) (λ_ s11 ⟨_,H11,I11,_,e11⟩=>?_) hx
    subst e11
    exact⟨_,I11,p10 σ8 G10 _ sg10 (h10.setMut (ZN eo2) rfl a1 a3 a4 (s':=.own (ys++[dd])) ⟨_,ws++[xx],rfl,upd_same,a3,a4,a5.app (zL.cons rd zL.nil)⟩ rfl)⟩
   ·exfalso
    simp only[zd,Res.bnd_ok,if_neg hz]at p10
    exact p10
inductive LoopI (X XB:Cx)(tn:Nat->Heap->Prop)(fp:List Addr) (len nt:Nat)(σ0:St)(G1 B2:Hp)(M:Nat->Rho->Res Fl)(Dn:Ends) (n:Nat)(s':Shared):Prop where
 |mk (i:Nat)(σ':St)(H':Hp)(ρ':Rho)(G':Hp)(I:Inv XB [] σ' H' s')(st:tn i s'.heap)(fr:∀ b ∈ fp,H' b=none)(e:n=len - i)(hi:i<=len)(k:∀ t,nt<=t->σ'[t]? = σ0[t]?)(sg:Same G1 G')(h:Hold X.K G1 B2 ρ' σ' G' H')(p:zp X.K E0 G1 B2 G' (M i ρ') Dn)
theorem Qy {ifs:List Expr}{c:Option (M Bool)}{use:Option (Value->Sem Unit)}{QQ:Value->Shared->Prop}{pins:List (Addr×Obj)}{s:Shared}{σ:St}{H:Hp}{wi:TI}{cpos:Pos}{R0:Rho->Rho}{B:Hp->Hp}{bm:M Fl}(hcalm:X.calm=true)(Bs:BlkScope X scope cl nt N' idx)(hidx:∀ i ∈ idx,i<X.N.length)
  (hg:∀ C s H fp pn,MGk (Zg X scope cl N' C s H fp pn) tg gm nt)(hc:∀ C s H fp pn,MC (Zg X scope cl N' C s H fp pn) ifs c)(he:∀ C s H fp pn,ElR (Zg X scope cl N' C s H fp pn) elt bm (nt+idx.length))
  (hs:∀ x,foldedSetIterable iter X.env x=pure x)(I:Inv X pins σ H s)(pw:PI X tg iter wi)(G0 H0 G:Hp)(ρ:Rho)(hblk:∀ ρ1 G1 H2 p,Hold X.K G0 H0 ρ1 σ G1 H2->H2 p=none->Hold X.K G1 (B H2) (R0 ρ1) (Zw nt idx σ p) G1 (upd H2 p (.lst [])))
  (hR:wi σ H (λJ H'=>∃ ds ρ1 G1,mi ρ=.ok ds ρ1/\Same G G1/\Hold X.K G0 H0 ρ1 σ G1 H'/\ItOk X.K J G1 ds))
  (some_:∀ ds ρ1,mi ρ=.ok ds ρ1->∃ ρ2,ZG gm (Z9 c bm) ds (R0 ρ1)=.ok .nx ρ2)
  (fin:∀ ds ρ1 ρ2 σ7 G1 H2 G7 H5 p C s6,mi ρ=.ok ds ρ1->ZG gm (Z9 c bm) ds (R0 ρ1)=.ok .nx ρ2->Same G G1->Hold X.K G0 H0 ρ1 σ G1 H2->Hold X.K G1 (B H2) ρ2 σ7 G7 H5->(∀ t,nt<=t->σ7[t]? = (Zw nt idx σ p)[t]?)->H2 p=none ->
   Inv X pins σ H5 s6->(∃ m,s6.heap.Ns C m)->H5 C=none->C≠X.env.locals->X.s₀.heap.objs.size<=C->(∀ x cc,X.env.cells.lookup x=some cc->cc≠C)->(∀ q ∈ X.pn++pins,q.1≠C)->compPost (model X.prog X.w) X.A X.xe use QQ (.ref p) C (.ok .next) s6) :
  wpAny (model X.prog X.w) X.A (comprehension (.ListComp elt [⟨tg,iter,ifs,0⟩] scope pos) scope X.env cpos (newList []) false (eval iter X.env) use) QQ X.xe s:=by
 refine wpAny_comprehension_free rfl hs Bs.clos Bs.kind Bs.names ?_
 refine wpAny_mono (pw pins s σ H _ I hR) (λxv s1 h1=>wpAny_mono h1 (λitv s2 h2=>?_) λ_ _ e=>e) λ_ _ e=>e
 obtain⟨it,fp,tn,J,H2,rfl,I2,T,st2,f2,ds,ρ1,G1,emi,sg1,h1,io⟩:=h2
 obtain⟨ρF,hysF⟩:=some_ ds ρ1 emi
 refine wpAny_newObj_type ?_
 have I3:Inv X pins σ (upd H2 s2.heap.objs.size (.lst [])) { s2 with heap:=s2.heap.push { cls:=.type "list",data:=.seq ([]:List Value).toArray } }:=I2.lnew (t':=s2.toks) (its:=[]) (ys:=[]) .nil (Nat.zero_le _)
 have hp:H2 s2.heap.objs.size=none:=I2.fresh
 refine wpAny_newFunctionEnv Bs.nocell (by intro y hy;simp at hy) (λh₁ hns₁ hsb₁=>?_) Bs.kind
 dsimp only at hns₁ hsb₁ ⊢
 generalize hs3:({ s2 with heap:=s2.heap.push { cls:=.type "list",data:=.seq ([]:List Value).toArray } }:Shared)=s3 at I3
 have es3:s3.heap=s2.heap.push { cls:=.type "list",data:=.seq ([]:List Value).toArray }:=by rw[<-hs3]
 generalize hC:(s2.heap.push { cls:=.type "list",dict:=none,data:=.seq ([]:List Value).toArray }).objs.size=C at hns₁ hsb₁ ⊢
 have hC3:C=s3.heap.objs.size:=by rw[es3];exact hC.symm
 have hk:∀ b o,s3.heap.get? b=some o->h₁.get? b=some o:=λb o e=>by
  have hlt:=Heap.lt_size e
  exact hsb₁.extBut b o (by rw[hC3];exact Nat.ne_of_lt hlt) (Heap.get?_push_of_some _ (by rw[es3]at e;exact e))
 have f3:∀ b ∈ fp,FpOk X pins (upd H2 s2.heap.objs.size (.lst [])) b:=λb hb=>by
  obtain⟨g1,g2⟩:=f2 b hb
  refine⟨?_,g2⟩
  obtain⟨o,eo,_⟩:=T.obj _ _ st2 b hb
  rw[upd_ne (Nat.ne_of_lt (Heap.lt_size eo))]
  exact g1
 have st3:tn 0 s3.heap:=T.keep _ _ _ st2 λb hb o e=>by rw[es3];exact Heap.get?_push_of_some _ e
 have st4:tn 0 h₁:=T.keep _ _ _ st3 λb hb o e=>hk b o e
 have IB:=Q7 (p:=s2.heap.objs.size) (tk:=s3.toks+([]:List (Str×Value)).length) Bs I3 f3 (T.obj _ _ st3) (hC3 ▸ hns₁) hk
 rw[<-hC3]at IB
 have hB0:Hold X.K G1 (B H2) (R0 ρ1) (Zw nt idx σ s2.heap.objs.size) G1 (upd H2 s2.heap.objs.size (.lst [])):=hblk ρ1 G1 H2 _ h1 hp
 -- the end of all turns
 let Dn:Ends:={ nx:=λσ' H'=>∃ ρ'' G'',Same G1 G''/\Hold X.K G1 (B H2) ρ'' σ' G'' H'/\ZG gm (Z9 c bm) ds (R0 ρ1)=.ok .nx ρ'',rt:=λ_ _=>False }
 have hP0:zp X.K E0 G1 (B H2) G1 (ZG gm (Z9 c bm) ds (R0 ρ1)) Dn:=by
  rw[hysF]
  exact λσ' G' H' s1 h1=>⟨ρF,G',s1,h1,hysF⟩
 have loop:∀ s4:Shared,s4={ s3 with heap:=h₁,toks:=s3.toks+([]:List (Str×Value)).length } ->
   codeAny (model X.prog X.w) X.A (.compLoop (.ListComp elt [⟨tg,iter,ifs,0⟩] scope pos) 0 (.ref it) (.ref s2.heap.objs.size) (compEnvC scope cl C X.env)) (compPost (model X.prog X.w) X.A X.xe use QQ (.ref s2.heap.objs.size) C) s4:=by
  rintro s4 rfl
  refine u8 (λn s'=>LoopI X (Zg X scope cl N' C s3 (upd H2 s2.heap.objs.size (.lst [])) fp (X.pn++pins)) tn fp ds.length nt (Zw nt idx σ s2.heap.objs.size) G1 (B H2) (λi=>ZG gm (Z9 c bm) (ds.drop i)) Dn n s') ?_ ds.length
   ⟨0,_,_,_,G1,IB,st4,λb hb=>(f3 b hb).1,by simp,Nat.zero_le _,λ_ _=>rfl,Same.refl _,hB0,by simpa using hP0⟩
  rintro n s5 ⟨i,σ5,H5,ρ5,G5,I5,st5,fr5,rfl,hi5,k5,sg5,h5,p5⟩
  have stat:∀ {H':Hp},(∀ b ∈ fp,H' b=none)->∀ b ∈ fp,FpOk (Zg X scope cl N' C s3 (upd H2 s2.heap.objs.size (.lst [])) fp (X.pn++pins)) [] H' b:=fun {H'} hn b hb=>by
   obtain⟨g1,g2,g3,g4,g5,g6⟩:=f3 b hb
   obtain⟨o,eo,_⟩:=T.obj _ _ st3 b hb
   refine⟨hn b hb,by rw[show (Zg X scope cl N' C s3 (upd H2 s2.heap.objs.size (.lst [])) fp (X.pn++pins)).env.locals=C from rfl,hC3];exact Nat.ne_of_lt (Heap.lt_size eo),I5.ok.exfs b hb,.inl hb,λx cc e=>g5 x cc (Bs.sub x cc e),λq hq=>?_⟩
   have hq0:q ∈ (X.pn++pins)++[]:=hq
   rw[List.append_nil]at hq0
   exact g6 q hq0
  by_cases hlt:i<ds.length
  ·have hd:ds[i]? = some ds[i]:=List.getElem?_eq_getElem hlt
   obtain⟨go,yl⟩:=io.go G5 H5 i _ sg5 h5.e.s hd
   rw[List.drop_eq_getElem_cons hlt]at p5
   unfold ZG at p5
   refine wpAny_mono (T.item (Zg X scope cl N' C s3 (upd H2 s2.heap.objs.size (.lst [])) fp (X.pn++pins)) rfl rfl rfl hcalm i [] s5 σ5 H5 _ I5 (stat fr5) st5 go) (λr s6 ⟨u,hr,h6⟩=>?_) λ_ _ e=>e
   subst hr
   refine wpAny_mono h6 (λ_ s7 ⟨x,H7,I7,r7,y7,st7,fr7⟩=>?_) λ_ _ e=>e
   obtain⟨G7,ex7,hs7,rv⟩:=yl x H7 y7
   replace sg5:=sg5.trans ex7.g
   replace h5:=h5.grow ex7 hs7
   replace p5:=zp.mono ex7.g p5
   have I7':=I7.pinned (stat fr7) (T.obj _ _ st7)
   obtain⟨g,pg,rg⟩:=hg C s3 (upd H2 s2.heap.objs.size (.lst [])) fp (X.pn++pins)
   -- behind an item: the next turn
   have again:∀ {σ9:St}{H9:Hp}{s9:Shared},Inv (Zg X scope cl N' C s3 (upd H2 s2.heap.objs.size (.lst [])) fp (X.pn++pins)) ([]++pinsAt fp s7.heap) σ9 H9 s9->(∀ t,nt<=t->σ9[t]? = (Zw nt idx σ s2.heap.objs.size)[t]?) ->
     (∃ ρ9 G9,Same G1 G9/\Hold X.K G1 (B H2) ρ9 σ9 G9 H9/\zp X.K E0 G1 (B H2) G9 (ZG gm (Z9 c bm) (ds.drop (i+1)) ρ9) Dn) ->
     ∃ m,m<ds.length - i/\LoopI X (Zg X scope cl N' C s3 (upd H2 s2.heap.objs.size (.lst [])) fp (X.pn++pins)) tn fp ds.length nt (Zw nt idx σ s2.heap.objs.size) G1 (B H2) (λi=>ZG gm (Z9 c bm) (ds.drop i)) Dn m s9:=fun {σ9 H9 s9} I9 k9 ⟨ρ9,G9,sg9,h9,p9⟩=>by
    refine⟨ds.length - (i+1),by omega,i+1,σ9,H9,ρ9,G9,I9.unpinned,T.keep _ _ _ st7 λb hb o e=>(I9.pin (b,o) (List.mem_append_right _ (List.mem_append_right _ (mem_pinsAt hb e)))).1,λb hb=>?_,rfl,hlt,k9,sg9,h9,p9⟩
    obtain⟨o,e,d⟩:=T.obj _ _ st7 b hb
    exact (I9.pin (b,o) (List.mem_append_right _ (List.mem_append_right _ (mem_pinsAt hb e)))).2.1
   cases q:gm ds[i] ρ5 with
   |none=>rw[q]at p5;exact p5.elim
   |some ρ6=>
    rw[q]at p5
    have p6:zp X.K E0 G1 (B H2) G7 ((Z9 c bm ρ6).bnd λf ρ=>Yt f ρ (ZG gm (Z9 c bm) (ds.drop (i+1)))) Dn:=p5
    refine wpAny_mono (pg _ s7 σ5 H7 x u (λσ8 H8=>∃ G8,Same G7 G8/\Hold X.K G1 (B H2) ρ6 σ8 G8 H8/\(∀ t,nt<=t->σ8[t]? = σ5[t]?)) I7' r7 (rg G1 (B H2) ρ5 σ5 G7 H7 ds[i] x _ h5 rv ⟨ρ6,q,λσ' G' H' s h e=>⟨G',s,h,e⟩⟩)) (λ_ s8 ⟨σ8,H8,I8,G8,sg8,h8,k8⟩=>?_) (λ_ _ f=>f.elim)
    replace k8:∀ t,nt<=t->σ8[t]? = (Zw nt idx σ s2.heap.objs.size)[t]?:=λt ht=>(k8 t ht).trans (k5 t ht)
    have k8a:σ8[nt+idx.length]? = some (some (.ref s2.heap.objs.size)):=(k8 _ (Nat.le_add_right _ _)).trans (by unfold Zw;rw[List.getElem?_append_right (by simp)];simp)
    -- the element
    have elem:∀ (ρ9:Rho)(G9 H9:Hp)(s9:Shared)(E':Value->Shared->Prop),Inv (Zg X scope cl N' C s3 (upd H2 s2.heap.objs.size (.lst [])) fp (X.pn++pins)) ([]++pinsAt fp s7.heap) σ8 H9 s9->Same G1 G9->Hold X.K G1 (B H2) ρ9 σ8 G9 H9 ->
      zp X.K E0 G1 (B H2) G9 ((bm ρ9).bnd λf ρ=>Yt f ρ (ZG gm (Z9 c bm) (ds.drop (i+1)))) Dn ->
      wpAny (model X.prog X.w) X.A (eval elt (compEnvC scope cl C X.env)) (λxv s₄=>wpAny (model X.prog X.w) X.A (call (.builtin "list.append") [.ref s2.heap.objs.size,xv]) (λ_ s₅=>∃ m,m<ds.length - i/\LoopI X (Zg X scope cl N' C s3 (upd H2 s2.heap.objs.size (.lst [])) fp (X.pn++pins)) tn fp ds.length nt (Zw nt idx σ s2.heap.objs.size) G1 (B H2) (λi=>ZG gm (Z9 c bm) (ds.drop i)) Dn m s₅) E' s₄) E' s9:=λρ9 G9 H9 s9 E' I9 sg9 h9 p9=>by
     refine wpAny_mono (he C s3 (upd H2 s2.heap.objs.size (.lst [])) fp (X.pn++pins) _ s9 σ8 H9 G1 (B H2) G9 ρ9 _ { nx:=λσ' H'=>∃ ρ2 G2,bm ρ9=.ok .nx ρ2/\Same G9 G2/\Hold X.K G1 (B H2) ρ2 σ' G2 H',rt:=λ_ _=>False,bk:=λ_ _=>True,ct:=λ_ _=>True } E' I9 h9 k8a ?_ λ_ _ f=>f.elim)
      (λxv s4 h4=>wpAny_mono h4 (λ_ s5 ⟨H5,I5,ρ2,G2,eb,sg2,h2⟩=>again I5 k8 ⟨ρ2,G2,sg9.trans sg2,h2,by rw[eb]at p9;exact zp.mono sg2 p9⟩) λ_ _ e=>e) λ_ _ e=>e
     cases qb:bm ρ9 with
     |ok fl ρ2=>
      rw[qb]at p9
      cases fl with
      |nx=>exact λσ' G' H' s1 h1=>⟨ρ2,G',rfl,s1,h1⟩
      |ret d=>exact p9
      |brk=>exact λ_ _ _ _ _=>trivial
      |cont=>exact λ_ _ _ _ _=>trivial
     |exn cc ρ2=>rw[qb]at p9;exact p9
     |bad=>rw[qb]at p9;exact p9
    rcases hc C s3 (upd H2 s2.heap.objs.size (.lst [])) fp (X.pn++pins) with ⟨rfl,rfl⟩ | ⟨ce,cm,rfl,rfl,tc,pc,rc⟩
    ·refine wpAny_tests_nil ?_
     rw[if_pos rfl]
     exact elem ρ6 G8 H8 s8 _ I8 (sg5.trans sg8) h8 (zp.mono sg8 p6)
    ·refine wpAny_tests_one ?_
     have p6':zp X.K E0 G1 (B H2) G7 ((ifM cm bm nxM ρ6).bnd λf ρ=>Yt f ρ (ZG gm (Z9 (some cm) bm) (ds.drop (i+1)))) Dn:=p6
     unfold ifM at p6'
     have step:=rc G1 (B H2) ρ6 σ8 G8 H8 h8 (λbb H10=>∃ ρ10 G10,cm ρ6=.ok bb ρ10/\Same G8 G10/\Hold X.K G1 (B H2) ρ10 σ8 G10 H10) (by
      cases qe:cm ρ6 with
      |ok dd ρ10=>exact λxx G' H' s1 h1 r1=>⟨ρ10,G',by rw[r1],s1,h1⟩
      |exn cc ρ10=>rw[qe]at p6';exact λG' H' s1 h1=>p6' σ8 G' H' (sg8.trans s1) h1
      |bad=>rw[qe]at p6';exact p6')
     refine wpAny_mono (pc _ s8 σ8 H8 _ I8 step) (λbb s10 ⟨H10,I10,ρ10,G10,qe,sg10,h10⟩=>?_) (λ_ _ f=>f.elim)
     rw[qe]at p6'
     cases bb with
     |true=>
      rw[if_pos rfl]
      exact elem ρ10 G10 H10 s10 _ I10 (sg5.trans (sg8.trans sg10)) h10 (zp.mono (sg8.trans sg10) p6')
     |false=>
      rw[if_neg (by simp)]
      exact again I10 k8 ⟨ρ10,G10,sg5.trans (sg8.trans sg10),h10,zp.mono (sg8.trans sg10) p6'⟩
  ·have ei:i=ds.length:=by omega
   subst ei
   refine wpAny_mono (T.done (Zg X scope cl N' C s3 (upd H2 s2.heap.objs.size (.lst [])) fp (X.pn++pins)) rfl rfl rfl hcalm ds.length [] s5 σ5 H5 _ I5 (stat fr5) st5 (io.stop G5 H5 sg5 h5.e.s)) (λr s6 ⟨hr,I6⟩=>?_) λ_ _ e=>e
   subst hr
   obtain⟨m6,hn6,_⟩:=I6.loc
   rw[List.drop_length]at p5
   obtain⟨ρ7,G7,sg7,h7,e7⟩:=p5 σ5 G5 H5 (Same.refl _) h5
   have IX:=KT (h'':=s6.heap) I3 f3 I6 (by rw[hC3];exact Nat.le_refl _) (Heap.SameBut.refl _ _) I6.hok
   have cst:X.s₀.heap.objs.size<=C:=by rw[hC3];exact I3.sz
   refine fin ds ρ1 ρ7 σ5 G1 H2 G7 H5 _ C s6 emi e7 sg1 h1 h7 k5 hp IX ⟨m6,hn6⟩ I6.free ?_ cst (λx cc e z=>?_) (λq hq z=>?_)
   ·rw[hC3];exact Nat.ne_of_gt I3.lt
   ·obtain⟨v,hv⟩:=I3.cell x cc e
    have:=hv.lt
    rw[z,hC3]at this
    exact Nat.lt_irrefl _ this
   ·have:=Heap.lt_size (I3.pin q hq).1
    rw[z,hC3]at this
    exact Nat.lt_irrefl _ this
 exact codeAny_compStart_list (loop _ (by rw[<-hs3])) (T.self _ 0 _ _ _ st4 (loop _ (by rw[<-hs3])))
theorem KU {nt:Nat}{idx:List Nat}{σ σ7:St}{p:Addr}(k7:∀ t,nt<=t->σ7[t]? = (Zw nt idx σ p)[t]?):σ7[nt+idx.length]? = some (some (.ref p)):=
 (k7 _ (Nat.le_add_right _ _)).trans (by unfold Zw;rw[List.getElem?_append_right (by simp)];simp)
theorem Wv {ifs:List Expr}{c:Option (M Bool)}{use:Option (Value->Sem Unit)}{QQ:Value->Shared->Prop}{pins:List (Addr×Obj)}{s:Shared}{σ:St}{H:Hp}{wi:TI}{cpos:Pos}(hcalm:X.calm=true)(B:BlkScope X scope cl nt N' idx)(hidx:∀ i ∈ idx,i<X.N.length)
  (hg:∀ C s H fp pn,MGk (Zg X scope cl N' C s H fp pn) tg gm nt)(hc:∀ C s H fp pn,MC (Zg X scope cl N' C s H fp pn) ifs c)(he:∀ C s H fp pn,ME (Zg X scope cl N' C s H fp pn) E0 elt me)
  (hs:∀ x,foldedSetIterable iter X.env x=pure x)(I:Inv X pins σ H s)(pw:PI X tg iter wi)(G0 H0 G:Hp)(ρ:Rho)
  (hR:wi σ H (λJ H'=>∃ ds ρ1 G1,mi ρ=.ok ds ρ1/\Same G G1/\Hold X.K G0 H0 ρ1 σ G1 H'/\ItOk X.K J G1 ds))
  (some_:∀ ds ρ1,mi ρ=.ok ds ρ1->∃ ys,wS (nt+idx.length) (ZG gm (ym (nt+idx.length) c me) ds (y6 nt idx ρ1))=some ys)
  (fin:∀ ds ρ1 ys G1 H2 G7 H5 ws p C s6,mi ρ=.ok ds ρ1->wS (nt+idx.length) (ZG gm (ym (nt+idx.length) c me) ds (y6 nt idx ρ1))=some ys->Same G G1->Hold X.K G0 H0 ρ1 σ G1 H2->Ext G1 H2 G7 H5->Same H2 H5->H5 p=some (.lst ws)->G7 p=none->H2 p=none->zL X.K G7 ys ws ->
   Inv X pins σ H5 s6->(∃ m,s6.heap.Ns C m)->H5 C=none->C≠X.env.locals->X.s₀.heap.objs.size<=C->(∀ x cc,X.env.cells.lookup x=some cc->cc≠C)->(∀ q ∈ X.pn++pins,q.1≠C)->compPost (model X.prog X.w) X.A X.xe use QQ (.ref p) C (.ok .next) s6) :
  wpAny (model X.prog X.w) X.A (comprehension (.ListComp elt [⟨tg,iter,ifs,0⟩] scope pos) scope X.env cpos (newList []) false (eval iter X.env) use) QQ X.xe s:=by
 have hb:ym (nt+idx.length) c me=Z9 c (ZT (nt+idx.length) me):=Jl _ _ _
 have hr:∀ ρ1,y6 nt idx ρ1=YK (.own []) nt idx ρ1:=λ_=>rfl
 simp only[hb,hr]at some_ fin
 refine Qy (mi:=mi) (R0:=YK (.own []) nt idx) (B:=λH=>H) hcalm B hidx hg hc (λC s H fp pn=>zAy (he C s H fp pn)) hs I pw G0 H0 G ρ (λρ1 G1 H2 p h hp=>JW (.inl rfl) h hp λi hi=>by rw[I.len];exact hidx i hi) hR (λds ρ1 emi=>?_) λds ρ1 ρ2 σ7 G1 H2 G7 H5 p C s6 emi e2 sg1 h1 h7 k7 hp=>?_
 ·obtain⟨ys,hy⟩:=some_ ds ρ1 emi
  cases q:ZG gm (Z9 c (ZT (nt+idx.length) me)) ds (YK (.own []) nt idx ρ1) with
  |ok fl ρ''=>
   cases fl with
   |nx=>exact⟨ρ'',rfl⟩
   |ret d=>rw[q]at hy;cases hy
   |brk=>rw[q]at hy;cases hy
   |cont=>rw[q]at hy;cases hy
  |exn cc ρ''=>rw[q]at hy;cases hy
  |bad=>rw[q]at hy;cases hy
 ·obtain⟨ys,hy⟩:=some_ ds ρ1 emi
  have eo:zY ρ2[nt+idx.length]? = some ys:=by rw[e2]at hy;exact hy
  obtain⟨a,ws,a1,a2,a3,a4,a5⟩:=h7.own eo
  rw[KU k7]at a1
  cases a1
  exact fin ds ρ1 ys G1 H2 G7 H5 ws p C s6 emi hy sg1 h1 h7.e h7.b a2 a3 hp a5
theorem Yn {ifs:List Expr}{c:Option (M Bool)}(hcalm:X.calm=true)(B:BlkScope X scope cl nt N' idx)(hi:MI X E tg iter mi)(hidx:∀ i ∈ idx,i<X.N.length)
  (hg:∀ C s H fp pn,MGk (Zg X scope cl N' C s H fp pn) tg gm nt)(hc:∀ C s H fp pn,MC (Zg X scope cl N' C s H fp pn) ifs c)(he:∀ C s H fp pn,ME (Zg X scope cl N' C s H fp pn) E0 elt me)
  (hs:∀ x,foldedSetIterable iter X.env x=pure x:=by intro _;rfl):ME X E (.ListComp elt [⟨tg,iter,ifs,0⟩] scope pos) (yU mi nt idx gm c me):=by
 refine⟨λσ H Q=>∃ G0 H0 ρ G,Hold X.K G0 H0 ρ σ G H/\Uz X.K E (λG d v=>Rep X.K G d v) G0 H0 σ G (yU mi nt idx gm c me ρ) Q,?_,λG0 H0 ρ σ G H ho Q hQ=>⟨G0,H0,ρ,G,ho,hQ⟩⟩
 intro pins s σ H Q I h
 obtain⟨G0,H0,ρ,G,ho,hQ⟩:=h
 obtain⟨wi,pw,ri⟩:=hi
 rw[eval_ListComp]
 unfold yU at hQ
 have hR:=ri G0 H0 ρ σ G H (λJ H'=>∃ ds ρ1 G1,mi ρ=.ok ds ρ1/\Same G G1/\Hold X.K G0 H0 ρ1 σ G1 H'/\ItOk X.K J G1 ds) ho (by
  cases q:mi ρ with
  |ok ds ρ1=>exact λJ G' H' sg h1 io=>⟨ds,ρ1,G',rfl,sg,h1,io⟩
  |exn cc ρ1=>rw[q]at hQ;exact hQ
  |bad=>rw[q]at hQ;exact hQ)
 refine Wv (mi:=mi) hcalm B hidx hg hc he hs I pw G0 H0 G ρ hR (λds ρ1 emi=>?_) λds ρ1 ys G1 H2 G7 H5 ws p C s6 emi eys sg1 h1 ex sh hp g7 h2 rl IX ⟨m,hn⟩ c1 c2 c3 c4 c5=>?_
 ·rw[emi]at hQ
  simp only[Res.bnd_ok]at hQ
  cases q:wS (nt+idx.length) (ZG gm (ym (nt+idx.length) c me) ds (y6 nt idx ρ1)) with
  |none=>rw[q]at hQ;exact hQ.elim
  |some ys=>exact⟨ys,rfl⟩
 ·rw[emi]at hQ
  simp only[Res.bnd_ok,eys,zd]at hQ
  refine⟨m,hn,λh' hs'=>?_⟩
  have IY:Inv X pins σ H5 { s6 with heap:=h' }:=IX.turned (it:=C) (t':=s6.toks) (λb o n e=>(hs'.2 b n).trans e) c1 c2 (.inr c3) c4 c5
  have gg:Ext G1 H2 (upd G7 p (.lst ws)) H5:=by
   refine⟨ex.g.trans (Same.upd g7),λb u q=>?_,λb hb q=>?_,ex.t⟩
   ·by_cases z:b=p
    ·subst z;rw[upd_same]at q;rw[hp];exact q
    ·rw[upd_ne z]at q;exact ex.s _ _ q
   ·rw[upd_ne (λz=>hb.1 (by rw[z];exact h2))];exact ex.n b hb q
  exact⟨.ref p,H5,IY,rfl,hQ _ _ H5 (sg1.trans gg.g) (h1.grow gg sh) (zj.mpr ⟨p,ws,rfl,SqL.of upd_same,rl.mono (Same.upd g7)⟩)⟩
theorem Hold.setOwnAt {K:PySem.W.Frag}{G0 H0:Hp}{ρ:Rho}{σ:St}{G H G7 H5:Hp}{i:Nat}{p:Addr}{ys:List D}{ws:List V}(h:Hold K G0 H0 ρ σ G H)(ex:Ext G H G7 H5)(sh:Same H H5)(hp:H5 p=some (.lst ws))(g7:G7 p=none)(h2:H p=none)(rl:zL K G7 ys ws) :
  Hold K G0 H0 (ρ.set i (.own ys)) (σ.set i (some (.ref p))) G7 H5:=by
 have hh:=h.grow ex sh
 refine hh.put (λ_ _ q=>q) hh.e hh.b (Same.refl _) (λj t c _ e f=>⟨rfl,((hh.sl j t e).foot_in f).2.1⟩) (λj n=>List.getElem?_set_ne (Ne.symm n)) (by rw[List.length_set]) (λhl=>?_) λc f j t n e f'=>?_
 ·rw[xa (by rw[<-h.len];exact hl)]
  exact⟨p,ws,rfl,hp,g7,h.b.free h2,rl⟩
 ·have f:(σ.set i (some (.ref p)))[i]? = some (some (.ref c)):=f
  by_cases hl:i<σ.length
  ·rw[xa hl]at f
   cases f
   refine h.mutAt e (yY (H:=H) (H':=H5) (h.sl j t e) (λ_ _ q=>sh _ _ q) (λb fb=>?_) f') h2
   have:=h.mutAt e fb
   cases q:H b with
   |none=>exact absurd q this
   |some o=>exact sh _ _ q
  ·rw[List.getElem?_eq_none (by rw[List.length_set];omega)]at f
   cases f
theorem qM (own:Bool) (i:Nat){x:Str}{ifs:List Expr}{c:Option (M Bool)}{p2 spos:Pos}(hN:X.N.Nodup)(hcalm:X.calm=true)(B:BlkScope X scope cl nt N' idx)(hi:MI X E tg iter mi)(hidx:∀ i ∈ idx,i<X.N.length)
  (hg:∀ C s H fp pn,MGk (Zg X scope cl N' C s H fp pn) tg gm nt)(hc:∀ C s H fp pn,MC (Zg X scope cl N' C s H fp pn) ifs c)(he:∀ C s H fp pn,ME (Zg X scope cl N' C s H fp pn) E0 elt me)
  (hx:autoParam (X.N[i]? = some x) aR._auto_1)(hl:autoParam (X.env.scope.names.lookup x=some .local) aR._auto_1)
  (hsw:autoParam (swapsWith (.ListComp elt [⟨tg,iter,ifs,0⟩] scope pos) (some (.Name x p2)) spos.line X.env=pure true) aR._auto_1)
  (hs:∀ x,foldedSetIterable iter X.env x=pure x:=by intro _;rfl):MS X E (.Assign [.Name x p2] (.ListComp elt [⟨tg,iter,ifs,0⟩] scope pos) spos) (yc own i mi nt idx gm c me):=by
 refine⟨λD σ H=>∃ G0 H0 ρ G,Hold X.K G0 H0 ρ σ G H/\zp X.K E G0 H0 G (yc own i mi nt idx gm c me ρ) D,?_,λG0 H0 ρ σ G H ho Q hQ=>⟨G0,H0,ρ,G,ho,hQ⟩⟩
 intro pins s σ H D I h
 obtain⟨G0,H0,ρ,G,ho,hD⟩:=h
 obtain⟨wi,pw,ri⟩:=hi
 unfold yc at hD
 rw[exec_Assign_Name_used _ _ _ _ hsw]
 refine wpAny_bind (wpAny_standAt (wpAny_bind ?_))
 show wpAny _ X.A (do let _ <-comprehension (.ListComp elt [⟨tg,iter,ifs,0⟩] scope pos) scope X.env _ (newList []) false (eval iter X.env) (some (assign (.Name x p2) X.env))) _ _ s
 have hR:=ri G0 H0 ρ σ G H (λJ H'=>∃ ds ρ1 G1,mi ρ=.ok ds ρ1/\Same G G1/\Hold X.K G0 H0 ρ1 σ G1 H'/\ItOk X.K J G1 ds) ho (by
  cases q:mi ρ with
  |ok ds ρ1=>exact λJ G' H' sg h1 io=>⟨ds,ρ1,G',rfl,sg,h1,io⟩
  |exn cc ρ1=>rw[q]at hD;exact λG' H' sg h1=>hD σ G' H' sg h1
  |bad=>rw[q]at hD;exact hD)
 refine wpAny_bind (wpAny_mono (Wv (mi:=mi) (QQ:=λ_ s'=>SP X pins D .next s') hcalm B hidx hg hc he hs I pw G0 H0 G ρ hR (λds ρ1 emi=>?_) λds ρ1 ys G1 H2 G7 H5 ws p C s6 emi eys sg1 h1 ex sh hp g7 h2 rl IX ⟨m,hn⟩ c1 c2 c3 c4 c5=>?_) (λ_ s' hq=>wpAny_pure (wpAny_pure hq)) λ_ _ e=>e)
 ·rw[emi]at hD
  simp only[Res.bnd_ok]at hD
  cases q:wS (nt+idx.length) (ZG gm (ym (nt+idx.length) c me) ds (y6 nt idx ρ1)) with
  |none=>rw[q]at hD;exact hD.elim
  |some ys=>exact⟨ys,rfl⟩
 ·rw[emi]at hD
  simp only[Res.bnd_ok,eys,zd]at hD
  show wpAny (model X.prog X.w) X.A (assign (.Name x p2) X.env (.ref p)) _ _ s6
  refine wpAny_assign_Name (store_ok2 IX hN hx (.inl hl) (v:=.ref p) rfl (λs7 I7 ⟨a,hsb,ha⟩=>?_) (.inr hl))
  have hCa:C≠a:=by
   rintro rfl
   rcases ha with z | z
   ·exact c2 z
   ·exact c4 x C z rfl
  refine⟨m,hn.sameBut hsb hCa,λh' hs'=>?_⟩
  have IY:Inv X pins (σ.set i (some (.ref p))) H5 { s7 with heap:=h' }:=I7.turned (it:=C) (t':=s7.toks) (λb o n e=>(hs'.2 b n).trans e) c1 c2 (.inr c3) c4 c5
  refine⟨_,H5,IY,?_⟩
  cases own with
  |true=>exact hD _ G7 H5 (sg1.trans ex.g) (Hold.setOwnAt h1 ex sh hp g7 h2 rl)
  |false=>
   have gg:Ext G1 H2 (upd G7 p (.lst ws)) H5:=by
    refine⟨ex.g.trans (Same.upd g7),λb u q=>?_,λb hb q=>?_,ex.t⟩
    ·by_cases z:b=p
     ·subst z;rw[upd_same]at q;rw[hp];exact q
     ·rw[upd_ne z]at q;exact ex.s _ _ q
    ·rw[upd_ne (λz=>hb.1 (by rw[z];exact h2))];exact ex.n b hb q
   exact hD _ _ H5 (sg1.trans gg.g) ((h1.grow gg sh).setFz (zj.mpr ⟨p,ws,rfl,SqL.of upd_same,rl.mono (Same.upd g7)⟩))
end
end PM
namespace PM
open PySem PySem.Spec PyProof.Rows L2
section
variable {prog:Program}{w:World}{A:Around}{E:Value->Shared->Prop}{s:Shared}
open HT in
theorem xU {t sl:Addr}{items:Array Value}{vl vu:Value}{lo hi:Option Int}{Q:Value->Shared->Prop}(ht:IsTup s.heap t items)(hs:s.heap.IsSliceOf sl vl vu .none)(pl:IsPart vl lo)(pu:IsPart vu hi)
  (hw:sIx items.size 0 lo=0/\sIx items.size items.size hi=items.size)
  (h:Q (.ref t) s):wpAny (model prog w) A (getItem (.ref t) (.ref sl)) Q E s:=by
 obtain⟨os,hos,hcs,hds⟩:=id hs
 have hTs:s.TypeIs (.ref sl) "slice":=⟨os,hos,hcs⟩
 unfold getItem
 try with_reducible refine wpAny_holding ?_
 first | refine wpAny_bind (wpAny_pure ?_) | skip
 refine wpAny_bind (wpAny_sequenceKey ht.typeIs (by decide) ?_)
 refine wpAny_bind (wpAny_callSpecial?_slot (name:=Str.ofString "__getitem__") ht.typeIs PyProof.Rows.slot_tuple_getitem
  (wpAny_call_entry PyProof.Rows.slot_tuple_getitem ht.typeIs entry_tuple_getitem ?_ (args_tuple_getitem _ _)))
 show wpAny _ _ (Builtin.Tuple.tupleItemsOf (.ref t) >>= _) _ _ s
 refine wpAny_bind (tupleItemsOf_ ht ?_)
 refine wpAny_bind (wpAny_typeOf hTs ?_)
 rw[if_pos (by decide)]
 refine wpAny_bind (sliceApplied_gen hs pl pu ?_)
 have hyes:(((sIx items.size 0 lo:Nat):Int) == 0 && (1:Int) == 1 && (sIx items.size items.size hi - sIx items.size 0 lo) == items.size)=true:=by
  rw[hw.1,hw.2]
  simp
 show wpAny _ _ (if (((sIx items.size 0 lo:Nat):Int) == 0 && (1:Int) == 1 && (sIx items.size items.size hi - sIx items.size 0 lo) == items.size)=true then _ else _) _ _ s
 rw[if_pos hyes]
 have hex:Builtin.Tuple.tupleIsExact (.ref t)=(do return (<-typeOf (.ref t)) == .type "tuple"):=rfl
 rw[hex]
 refine wpAny_bind (wpAny_bind (wpAny_typeOf ht.typeIs (wpAny_pure ?_)))
 rw[if_pos (by decide)]
 refine wpAny_bind (wpAny_rule ?_)
 exact wpAny_pure ⟨_,rfl,wpAny_pure h⟩
end
section
variable {X:Cx}{K:PySem.W.Frag}{E:XK}
noncomputable def zBF (K:PySem.W.Frag):V->Option Int->Option Int->Hp->VK->Prop:=λx lo hi H Q=>∃ a xs,x=.ref a/\SqT K H a xs ∧
 (HT.sIx xs.length 0 lo=0/\HT.sIx xs.length xs.length hi=xs.length->Q (.ref a) H) ∧
 (¬ (HT.sIx xs.length 0 lo=0/\HT.sIx xs.length xs.length hi=xs.length)->∀ p,H p=none->Q (.ref p) (upd H p (.tup (cutV xs lo hi))))
theorem kN:SlR X (zBF X.K):=by
 intro pins s σ H x v vl vu lo hi sl Q I rx hs pl pu h
 obtain⟨a,xs,rfl,hx,q1,q2⟩:=h
 by_cases hw:HT.sIx xs.length 0 lo=0/\HT.sIx xs.length xs.length hi=xs.length
 ·cases rx
  obtain⟨its,r,ht,hz⟩:=I.tuple hx
  have hlen:its.toArray.size=xs.length:=by rw[List.size_toArray];exact r.length.symm
  refine⟨"tuple",_,PyProof.Rows.slot_tuple_getitem.lookup,ht.typeIs,?_⟩
  exact xU ht hs pl pu (by rw[hlen];exact hw) ⟨.ref a,H,I,rfl,q1 hw⟩
 ·exact sl_tup pins s σ H _ v vl vu lo hi sl Q I rx hs pl pu ⟨a,xs,rfl,hx,hw,q2 hw⟩
theorem Xi (n d:Nat)(o:Option Int):u2 n d o=HT.sIx n d o:=rfl
theorem uB {G:Hp}{ds:List D}{vs:List V}(r:zL K G ds vs)(lo hi:Option Int):zL K G (cut ds lo hi) (cutV vs lo hi):=by
 unfold cut cutV
 rw[Xi,Xi,r.len]
 exact (r.drop _).take _
noncomputable def ke (K:PySem.W.Frag):V->Option Int->Option Int->Hp->VK->Prop:=λx lo hi H Q=>rSlL K x lo hi H Q\/zBF K x lo hi H Q
theorem slm {G H:Hp}{x:V}{dx d:D}{lo hi:Option Int}{Q:VK}(s:Same G H)(rx:Rep K G dx x)(e:slD dx lo hi=some d)(q:∀ v G' H',Ext G H G' H'->Same H H'->Rep K G' d v->Q v H'):ke K x lo hi H Q:=by
 cases dx<;>first | (cases e;done) | skip
 ·cases e
  obtain⟨a,vs,rfl,hq,rl⟩:=zg.mp rx
  refine .inr ⟨a,vs,rfl,SqT.same s hq,λhw=>?_,λ_ p hp=>?_⟩
  ·rename_i ds
   have ec:cut ds lo hi=ds:=by
    unfold cut
    rw[Xi,Xi,rl.len,hw.1,hw.2,List.drop_zero,Nat.sub_zero,<-rl.len,List.take_length]
   rw[ec]at q
   exact q _ G H (Ext.refl s) (Same.refl _) (zg.mpr ⟨a,vs,rfl,hq,rl⟩)
  ·have x:=Ext.new (o:=.tup (cutV vs lo hi)) s hp
   exact q _ _ _ x (Same.upd hp) (zg.mpr ⟨p,_,rfl,SqT.of upd_same,(uB rl lo hi).mono x.g⟩)
 ·cases e
  obtain⟨a,vs,rfl,hq,rl⟩:=zj.mp rx
  refine .inl ⟨a,vs,rfl,s.seq hq,λp hp=>?_⟩
  have x:=Ext.new (o:=.lst (cutV vs lo hi)) s hp
  exact q _ _ _ x (Same.upd hp) (zj.mpr ⟨p,_,rfl,SqL.of upd_same,(uB rl lo hi).mono x.g⟩)
noncomputable def RO (K:PySem.W.Frag)(E:XK)(t:TO)(m:M (Option Int)):Prop:=RA K E (λ_ a b=>b=a) t m
noncomputable def MO (X:Cx)(E:XK)(e:Option Expr)(p:Option (M D)):Prop:=∃ t,PO X e t/\RO X.K E t (XN p)
theorem KD:MO X E none none:=⟨_,po_none,λG0 H0 ρ σ G H ho=>RAt.done ho rfl⟩
theorem KC {e:Expr}{m:M D}(h:ME X E e m):MO X E (some e) (some m):=by
 obtain⟨t,p,r⟩:=h
 refine⟨_,po_some p,?_⟩
 intro G0 H0 ρ σ G H ho
 refine RAt.bind (t2:=λx σ H1 Q=>∃ i,x=V.int i/\Q (some i) H1) (r G0 H0 ρ σ G H ho) λd ρ1 v G1 H1 s1 h1 r1=>?_
 refine RAt.opt λi e=>?_
 intro Q hQ
 cases d<;>first | (cases e;done) | skip
 cases e
 exact⟨_,zM.mp r1,hQ _ G1 H1 (Same.refl _) h1 rfl⟩
theorem JI {e:Expr}{lo hi:Option Expr}{m:M D}{ml mh:Option (M D)}{p2 pos:Pos}(h:ME X E e m)(hl:MO X E lo ml)(hh:MO X E hi mh):ME X E (.Subscript e (.Slice lo hi none p2) pos) (Xo m ml mh):=by
 obtain⟨t,p,r⟩:=h
 obtain⟨tl,pl,rl⟩:=hl
 obtain⟨th,ph,rh⟩:=hh
 refine⟨_,pe_slice (sl_list.or kN) p pl ph,?_⟩
 intro G0 H0 ρ σ G H ho
 refine RAt.bind (t2:=λx σ H1 Q=>tl σ H1 λl H2=>th σ H2 λu H3=>ke X.K x l u H3 Q) (r G0 H0 ρ σ G H ho) λd ρ1 v G1 H1 s1 h1 r1=>?_
 refine RAt.bind (t2:=λl σ H2 Q=>th σ H2 λu H3=>ke X.K v l u H3 Q) (rl G0 H0 ρ1 σ G1 H1 h1) λl ρ2 l' G2 H2 s2 h2 r2=>?_
 refine RAt.bind (t2:=λu σ H3 Q=>ke X.K v l' u H3 Q) (rh G0 H0 ρ2 σ G2 H2 h2) λu ρ3 u' G3 H3 s3 h3 r3=>?_
 subst r2
 subst r3
 refine RAt.opt1 λdd ed=>?_
 intro Q hQ
 exact slm h3.e.s (r1.mono (s2.trans s3)) ed λw G' H' x hs rw'=>hQ w G' H' x.g (h3.grow x hs) rw'
end
end PM
namespace PM
open PySem PySem.Spec PyProof.Rows L2 Builtin.Getset_descriptor
section
variable {prog:Program}{w:World}{A:Around}{E:Value->Shared->Prop}{h:Heap}{g:Array GenState}{d:Drawn}{t:Nat}{os:OsState}{a C:Addr}{o:Obj}{K:PySem.W.Frag}
structure ExcCls (K:PySem.W.Frag)(C:Addr):Prop where
 ga:PySem.W.findIn K (.ref C) "__getattribute__" = some (some (.builtin "BaseException.__getattribute__"))
 no:PySem.W.findIn K (.ref C) "__getattr__" = some none
 cl:PySem.W.findIn K (.ref C) "__class__" = some (some (.builtin "object.__class__"))
 ob:PySem.W.mroIn K C (.type "object")=some true
 be:PySem.W.mroIn K C (.type "BaseException")=some true
theorem Uh {M:Model}(hx:h.get? a=some o)(hc:o.cls=.ref C):PySem.W.Looks M h (typeOf (.ref a)) (.ref C):=hc ▸ (PySem.W.Looks.ld hx).andThen .now
theorem vK {R:Result->Shared->Prop}{tp:Value}(X:K.In h)(Z:ExcCls K C)(hx:h.get? a=some o)(hc:o.cls=.ref C)(hq:R (.ok (.ret (.ref C))) ⟨h,g,d,t,os⟩) :
  codeAny (model prog w) A (.call (.builtin "getset_descriptor.__get__") ⟨[.builtin "object.__class__",.ref a,tp],[]⟩) R ⟨h,g,d,t,os⟩:=by
 have L0:=Uh (M:=model prog w) hx hc
 have L1:=PySem.W.looks_mroIn (M:=model prog w) X Z.ob
 refine codeAny_call_builtin PySem.W.KF.slot_gs.plain PySem.W.KF.entry_gs (PySem.W.KF.slot_gs.check _ _ _ _ _ _ _ _ PySem.W.KF.type_class (PySem.W.KF.args_gs _ _ _) ?_)
 unfold Builtin.«getset_descriptor.__get__» descrGet
 rw[PySem.W.dga_obj]
 refine wpAny_bind (wpAny_pure ?_)
 unfold descrGetter descrCheckInstance descrNameAndClass isInstance
 simp only[PySem.W.KF.owner_class]
 repeat lk
 refine⟨Code.quiet_builtin _ (by decide +kernel),codeAny_builtin PySem.W.KF.entry_class ?_⟩
 unfold Builtin.«object.__class__» shownTypeOf
 repeat lk
 exact hq
theorem Qu {M:Model}{nameV:Value}{Q:Unit->Shared->Prop}(X:K.In h)(Z:ExcCls K C)(hx:h.get? a=some o)(hc:o.cls=.ref C)(hq:Q () ⟨h,g,d,t,os⟩):wpAny M A (checkBuiltinCall "BaseException.__getattribute__" ⟨[.ref a,nameV],[]⟩) Q E ⟨h,g,d,t,os⟩:=by
 have hk:builtinKind "BaseException.__getattribute__" = some .slot:=by decide +kernel
 have hsplit:splitId "BaseException.__getattribute__" = some ("BaseException","__getattribute__"):=by decide +kernel
 have L0:=Uh (M:=M) hx hc
 have L1:=PySem.W.looks_mroIn (M:=M) X Z.be
 have ha:=F.args_bexc_ga (.ref a) nameV
 simp only[checkBuiltinCall,hk,hsplit]
 refine wpAny_bind ?_
 unfold isInstance
 refine wpAny_bind (L0.at (L1.at ?_))
 repeat (first | assumption | wp_step)
theorem Qt {tk:Tok}{Q:Fin->Shared->Prop}(X:K.In h)(Z:ExcCls K C)(hx:h.get? a=some o)(hc:o.cls=.ref C)(hq:Q (.done (.ret (.ref C))) ⟨h,g,d,t,os⟩) :
  wpAny (model prog w) A (Builtin.«object.__getattribute__» ⟨[.ref a,.str "__class__" tk],[]⟩) Q E ⟨h,g,d,t,os⟩:=by
 have hT5:(⟨h,g,d,t,os⟩ : Shared).TypeIs (.builtin "object.__class__") "getset_descriptor":=F.typeOf_object_class
 have f5:=F.typeOf_object_class
 have f6:=F.slot_gs_get.lookup
 have f7:=F.slot_gs_set.lookup
 have L1:=PySem.W.looks_findIn (M:=model prog w) X Z.cl
 repeat (any_goals (first | assumption | (with_reducible refine wpAny_loadPart_at hx ?_;rw[hc]) | with_reducible refine L1.at ?_ | wp_step))
 refine vK X Z hx hc ?_
 repeat (any_goals (first | assumption | wp_step))
theorem zAv {tk:Tok}{fill expr:Bool}{Q:Value->Shared->Prop}(X:K.In h)(Z:ExcCls K C)(hx:h.get? a=some o)(hc:o.cls=.ref C)(hq:Q (.ref C) ⟨h,g,d,t,os⟩) :
  wpAny (model prog w) A (getAttrBy (.ref a) (.str "__class__" tk) fill expr) Q E ⟨h,g,d,t,os⟩:=by
 have f3:=F.excAttr_ValueError.ga.bind (.ref a)
 have hx0:(expr && onTheHeap (Value.builtin "BaseException.__getattribute__"))=false:=by cases expr<;>rfl
 have hx2:(Value.builtin "BaseException.__getattribute__" == Value.builtin "object.__getattribute__")=false:=by decide +kernel
 have hx1:(onTheHeap (Value.ref C) && Value.builtin "BaseException.__getattribute__" == Value.builtin "object.__getattribute__")=false:=by rw[hx2];rfl
 have L1:=PySem.W.looks_findIn (M:=model prog w) X Z.ga
 have L2:=PySem.W.looks_findIn (M:=model prog w) X Z.no
 repeat (any_goals (first | assumption | (with_reducible refine wpAny_loadPart_at hx ?_;rw[hc]) | with_reducible refine L1.at ?_ | with_reducible refine L2.at ?_ | wp_step))
 refine codeAny_call_builtin F.excAttr_ValueError.ga.plain F.entry_bexc_ga (Qu X Z hx hc (Qt X Z hx hc ?_))
 repeat (any_goals (first | assumption | wp_step))
theorem Jh {Q:Option Value->Shared->Prop}(X:K.In h)(Z:ExcCls K C)(hx:h.get? a=some o)(hc:o.cls=.ref C)(hq:Q (some (.ref C)) ⟨h,g,d,t+1,os⟩):wpAny (model prog w) A (getAttr? (.ref a) "__class__") Q E ⟨h,g,d,t,os⟩:=by
 unfold getAttr? getAttrBy?
 repeat (any_goals (first | assumption | with_reducible apply zAv X Z hx hc | wp_step))
end
end PM
namespace PM
open PySem PySem.Spec PyProof.Rows L2
section
variable {X:Cx}{K:PySem.W.Frag}{E:XK}
theorem JR {a C:Addr}(hcl:(PySem.W.clsIn K C).isSome=true)(Z:ExcCls K C):PySem.W.KitX K (.ref a) (.ref C) (λh=>∃ o vs,h.get? a=some o/\o.cls=.ref C/\o.data=.fields vs) where
 ty:=λM h _ p=>by
  obtain⟨o,vs,h1,h2,_⟩:=p
  exact Uh h1 h2
 it:=λM h Y p=>by
  obtain⟨cd,hc⟩:=Option.isSome_iff_exists.mp hcl
  unfold PySem.W.clsIn at hc
  split at hc
  ·rename_i c' d' cd' sl' ho
   intro A' Q' E' s' k q
   unfold isType loadHead
   exact wpAny_bind (wpAny_loadPart (k _ _ (Y _ _ ho)) (wpAny_pure q))
  ·cases hc
 ne:=λh tp dd its n sl Y htp=>by
  obtain⟨cd,hc⟩:=Option.isSome_iff_exists.mp hcl
  refine Bool.eq_false_iff.mpr λq=>?_
  have e:C=tp:=Value.ref.inj (beq_iff_eq.mp q)
  subst e
  unfold PySem.W.clsIn at hc
  split at hc
  ·rename_i c' d' cd' sl' ho
   have z:=(Y _ _ ho).symm.trans htp
   cases z
  ·cases hc
 ca:=fun {_ _ _ _ _ s} Y p k=>by
  obtain⟨h,g,d,t,os⟩:=s
  obtain⟨o,vs,h1,h2,_⟩:=p
  exact Jh Y Z h1 h2 k
noncomputable def IsD (K:PySem.W.Frag) (c:Value)(b:Bool):D->Prop
 |.non=>PySem.W.kitOne K (.type "NoneType") c=some b
 |.bl _=>PySem.W.kitOne K (.type "bool") c=some b
 |.int _=>PySem.W.kitOne K (.type "int") c=some b
 |.str _=>PySem.W.kitOne K (.type "str") c=some b
 |.tup _=>PySem.W.kitOne K (.type "tuple") c=some b
 |.lst _=>PySem.W.kitOne K (.type "list") c=some b
 |.exc C=>(PySem.W.clsIn K C).isSome=true/\ExcCls K C/\PySem.W.kitOne K (.ref C) c=some b
 |_=>False
inductive TyX (K:PySem.W.Frag)(H:Hp) (c:Value)(b:Bool):V->Prop where
 |ty {x:V}{t:Value}(h:TyOf K H x t)(e:PySem.W.kitOne K t c=some b):TyX K H c b x
 |exc {a C:Addr}(h:H a=some (Vt a C))(hc:(PySem.W.clsIn K C).isSome=true)(Z:ExcCls K C)(e:PySem.W.kitOne K (.ref C) c=some b):TyX K H c b (.ref a)
 |tup {a:Addr}{xs:List V}(h:SqT K H a xs)(e:PySem.W.kitOne K (.type "tuple") c=some b):TyX K H c b (.ref a)
 |lst {a:Addr}{xs:List V}(h:SqL K H a xs)(e:PySem.W.kitOne K (.type "list") c=some b):TyX K H c b (.ref a)
noncomputable def Kp (K:PySem.W.Frag) (c:Value):List V->Hp->VK->Prop:=λxs H Q=>∃ x y b,xs=[x,y]/\(∀ u,RelV y u->u=c)/\TyX K H c b x/\Q (.bl b) H
theorem Q5 {c:Value}:CallR X (.builtin "isinstance") (Kp X.K c):=by
 intro pins s σ H xs us Q I r h
 obtain⟨x,y,b,rfl,hy,hc,q⟩:=h
 cases r with
 |cons rx r=>
  cases r with
  |cons ry r=>
   cases r
   cases hy _ ry
   cases hc with
   |ty ty e=>exact isinst_ok I rx ty e λtk=>⟨.bl b,H,I.tok _,rfl,q⟩
   |exc ea hcl Z e=>
    cases rx
    have hk:=I.hok _ _ ea
    exact PySem.W.kia_one (JR hcl Z) I.kIn hk.1 e (λz=>nomatch z) λtk=>⟨.bl b,H,I.tok _,rfl,q⟩
   |tup hx e=>
    cases rx
    obtain⟨its,r,ht,hz⟩:=I.tuple hx
    obtain⟨o,h1,h2,_⟩:=ht
    exact PySem.W.kia_one PySem.W.kitx_tuple I.kIn ⟨o,h1,h2⟩ e (λz=>nomatch z) λtk=>⟨.bl b,H,I.tok _,rfl,q⟩
   |lst hx e=>
    cases rx
    obtain⟨its,r,⟨o,n,ht,hc,_⟩,hz⟩:=I.list hx
    exact PySem.W.kia_one PySem.W.kitx_list I.kIn ⟨_,ht,hc⟩ e (λz=>nomatch z) λtk=>⟨.bl b,H,I.tok _,rfl,q⟩
theorem JT {G H:Hp}{d:D}{v:V}{c:Value}{b:Bool}(s:Same G H)(r:Rep K G d v)(h:IsD K c b d):TyX K H c b v:=by
 cases d with
 |non=>cases Yh.mp r;exact .ty .non h
 |bl x=>cases ZZ.mp r;exact .ty (.bl x) h
 |int x=>cases zM.mp r;exact .ty (.int x) h
 |str x=>cases YE.mp r;exact .ty (.str x) h
 |tup ds=>
  obtain⟨a,vs,rfl,hq,_⟩:=zg.mp r
  exact .tup (SqT.same s hq) h
 |lst ds=>
  obtain⟨a,vs,rfl,hq,_⟩:=zj.mp r
  exact .lst (s.seq hq) h
 |exc C=>
  obtain⟨a,rfl,e⟩:=(show ∃ a,v=.ref a/\G a=some (Vt a C) from by simpa[Rep] using r)
  exact .exc (s a _ e) h.1 h.2.1 h.2.2
 |dct ks vs=>exact h.elim
 |dcT ks vs=>exact h.elim
theorem Ve {e ec:Expr}{m:M D}{c:Value}{y:V}{f:D->Option D}{p pos:Pos}(h:ME X E e m)(hc:PE X ec (tC y))(hy:∀ u,RelV y u->u=c)(hf:∀ d r,f d=some r->∃ b,r=.bl b/\IsD X.K c b d)
  (hm:X.mg "isinstance" = none)(hg:Gl X "isinstance":=by rfl)(he:autoParam (starEach [e,ec] X.env=(false,eval e X.env)::starEach [ec] X.env) aR._auto_1)(he2:autoParam (starEach [ec] X.env=[(false,eval ec X.env)]) aR._auto_1):ME X E (.Call (.Name "isinstance" p) [e,ec] [] pos) (op1 f m):=by
 obtain⟨t,pe,re⟩:=h
 have hb:bootBuiltins "isinstance" = some (.builtin "isinstance"):=by with_unfolding_all rfl
 refine⟨_,pe_callB (id:="isinstance") (Q5 (c:=c)) hg hm hb (pa_cons pe (pa_cons hc pa_nil he2) he) (by decide) (by decide) he ?_,?_⟩
 ·rw[he2];rfl
 intro G0 H0 ρ σ G H ho
 refine RAt.bind (t2:=λx σ H1 Q=>Kp X.K c [x,y] H1 Q) (re G0 H0 ρ σ G H ho) λd ρ1 v G1 H1 s1 h1 r1=>?_
 refine RAt.opt1 λr e=>?_
 obtain⟨b,rfl,hd⟩:=hf d r e
 intro Q hQ
 exact⟨v,y,b,rfl,hy,JT h1.e.s r1 hd,hQ _ G1 H1 (Same.refl _) h1 (ZZ.mpr rfl)⟩
end
end PM
namespace PM
open PySem PySem.Spec PyProof.Rows L2
section
variable {X:Cx}{K:PySem.W.Frag}{E:XK}
end
end PM
namespace PM
open PySem PySem.Spec PyProof.Rows L2
noncomputable def Fk (P:Program)(w:World)(K:PySem.W.Frag)(mg:Str->Option Value)(base:Heap) (k:Nat) (x:Str)(ps:List Str) (n:Nat)(F:List D->FR):Prop:=
 ∃ f fd,FnOk P w K mg base (CX1 P w) k f fd ps (spM K n F)/\mg x=some (.ref f)/\PySem.W.keepIn K (.ref f)=true/\Binds K fd ps []
section
variable {X:Cx}{E:XK}{e o:Expr}{es:List Expr}{pos p2:Pos}{ma mb:M D}
theorem zH {k n:Nat}{ps:List Str}{F:List D->FR}{x:Str}{p:Pos}{ms:List (M D)}(G:Fk X.prog X.w X.K X.mg X.base k x ps n F)(hr:Room k X.A)(hx:Passes (CX1 X.prog X.w) X E)(ha:MA X E (e::es) ms)(hn:autoParam (ms.length=n) aR._auto_1)
  (hg:autoParam (Gl X x) aR._auto_1)(hdb:autoParam ((x == ("__debug__" : Str))=false) aD._auto_1)(he:autoParam (starEach (e::es) X.env=(false,eval e X.env)::starEach es X.env) aR._auto_1)(hpl:autoParam ((backTo pos (starEach es X.env)).any (·.1)=false) aR._auto_1) :
  ME X E (.Call (.Name x p) (e::es) [] pos) (zK F ms):=by
 obtain⟨f,fd,G,hm,hk,hb⟩:=G
 exact KJ G hr hg hm hk hb hx ha hn hdb he hpl
theorem WL:Passes (CX1 X.prog X.w) X E0:=λ_ _ _ _ _ _ _ h=>by
 obtain⟨_,_,_,_,_,_,h⟩:=h
 exact h.elim
theorem KH {p:Pos}{ms:List (M D)}(hm:X.mg "int" = none)(ha:MA X E (e::es) ms)(hg:Gl X "int":=by rfl)(he:autoParam (starEach (e::es) X.env=(false,eval e X.env)::starEach es X.env) aR._auto_1)(hpl:autoParam ((backTo pos (starEach es X.env)).any (·.1)=false) aR._auto_1) :
  ME X E (.Call (.Name "int" p) (e::es) [] pos) (za (zx Xj) ms):=Xz call_int1 KS hg hm (by with_unfolding_all rfl) ha (by decide) (by decide) he hpl
theorem XX {p:Pos}{ms:List (M D)}(hm:X.mg "list" = none)(ha:MA X E (e::es) ms)(hg:autoParam (Gl X "list") aR._auto_1)(he:autoParam (starEach (e::es) X.env=(false,eval e X.env)::starEach es X.env) aR._auto_1)(hpl:autoParam ((backTo pos (starEach es X.env)).any (·.1)=false) aR._auto_1) :
  ME X E (.Call (.Name "list" p) (e::es) [] pos) (za (zx yy) ms):=Xz call_list_of Jo hg hm (by with_unfolding_all rfl) ha (by decide) (by decide) he hpl
theorem Xx {p:Pos}{ms:List (M D)}(hm:X.mg "tuple" = none)(ha:MA X E (e::es) ms)(hg:autoParam (Gl X "tuple") aR._auto_1)(he:autoParam (starEach (e::es) X.env=(false,eval e X.env)::starEach es X.env) aR._auto_1)(hpl:autoParam ((backTo pos (starEach es X.env)).any (·.1)=false) aR._auto_1) :
  ME X E (.Call (.Name "tuple" p) (e::es) [] pos) (za (zx tupleD) ms):=Xz call_tuple_of Qz hg hm (by with_unfolding_all rfl) ha (by decide) (by decide) he hpl
end
section
variable {P:Program}{w:World}{K:PySem.W.Frag}{mg:Str->Option Value}{base:Heap}{N:List Str}{qual:Str}{scope:Scope}{f:Addr}{cd:Value}{A:Around}{outer:List Env}{s₀:Shared}{H₀:Hp}{E:XK}
theorem yJ {C:Addr}{x:Str}{z:Str}{np cpos pos ap:Pos}{j:Nat}(q:PySem.W.excIn K C Yb Z0=true)(hm:mg x=some (.ref C))(hgl:autoParam (Gl (cxOf (CX1 P w) P w K mg base N qual scope f cd A outer s₀ H₀ E) x) aR._auto_1)
  (hd:autoParam ((x == ("__debug__" : Str))=false) aD._auto_1):MS (cxOf (CX1 P w) P w K mg base N qual scope f cd A outer s₀ H₀ E) E (.Raise (some (.Call (.Name x np) [.Constant (.str z) j ap] [] cpos)) none pos) (Zj C):=⟨_,uK q hm hgl hd,jc⟩
end
section
variable {X:Cx}{E:XK}{e:Expr}{pos p p3:Pos}{m:M D}
theorem JU {K:PySem.W.Frag}{c:String}{f:D->Bool}(hn:PySem.W.kitOne K (.type "NoneType") (.type c)=some (f .non))(hb:∀ b,PySem.W.kitOne K (.type "bool") (.type c)=some (f (.bl b)))(hi:∀ b,PySem.W.kitOne K (.type "int") (.type c)=some (f (.int b)))
  (hs:∀ b,PySem.W.kitOne K (.type "str") (.type c)=some (f (.str b)))(ht:∀ b,PySem.W.kitOne K (.type "tuple") (.type c)=some (f (.tup b)))(hl:∀ b,PySem.W.kitOne K (.type "list") (.type c)=some (f (.lst b)))(d r:D)(h:Wf f d=some r):∃ b,r=.bl b/\IsD K (.type c) b d:=by
 cases d with
 |non=>cases h;exact⟨_,rfl,hn⟩
 |bl b=>cases h;exact⟨_,rfl,hb b⟩
 |int b=>cases h;exact⟨_,rfl,hi b⟩
 |str b=>cases h;exact⟨_,rfl,hs b⟩
 |tup b=>cases h;exact⟨_,rfl,ht b⟩
 |lst b=>cases h;exact⟨_,rfl,hl b⟩
 |exc c=>cases h
 |dct a b=>cases h
 |dcT a b=>cases h
theorem XY {C:Addr}{x:Str}{f:Addr->Option Bool}(hm:X.mg "isinstance" = none)(hc:X.mg x=some (.ref C))(hf:∀ a b,f a=some b->(PySem.W.clsIn X.K a).isSome=true/\ExcCls X.K a/\PySem.W.kitOne X.K (.ref a) (.ref C)=some b)(h:ME X E e m)(hg:Gl X "isinstance":=by rfl)(hg2:autoParam (Gl X x) aR._auto_1)(hd:autoParam ((x == ("__debug__" : Str))=false) aD._auto_1)
  (he:autoParam (starEach [e,.Name x p3] X.env=(false,eval e X.env)::starEach [.Name x p3] X.env) aR._auto_1)(he2:autoParam (starEach [.Name x p3] X.env=[(false,eval (.Name x p3) X.env)]) aR._auto_1):ME X E (.Call (.Name "isinstance" p) [e,.Name x p3] [] pos) (op1 (yS f) m):=
 Ve (c:=.ref C) (y:=.ref C) h (pe_glob (v:=.ref C) hg2 hc rfl hd) (λu r=>r) (λd r hr=>by
  cases d with
  |exc a=>
   obtain⟨b,e1,rfl⟩:=Option.map_eq_some_iff.mp hr
   exact⟨b,rfl,hf a b e1⟩
  |_=>cases hr) hm hg he he2
theorem UY {x:Str}{T:String}{f:Addr->Option Bool}(hm:X.mg "isinstance" = none)(hc:X.mg x=none)(hv:bootBuiltins x=some (.type T))(hf:∀ a b,f a=some b->(PySem.W.clsIn X.K a).isSome=true/\ExcCls X.K a/\PySem.W.kitOne X.K (.ref a) (.type T)=some b)(h:ME X E e m)(hg:Gl X "isinstance":=by rfl)(hg2:autoParam (Gl X x) aR._auto_1)(hn:x ≠ "__name__":=by decide)(hd:autoParam ((x == ("__debug__" : Str))=false) aD._auto_1)
  (he:autoParam (starEach [e,.Name x p3] X.env=(false,eval e X.env)::starEach [.Name x p3] X.env) aR._auto_1)(he2:autoParam (starEach [.Name x p3] X.env=[(false,eval (.Name x p3) X.env)]) aR._auto_1):ME X E (.Call (.Name "isinstance" p) [e,.Name x p3] [] pos) (op1 (yS f) m):=
 Ve (c:=.type T) (y:=.ty T) h (pe_bltn (v:=.ty T) hg2 hc hv rfl hn hd) (λu r=>r) (λd r hr=>by
  cases d with
  |exc a=>
   obtain⟨b,e1,rfl⟩:=Option.map_eq_some_iff.mp hr
   exact⟨b,rfl,hf a b e1⟩
  |_=>cases hr) hm hg he he2
end
end PM
namespace PM
open PySem PySem.Spec PyProof.Rows L2
section
variable {K:PySem.W.Frag}{E:XK}{G:Hp}
end
section
variable {X:Cx}{E:XK}{e f v:Expr}{sts:List Stmt}{pos p2 p3:Pos}{m mv mk mx:M D}{mf:M Fl}
end
end PM
namespace PM
open PySem PySem.Spec PyProof.Rows L2 PySem.SeqAt MeetsSeq MeetsSeq2
open AutoSeq1 (wpAny_loadPart')
theorem vC (l:Addr)(items:Array Value) (n:Nat)(dd:Option Addr)(sl:Array (Option Value)) (x:Value)(e:Value->Bool) (j:Nat)(hj:j<items.size)
  (hit:e items[j]=true)(hno:∀ m (hm:m<items.size),m<j->e items[m]=false) :
  Meets (Builtin.«tuple.index» ⟨[.ref l,x],[]⟩)
   (λA R s=>s.heap.get? l=some { cls:=.type "tuple",dict:=dd,data:=.seq items n,slots:=sl }/\(∀ y,y ∈ items->EqAt A.in1 s y x (e y))/\R (.ok (.ret (.int j s.toks))) { s with toks:=s.toks+1 }):=
 .of_wp λprog w A R s h=>by
  obtain⟨hp,g,d,tk,os⟩:=s;obtain⟨hl,he,h⟩:=h
  unfold Builtin.«tuple.index»
  simp only[Std.Legacy.Range.forIn_eq_forIn_range',Std.Legacy.Range.size,Nat.sub_zero,Nat.add_sub_cancel,Nat.div_one,Nat.min_self]
  wp_walk using wpAny_loadPart' hl,wpAny_forIn_list _ (λrest b s'=>b.1=none/\s'=⟨hp,g,d,tk,os⟩/\∃ i,i<=j/\rest=List.range' i (items.size - i)) _
  case turn=>
   rintro y rest b s' ⟨hb,rfl,i,hi,hr⟩
   have hlt:i<items.size:=by omega
   rw[show items.size - i=(items.size - (i+1))+1 by omega,List.range'_succ]at hr
   cases hr
   have hii:items[y]? = some items[y]:=by simp[hlt]
   rw[hii]
   refine wpAny_bind (he _ (Array.getElem_mem hlt) prog w _ _ ?_)
   by_cases hij:y=j
   ·subst hij
    rw[hit]
    wp_walk
    exact⟨_,rfl,h⟩
   ·rw[hno y hlt (by omega)]
    wp_walk
    exact⟨rfl,rfl,y+1,by omega,rfl⟩
  case fin=>
   rintro b s' ⟨hb,rfl,i,hi,hr⟩
   have:(List.range' i (items.size - i)).length=0:=by rw[<-hr];rfl
   simp at this
   omega
  case h=>
   exact⟨rfl,rfl,0,Nat.zero_le _,by simp⟩
theorem ji {h:Heap}{d:PyData}:∀ {xs:List PyData}{vs:List Value}{as:List Addr},PyData.canLayAll0 xs=true->ReadsAll h vs xs as->∀ (i:Nat) (v:Value),vs[i]? = some v->∃ x,xs[i]? = some x/\PyData.eqv (readOf h v) d=PyData.eqv x d:=by
 intro xs vs as hc r i v hv
 have:=readsAll_map xs vs as hc r
 refine⟨readOf h v,?_,rfl⟩
 rw[<-this,List.getElem?_map,hv]
 rfl
theorem qH {dx:D}(p:dx.plain=true):∀ {ys:List D},D.plains ys=true->∀ (i:Nat)(x:PyData),(D.pys ys)[i]? = some x->∃ y,ys[i]? = some y/\PyData.eqv x dx.py=y.eqv dx
 |[],_,i,x,e=>by cases i<;>cases e
 |a::r,h,i,x,e=>by
  have h':(a.plain && D.plains r)=true:=h
  rw[Bool.and_eq_true]at h'
  cases i with
  |zero=>cases e;exact⟨a,rfl,Xs h'.1 p⟩
  |succ i=>exact qH p h'.2 i x e
section
variable {X:Cx}{K:PySem.W.Frag}{E:XK}
inductive RIdx (K:PySem.W.Frag)(Sq:PySem.W.Frag->Hp->Addr->List V->Prop)(x:V)(vs:List V)(H:Hp)(Q:VK):Prop where
 |mk (p:Addr)(y:V)(ws:List V)(ys:List D)(dx:D) (j:Nat)(e1:x=.ref p)(e2:vs=[y])(hq:Sq K H p ws)(rl:zL K H ys ws)(r1:Rep K H dx y)(p1:dx.plain=true)(p2:D.plains ys=true)(hd:D.deeps ys<=30)(hj:uu ys dx=some j)(q:Q (.int (j:Nat)) H)
noncomputable abbrev zBG (K:PySem.W.Frag)(Sq:PySem.W.Frag->Hp->Addr->List V->Prop):V->List V->Hp->VK->Prop:=λx vs H Q=>RIdx K Sq x vs H Q
theorem Vx {pins:List (Addr×Obj)}{s:Shared}{σ:St}{H:Hp}{ys:List D}{ws:List V}{its:List Value}{dx:D}{y:V}{u:Value}{k:Nat}(hr:Room k X.A)(I:Inv X pins σ H s)(rl:zL X.K H ys ws)(rt:Vals ws its)(r1:Rep X.K H dx y)(ru:RelV y u)
  (p1:dx.plain=true)(p2:D.plains ys=true)(hd:D.deeps ys<=30):(∀ z,z ∈ its.toArray->EqAt X.A.in1 s z u (PyData.eqv (readOf s.heap z) dx.py))/\(∀ (i:Nat) (v:Value),its[i]? = some v->∃ d,ys[i]? = some d/\PyData.eqv (readOf s.heap v) dx.py=d.eqv dx)/\ys.length=its.length:=by
 obtain⟨as,ra⟩:=yI I r1 ru p1
 obtain⟨bs,rb⟩:=ZW I rl rt p2
 have hu:X.A.units+1+min (PyData.depthAll (D.pys ys)) dx.py.depth<cLine:=by rw[yt p2];exact xy hr hd
 refine⟨items_eqAt (by simpa using rb) ra (yp p2) (YM p1) hu,λi v hv=>?_,?_⟩
 ·obtain⟨x,hx,e⟩:=ji (d:=dx.py) (yp p2) rb i v hv
  obtain⟨d,hd,e2⟩:=qH p1 p2 i x hx
  exact⟨d,hd,e.trans e2⟩
 ·rw[rl.len,rt.length]
theorem QR {k:Nat}(hr:Room k X.A):MtR X "tuple.index" (zBG X.K SqT):=by
 intro pins s σ H x vs v us Q I rx rv h
 obtain⟨p,y,ws,ys,dx,j,rfl,rfl,hq,rl,r1,p1,p2,hd,hj,q⟩:=h
 cases rx
 obtain⟨u,rfl,ru⟩:=vals1 rv
 obtain⟨its,rt,⟨⟨cls,dd,data,sl⟩,ho,hc,n,hdt⟩,_⟩:=I.tuple hq
 simp only at hc hdt
 subst hc hdt
 obtain⟨h1,h2,h3⟩:=Vx hr I rl rt r1 ru p1 p2 hd
 obtain⟨hjl,hjt,hjn⟩:=List.findIdx?_eq_some_iff_getElem.mp hj
 have hji:j<its.length:=by omega
 refine call_meets PySem.F.slot_tuple_index ⟨_,ho,rfl⟩ PySem.F.entry_tuple_index (PySem.F.args_tuple_index_2 _ _) (vC p its.toArray n dd sl u (λz=>PyData.eqv (readOf s.heap z) dx.py) j (by simpa using hji) ?_ ?_) ⟨ho,h1,⟨.int j,H,I.tok _,⟨_,rfl⟩,q⟩⟩
 ·obtain⟨d,hd,e⟩:=h2 j its[j] (List.getElem?_eq_getElem hji)
  rw[List.getElem?_eq_getElem hjl]at hd
  cases hd
  simpa using e.trans hjt
 ·intro m hm hlt
  have hm':m<its.length:=by simpa using hm
  obtain⟨d,hd,e⟩:=h2 m its[m] (List.getElem?_eq_getElem hm')
  rw[List.getElem?_eq_getElem (by omega)]at hd
  cases hd
  have:=hjn m hlt
  simp only[Bool.not_eq_true]at this
  simpa using e.trans this
theorem QS {k:Nat}(hr:Room k X.A):MtR X "list.index" (zBG X.K SqL):=by
 intro pins s σ H x vs v us Q I rx rv h
 obtain⟨p,y,ws,ys,dx,j,rfl,rfl,hq,rl,r1,p1,p2,hd,hj,q⟩:=h
 cases rx
 obtain⟨u,rfl,ru⟩:=vals1 rv
 obtain⟨its,rt,pl,hz⟩:=I.list hq
 obtain⟨⟨cls,dd,data,sl⟩,ho,hc,n,hdt⟩:=pl.isList
 simp only at hc hdt
 subst hc hdt
 obtain⟨h1,h2,h3⟩:=Vx hr I rl rt r1 ru p1 p2 hd
 obtain⟨hjl,hjt,hjn⟩:=List.findIdx?_eq_some_iff_getElem.mp hj
 have hji:j<its.length:=by omega
 have hz':=rt.length
 have hsl:(sizeLine:Nat)=16777216:=by decide
 refine call_meets PySem.F.slot_list_index ⟨_,ho,rfl⟩ PySem.F.entry_list_index (PySem.F.args_list_index_2 _ _) (list_indexAt p its.toArray n dd sl u (λz=>PyData.eqv (readOf s.heap z) dx.py) j (by simpa using hji) (by omega) ?_ ?_) ⟨ho,h1,⟨.int j,H,I.tok _,⟨_,rfl⟩,q⟩⟩
 ·obtain⟨d,hd,e⟩:=h2 j its[j] (List.getElem?_eq_getElem hji)
  rw[List.getElem?_eq_getElem hjl]at hd
  cases hd
  simpa using e.trans hjt
 ·intro m hm hlt
  have hm':m<its.length:=by simpa using hm
  obtain⟨d,hd,e⟩:=h2 m its[m] (List.getElem?_eq_getElem hm')
  rw[List.getElem?_eq_getElem (by omega)]at hd
  cases hd
  have:=hjn m hlt
  simp only[Bool.not_eq_true]at this
  simpa using e.trans this
inductive RCnt (K:PySem.W.Frag)(x:V)(vs:List V)(H:Hp)(Q:VK):Prop where
 |mk (p:Addr)(y:V)(ws:List V)(ys:List D)(dx:D)(e1:x=.ref p)(e2:vs=[y])(hq:SqL K H p ws)(rl:zL K H ys ws)(r1:Rep K H dx y)(p1:dx.plain=true)(p2:D.plains ys=true)(hd:D.deeps ys<=30)(q:Q (.int ((ys.filter λy=>y.eqv dx).length:Nat)) H)
noncomputable abbrev zBV (K:PySem.W.Frag):V->List V->Hp->VK->Prop:=λx vs H Q=>RCnt K x vs H Q
theorem u3 {α β:Type}{e:α->Bool}{f:β->Bool}:∀ {l:List α}{k:List β},k.length=l.length->(∀ (i:Nat)(a:α),l[i]? = some a->∃ b,k[i]? = some b/\e a=f b)->l.countP e=(k.filter f).length
 |[],[],_,_=>rfl
 |a::l,b::k,hl,h=>by
  obtain⟨b',hb,e1⟩:=h 0 a rfl
  cases hb
  have ih:=u3 (l:=l) (k:=k) (by simpa using hl) λi a' ha=>h (i+1) a' (by simpa using ha)
  rw[List.countP_cons,List.filter_cons,ih,e1]
  split<;>simp[*]
 |[],_::_,hl,_=>by simp at hl
 |_::_,[],hl,_=>by simp at hl
theorem QT {k:Nat}(hr:Room k X.A):MtR X "list.count" (zBV X.K):=by
 intro pins s σ H x vs v us Q I rx rv h
 obtain⟨p,y,ws,ys,dx,rfl,rfl,hq,rl,r1,p1,p2,hd,q⟩:=h
 cases rx
 obtain⟨u,rfl,ru⟩:=vals1 rv
 obtain⟨its,rt,pl,hz⟩:=I.list hq
 obtain⟨⟨cls,dd,data,sl⟩,ho,hc,n,hdt⟩:=pl.isList
 simp only at hc hdt
 subst hc hdt
 obtain⟨h1,h2,h3⟩:=Vx hr I rl rt r1 ru p1 p2 hd
 refine call_meets PySem.F.slot_list_count ⟨_,ho,rfl⟩ PySem.F.entry_list_count (PySem.F.args_list_count_2 _ _) (list_countAt p its.toArray n dd sl u (λz=>PyData.eqv (readOf s.heap z) dx.py)) ⟨ho,h1,?_⟩
 rw[show its.toArray.toList.countP (λz=>PyData.eqv (readOf s.heap z) dx.py)=(ys.filter λy=>y.eqv dx).length from u3 h3 h2]
 exact⟨.int _,H,I.tok _,⟨_,rfl⟩,q⟩
noncomputable def zA9 (K:PySem.W.Frag)(r:V->List V->Hp->VK->Prop)(to:TE)(t:TA):TE:=λσ H Q=>to σ H λx H1=>(∃ p xs,x=.ref p/\SqT K H1 p xs)/\t σ H1 λxs H2=>r x xs H2 Q
theorem zAY {o e:Expr}{es:List Expr}{to:TE}{t:TA}{name:Str}{apos cpos:Pos}{id:String}{r:V->List V->Hp->VK->Prop}(slot:PySem.Slot "tuple" name id)(hty:typeOf (.builtin id)=pure (.type "method_descriptor"))(hm:MtR X id r)(ho:PE X o to)(ha:PA X (e::es) t)
  (hbase:attributeBase o name X.env (eval o X.env)=eval o X.env)
  (hfew:((backTo cpos (starEach (e::es) X.env)).all (λx=>!x.1) && (backToKw cpos (keywordEach [] X.env)).all (λx=>x.1.isSome)
   && decide ((e::es).length+([]:List Keyword).length+(if ([]:List Keyword).isEmpty then 0 else 1)<30))=true)
  (hline:(apos.endLine == cpos.line)=true)(hs:starEach (e::es) X.env=(false,eval e X.env)::starEach es X.env)(hplain:(backTo cpos (starEach es X.env)).any (·.1)=false) :
  PE X (.Call (.Attribute o name apos) (e::es) [] cpos) (zA9 X.K r to t):=by
 intro pins s σ H Q I h
 refine wpAny_Call_method_late hbase hfew hline rfl (thn (ho pins s σ H _ I h) λv s1 ⟨x,H1,I1,r1,⟨p,xs,ex,hq⟩,q1⟩=>?_)
 subst ex
 obtain rfl:v=Value.ref p:=r1
 obtain⟨its,rt,ht,_⟩:=I1.tuple hq
 obtain⟨o',ho',hd'⟩:=I1.tupleD hq
 refine⟨"tuple",id,PySem.F.plainAttrs_tuple,slot,hty,ht.typeIs,λa ea=>(by cases ea;exact⟨o',ho',hd'⟩),?_⟩
 have hA:=ha cpos pins s1 σ H1 _ I1 q1
 rw[hs]at hA ⊢
 refine Calls.callWith_builtin (by show (false || (backTo cpos (starEach es X.env)).any (·.1))=false;rw[hplain]<;>rfl) (Calls.evalArgs_plain ?_)
 exact thn hA λus s2 ⟨vs,H2,I2,r2,q2⟩=>hm pins s2 σ H2 (.ref p) vs _ us Q I2 rfl r2 q2
theorem jl {r:V->List V->Hp->VK->Prop}{to te:TE}{a b:M D}{f:D->D->Option D}(ha:RE K E to a)(hb:RE K E te b)
  (hf:∀ (G H:Hp)(x y:V)(dx dy d:D)(Q:VK),Same G H->Rep K G dx x->Rep K G dy y->f dx dy=some d->(Y1 dx).isSome=true->(∀ v,Rep K G d v->Q v H)->r x [y] H Q):RE K E (zA9 K r to (tCons te tNil)) (vm f a b):=by
 intro G0 H0 ρ σ G H ho
 refine RAt.bind (t2:=λx σ H1 Q=>(∃ p xs,x=V.ref p/\SqT K H1 p xs)/\te σ H1 λy H2=>r x [y] H2 Q) (ha G0 H0 ρ σ G H ho) λdx ρ1 x G1 H1 s1 h1 r1=>?_
 refine RAt.opt λds e=>?_
 intro Q hQ
 cases dx<;>first | (cases e;done) | skip
 obtain⟨p,vs,rfl,hq,rl⟩:=zg.mp r1
 refine⟨⟨p,vs,rfl,SqT.same h1.e.s hq⟩,?_⟩
 refine RAt.bind (r2:=λG d v=>Rep K G d v) (t2:=λy σ H2 Q=>r (.ref p) [y] H2 Q) (hb G0 H0 ρ1 σ G1 H1 h1) (λdy ρ2 y G2 H2 s2 h2 r2=>?_) Q hQ
 refine RAt.opt1 λd e=>?_
 intro Q hQ
 exact hf G2 H2 _ y _ dy d Q h2.e.s (r1.mono s2) r2 e rfl λv rv=>hQ v G2 H2 (Same.refl _) h2 rv
theorem uD {i:Nat}{r:V->List V->Hp->VK->Prop}{te:TE}{b:M D}{f:D->D->Option D}(hb:RE K E te b)
  (hf:∀ (G H:Hp)(p:Addr)(vs:List V)(y:V)(ds:List D)(dy d:D)(Q:VK),Same G H->SqL K H p vs->zL K H ds vs->Rep K G dy y->f (.lst ds) dy=some d->(∀ v,Rep K G d v->Q v H)->r (.ref p) [y] H Q):RE K E (tBM K "list" r (tVar i) (tCons te tNil)) (XW f i b):=by
 intro G0 H0 ρ σ G H ho
 refine RAt.opt λds e=>?_
 obtain⟨a,vs,e1,e2,e3,e4,rr⟩:=ho.sl i _ (ZN e)
 intro Q hQ
 refine⟨.ref a,e1,.inl ⟨rfl,_,SqL.of e2⟩,?_⟩
 refine RAt.bind (r2:=λG d v=>Rep K G d v) (t2:=λy σ H2 Q=>r (.ref a) [y] H2 Q) (hb G0 H0 ρ σ G H ho) (λdy ρ2 y G2 H2 s2 h2 r2=>?_) Q hQ
 refine RAt.opt λds' e'=>?_
 refine RAt.opt1 λd ed=>?_
 obtain⟨a',vs',f1,f2,f3,f4,rr'⟩:=h2.sl i _ (ZN e')
 rw[e1]at f1
 cases f1
 intro Q hQ
 exact hf G2 H2 a vs' y ds' dy d Q h2.e.s (SqL.of f2) (rr'.mono h2.e.s) r2 ed λv rv=>hQ v G2 H2 (Same.refl _) h2 rv
theorem vt {s x d:D}{ys:List D}(hs:s.items? = some ys)(e:YR s x=some d):∃ j,x.plain=true/\D.plains ys=true/\D.deeps ys<=30/\uu ys x=some j/\d=.int (j:Nat):=by
 unfold YR at e
 rw[hs]at e
 dsimp only at e
 split at e
 ·rename_i h
  simp only[Bool.and_eq_true,decide_eq_true_eq]at h
  obtain⟨j,e1,rfl⟩:=Option.map_eq_some_iff.mp e
  exact⟨j,h.1.1,h.1.2,h.2,e1,rfl⟩
 ·cases e
theorem Qx {ys:List D}{x d:D}(e:Wu (.lst ys) x=some d):x.plain=true/\D.plains ys=true/\D.deeps ys<=30/\d=.int ((ys.filter λy=>y.eqv x).length:Nat):=by
 unfold Wu at e
 dsimp only at e
 split at e
 ·rename_i h
  simp only[Bool.and_eq_true,decide_eq_true_eq]at h
  cases e
  exact⟨h.1.1,h.1.2,h.2,rfl⟩
 ·cases e
end
section
variable {X:Cx}{E:XK}{o e:Expr}{ap pos p2:Pos}{a b:M D}
theorem QW {k:Nat}(hr:Room k X.A)(ha:ME X E o a)(hb:ME X E e b)(hs0:autoParam (starEach [e] X.env=(false,eval e X.env)::starEach [] X.env) aR._auto_1)(hbase:attributeBase o "index" X.env (eval o X.env)=eval o X.env:=by rfl)
  (hfew:autoParam (((backTo pos (starEach [e] X.env)).all (λx=>!x.1) && (backToKw pos (keywordEach [] X.env)).all (λx=>x.1.isSome) && decide ([e].length+([]:List Keyword).length+(if ([]:List Keyword).isEmpty then 0 else 1)<30))=true) aR._auto_1)
  (hline:autoParam ((ap.endLine == pos.line)=true) aR._auto_1)(hplain:autoParam ((backTo pos (starEach [] X.env)).any (·.1)=false) aR._auto_1):ME X E (.Call (.Attribute o "index" ap) [e] [] pos) (vm YR a b):=by
 obtain⟨ta,pa,ra⟩:=ha
 obtain⟨tb,pb,rb⟩:=hb
 refine⟨_,zAY PySem.F.slot_tuple_index PySem.F.type_tuple_index (QR hr) pa (pa_cons pb pa_nil hs0) hbase hfew hline hs0 hplain,jl ra rb λG H x y dx dy d Q s rx ry ed hk q=>?_⟩
 cases dx<;>first | (cases hk;done) | skip
 obtain⟨p,vs,rfl,hq,rl⟩:=zg.mp rx
 obtain⟨j,p1,p2,p3,p4,rfl⟩:=vt (ys:=_) rfl ed
 exact⟨p,y,vs,_,dy,j,rfl,rfl,SqT.same s hq,rl.mono s,ry.mono s,p1,p2,p3,p4,q _ (zM.mpr rfl)⟩
theorem QX {k:Nat}(hr:Room k X.A) (i:Nat){x:Str}(hb:ME X E e b)(hN:autoParam (X.N[i]? = some x) aR._auto_1)(hv:autoParam (Vis X.env.scope x) aV._auto_1)(hd:autoParam ((x == ("__debug__" : Str))=false) aD._auto_1)
  (hcd:autoParam ((x == ("__classdict__" : Str))=false) aD._auto_1)(hs0:autoParam (starEach [e] X.env=(false,eval e X.env)::starEach [] X.env) aR._auto_1)(hbase:attributeBase (.Name x p2) "index" X.env (eval (.Name x p2) X.env)=eval (.Name x p2) X.env:=by rfl)
  (hfew:autoParam (((backTo pos (starEach [e] X.env)).all (λx=>!x.1) && (backToKw pos (keywordEach [] X.env)).all (λx=>x.1.isSome) && decide ([e].length+([]:List Keyword).length+(if ([]:List Keyword).isEmpty then 0 else 1)<30))=true) aR._auto_1)
  (hline:autoParam ((ap.endLine == pos.line)=true) aR._auto_1)(hplain:autoParam ((backTo pos (starEach [] X.env)).any (·.1)=false) aR._auto_1):ME X E (.Call (.Attribute (.Name x p2) "index" ap) [e] [] pos) (XW YR i b):=by
 obtain⟨tb,pb,rb⟩:=hb
 refine⟨_,pe_bm PySem.F.plainAttrs_list PySem.F.slot_list_index PySem.F.type_list_index (QS hr) (pe_var hN hv hd hcd) (pa_cons pb pa_nil hs0) hbase hfew hline hs0 hplain,uD rb λG H p vs y ds dy d Q s hq rl ry ed q=>?_⟩
 obtain⟨j,p1,p2,p3,p4,rfl⟩:=vt (ys:=_) rfl ed
 exact⟨p,y,vs,_,dy,j,rfl,rfl,hq,rl,ry.mono s,p1,p2,p3,p4,q _ (zM.mpr rfl)⟩
theorem QY {k:Nat}(hr:Room k X.A) (i:Nat){x:Str}(hb:ME X E e b)(hN:autoParam (X.N[i]? = some x) aR._auto_1)(hv:autoParam (Vis X.env.scope x) aV._auto_1)(hd:autoParam ((x == ("__debug__" : Str))=false) aD._auto_1)
  (hcd:autoParam ((x == ("__classdict__" : Str))=false) aD._auto_1)(hs0:autoParam (starEach [e] X.env=(false,eval e X.env)::starEach [] X.env) aR._auto_1)(hbase:attributeBase (.Name x p2) "count" X.env (eval (.Name x p2) X.env)=eval (.Name x p2) X.env:=by rfl)
  (hfew:autoParam (((backTo pos (starEach [e] X.env)).all (λx=>!x.1) && (backToKw pos (keywordEach [] X.env)).all (λx=>x.1.isSome) && decide ([e].length+([]:List Keyword).length+(if ([]:List Keyword).isEmpty then 0 else 1)<30))=true) aR._auto_1)
  (hline:autoParam ((ap.endLine == pos.line)=true) aR._auto_1)(hplain:autoParam ((backTo pos (starEach [] X.env)).any (·.1)=false) aR._auto_1):ME X E (.Call (.Attribute (.Name x p2) "count" ap) [e] [] pos) (XW Wu i b):=by
 obtain⟨tb,pb,rb⟩:=hb
 refine⟨_,pe_bm PySem.F.plainAttrs_list PySem.F.slot_list_count PySem.F.type_list_count (QT hr) (pe_var hN hv hd hcd) (pa_cons pb pa_nil hs0) hbase hfew hline hs0 hplain,uD rb λG H p vs y ds dy d Q s hq rl ry ed q=>?_⟩
 obtain⟨p1,p2,p3,rfl⟩:=Qx ed
 exact⟨p,y,vs,ds,dy,rfl,rfl,hq,rl,ry.mono s,p1,p2,p3,q _ (zM.mpr rfl)⟩
end
end PM
namespace PM
open PySem PySem.Spec PyProof.Rows L2
section
variable {X:Cx}{K:PySem.W.Frag}{E:XK}
theorem Wp {G H:Hp}{p:Addr}{o:HO}(h:Same G H)(hp:H p=none):Ext G H G (upd H p o):=
 ⟨Same.refl _,λb u e=>Same.upd hp _ _ (h _ _ e),λ_ _ e=>e,Same.upd hp⟩
noncomputable def zAC (ta:TA):TE:=λσ H Q=>ta σ H λvs H1=>∃ j:Int,vs=[.int j]/\-(2 ^ 62)<=j/\j<2 ^ 62/\∀ p,H1 p=none->Q (.ref p) (upd H1 p (.rng 0 j))
theorem uM {a:Expr}{ta:TA}{p pos:Pos}(hg:Gl X "range")(hm:X.mg "range" = none)(ha:PA X [a] ta)(hs:starEach [a] X.env=[(false,eval a X.env)]):PE X (.Call (.Name "range" p) [a] [] pos) (zAC ta):=by
 intro pins s σ H Q I h
 refine Call_ (ld_blt I hg hm boot_range (PyProof.Rows.callWith_type1 (thn (ha pos pins s σ H _ I h) λus s1 ⟨vs,H1,I1,r1,q1⟩=>?_) hs rfl))
 obtain⟨j,e,_,_,q⟩:=q1
 subst e
 obtain⟨u,rfl,t,rfl⟩:=vals1 r1
 refine call_range_1 ?_
 exact⟨.ref s1.heap.objs.size,_,I1.laid (o:=.rng 0 j) (λb o e=>Heap.get?_push_of_some _ e) (Nat.le_refl _) ⟨_,_,_,Heap.get?_push_size _ rfl⟩,rfl,q _ (I1.hok.fresh (Nat.le_refl _))⟩
noncomputable def xV (n:Nat):List V:=(List.range n).map λk:Nat=>V.int (k:Int)
theorem YV {acc:Array Value}{n:Nat}(h:ItemsOf (λi v=>∃ t,v=.int (0+i * 1) t) acc n):Vals (xV n) acc.toList:=by
 obtain⟨h1,h2⟩:=h
 have:∀ (l:List Value) (m:Nat),l.length=n - m->m<=n->(∀ (j:Nat) (v:Value),l[j]? = some v->∃ t,v=Value.int ((m+j:Nat):Int) t)->Vals ((List.range' m (n - m)).map λk:Nat=>V.int (k:Int)) l:=by
  intro l
  induction l with
  |nil=>
   intro m hl hm _
   have:n - m=0:=by simpa using hl.symm
   rw[this]
   exact .nil
  |cons v r ih=>
   intro m hl hm hv
   have e:n - m=(n - (m+1))+1:=by simp at hl;omega
   rw[e,List.range'_succ]
   obtain⟨t,rfl⟩:=hv 0 v rfl
   refine .cons ⟨t,rfl⟩ (ih (m+1) (by simp at hl;omega) (by simp at hl;omega) λj v hj=>?_)
   obtain⟨t,e⟩:=hv (j+1) v (by simpa using hj)
   exact⟨t,by rw[e];congr 1;omega⟩
 have:=this acc.toList 0 (by simpa using h1) (Nat.zero_le _) λj v hj=>by
  obtain⟨t,e⟩:=h2 j v (by simpa using hj)
  exact⟨t,by rw[e];congr 1;omega⟩
 rw[Nat.sub_zero,<-List.range_eq_range']at this
 exact this
noncomputable def WH:List V->Hp->VK->Prop:=λxs H Q=>∃ (r:Addr) (j:Int),xs=[.ref r]/\H r=some (.rng 0 j)/\-(2 ^ 62)<=j/\j<2 ^ 62/\j.toNat<=sizeLine/\∀ p,H p=none->Q (.ref p) (upd H p (.lst (xV j.toNat)))
theorem vN (hc:X.calm=true):CallR X (.type "list") WH:=by
 intro pins s σ H xs us Q I r h
 obtain⟨ra,j,rfl,hr,h1,h2,hz,q⟩:=h
 obtain⟨u,rfl,rx⟩:=vals1 r
 cases rx
 obtain⟨t,u,v,hg⟩:=(show ObjOk X.prog X.w H s.heap ra (.rng 0 j) from I.hok ra _ hr)
 have hn:Builtin.Range.rangeSize 0 j 1=j.toNat:=by rw[rangeSize_one];split<;>omega
 refine call_list_range (I.ok.hd hc) hg (small_one (by omega) (by omega) h1 h2) hn (by rw[<-show (sizeLine:Nat)=2 ^ 24 from rfl];exact hz) λh' tk acc' c' hk hS hacc=>?_
 exact⟨.ref s.heap.objs.size,_,I.laid (o:=.lst (xV j.toNat)) hk (Nat.le_refl _) ⟨by unfold xV;simpa using hz,acc'.toList,c',YV hacc,hS⟩,rfl,q _ (I.hok.fresh (Nat.le_refl _))⟩
theorem WB (G:Hp) (n:Nat):zL K G (yC n) (xV n):=Xr G n
theorem V9 {i:Nat}{te:TE}{m:M D}(he:RE K E te m):RS K E (tAsg (tCB WH (tCons (zAC (tCons te tNil)) tNil)) (gName i)) (yW i m):=by
 intro G0 H0 ρ σ G H ho
 refine RSt.bind (t2:=λv D σ H1=>∃ j:Int,[v]=[V.int j]/\-(2 ^ 62)<=j/\j<2 ^ 62/\∀ p,H1 p=none->WH [.ref p] (upd H1 p (.rng 0 j)) λx H2=>D.nx (σ.set i (some x)) H2) (he G0 H0 ρ σ G H ho) λd ρ1 v G1 H1 s1 h1 r1=>?_
 refine RSt.opt λds e=>?_
 intro D hD
 split at hD
 ·rename_i hz
  obtain⟨j,rfl,hj,rfl⟩:=Yj e
  cases zM.mp r1
  refine⟨j,rfl,hj.1,hj.2,λp hp=>⟨p,j,rfl,upd_same,hj.1,hj.2,by simpa[yC] using hz,λq hq=>?_⟩⟩
  have h2:=h1.grow (Wp (o:=.rng 0 j) h1.e.s hp) (Same.upd hp)
  exact hD _ G1 _ (Same.refl _) (h2.setNew hq (s:=.own (yC j.toNat)) ⟨q,_,rfl,upd_same,h2.e.s.free hq,h2.b.free hq,WB G1 _⟩ rfl)
 ·exact hD.elim
theorem uY {e:Expr}{m:M D}{x:Str}{p p3 p2 pos cp cp2:Pos} (i:Nat)(hN:X.N.Nodup)(hl:X.mg "list" = none)(hr:X.mg "range" = none)(h:ME X E e m)(hc:autoParam (X.calm=true) aR._auto_1)(hi:autoParam (X.N[i]? = some x) aR._auto_1)(hx:autoParam (Loc X.env.scope x) aL._auto_1)
  (hgl:autoParam (Gl X "list") aR._auto_1)(hgr:autoParam (Gl X "range") aR._auto_1)(hst:autoParam (starEach [e] X.env=[(false,eval e X.env)]) aR._auto_1)(hst2:autoParam (starEach [.Call (.Name "range" p3) [e] [] cp2] X.env=[(false,eval (.Call (.Name "range" p3) [e] [] cp2) X.env)]) aR._auto_1)
  (hs:autoParam (swapsWith (.Call (.Name "list" p) [.Call (.Name "range" p3) [e] [] cp2] [] cp) (some (.Name x p2)) pos.line X.env=pure false) aR._auto_1)(hf:autoParam (X.fn x=true\/X.env.scope.names.lookup x=some .local) aF._auto_1) :
  MS X E (.Assign [.Name x p2] (.Call (.Name "list" p) [.Call (.Name "range" p3) [e] [] cp2] [] cp) pos) (yW i m):=by
 obtain⟨t,pe,re⟩:=h
 exact⟨_,ps_set hN hi hx (pe_callTy (vN hc) hgl hl (by with_unfolding_all rfl) (pa_cons (uM hgr hr (pa_cons pe pa_nil hst) hst) pa_nil hst2) (by decide) (by decide) hst2 (by rfl)) hs hf,V9 re⟩
theorem zAT {i:Nat}{te:TE}{m:M D}{r:R2}{f:D->D->Option D}(he:RE K E te m)(hr:OpM K r f)(hown:∀ (H:Hp)(x:V)(dx:D)(a:Addr)(ds:List D)(vs:List V)(d:D)(Q:VK)(G:Hp),Same G H->Rep K G dx x->H a=some (.lst vs)->zL K G ds vs->f dx (.lst ds)=some d->(∀ v,Rep K G d v->Q v H)->r x (.ref a) H Q) :
  RE K E (tOp r te (tVar i)) (inO f m i):=by
 intro G0 H0 ρ σ G H ho
 refine RAt.bind (t2:=λx σ H1 Q=>∃ v,σ[i]? = some (some v)/\r x v H1 Q) (he G0 H0 ρ σ G H ho) λdx ρ1 x G1 H1 s1 h1 r1=>?_
 refine RAt.opt λds e=>?_
 refine RAt.opt1 λd ed=>?_
 obtain⟨a,vs,e1,e2,e3,e4,rr⟩:=h1.sl i _ (ZN e)
 intro Q hQ
 exact⟨.ref a,e1,hown H1 x dx a ds vs d Q G1 h1.e.s r1 e2 rr ed λv rv=>hQ v G1 H1 (Same.refl _) h1 rv⟩
end
end PM
namespace PM
open PySem PySem.Spec PyProof.Rows L2
noncomputable def Vu (names:List (Str×NameKind))(cells:List (Str×Addr))(acc:List (Str×Addr)):List (Str×Addr):=match names with
 |[]=>acc
 |(n,k)::r=>if k == .free then Vu r cells ((n,(cells.lookup n).getD 0)::acc) else Vu r cells acc
theorem xQ {x:Str}:∀ (names:List (Str×NameKind)) (n:Nat)(acc:List (Str×Addr)),((x,NameKind.cell) ∈ names\/(acc.lookup x).isSome=true)->((cellsFrom n names acc).lookup x).isSome=true
 |[],_,acc,h=>by
  rcases h with h | h
  ·simp at h
  ·exact h
 |(m,k)::r,n,acc,h=>by
  unfold cellsFrom
  split
  ·rename_i hk
   refine xQ r _ _ ?_
   rcases h with h | h
   ·rcases List.mem_cons.mp h with e | h
    ·cases e;exact .inr (by simp[List.lookup_cons])
    ·exact .inl h
   ·refine .inr ?_
    rw[List.lookup_cons]
    split
    ·rfl
    ·exact h
  ·rename_i hk
   refine xQ r _ _ ?_
   rcases h with h | h
   ·rcases List.mem_cons.mp h with e | h
    ·cases e;simp at hk
    ·exact .inl h
   ·exact .inr h
theorem Ww {env:Env}:∀ (names:List (Str×NameKind))(acc:List (Str×Addr)),(∀ y ∈ names,y.2=.free->(env.cells.lookup y.1).isSome=true) ->
  (forIn (m:=Sem) names acc λ(p:Str×NameKind)(r:List (Str×Addr))=>(match p with | (name,kind)=>if (kind == NameKind.free)=true then do let c <-cellOf env name;pure (ForInStep.yield ((name,c)::r)) else pure (ForInStep.yield r):Sem (ForInStep (List (Str×Addr)))))=pure (Vu names env.cells acc)
 |[],acc,_=>rfl
 |(n,k)::r,acc,h=>by
  rw[List.forIn_cons]
  have ih:=λa=>Ww (env:=env) r a λy hy=>h y (List.mem_cons_of_mem _ hy)
  unfold Vu
  by_cases hk:(k == NameKind.free)=true
  ·have hk':k=.free:=by simpa using hk
   obtain⟨c,hc⟩:=Option.isSome_iff_exists.mp (h (n,k) List.mem_cons_self hk')
   simp only at hc
   simp only[hk,if_true,cellOf,hc,Option.getD_some]
   exact ih _
  ·simp only[hk,if_false,Bool.false_eq_true]
   exact ih _
theorem Wx {cells:List (Str×Addr)}:∀ (names:List (Str×NameKind))(acc:List (Str×Addr))(p:Str×Addr),p ∈ Vu names cells acc->p ∈ acc\/((p.1,NameKind.free) ∈ names/\p.2=(cells.lookup p.1).getD 0)
 |[],acc,p,h=>.inl h
 |(n,k)::r,acc,p,h=>by
  unfold Vu at h
  split at h
  ·rename_i hk
   have hk':k=.free:=by simpa using hk
   rcases Wx r _ p h with h | h
   ·rcases List.mem_cons.mp h with rfl | h
    ·exact .inr ⟨by rw[hk'];exact List.mem_cons_self,rfl⟩
    ·exact .inl h
   ·exact .inr ⟨List.mem_cons_of_mem _ h.1,h.2⟩
  ·rcases Wx r _ p h with h | h
   ·exact .inl h
   ·exact .inr ⟨List.mem_cons_of_mem _ h.1,h.2⟩
theorem Wy {cells:List (Str×Addr)}{x:Str}:∀ (names:List (Str×NameKind))(acc:List (Str×Addr)),((x,NameKind.free) ∈ names\/(acc.lookup x).isSome=true)->((Vu names cells acc).lookup x).isSome=true
 |[],acc,h=>by
  rcases h with h | h
  ·simp at h
  ·exact h
 |(n,k)::r,acc,h=>by
  unfold Vu
  split
  ·refine Wy r _ ?_
   rcases h with h | h
   ·rcases List.mem_cons.mp h with e | h
    ·cases e;exact .inr (by simp[List.lookup_cons])
    ·exact .inl h
   ·refine .inr ?_
    rw[List.lookup_cons]
    split
    ·rfl
    ·exact h
  ·rename_i hk
   refine Wy r _ ?_
   rcases h with h | h
   ·rcases List.mem_cons.mp h with e | h
    ·cases e;simp at hk
    ·exact .inl h
   ·exact .inr h
theorem xh {α:Type}{x:Str}{a:α}:∀ {l:List (Str×α)},l.lookup x=some a->(x,a) ∈ l
 |[],h=>by simp at h
 |(n,b)::r,h=>by
  rw[List.lookup_cons]at h
  split at h
  ·rename_i e
   cases h
   rw[eq_of_beq e]
   exact List.mem_cons_self
  ·exact List.mem_cons_of_mem _ (xh h)
theorem Ys {X:Cx}{scope osc:Scope}{L:Addr}{nt:Nat}{N N':List Str}{idx:List Nat}(hsc:X.env.scope=osc)(hcl:X.env.cells=cellsFrom (L+1) osc.names [])(hN:X.N=N)(kind:scope.kind=.function)
  (nocell:∀ y ∈ scope.names,y.2≠.cell)(names:∀ y ∈ scope.names,y.2=.local->scope.names.lookup y.1=some .local)(hf:∀ y ∈ scope.names,y.2=.free->(y.1,NameKind.cell) ∈ osc.names)
  (len:N'.length=nt+idx.length+1)(cap:∀ j<idx.length,∃ x ∈ N,idx[j]?.bind (λi=>N[i]?)=some x/\N'[nt+j]? = some x/\scope.names.lookup x=some .free/\osc.names.lookup x=some .cell)
  (acc:∃ x ∈ N',N'[nt+idx.length]? = some x/\scope.names.lookup x=none):BlkScope X scope (Vu scope.names X.env.cells []) nt N' idx where
 clos:=by
  have:=Ww (env:=X.env) scope.names [] λy hy hk=>by rw[hcl];exact xQ _ _ _ (.inl (hf y hy hk))
  exact Eq.trans (b:=(_ >>= λcs=>pure cs)) rfl (congrArg (λ(t:Sem (List (Str×Addr)))=>t >>= λcs=>pure cs) this)
 kind:=kind
 nocell:=nocell
 names:=names
 sub:=λx c h=>by
  rcases Wx _ _ _ (xh h) with q | ⟨q1,q2⟩
  ·simp at q
  ·have hs:(X.env.cells.lookup x).isSome=true:=by rw[hcl];exact xQ _ _ _ (.inl (hf _ q1 rfl))
   obtain⟨d,hd⟩:=Option.isSome_iff_exists.mp hs
   simp only at q2
   rw[hd]at q2 ⊢
   rw[q2]
   rfl
 has:=λx h=>Wy _ _ (.inl (xh h))
 len:=len
 cap:=λj i h=>by
  have hj:=(List.getElem?_eq_some_iff.mp h).1
  obtain⟨x,_,h1,h2,h3,h4⟩:=cap j hj
  rw[h]at h1
  exact⟨x,by rw[hN];exact h1,h2,h3,by rw[hsc];exact h4⟩
 acc:=let ⟨x,_,h1,h2⟩:=acc;⟨x,h1,h2⟩
end PM
namespace PM
open PySem PySem.Spec PyProof.Rows L2
structure ErrT (K:PySem.W.Frag)(mg:Str->Option Value)(A:Cls):Prop where
 c_BoxError:mg "BoxError" = some (.ref A.be)
 c_BadMachine:mg "BadMachine" = some (.ref A.bm)
 c_BadWord:mg "BadWord" = some (.ref A.bw)
 c_TooMany:mg "TooMany" = some (.ref A.tm)
 c_BadText:mg "BadText" = some (.ref A.bt)
 e_BoxError:PySem.W.excIn K A.be Yb Z0=true
 e_BadMachine:PySem.W.excIn K A.bm Yb Z0=true
 e_BadWord:PySem.W.excIn K A.bw Yb Z0=true
 e_TooMany:PySem.W.excIn K A.tm Yb Z0=true
 e_BadText:PySem.W.excIn K A.bt Yb Z0=true
 caught:∀ c ∈ A.all,PySem.W.excIn K c Yb Z0=true/\PySem.W.mroIn K c (.ref A.be)=some true
 i_BadMachine:∀ a b,A.is A.bm a=some b->(PySem.W.clsIn K a).isSome=true/\ExcCls K a/\PySem.W.kitOne K (.ref a) (.ref A.bm)=some b
 i_BadWord:∀ a b,A.is A.bw a=some b->(PySem.W.clsIn K a).isSome=true/\ExcCls K a/\PySem.W.kitOne K (.ref a) (.ref A.bw)=some b
 i_TooMany:∀ a b,A.is A.tm a=some b->(PySem.W.clsIn K a).isSome=true/\ExcCls K a/\PySem.W.kitOne K (.ref a) (.ref A.tm)=some b
 i_BadText:∀ a b,A.is A.bt a=some b->(PySem.W.clsIn K a).isSome=true/\ExcCls K a/\PySem.W.kitOne K (.ref a) (.ref A.bt)=some b
 i_VE:∀ a b,A.isVE a=some b->(PySem.W.clsIn K a).isSome=true/\ExcCls K a/\PySem.W.kitOne K (.ref a) (.type "ValueError")=some b
end PM
namespace PM
open PySem PySem.Spec PyProof.Rows L2
section
variable {prog:Program}{w:World}{A:Around}{E:Value->Shared->Prop}{s:Shared}
noncomputable abbrev Y6 (led:Bool):Obj:={ cls:=.type "set",dict:=none,data:=.set #[] 0 (.fresh 0 0 led) }
structure SeqWalk (prog:Program)(w:World) (T:String)(l:Addr)(items:Array Value)(io:Obj)(St:Addr->Nat->Heap->Prop):Prop where
 nset:isSubtype (.type T) (.type "set")=pure false
 nfro:isSubtype (.type T) (.type "frozenset")=pure false
 ndic:(Value.type T == Value.type "dict")=false
 iter:∀ (A:Around)(E:Value->Shared->Prop)(s:Shared)(Q:Value->Shared->Prop),(∃ o n,s.heap.get? l=some o/\o.cls=.type T/\o.data=.seq items n)->Q (.ref s.heap.objs.size) { s with heap:=s.heap.push io }->wpAny (model prog w) A (pyIter (.ref l)) Q E s
 walk:∀ (A:Around)(I:Addr),A.handled=none->l≠I->Walks prog w A I [I,l] [I] items.size (λi v=>items[i]? = some v) (St I)
 zero:∀ (h:Heap),(∃ o n,h.get? l=some o/\o.cls=.type T/\o.data=.seq items n)->St h.objs.size 0 (h.push io)
theorem VL {l:Addr}{items:Array Value}:SeqWalk prog w "list" l items { cls:=.type "list_iterator",data:=.fields #[.ref l,.int 0 0] } (λI i h=>h.IsListIter I l i/\h.IsList l items) where
 nset:=F.sub_list_set
 nfro:=F.sub_list_frozenset
 ndic:=by decide
 iter:=λA E s Q ⟨o,n,h1,h2,h3⟩ q=>wpAny_pyIter_list ⟨o,h1,h2,n,h3⟩ q
 walk:=λA I hh hne=>Walks.list hh I l hne items
 zero:=λh ⟨o,n,h1,h2,h3⟩=>⟨⟨_,Heap.get?_push_size _ rfl,rfl,rfl⟩,Heap.IsList.push (show h.IsList l items from ⟨o,h1,h2,n,h3⟩) _⟩
theorem vD {l:Addr}{items:Array Value}:SeqWalk prog w "tuple" l items { cls:=.type "tuple_iterator",data:=.fields #[.ref l,.int 0 0] } (λI i h=>h.IsTupleIter I l i/\h.IsTuple l items) where
 nset:=by rw[isSubtype_type];kernel_rfl
 nfro:=by rw[isSubtype_type];kernel_rfl
 ndic:=by decide
 iter:=λA E s Q ⟨o,n,h1,h2,h3⟩ q=>wpAny_pyIter_tuple ⟨o,h1,h2,n,h3⟩ q
 walk:=λA I hh hne=>Walks.tuple hh I l hne items
 zero:=λh ⟨o,n,h1,h2,h3⟩=>⟨⟨_,Heap.get?_push_size _ rfl,rfl,rfl⟩,⟨o,Heap.get?_push_of_some _ h1,h2,n,h3⟩⟩
end
end PM
namespace PM
open PySem PySem.Spec PyProof.Rows L2
noncomputable def Ris (l:List Nat):Prop:=l.Pairwise (· < ·)
structure TabOk (led:Bool)(t:SetTable):Prop where
 led:t.led=led
 dum:t.dummies=#[]
 ris:Ris t.place.toList
theorem UR {l:List Nat}(h:Ris l){i j a b:Nat}(hij:i<j)(ha:l[i]? = some a)(hb:l[j]? = some b):a<b:=by
 obtain⟨hi,rfl⟩:=List.getElem?_eq_some_iff.mp ha
 obtain⟨hj,rfl⟩:=List.getElem?_eq_some_iff.mp hb
 exact List.pairwise_iff_getElem.mp h i j hi hj hij
theorem Vr {xs:Array Nat}{j:Nat}(hr:Ris xs.toList):∀ (f lo hi:Nat),hi - lo<=f->lo<=hi->hi<=xs.size->(∀ i a,xs.toList[i]? = some a->i<lo->a<j)->(∀ i a,xs.toList[i]? = some a->hi<=i->j<=a) ->
  SetTable.below.go xs j f lo hi<=xs.size/\(∀ i a,xs.toList[i]? = some a->i<SetTable.below.go xs j f lo hi->a<j)/\∀ i a,xs.toList[i]? = some a->SetTable.below.go xs j f lo hi<=i->j<=a
 |0,lo,hi,h1,h2,h3,h4,h5=>by
  unfold SetTable.below.go
  exact⟨by omega,h4,λi a ha hi'=>h5 i a ha (by omega)⟩
 |f+1,lo,hi,h1,h2,h3,h4,h5=>by
  unfold SetTable.below.go
  by_cases hlt:lo<hi
  ·rw[if_pos hlt]
   have hm:(lo+hi) / 2<xs.size:=by omega
   have hg:xs.toList[(lo+hi) / 2]? = some xs[(lo+hi) / 2]:=by simp[hm]
   have hgd:xs.getD ((lo+hi) / 2) j=xs[(lo+hi) / 2]:=by simp[Array.getD,hm]
   simp only[hgd]
   by_cases hc:xs[(lo+hi) / 2]<j
   ·rw[if_pos hc]
    refine Vr hr f _ _ (by omega) (by omega) h3 (λi a ha hi'=>?_) h5
    by_cases e:i=(lo+hi) / 2
    ·subst e;rw[hg]at ha;cases ha;exact hc
    ·exact Nat.lt_trans (UR hr (by omega) ha hg) hc
   ·rw[if_neg hc]
    refine Vr hr f _ _ (by omega) (by omega) (by omega) h4 λi a ha hi'=>?_
    by_cases e:i=(lo+hi) / 2
    ·subst e;rw[hg]at ha;cases ha;omega
    ·have:=UR hr (show (lo+hi) / 2<i by omega) hg ha
     omega
  ·rw[if_neg hlt]
   exact⟨by omega,h4,λi a ha hi'=>h5 i a ha (by omega)⟩
theorem W2 {xs:Array Nat}{j:Nat}(hr:Ris xs.toList):SetTable.below xs j<=xs.size/\(∀ i a,xs.toList[i]? = some a->i<SetTable.below xs j->a<j)/\∀ i a,xs.toList[i]? = some a->SetTable.below xs j<=i->j<=a:=
 Vr hr _ _ _ (by omega) (Nat.zero_le _) (Nat.le_refl _) (λi a _ h=>absurd h (Nat.not_lt_zero _)) λi a ha h=>absurd (List.getElem?_eq_some_iff.mp ha).1 (by simpa using h)
theorem vx (j:Nat):SetTable.has #[] j=false:=by simp[SetTable.has]
theorem q9 {t:SetTable}{led:Bool}(ok:TabOk led t){j:Nat}(h:t.slot j=.empty):j ∉ t.place.toList:=λhm=>by
 obtain⟨k,hk⟩:=List.mem_iff_getElem?.mp hm
 obtain⟨h1,h2,h3⟩:=W2 (j:=j) ok.ris
 have hkl:=(List.getElem?_eq_some_iff.mp hk).1
 have hb:SetTable.below t.place j<=k:=Nat.le_of_not_lt λq=>absurd (h2 k j hk q) (Nat.lt_irrefl _)
 have e:SetTable.below t.place j=k:=by
  refine Nat.le_antisymm hb (Nat.le_of_not_lt λq=>?_)
  have hs:SetTable.below t.place j<t.place.toList.length:=by omega
  have g:=h3 _ _ (List.getElem?_eq_getElem hs) (Nat.le_refl _)
  have:=UR ok.ris q (List.getElem?_eq_getElem hs) hk
  omega
 unfold SetTable.slot at h
 have hk':t.place[SetTable.below t.place j]? = some j:=by rw[e];simpa using hk
 simp[hk']at h
theorem VI {t:SetTable}{led:Bool}(ok:TabOk led t) (j:Nat):t.slot j≠.dummy:=by
 unfold SetTable.slot
 rw[ok.dum,vx]
 simp only
 split
 ·simp
 ·simp
theorem Q9 (t:SetTable)(p:SetTable.Probe):(t.advance p).dummy=p.dummy:=by
 unfold SetTable.advance
 split<;>rfl
theorem WI {t:SetTable}{led:Bool}(ok:TabOk led t){h:Int}:∀ (f:Nat)(p:SetTable.Probe),p.dummy=none->∀ m,SetTable.probe.go t (λ_=>h+1) h f p=some m->∃ j,m=.empty j none/\t.slot j=.empty
 |0,p,_,m,e=>by simp[SetTable.probe.go]at e
 |f+1,p,hp,m,e=>by
  unfold SetTable.probe.go at e
  cases q:t.slot p.j with
  |empty=>
   rw[q]at e
   simp only[hp,Option.some.injEq]at e
   exact⟨p.j,e.symm,q⟩
  |dummy=>exact absurd q (VI ok _)
  |live i=>
   rw[q]at e
   have hne:(h+1 == h)=false:=by simp;omega
   simp only[hne,Bool.false_eq_true,if_false]at e
   exact WI ok f (t.advance p) (by rw[Q9,hp]) m e
theorem QC (n:Nat):Ris (Array.range n).toList:=by
 rw[Array.toList_range]
 exact List.pairwise_lt_range
theorem Yf {t:SetTable}{led:Bool}(h:t.led=led) (n:Nat):TabOk led (t.standIn n):=⟨h,rfl,QC n⟩
theorem zAX {t:SetTable}{led:Bool}(ok:TabOk led t){j:Nat}(h:t.slot j=.empty):TabOk led (t.put j).1:=by
 refine⟨ok.led,?_,?_⟩
 ·show (if SetTable.has t.dummies j=true then _ else t.dummies)=#[]
  rw[ok.dum,vx]
  rfl
 ·show Ris (SetTable.insertAt t.place (SetTable.below t.place j) j).toList
  obtain⟨h1,h2,h3⟩:=W2 (j:=j) ok.ris
  have hn:=q9 ok h
  have e:(SetTable.insertAt t.place (SetTable.below t.place j) j).toList=t.place.toList.take (SetTable.below t.place j)++j::t.place.toList.drop (SetTable.below t.place j):=by
   unfold SetTable.insertAt
   simp
   rw[List.take_of_length_le (by simp)]
  rw[e]
  refine List.pairwise_append.mpr ⟨ok.ris.sublist (List.take_sublist _ _),List.pairwise_cons.mpr ⟨λa ha=>?_,ok.ris.sublist (List.drop_sublist _ _)⟩,λa ha b hb=>?_⟩
  ·obtain⟨i,hi⟩:=List.mem_iff_getElem?.mp ha
   rw[List.getElem?_drop]at hi
   have:=h3 _ a hi (Nat.le_add_right _ _)
   have:a≠j:=λq=>hn (q ▸ List.mem_of_getElem? hi)
   omega
  ·obtain⟨i,hi⟩:=List.mem_iff_getElem?.mp ha
   rw[List.getElem?_take]at hi
   split at hi
   ·rename_i hlt
    have haj:=h2 i a hi hlt
    rcases List.mem_cons.mp hb with rfl | hb
    ·exact haj
    ·obtain⟨k,hk⟩:=List.mem_iff_getElem?.mp hb
     rw[List.getElem?_drop]at hk
     have:=h3 _ b hk (Nat.le_add_right _ _)
     omega
   ·cases hi
theorem Qe {t:SetTable}{led:Bool}(ok:TabOk led t)(es:Array (Int×Value)) (h:Int) (x:Value):TabOk led (layNew t es h x).2.1:=by
 unfold layNew
 cases q:t.freeSlot h with
 |none=>exact Yf ok.led _
 |some p=>
  obtain⟨sl,wd⟩:=p
  have hs:t.slot sl=.empty:=by
   unfold SetTable.freeSlot at q
   cases r:t.probe (λ_=>h+1) h (t.probeStart h) with
   |none=>rw[r]at q;cases q
   |some m=>
    obtain⟨j,rfl,hj⟩:=WI ok _ _ rfl m r
    rw[r]at q
    simp at q
    rw[<-q.1]
    exact hj
  have pk:=zAX ok hs
  dsimp only
  unfold SetTable.orStandIn
  split
  ·exact pk
  ·exact Yf pk.led _
theorem uA {α:Type}(f:Nat->Option α):∀ (l:List Nat),Ris l->Ris ((l.filterMap λj=>(f j).map (j,·)).map (·.1))/\∀ a ∈ (l.filterMap λj=>(f j).map (j,·)).map (·.1),a ∈ l
 |[],_=>⟨List.Pairwise.nil,λa h=>by simp at h⟩
 |b::r,h=>by
  obtain⟨h1,h2⟩:=List.pairwise_cons.mp h
  obtain⟨i1,i2⟩:=uA f r h2
  rw[List.filterMap_cons]
  cases f b with
  |none=>exact⟨i1,λa ha=>List.mem_cons_of_mem _ (i2 a ha)⟩
  |some x=>exact⟨List.pairwise_cons.mpr ⟨λa ha=>h1 a (i2 a ha),i1⟩,λa ha=>by
    rcases List.mem_cons.mp ha with rfl | ha
    ·exact List.mem_cons_self
    ·exact List.mem_cons_of_mem _ (i2 a ha)⟩
theorem uC {t:SetTable}{led:Bool}(ok:TabOk led t)(es:Array (Int×Value)) (n:Nat):TabOk led (relayAll t es n).2.1:=by
 unfold relayAll
 cases q:t.relaid (es.map (·.1)) n with
 |none=>exact Yf ok.led _
 |some p=>
  obtain⟨t',order⟩:=p
  dsimp only
  split
  ·unfold SetTable.relaid SetTable.laid at q
   cases r:SetTable.layClean (SetTable.sizeAbove n - 1) (es.map (·.1)) with
   |none=>rw[r]at q;cases q
   |some owner=>
    rw[r]at q
    simp only[Option.bind_eq_bind,Option.bind_some,Option.pure_def,Option.some.injEq,Prod.mk.injEq]at q
    obtain⟨rfl,_⟩:=q
    refine⟨ok.led,rfl,?_⟩
    have:=(uA (λj=>owner.getD j none) (List.range (SetTable.sizeAbove n - 1+1)) List.pairwise_lt_range).1
    simpa using this
  ·exact Yf ok.led _
theorem Jc (led:Bool):TabOk led (.fresh 0 0 led):=⟨rfl,rfl,List.Pairwise.nil⟩
end PM
namespace PM
open PySem PySem.Spec PyProof.Rows L2
noncomputable def Qg:Value->Int
 |.int k _=>k
 |_=>0
noncomputable def YU (prog:Program)(w:World)(led:Bool)(a:Addr)(ns:List Int)(h:Heap):Prop:=
 ∃ (ob:Obj)(en:Array (Int×Value)) (age:Nat)(tb:SetTable),h.get? a=some ob/\ob.ExactSet/\ob.data=.set en age tb/\ElemsOf (intKind prog w) en.toList/\(en.toList.map λe=>Qg e.2).Perm ns/\en.size<scanBound/\tb.fits en.size=true/\TabOk led tb
section
variable {prog:Program}{w:World}{A:Around}{E:Value->Shared->Prop}{s:Shared}{a:Addr}{led:Bool}{ns:List Int}
theorem YU.keep {h h':Heap}(x:YU prog w led a ns h)(k:∀ o,h.get? a=some o->h'.get? a=some o):YU prog w led a ns h':=by
 obtain⟨ob,en,age,tb,g,r⟩:=x
 exact⟨ob,en,age,tb,k ob g,r⟩
theorem X1 {k:Int}{v:Value}(h:(intKind prog w).is k v=true):Qg v=k:=by
 obtain⟨t,rfl⟩:=Value.isInt_shape h
 rfl
theorem zAz {l:List (Int×Value)}(h:ElemsOf (intKind prog w) l){e:Int×Value}(he:e ∈ l):(intKind prog w).is (Qg e.2) e.2=true:=by
 obtain⟨⟨k,hk,_⟩,_⟩:=h e he
 rw[X1 hk]
 exact hk
theorem YU.stored {h:Heap}{ob:Obj}{en en':Array (Int×Value)}{age:Nat}{tb tb':SetTable}(g:h.get? a=some ob)(ex:ob.ExactSet)(d:ob.data=.set en age tb)(el:ElemsOf (intKind prog w) en'.toList)(p:(en'.toList.map λe=>Qg e.2).Perm ns)
  (hb:en'.size<scanBound)(hf:tb'.fits en'.size=true)(ok:TabOk led tb'):(h.update a (Obj.putSet en' tb')).get? a=some { ob with data:=.set en' (age+1) tb' }/\YU prog w led a ns (h.update a (Obj.putSet en' tb')):=by
 have z:(h.update a (Obj.putSet en' tb')).get? a=some { ob with data:=.set en' (age+1) tb' }:=by
  have y:=Heap.get?_update_self (Obj.putSet en' tb') g (by rw[putSet_of en' tb' d];rfl)
  rwa [putSet_of en' tb' d]at y
 exact⟨z,_,en',age+1,tb',z,ex,rfl,el,p,hb,hf,ok⟩
theorem uL {tb:SetTable}(ok:TabOk led tb):TabOk led { tb with plain:=false }:=⟨ok.led,ok.dum,ok.ris⟩
theorem vB {g:Bool->Sem Unit}(hg:∀ (b:Bool)(s₁:Shared)(Q':Unit->Shared->Prop),Q' () s₁->wpAny (model prog w) A (g b) Q' E s₁){ob:Obj}{en en1:Array (Int×Value)}{age:Nat}{tb tb1:SetTable}{was:Bool}{R:Option Bool->Shared->Prop}
  (h0:s.heap.get? a=some ob)(ex:ob.ExactSet)(d:ob.data=.set en age tb)(el:ElemsOf (intKind prog w) en1.toList)(p:(en1.toList.map λe=>Qg e.2).Perm ns)(hb:en1.size<scanBound)(hf:tb1.fits en1.size=true)(ok:TabOk led tb1)
  (k:∀ h',Heap.SameBut a s.heap h'->YU prog w led a ns h'->R (some true) { s with heap:=h' }) :
  wpAny (model prog w) A (storeSet a en1 tb1 >>= λ_=>if (!was && tb1.tooFull)=true then (g (relayAll tb1 en1 (SetTable.grown en1.size)).2.2 >>= λ_=>storeSet a (relayAll tb1 en1 (SetTable.grown en1.size)).1 (relayAll tb1 en1 (SetTable.grown en1.size)).2.1 >>= λ_=>pure (some true)) else pure (some true)) R E s:=by
 obtain⟨z1,j1⟩:=YU.stored h0 ex d el p hb hf ok
 have sb:=Heap.SameBut.update s.heap a (Obj.putSet en1 tb1)
 refine wpAny_bind (wpAny_storeSet_of h0 d ?_ (fits_of_scanBound hb))
 by_cases c:(!was && tb1.tooFull)=true
 ·rw[if_pos c]
  have q1:=relayAll_perm tb1 en1 (SetTable.grown en1.size)
  have q2:=relayAll_fits tb1 en1 (SetTable.grown en1.size)
  have q3:=uC ok en1 (SetTable.grown en1.size)
  have q4:(relayAll tb1 en1 (SetTable.grown en1.size)).1.size=en1.size:=by simpa using q1.length_eq
  have hb2:(relayAll tb1 en1 (SetTable.grown en1.size)).1.size<scanBound:=by rw[q4];exact hb
  refine wpAny_bind (hg _ _ _ (wpAny_bind (wpAny_storeSet_of z1 rfl ?_ (fits_of_scanBound hb2))))
  obtain⟨_,j2⟩:=YU.stored (ns:=ns) (led:=led) z1 ex rfl (el.perm q1) ((q1.map _).trans p) hb2 q2 q3
  exact wpAny_pure (k _ (sb.trans (Heap.SameBut.update _ a _)) j2)
 ·rw[if_neg c]
  exact wpAny_pure (k _ sb j1)
theorem zBT {k:Int}{x:Value}{Q:Bool->Shared->Prop}(hx:(intKind prog w).is k x=true)(J:YU prog w led a ns s.heap)(room:ns.length+1<scanBound)
  (q0:k ∈ ns->Q false s)(q1:k ∉ ns->∀ h',Heap.SameBut a s.heap h'->YU prog w led a (ns++[k]) h'->Q true { s with heap:=h' }):wpAny (model prog w) A (setAddHashed a x ((intKind prog w).hash k)) Q E s:=by
 obtain⟨ob,en,age,tb,h0,ex,d,el,p,hb,hf,ok⟩:=J
 have hsc:x.scannable=true:=by obtain⟨t,rfl⟩:=Value.isInt_shape hx;rfl
 have hlen:en.size=ns.length:=by simpa using p.length_eq
 unfold setAddHashed setAddHashedIn
 refine wpAny_holding (wpAny_bind (wpAny_setState_of h0 d hf ?_))
 dsimp only
 rw[if_pos (byScan_of hsc hb el)]
 unfold setAddByScan
 refine wpAny_bind (wpAny_bind (wpAny_rule (wpAny_bind (wpAny_setScan_of hx h0 d hf el ?_))))
 have mem:∀ z:Int,z ∈ ns ↔ ∃ e ∈ en.toList,(intKind prog w).is z e.2=true:=λz=>by
  rw[<-p.mem_iff]
  constructor
  ·intro hz
   obtain⟨e,he,rfl⟩:=List.mem_map.mp hz
   exact⟨e,he,zAz el he⟩
  ·rintro⟨e,he,hz⟩
   exact List.mem_map.mpr ⟨e,he,X1 hz⟩
 cases hr:en.toList.findIdx? (λe=>(intKind prog w).is k e.2) with
 |some j=>
  obtain⟨hj,hp,_⟩:=List.findIdx?_eq_some_iff_getElem.mp hr
  exact wpAny_pure (wpAny_pure (q0 ((mem k).mpr ⟨_,List.getElem_mem hj,hp⟩)))
 |none=>
  have hk:k ∉ ns:=λhm=>by
   obtain⟨e,he,hz⟩:=(mem k).mp hm
   have:=List.findIdx?_eq_none_iff.mp hr e he
   rw[hz]at this
   cases this
  have w1:=layNew_perm tb en ((intKind prog w).hash k) x
  have w2:=layNew_fits tb en ((intKind prog w).hash k) x
  have w3:=Qe ok en ((intKind prog w).hash k) x
  dsimp only
  generalize layNew tb en ((intKind prog w).hash k) x=L at w1 w2 w3 ⊢
  obtain⟨en1,tb1,was,gave⟩:=L
  dsimp only at w1 w2 w3 ⊢
  rw[Array.toList_push]at w1
  have el1:ElemsOf (intKind prog w) en1.toList:=(el.push hx hsc).perm w1
  have p1:(en1.toList.map λe=>Qg e.2).Perm (ns++[k]):=by
   refine (w1.map _).trans ?_
   rw[List.map_append]
   refine List.Perm.append p ?_
   rw[List.map_cons,List.map_nil,X1 hx]
  have hb1:en1.size<scanBound:=by
   have:=p1.length_eq
   simp at this
   omega
  have gw:∀ (b:Bool)(s₁:Shared)(Q':Unit->Shared->Prop),Q' () s₁->wpAny (model prog w) A (match b with | true=>rule "set.scan.the-table-gave-way" | false=>pure ()) Q' E s₁:=λb s₁ Q' hq=>by
   cases b
   ·exact wpAny_pure hq
   ·exact wpAny_rule hq
  refine wpAny_bind (gw _ _ _ ?_)
  have fin:∀ h',Heap.SameBut a s.heap h'->YU prog w led a (ns++[k]) h'->Q true { s with heap:=h' }:=λh' z1 z2=>q1 hk h' z1 z2
  split
  ·refine wpAny_bind ?_
   rw[hashByValue_scannable 8 hsc]
   refine wpAny_pure (vB gw h0 ex d el1 p1 hb1 ?_ ?_ λh' z1 z2=>wpAny_pure (fin h' z1 z2))
   ·split
    ·exact w2
    ·exact SetTable.fits_plain_off w2
   ·split
    ·exact w3
    ·exact uL w3
  ·refine wpAny_bind (wpAny_pure ?_)
   rw[if_pos rfl]
   exact vB gw h0 ex d el1 p1 hb1 w2 w3 λh' z1 z2=>wpAny_pure (fin h' z1 z2)
end
end PM
namespace PM
open PySem PySem.Spec PyProof.Rows L2
noncomputable def zr (acc:List Int):List Int->List Int
 |[]=>acc
 |k::r=>zr (if k ∈ acc then acc else acc++[k]) r
section
variable {prog:Program}{w:World}{A:Around}{E:Value->Shared->Prop}{R:Result->Shared->Prop}{I:Addr}{fp wr:List Addr}{Gr:Array GenState->Array GenState->Prop}{n:Nat}{Pv:Nat->Value->Prop}{St:Nat->Shared->Prop}{led:Bool}
theorem UJ (W:WalksS prog w A.in1 I fp wr Gr n Pv St)(S:Addr)(hS:S ∉ fp)(ks:List Int)(hn:ks.length=n)(hv:∀ i v,Pv i v->∃ t,v=.int (ks.getD i 0) t) :
  ∀ (k i:Nat)(s:Shared)(acc:List Int),n - i=k->i<=n->St i s->acc.length+(n - i)+1<scanBound->YU prog w led S acc s.heap ->
   (∀ s',Moved (S::wr) Gr s s'->YU prog w led S (zr acc (ks.drop i)) s'.heap->R (.ok (.ret .none)) s')->codeAny (model prog w) A (.builtin "set.update.loop" ⟨[.ref S,.ref I],[]⟩) R s:=by
 have ns:S ∉ wr:=λz=>hS (W.sub _ z)
 have up:∀ b ∈ wr,b ∈ S::wr:=λb z=>List.mem_cons_of_mem _ z
 intro k
 induction k with
 |zero=>
  intro i s acc hk hi st hb J fin
  obtain rfl:i=n:=by omega
  apply codeAny_builtin F.entry_set_update_loop
  rw[Around.under_plainId F.plain_set_update_loop _];change wpAny _ A.in1 (pyNext (.ref I) >>= _) _ _ s
  refine wpAny_bind (W.done s _ _ st λs' mv=>?_)
  change wpAny _ A.in1 (ret Value.none) _ _ s'
  refine wpAny_pure (fin s' (mv.mono up) ?_)
  rw[List.drop_of_length_le (by omega)]
  exact J.keep λo=>mv.heap S o ns
 |succ k ih=>
  intro i s acc hk hi st hb J fin
  have hlt:i<n:=by omega
  have ek:ks.drop i=ks.getD i 0::ks.drop (i+1):=by
   rw[List.drop_eq_getElem_cons (by omega),List.getD_eq_getElem?_getD,List.getElem?_eq_getElem (by omega)]
   rfl
  apply codeAny_builtin F.entry_set_update_loop
  rw[Around.under_plainId F.plain_set_update_loop _];change wpAny _ A.in1 (pyNext (.ref I) >>= _) _ _ s
  refine wpAny_bind (W.item i s _ _ hlt st λv s1 pv st1 mv=>?_)
  obtain⟨t,rfl⟩:=hv i v pv
  have J1:YU prog w led S acc s1.heap:=J.keep λo=>mv.heap S o ns
  change wpAny _ A.in1 (holding [Value.int (ks.getD i 0) t] (setAdd S (.int (ks.getD i 0) t)) >>= _) _ _ s1
  apply wpAny_bind
  apply wpAny_holding
  unfold setAdd
  apply wpAny_holding
  refine wpAny_bind ((intKind prog w).pyHash (k:=ks.getD i 0) (intKind_is _ _ _ _) ?_)
  rw[ek]at fin
  -- behind the addition: the next turn
  have again1:∀ (h2:Heap)(acc2:List Int),acc2=(if ks.getD i 0 ∈ acc then acc else acc++[ks.getD i 0])->(∀ b o,b≠S->s1.heap.get? b=some o->h2.get? b=some o)->YU prog w led S acc2 h2 ->
    codeAny (model prog w) A (.builtin "set.update.loop" ⟨[.ref S,.ref I],[]⟩) R { s1 with heap:=h2,toks:=s1.toks+1 }:=λh2 acc2 e2 k2 J2=>by
   have hl2:acc2.length<=acc.length+1:=by rw[e2];split<;>simp
   refine ih (i+1) _ acc2 (by omega) hlt (W.frame _ s1 _ _ st1 (Nat.le_succ _) λb hb o e=>k2 b o (λz=>hS (z ▸ hb)) e) (by omega) J2 λs3 m3 J3=>?_
   refine fin s3 (Moved.trans W.gtrans ((mv.mono up).then_heap (Nat.le_succ _) λb o hb e=>k2 b o (λz=>hb (by rw[z];exact List.mem_cons_self)) e) m3) ?_
   show YU prog w led S (zr (if ks.getD i 0 ∈ acc then acc else acc++[ks.getD i 0]) (ks.drop (i+1))) s3.heap
   rw[<-e2]
   exact J3
  refine zBT (s:={ s1 with toks:=s1.toks+1 }) (intKind_is _ _ _ _) J1 (by omega) (λhm=>?_) λhm h2 sb J2=>?_
  ·exact wpAny_pure ⟨plainId_quiet F.plain_set_update_loop _,again1 s1.heap acc (by rw[if_pos hm]) (λb o _ e=>e) J1⟩
  ·exact wpAny_pure ⟨plainId_quiet F.plain_set_update_loop _,again1 h2 (acc++[ks.getD i 0]) (by rw[if_neg hm]) (λb o hb e=>(sb.2 b hb).trans e) J2⟩
theorem zBH {s:Shared} (x:Value){Q₁:Value->Shared->Prop}(hq:Q₁ (.ref s.heap.objs.size) { s with heap:=s.heap.push (Y6 (!w.params.followText "set-order")) }) :
  codeAny (model prog w) A (.call (.builtin "set.__new__") ⟨[.type "set",x],[]⟩) (wants Q₁ E) s:=by
 apply codeAny_of_tree
 change wpAny _ A.in1 (checkBuiltinCall "set.__new__" ⟨[.type "set",x],[]⟩ >>= λ_=>again (.builtin "set.__new__" ⟨[.type "set",x],[]⟩)) _ _ s
 apply wpAny_bind;apply wpAny_of_eq (F.newCall_set_1 x)
 refine wpAny_pure ⟨plainId_quiet F.plain_set_new _,?_⟩
 apply codeAny_builtin F.entry_set_new
 rw[Around.under_plainId F.plain_set_new _];unfold Builtin.«set.__new__» Builtin.Frozenset.newClass
 have z:=sub_set_self
 obtain⟨h,g,d,t,os⟩:=s
 dsimp only
 wp_walk
 refine wpAny_askSetting (wpAny_pure ?_);dsimp only
 simp only[newObj];refine wpAny_bind (wpAny_alloc (wpAny_pure ?_))
 exact wpAny_pure hq
end
end PM
namespace PM
open PySem PySem.Spec PyProof.Rows L2
section
variable {prog:Program}{w:World}{A:Around}{E:Value->Shared->Prop}{s:Shared}
set_option maxHeartbeats 3200000 in
theorem Wz {T:String}{l:Addr}{items:Array Value}{ns:List Int}{io ol:Obj}{nl:Nat}{St:Addr->Nat->Heap->Prop}{Q:Value->Shared->Prop}(SW:SeqWalk prog w T l items io St)
  (hh:A.handled=none)(hol:s.heap.get? l=some ol)(hcl:ol.cls=.type T)(hdl:ol.data=.seq items nl)(hi:IntsAre items.toList ns)(hb:items.size+1<scanBound)
  (h:∀ (h':Heap) (tk:Nat),YU prog w (!w.params.followText "set-order") s.heap.objs.size (zr [] ns) h' ->
   (∀ b o,b<s.heap.objs.size->s.heap.get? b=some o->h'.get? b=some o)->Q (.ref s.heap.objs.size) { s with heap:=h',toks:=tk }) :
  wpAny (model prog w) A (call (.type "set") [.ref l]) Q E s:=by
 obtain⟨c,tl,hmro⟩:=F.called_set.mro
 have m1:=F.called_set.made
 have m2:=F.called_set.sub
 refine wpAny_call (codeAny_of_tree ?_)
 show wpAny _ _ (callAny (.type "set") _) _ _ _
 refine wpAny_pure ⟨Code.quiet_builtin _ (by decide +kernel),codeAny_builtin F.entry_type_call ?_⟩
 rw[Around.under_plain (weight_type_call_type "set" [.ref l] []) rfl]
 have m3:=F.called_set.notType
 have m4:=F.called_set.canCreate
 have m5:=F.typeCall_set_1 (.ref l)
 repeat (any_goals (first | assumption | wp_step))
 generalize hld:(!w.params.followText "set-order")=led at h
 refine codeAny_mono (zBH (.ref l) (E:=E) (Q₁:=λobj s₁=>obj=.ref s.heap.objs.size/\s₁={ s with heap:=s.heap.push (Y6 led) }) (by rw[hld];exact⟨rfl,rfl⟩)) λr s₁ hr=>?_
 cases r with
 |error e=>exact hr
 |ok fl=>
  cases fl with
  |ret obj=>
   obtain⟨rfl,rfl⟩:=hr
   have hS:(s.heap.push (Y6 led)).get? s.heap.objs.size=some (Y6 led):=Heap.get?_push_size _ rfl
   have hT:Shared.TypeIs { s with heap:=s.heap.push (Y6 led) } (.ref s.heap.objs.size) "set":=⟨_,hS,rfl⟩
   have m6:=F.called_set.init.lookup
   have m7:=F.called_set.init.bind (.ref s.heap.objs.size)
   repeat (any_goals (first | assumption | wp_step))
   refine codeAny_mono (codeAny_call_builtin (R:=wants (λr s₂=>r=.none/\∃ h' tk,s₂={ s with heap:=h',toks:=tk } ∧
     YU prog w led s.heap.objs.size (zr [] ns) h' ∧
     (∀ b o,b<s.heap.objs.size->s.heap.get? b=some o->h'.get? b=some o)) E) F.called_set.init.plain F.entry_set_init (check_set_init_1 hT ?_)) λr₂ s₂ hr₂=>?_
   ·obtain⟨oc,odd,oda,osl⟩:=ol
    simp only at hcl hdl
    subst hcl;subst hdl
    have hol':(s.heap.push (Y6 led)).get? l=some { cls:=.type T,dict:=odd,data:=.seq items nl,slots:=osl }:=Heap.get?_push_of_some _ hol
    have n1:=SW.nset
    have n2:=SW.nfro
    have n3:=SW.ndic
    have hT2:Shared.TypeIs { s with heap:=s.heap.push (Y6 led) } (.ref l) T:=⟨_,hol',rfl⟩
    unfold Builtin.«set.__init__» noKeywords Builtin.Frozenset.updateFrom
    generalize hPI:pyIter=PI
    wp_walk
    subst hPI
    refine SW.iter _ _ _ _ ⟨_,_,hol',rfl,rfl⟩ ?_
    refine wpAny_bind (wpAny_runValue ?_)
    have hlS:l<s.heap.objs.size:=Heap.lt_size hol
    have hh3:A.in1.in1.in1.handled=none:=by simp[hh]
    have hz:(s.heap.push (Y6 led)).objs.size=s.heap.objs.size+1:=Heap.size_push ..
    have hneI:l≠(s.heap.push (Y6 led)).objs.size:=by rw[hz];exact Nat.ne_of_lt (Nat.lt_succ_of_lt hlS)
    have hSf:s.heap.objs.size ∉ [(s.heap.push (Y6 led)).objs.size,l]:=by
     simp only[List.mem_cons,List.not_mem_nil,or_false,not_or,hz]
     exact⟨Nat.ne_of_lt (Nat.lt_succ_self _),Nat.ne_of_gt hlS⟩
    have hlen:ns.length=items.size:=by rw[<-hi.length];simp
    refine UJ (led:=led) (SW.walk _ _ hh3 hneI).toS s.heap.objs.size hSf ns hlen (λi v hv=>hi.int_at i v ((Array.getElem?_toList ..).trans hv)) _ 0 _ [] rfl (Nat.zero_le _) (SW.zero _ ⟨_,_,hol',rfl,rfl⟩) (by simpa using hb) ?s0 ?sR
    case s0=>
     exact⟨Y6 led,#[],0,_,Heap.get?_push_of_some _ hS,⟨rfl,rfl,rfl⟩,rfl,λe he=>by simp at he,.refl _,by unfold scanBound;simp,rfl,Jc led⟩
    case sR=>
     intro s' hm hS'
     obtain⟨h',g',d',tk',os'⟩:=s'
     cases (hm.gens:g'=s.gens)
     cases (hm.drawn:d'=s.drawn)
     cases (hm.os:os'=s.os)
     refine wpAny_pure ?_
     refine wpAny_pure ⟨rfl,h',tk',rfl,hS',λb o hb e=>hm.heap b o ?_ (Heap.get?_push_of_some _ (Heap.get?_push_of_some _ e))⟩
     simp only[List.mem_cons,List.not_mem_nil,or_false,not_or,hz]
     exact⟨Nat.ne_of_lt hb,Nat.ne_of_lt (Nat.lt_succ_of_lt hb)⟩
   ·cases r₂ with
    |error e=>exact hr₂
    |ok fl₂=>
     cases fl₂ with
     |ret r=>
      obtain⟨rfl,h',tk,rfl,hS',hk'⟩:=hr₂
      repeat (any_goals (first | assumption | wp_step))
      exact h _ _ hS' hk'
     |_=>exact hr₂.elim
  |_=>exact hr.elim
end
end PM
namespace PM
open PySem PySem.Spec PyProof.Rows L2
section
variable {prog:Program}{w:World}{A:Around}{E:Value->Shared->Prop}{s:Shared}{a I:Addr}{ob:Obj}{en:Array (Int×Value)}{ep:Nat}{tb:SetTable}
end
end PM
namespace PM
open PySem PySem.Spec PyProof.Rows L2
section
variable {prog:Program}{w:World}{A:Around}{E:Value->Shared->Prop}{s:Shared}{a I:Addr}{ob:Obj}{en:Array (Int×Value)}{ep:Nat}{tb:SetTable}
end
end PM
namespace PM
open PySem PySem.Spec PyProof.Rows L2
section
variable {prog:Program}{w:World}{A:Around}{E:Value->Shared->Prop}{s:Shared}{a I:Addr}{ob:Obj}{en:Array (Int×Value)}{ep:Nat}{tb:SetTable}
end
end PM
namespace PM
open PySem PySem.Spec PyProof.Rows L2
section
variable {prog:Program}{w:World}{A:Around}{E:Value->Shared->Prop}{s:Shared}{a I:Addr}{ob:Obj}{en:Array (Int×Value)}{ep:Nat}{tb:SetTable}
end
end PM
namespace PM
open PySem PySem.Spec PyProof.Rows L2
theorem Je {x:Int}:∀ (l acc:List Int),x ∈ zr acc l ↔ x ∈ acc\/x ∈ l
 |[],acc=>by simp[zr]
 |k::r,acc=>by
  unfold zr
  rw[Je r]
  by_cases h:k ∈ acc
  ·rw[if_pos h]
   constructor
   ·rintro (z | z)
    ·exact .inl z
    ·exact .inr (.tail _ z)
   ·rintro (z | z)
    ·exact .inl z
    ·rcases List.mem_cons.mp z with rfl | z
     ·exact .inl h
     ·exact .inr z
  ·rw[if_neg h]
   simp only[List.mem_append,List.mem_cons,List.not_mem_nil,or_false]
   constructor
   ·rintro ((z | z) | z)
    ·exact .inl z
    ·exact .inr (.inl z)
    ·exact .inr (.inr z)
   ·rintro (z | z | z)
    ·exact .inl (.inl z)
    ·exact .inl (.inr z)
    ·exact .inr z
theorem uw:∀ (l acc:List Int),acc.Nodup->(zr acc l).Nodup
 |[],acc,h=>h
 |k::r,acc,h=>by
  unfold zr
  refine uw r _ ?_
  by_cases z:k ∈ acc
  ·rw[if_pos z];exact h
  ·rw[if_neg z]
   exact List.nodup_append.mpr ⟨h,by simp,λa ha b hb=>by rw[List.mem_singleton.mp hb];exact λe=>z (e ▸ ha)⟩
theorem Jd {x:Int}:∀ (l:List Int),x ∈ z0 l ↔ x ∈ l
 |[]=>by simp[z0]
 |a::r=>by
  unfold z0
  simp only[List.mem_cons,List.mem_filter,Jd r]
  by_cases h:x=a
  ·simp[h]
  ·simp[h]
theorem uv:∀ (l:List Int),(z0 l).Nodup
 |[]=>by simp[z0]
 |a::r=>by
  unfold z0
  refine List.nodup_cons.mpr ⟨λh=>?_,(uv r).filter _⟩
  simpa using (List.mem_filter.mp h).2
theorem zAu (l:List Int):(zr [] l).length=(z0 l).length:=
 ((List.perm_ext_iff_of_nodup (uw l [] (by simp)) (uv l)).mpr λx=>by rw[Je,Jd];simp).length_eq
noncomputable def J0 (P:Program)(w:World)(a:Addr)(ns:List Int):HO:=.ext λh=>YU P w (!w.params.followText "set-order") a ns h
theorem Y0:∀ {ns:List Int}{its:List Value},Vals (ns.map V.int) its->IntsAre its ns
 |[],_,.nil=>.nil
 |n::r,_,.cons h t=>by
  obtain⟨k,rfl⟩:=h
  exact .cons _ _ (Y0 t)
theorem UF:∀ {its:List Value}{ns:List Int},IntsAre its ns->Vals (ns.map V.int) its
 |_,_,.nil=>.nil
 |_,_,.cons n t h=>.cons ⟨t,rfl⟩ (UF h)
section
variable {X:Cx}{K:PySem.W.Frag}{E:XK}
noncomputable def kf (P:Program)(w:World)(K:PySem.W.Frag):List V->Hp->VK->Prop:=λxs H Q=>∃ (p:Addr)(ns:List Int),xs=[.ref p]/\(SqL K H p (ns.map V.int)\/SqT K H p (ns.map V.int))/\ns.length+1<scanBound/\∀ l,H l=none->Q (.ref l) (upd H l (J0 P w l (zr [] ns)))
theorem Q3 (hc:X.calm=true):CallR X (.type "set") (kf X.prog X.w X.K):=by
 intro pins s σ H xs us Q I r h
 obtain⟨p,ns,rfl,hq,hb,q⟩:=h
 obtain⟨u,rfl,rx⟩:=vals1 r
 cases rx
 have fin:∀ (h':Heap) (tk:Nat),YU X.prog X.w (!X.w.params.followText "set-order") s.heap.objs.size (zr [] ns) h'->(∀ b o,b<s.heap.objs.size->s.heap.get? b=some o->h'.get? b=some o) ->
   EP X pins σ Q (.ref s.heap.objs.size) { s with heap:=h',toks:=tk }:=λh' tk J k=>by
  refine⟨.ref s.heap.objs.size,_,I.laid (t':=tk) (o:=J0 X.prog X.w s.heap.objs.size (zr [] ns)) (λb o e=>k b o (Heap.lt_size e) e) (Nat.le_refl _) ?_,rfl,q _ (I.hok.fresh (Nat.le_refl _))⟩
  obtain⟨ob,_,_,_,e,_⟩:=id J
  exact⟨J,⟨ob,e⟩,λh1 h2 j k=>YU.keep j k⟩
 rcases hq with hq | hq
 ·obtain⟨its,r',pl,hz⟩:=I.list hq
  have hI:=Y0 r'
  obtain⟨o,ho,hcl,n,hd⟩:=pl.isList
  exact Wz VL (I.ok.hd hc) ho hcl hd (by simpa using hI) (by rw[List.size_toArray,hI.length];exact hb) fin
 ·obtain⟨its,r',pl,hz⟩:=I.tuple hq
  have hI:=Y0 r'
  obtain⟨o,ho,hcl,n,hd⟩:=pl
  exact Wz vD (I.ok.hd hc) ho hcl hd (by simpa using hI) (by rw[List.size_toArray,hI.length];exact hb) fin
noncomputable def wc (P:Program)(w:World):List V->Hp->VK->Prop:=λxs H Q=>∃ (p:Addr)(ns:List Int),xs=[.ref p]/\H p=some (J0 P w p ns)/\Q (.int ns.length) H
theorem u9:CallR X (.builtin "len") (wc X.prog X.w):=by
 intro pins s σ H xs us Q I r h
 obtain⟨p,ns,rfl,hp,q⟩:=h
 obtain⟨u,rfl,rx⟩:=vals1 r
 cases rx
 obtain⟨⟨ob,en,age,tb,h0,ex,d,el,pm,hb,hf,ok⟩,_⟩:=(show ObjOk X.prog X.w H s.heap p (J0 X.prog X.w p ns) from I.hok p _ hp)
 have hl:en.size=ns.length:=by simpa using pm.length_eq
 refine call_len_set h0 ex d hf (by unfold scanBound at hb;omega) ?_
 exact⟨.int ns.length,H,I.tok _,⟨s.toks+1,by rw[hl]⟩,q⟩
theorem X2:∀ {ds:List D}{ns:List Int},yM ds=some ns->ds=ns.map D.int
 |[],_,e=>by cases e;rfl
 |d::r,ns,e=>by
  cases d<;>first | (cases e;done) | skip
  obtain⟨ms,e1,rfl⟩:=Option.map_eq_some_iff.mp e
  rw[X2 e1]
  rfl
theorem WC:∀ {G:Hp}{ns:List Int}{vs:List V},zL K G (ns.map D.int) vs->vs=ns.map V.int
 |_,[],vs,r=>r.nil_inv
 |_,n::ns,vs,r=>by
  obtain⟨v,vr,rfl,rv,rr⟩:=r.cons_inv
  rw[WC rr,zM.mp rv]
  rfl
theorem wN (G:Hp):∀ (ns:List Int),zL K G (ns.map D.int) (ns.map V.int)
 |[]=>zL.nil
 |n::ns=>zL.cons (zM.mpr rfl) (wN G ns)
theorem V7 {G H:Hp}{d:D}{v:V}{ds:List D}{ns:List Int}(s:Same G H)(h:d=.tup ds\/d=.lst ds)(r:Rep K G d v)(e:yM ds=some ns):∃ p,v=.ref p/\(SqL K H p (ns.map V.int)\/SqT K H p (ns.map V.int)):=by
 rcases h with rfl | rfl
 ·obtain⟨a,vs,rfl,hq,rl⟩:=zg.mp r
  rw[X2 e]at rl
  rw[WC rl]at hq
  exact⟨a,rfl,.inr (SqT.same s hq)⟩
 ·obtain⟨a,vs,rfl,hq,rl⟩:=zj.mp r
  rw[X2 e]at rl
  rw[WC rl]at hq
  exact⟨a,rfl,.inl (s.seq hq)⟩
theorem QE {P:Program}{w:World}{te:TE}{m:M D}(he:RE K E te m):RE K E (tCB (wc P w) (tCons (tCB (kf P w K) (tCons te tNil)) tNil)) (op1 xL m):=by
 intro G0 H0 ρ σ G H ho
 refine RAt.bind (t2:=λx σ H1 Q=>kf P w K [x] H1 λy H2=>wc P w [y] H2 Q) (he G0 H0 ρ σ G H ho) λd ρ1 v G1 H1 s1 h1 r1=>?_
 refine RAt.opt1 λr e=>?_
 intro Q hQ
 have key:∀ (ds:List D),(d=.tup ds\/d=.lst ds)->((yM ds).bind λns=>if ns.length<1000 then some (D.int (z0 ns).length) else none)=some r->kf P w K [v] H1 λy H2=>wc P w [y] H2 Q:=by
  intro ds hd e
  obtain⟨ns,e1,e2⟩:=Option.bind_eq_some_iff.mp e
  split at e2
  ·rename_i hz
   cases e2
   obtain⟨p,rfl,hq⟩:=V7 h1.e.s hd r1 e1
   refine⟨p,ns,rfl,hq,by unfold scanBound;omega,λl hl=>⟨l,_,rfl,upd_same,?_⟩⟩
   have h2:=h1.grow (Wp (o:=J0 P w l (zr [] ns)) h1.e.s hl) (Same.upd hl)
   exact hQ _ G1 _ (Same.refl _) h2 (zM.mpr (by rw[zAu]))
  ·cases e2
 cases d<;>first | (cases e;done) | skip
 ·exact key _ (.inl rfl) e
 ·exact key _ (.inr rfl) e
end
section
variable {X:Cx}{E:XK}{e:Expr}{p p2 pos cp:Pos}{m:M D}
theorem QV (hl:X.mg "len" = none)(hs:X.mg "set" = none)(h:ME X E e m)(hc:autoParam (X.calm=true) aR._auto_1)(hgl:Gl X "len":=by rfl)(hgs:Gl X "set":=by rfl)(hst:autoParam (starEach [e] X.env=[(false,eval e X.env)]) aR._auto_1)
  (hst2:starEach [.Call (.Name "set" p2) [e] [] cp] X.env=[(false,eval (.Call (.Name "set" p2) [e] [] cp) X.env)]:=by rfl):ME X E (.Call (.Name "len" p) [.Call (.Name "set" p2) [e] [] cp] [] pos) (op1 xL m):=by
 obtain⟨t,pe,re⟩:=h
 exact⟨_,pe_callB u9 hgl hl (by with_unfolding_all rfl) (pa_cons (pe_callTy (Q3 hc) hgs hs (by with_unfolding_all rfl) (pa_cons pe pa_nil hst) (by decide) (by decide) hst (by rfl)) pa_nil hst2) (by decide) (by decide) hst2 (by rfl),QE re⟩
end
end PM
namespace PM
open PySem
noncomputable def qN:List D->Option D
 |[.int a,.int b]=>some (.int (if b<a then b else a))
 |_=>none
noncomputable def Yx:List D->Nat->List D
 |[],_=>[]
 |d::r,i=>.tup [.int (i:Nat),d]::Yx r (i+1)
noncomputable def Ur:D->Option (List D)
 |.lst ds=>some (Yx ds 0)
 |_=>none
noncomputable def zAn:D->Option D
 |.lst ds=>(yM ds).bind λns=>(ns.max?).map .int
 |_=>none
end PM
namespace PM
open PySem PySem.Spec PyProof.Rows L2
section
variable {X:Cx}{K:PySem.W.Frag}{E:XK}
theorem KR:ClM K (λxs H Q=>∃ i j,xs=[.int i,.int j]/\Q (.int (if j<i then j else i)) H) qN:=by
 intro G H xs ds d Q s r e q
 unfold qN at e
 split at e
 ·cases e
  obtain⟨v,vr,rfl,rv,rr⟩:=r.cons_inv
  obtain⟨v2,vr2,rfl,rv2,rr2⟩:=rr.cons_inv
  rw[rr2.nil_inv,zM.mp rv,zM.mp rv2]
  exact⟨_,_,rfl,q _ G H (Ext.refl s) (Same.refl _) (zM.mpr rfl)⟩
 ·cases e
end
section
variable {X:Cx}{E:XK}{e:Expr}{es:List Expr}{pos p p3:Pos}{m:M D}
theorem zAm {ms:List (M D)}(hm:X.mg "min" = none)(ha:MA X E (e::es) ms)(hc:autoParam (X.calm=true) aR._auto_1)(hg:Gl X "min":=by rfl)(he:autoParam (starEach (e::es) X.env=(false,eval e X.env)::starEach es X.env) aR._auto_1)(hpl:autoParam ((backTo pos (starEach es X.env)).any (·.1)=false) aR._auto_1) :
  ME X E (.Call (.Name "min" p) (e::es) [] pos) (za qN ms):=ZB (call_min2 hc) KR hg hm (by with_unfolding_all rfl) ha (by decide) (by decide) he hpl
theorem WW (hm:X.mg "isinstance" = none)(hb:X.mg "list" = none)(h:ME X E e m)(hg:Gl X "isinstance":=by rfl)(hg2:autoParam (Gl X "list") aR._auto_1)(he:autoParam (starEach [e,.Name "list" p3] X.env=(false,eval e X.env)::starEach [.Name "list" p3] X.env) aR._auto_1)(he2:autoParam (starEach [.Name "list" p3] X.env=[(false,eval (.Name "list" p3) X.env)]) aR._auto_1) :
  ME X E (.Call (.Name "isinstance" p) [e,.Name "list" p3] [] pos) (op1 (Wf D.isLst) m):=
 Ve (c:=.type "list") (y:=.ty "list") h (pe_bltn (v:=.ty "list") hg2 hb (by with_unfolding_all rfl) rfl) (λu r=>r) (JU (by with_unfolding_all rfl) (λ_=>by with_unfolding_all rfl) (λ_=>by with_unfolding_all rfl) (λ_=>by with_unfolding_all rfl) (λ_=>by with_unfolding_all rfl) (λ_=>by with_unfolding_all rfl)) hm hg he he2
end
end PM
namespace PM
open PySem PySem.Spec PyProof.Rows L2
section
variable {l b:Addr}{xs ys:Array Value}{ns ms:List Int}{ol ob:Obj}{nl nb:Nat}
end
section
variable {X:Cx}{K:PySem.W.Frag}{E:XK}
end
end PM
namespace PM
open PySem PySem.Spec PyProof.Rows L2
section
variable {X:Cx}{pins:List (Addr×Obj)}{σ:List (Option V)}{H:Hp}{s:Shared}{h':Heap}
theorem uj {ch:List Addr}{p:Addr}{o:HO}{t':Nat}(I:Inv X pins σ H s)(hch:∀ b ∈ ch,FpOk X pins H b)(k:∀ b u,b ∉ ch->s.heap.get? b=some u->h'.get? b=some u)(hp:s.heap.objs.size<=p)
  (new:ObjOk X.prog X.w (upd H p o) h' p o):Inv X pins σ (upd H p o) { s with heap:=h',toks:=t' }:=by
 have hn:=I.hok.fresh hp
 have nch:∀ b u,H b=some u->b ∉ ch:=λb u e z=>by have:=(hch b z).1;rw[this]at e;cases e
 refine I.step (g':=s.gens) (d':=s.drawn) (ch:=ch) (λb hb=>?_) (λb u _ _ hc e _=>k b u hc e) (λb u _ _ hc e _=>⟨u.slots,k b u hc e⟩) (λb u _ e n=>?_)
  (λb u hc e=>⟨u,k b u hc e⟩) (λb xs e=>?_) (λb u v e=>?_) (λb ps e=>⟨#[],?_⟩) (λm hm=>?_) (λb u e=>?_) I.bare
 ·obtain⟨f0,f1,f2,f3,f4,f5⟩:=hch b hb
  exact⟨f3,f1,f4,f5⟩
 ·rw[upd_ne (λz=>absurd (Heap.lt_size e) (by rw[z];exact Nat.not_lt_of_le hp))];exact n
 ·rw[upd_ne (ne_of_none e hn)];exact e
 ·rw[upd_ne (ne_of_none e hn)];exact e
 ·rw[upd_ne (ne_of_none e hn)];simpa using e
 ·obtain⟨u,es,ep,ho,r⟩:=hm
  exact⟨u,es,ep,k _ u (λz=>(hch _ z).2.1 rfl) ho,r⟩
 ·by_cases hb:b=p
  ·subst hb;rw[upd_same]at e;cases e;exact new
  ·rw[upd_ne hb]at e
   refine (I.hok b u e).stay (λc v hc q=>k c v ?_ q) (λc q=>by rw[upd_ne (ne_of_none q hn)];exact q) λc xs q=>by rw[upd_ne (ne_of_none q hn)];exact q
   rcases hc with z | z
   ·rw[z];exact nch b u e
   ·exact nch c _ z
theorem Qi {ch:List Addr}{t':Nat}(I:Inv X pins σ H s)(hch:∀ b ∈ ch,FpOk X pins H b)(k:∀ b u,b ∉ ch->s.heap.get? b=some u->h'.get? b=some u):Inv X pins σ H { s with heap:=h',toks:=t' }:=by
 have nch:∀ b u,H b=some u->b ∉ ch:=λb u e z=>by have:=(hch b z).1;rw[this]at e;cases e
 refine I.step (g':=s.gens) (d':=s.drawn) (ch:=ch) (λb hb=>?_) (λb u _ _ hc e _=>k b u hc e) (λb u _ _ hc e _=>⟨u.slots,k b u hc e⟩) (λb u _ e n=>n)
  (λb u hc e=>⟨u,k b u hc e⟩) (λb xs e=>e) (λb u v e=>e) (λb ps e=>⟨#[],by rw[e];simp⟩) (λm hm=>?_) (λb u e=>?_) I.bare
 ·obtain⟨f0,f1,f2,f3,f4,f5⟩:=hch b hb
  exact⟨f3,f1,f4,f5⟩
 ·obtain⟨u,es,ep,ho,r⟩:=hm
  exact⟨u,es,ep,k _ u (λz=>(hch _ z).2.1 rfl) ho,r⟩
 ·refine (I.hok b u e).stay (λc v hc q=>k c v ?_ q) (λc q=>q) λc xs q=>q
  rcases hc with z | z
  ·rw[z];exact nch b u e
  ·exact nch c _ z
end
noncomputable def Ite (K:PySem.W.Frag)(a:Addr):It:=
 ⟨λi H=>∃ xs x,SqL K H a xs/\xs[i]? = some x,λi H x H'=>∃ p y,x=.ref p/\H p=none/\H'=upd H p (.tup [.int (i:Nat),y])/\∀ xs,SqL K H a xs->xs[i]? = some y,λi H=>∃ xs,SqL K H a xs/\xs.length<=i⟩
theorem qu {P:Program}{w:World}{K:PySem.W.Frag}{elts:List Expr} {x1}{pos:Pos}(a e it:Addr)(hne:e≠it) :
  Turn P w K (.Tuple elts x1 pos) (Ite K a) [e,it] e (λi h=>(∃ old,IsEnum h e it (i:Nat) old)/\h.IsListIter it a i) where
 mem:=by simp
 obj:=λi h st b hb=>by
  obtain⟨⟨old,h1⟩,⟨o,h2,c,d⟩⟩:=st
  simp only[List.mem_cons,List.not_mem_nil,or_false]at hb
  rcases hb with rfl | rfl
  ·exact⟨_,h1,λv z=>by
    have z':Data.fields _=Data.cell v:=z
    cases z'⟩
  ·exact⟨o,h2,λv z=>by rw[d]at z;cases z⟩
 keep:=λi h h' st k=>by
  obtain⟨⟨old,h1⟩,h2⟩:=st
  exact⟨⟨old,k e (by simp) _ h1⟩,h2.at λo q=>k it (by simp) o q⟩
 item:=by
  intro X hP hw hK hc i pins s σ H E I hf st hg
  subst hP hw hK
  obtain⟨xs,x,hq,hx⟩:=hg
  obtain⟨its,rv,p,hz⟩:=I.list hq
  obtain⟨u,hu,ru⟩:=rv.get hx
  obtain⟨⟨old,h1⟩,h2⟩:=st
  have hes:e<s.heap.objs.size:=Heap.lt_size h1
  have his:it<s.heap.objs.size:=by
   obtain⟨o,q,_⟩:=h2
   exact Heap.lt_size q
  refine wpAny_pyNext_enum_item h1 h2 p.isList (x:=u) (by simpa using hu) hne λh' ho hit' hT hsz hk=>?_
  refine⟨_,rfl,wpAny_letOwnedTupleGo_enum ho λh2' he2 sb=>?_⟩
  have kk:∀ b o,b ∉ [e,it]->s.heap.get? b=some o->h2'.get? b=some o:=λb o hb q=>by
   simp only[List.mem_cons,List.not_mem_nil,or_false,not_or]at hb
   exact (sb.2 b hb.1).trans (hk b o hb.1 hb.2 q)
  have hT2:h2'.get? s.heap.objs.size=some { cls:=.type "tuple",data:=.seq #[.int i s.toks,u] }:=(sb.2 _ (Nat.ne_of_gt hes)).trans hT
  have I1:Inv X pins σ (upd H s.heap.objs.size (.tup [.int (i:Nat),x])) { s with heap:=h2',toks:=s.toks+1 }:=
   uj I hf kk (Nat.le_refl _) ⟨by show 2<=sizeLine;decide,[.int i s.toks,u],.cons ⟨_,rfl⟩ (.cons ru .nil),⟨_,hT2,rfl,⟨0,rfl⟩,rfl⟩⟩
  have hfree:=I.hok.fresh (Nat.le_refl _)
  refine⟨.ref s.heap.objs.size,_,I1,rfl,⟨s.heap.objs.size,x,rfl,hfree,rfl,λys hy=>by rw[I.list_inj hy hq];exact hx⟩,⟨⟨u,by simpa using he2⟩,hit'.at λo q=>(sb.2 it (Ne.symm hne)).trans q⟩,λb hb=>?_⟩
  have hbn:b≠s.heap.objs.size:=by
   simp only[List.mem_cons,List.not_mem_nil,or_false]at hb
   rcases hb with rfl | rfl
   ·exact Nat.ne_of_lt hes
   ·exact Nat.ne_of_lt his
  rw[upd_ne hbn]
  exact (hf b hb).1
 done:=by
  intro X hP hw hK hc i pins s σ H E I hf st hg
  subst hP hw hK
  obtain⟨xs,hq,hx⟩:=hg
  obtain⟨its,rv,p,hz⟩:=I.list hq
  obtain⟨⟨old,h1⟩,h2⟩:=st
  have hl:=rv.length
  exact wpAny_pyNext_enum_end (I.ok.hd hc) h1 h2 p.isList (by simp;omega) λh' eb=>⟨rfl,Qi (t':=s.toks) I hf λb o hb q=>eb b o (λz=>hb (by simp[z])) q⟩
 self:=λ_ _ _ _ _ st h=>by
  obtain⟨⟨old,h1⟩,h2⟩:=st
  exact wpAny_pyIter_enum h1 h
section
variable {X:Cx}
noncomputable def Kv (K:PySem.W.Frag)(ta:TA):TI:=λσ H R=>ta σ H λvs H1=>∃ a,vs=[.ref a]/\(∃ xs,SqL K H1 a xs)/\R (Ite K a) H1
theorem kj {l:Expr}{ta:TA}{elts:List Expr} {x1}{tp p pos:Pos}(hg:Gl X "enumerate")(hm:X.mg "enumerate" = none)(ha:PA X [l] ta)(hs:autoParam (starEach [l] X.env=[(false,eval l X.env)]) aR._auto_1) :
  PI X (.Tuple elts x1 tp) (.Call (.Name "enumerate" p) [l] [] pos) (Kv X.K ta):=by
 intro pins s σ H R I h
 have boot:bootBuiltins "enumerate" = some (.type "enumerate"):=by with_unfolding_all rfl
 refine Call_ (ld_blt I hg hm boot (PyProof.Rows.callWith_type1 (thn (ha pos pins s σ H _ I h) λus s1 ⟨vs,H1,I1,r1,q1⟩=>?_) hs rfl))
 obtain⟨a,e,⟨xs,hq⟩,q⟩:=q1
 subst e
 obtain⟨u,rfl,rx⟩:=vals1 r1
 cases rx
 obtain⟨its,rv,pl,hz⟩:=I1.list hq
 refine call_enumerate_list pl.isList λh' he hit hsz hk=>?_
 refine wpAny_pyIter_enum he ?_
 have n1:s1.heap.objs.size+1≠s1.heap.objs.size:=Nat.succ_ne_self _
 refine⟨s1.heap.objs.size+1,[s1.heap.objs.size+1,s1.heap.objs.size],_,_,H1,rfl,I1.kept (t':=s1.toks) hk,qu a _ _ n1,⟨⟨_,he⟩,hit⟩,λb hb=>?_,q⟩
 have hb2:s1.heap.objs.size<=b:=by
  simp only[List.mem_cons,List.not_mem_nil,or_false]at hb
  rcases hb with rfl | rfl
  ·exact Nat.le_succ _
  ·exact Nat.le_refl _
 exact I1.fpOk hb2 (I1.hok.fresh hb2)
theorem v0:∀ (ds:List D) (k:Nat),(Yx ds k).length=ds.length
 |[],_=>rfl
 |d::r,k=>by rw[Yx,List.length_cons,List.length_cons,v0 r]
theorem v3:∀ (ds:List D) (k i:Nat),(Yx ds k)[i]? = (ds[i]?).map λd=>D.tup [.int ((k+i:Nat):Int),d]
 |[],k,i=>by simp[Yx]
 |d::r,k,0=>by simp[Yx]
 |d::r,k,i+1=>by
  rw[Yx,List.getElem?_cons_succ,List.getElem?_cons_succ,v3 r,show k+1+i=k+(i+1) by omega]
theorem zAp {K:PySem.W.Frag}{G:Hp}{a:Addr}{ds:List D}{vs:List V}(hq:SqL K G a vs)(rl:zL K G ds vs):ItOk K (Ite K a) G (Yx ds 0):=by
 refine⟨λG' H' i d sg sh hd=>?_,λG' H' sg sh=>⟨vs,sh.seq (sg.seq hq),by rw[v0,rl.len];exact Nat.le_refl _⟩⟩
 rw[v3]at hd
 obtain⟨d0,h0,rfl⟩:=Option.map_eq_some_iff.mp hd
 obtain⟨v,hv,rv⟩:=rl.get h0
 have q:SqL K H' a vs:=sh.seq (sg.seq hq)
 refine⟨⟨vs,v,q,hv⟩,λx H'' ⟨p,y,e1,hp,e2,e3⟩=>?_⟩
 subst e1
 subst e2
 have e4:=e3 vs q
 rw[hv]at e4
 cases e4
 have ex:=Ext.new (o:=.tup [.int (i:Nat),v]) sh hp
 refine⟨_,ex,Same.upd hp,zg.mpr ⟨p,_,rfl,SqT.of upd_same,zL.cons (zM.mpr (by rw[Nat.zero_add])) (zL.cons (rv.mono (sg.trans ex.g)) zL.nil)⟩⟩
theorem Uo {K:PySem.W.Frag}{E:XK}{J:It}{g:TG}{tb:TS}{gm:GM}{b:M Fl}{ds:List D}{G0 H0:Hp}{ρ:Rho}{σ:St}{G H:Hp}{D:Ends}(ho:Hold K G0 H0 ρ σ G H)(hg:RG K g gm)(hb:RS K E tb b)(io:ItOk K J G ds)
  (hD:zp K E G0 H0 G (ZG gm b ds ρ) D) :
  ∃ W:Nat->Nat->St->Hp->Prop,(∃ m,W 0 m σ H)/\∀ i m σ H,W i m σ H ->
   (J.stop i H/\D.nx σ H)\/(J.go i H/\∃ N:St->Hp->Prop,(∀ σ' H',N σ' H'->∃ m',m'<m/\W (i+1) m' σ' H')/\∀ x H',J.yld i H x H'->g x σ H' λσ2 H2=>tb { D with nx:=N,ct:=N,bk:=D.nx } σ2 H2):=by
 refine⟨λi m σ H=>m=ds.length - i/\i<=ds.length/\∃ ρ G',Same G G'/\Hold K G0 H0 ρ σ G' H/\zp K E G0 H0 G' (ZG gm b (ds.drop i) ρ) D,
  ⟨ds.length,by simp,Nat.zero_le _,ρ,G,Same.refl _,ho,by simpa using hD⟩,?_⟩
 rintro i m σ H ⟨rfl,hi,ρ,G',sg,h,hp⟩
 by_cases hlt:i<ds.length
 ·refine .inr ?_
  have hd:ds[i]? = some ds[i]:=List.getElem?_eq_getElem hlt
  obtain⟨go,yl⟩:=io.go G' H i _ sg h.e.s hd
  rw[List.drop_eq_getElem_cons hlt]at hp
  unfold ZG at hp
  refine⟨go,λσ' H'=>∃ ρ2 G2,Same G G2/\Hold K G0 H0 ρ2 σ' G2 H'/\zp K E G0 H0 G2 (ZG gm b (ds.drop (i+1)) ρ2) D,λσ' H' ⟨ρ2,G2,s2,h2,p2⟩=>⟨ds.length - (i+1),by omega,rfl,hlt,ρ2,G2,s2,h2,p2⟩,λx H' y=>?_⟩
  obtain⟨G3,ex,hs,rv⟩:=yl x H' y
  have sg3:=sg.trans ex.g
  have hp3:=zp.mono ex.g hp
  refine hg G0 H0 ρ σ G3 H' ds[i] x _ (h.grow ex hs) rv ?_
  cases q:gm ds[i] ρ with
  |some ρ1=>
   rw[q]at hp3
   refine⟨ρ1,rfl,λσ1 G1 H1 s1 h1=>?_⟩
   refine hb G0 H0 ρ1 σ1 G1 H1 h1 _ ?_
   have hp':zp K E G0 H0 G3 ((b ρ1).bnd λf ρ=>Yt f ρ (ZG gm b (ds.drop (i+1)))) D:=hp3
   cases q2:b ρ1 with
   |ok f ρ2=>
    rw[q2]at hp'
    cases f with
    |nx=>exact λσ2 G2 H2 s2 h2=>⟨ρ2,G2,sg3.trans (s1.trans s2),h2,zp.mono (s1.trans s2) hp'⟩
    |cont=>exact λσ2 G2 H2 s2 h2=>⟨ρ2,G2,sg3.trans (s1.trans s2),h2,zp.mono (s1.trans s2) hp'⟩
    |brk=>exact λσ2 G2 H2 s2 h2=>hp' σ2 G2 H2 (s1.trans s2) h2
    |ret d=>exact λv σ2 G2 H2 s2 h2=>hp' v σ2 G2 H2 (s1.trans s2) h2
   |exn c ρ2=>rw[q2]at hp';exact λσ2 G2 H2 s2 h2=>hp' σ2 G2 H2 (s1.trans s2) h2
   |bad=>rw[q2]at hp';exact hp'
  |none=>rw[q]at hp3;exact hp3.elim
 ·have e:i=ds.length:=by omega
  subst e
  rw[List.drop_length]at hp
  exact .inl ⟨io.stop G' H sg h.e.s,hp σ G' H (Same.refl _) h⟩
theorem jd {K:PySem.W.Frag}{E:XK}{tl:TE}{m:M D}{g:TG}{gm:GM}{tb:TS}{b:M Fl}(hl:RE K E tl m)(hg:RG K g gm)(hb:RS K E tb b):RS K E (tFor (Kv K (tCons tl tNil)) g tb) (YT m Ur gm b):=by
 intro G0 H0 ρ σ G H ho
 refine RSt.bind (t2:=λx D σ H1=>∃ a,[x]=[V.ref a]/\(∃ xs,SqL K H1 a xs)/\∃ W:Nat->Nat->St->Hp->Prop,(∃ m,W 0 m σ H1)/\∀ i m σ H,W i m σ H ->
  ((Ite K a).stop i H/\D.nx σ H)\/((Ite K a).go i H/\∃ N:St->Hp->Prop,(∀ σ' H',N σ' H'->∃ m',m'<m/\W (i+1) m' σ' H')/\∀ x H',(Ite K a).yld i H x H'->g x σ H' λσ2 H2=>tb { D with nx:=N,ct:=N,bk:=D.nx } σ2 H2)) (hl G0 H0 ρ σ G H ho) λd ρ1 v G1 H1 s1 h1 r1=>?_
 refine RSt.opt λds e=>?_
 intro D hD
 cases d<;>first | (cases e;done) | skip
 cases e
 obtain⟨a,vs,rfl,hq,rl⟩:=zj.mp r1
 exact⟨a,rfl,⟨vs,h1.e.s.seq hq⟩,Uo h1 hg hb (zAp hq rl) hD⟩
theorem JC {E:XK}{e:Expr}{ma:M D}{m:M Fl}{elts:List Expr} {x1}{tp p q pos:Pos}{gm:GM}{body:List Stmt}(hp:PassesOwn (model X.prog X.w) X.A X.env X.xe)(hc:X.calm=true)(hr:X.mg "enumerate" = none)(hi:ME X E e ma)(hg:MG X (.Tuple elts x1 tp) gm)(hb:MSs X E body m)
  (hgl:Gl X "enumerate":=by rfl)(hst:autoParam (starEach [e] X.env=[(false,eval e X.env)]) aR._auto_1)(hs:∀ x,foldedSetIterable (.Call (.Name "enumerate" p) [e] [] q) X.env x=pure x:=by intro _;rfl) :
  MS X E (.For (.Tuple elts x1 tp) (.Call (.Name "enumerate" p) [e] [] q) body [] pos) (YT ma Ur gm m):=by
 obtain⟨t,pe,r⟩:=hi
 obtain⟨g,pg,rg⟩:=hg
 obtain⟨tb,pb,rb⟩:=hb
 exact⟨_,ps_for hp hc (kj hgl hr (pa_cons pe pa_nil hst) hst) pg pb hs,jd r rg rb⟩
end
end PM
namespace PM
open PySem PySem.Spec PyProof.Rows L2
section
variable {K:PySem.W.Frag}{E:XK}{G0 H0:Hp}{ρ:Rho}{σ:St}{G H:Hp}
end
section
variable {X:Cx}{E:XK}{e:Expr}{m:M D}{sts:List Stmt}{mf:M Fl}{pos:Pos}
end
section
variable {X:Cx}{E:XK}{iter tg:Expr}{scope:Scope}{cl:List (Str×Addr)}{nt:Nat}{N':List Str}{idx:List Nat}{pos:Pos}{mi:M (List D)}{gm:GM}
end
end PM
namespace PM
open PySem PySem.Spec PyProof.Rows L2
section
variable {X:Cx}{K:PySem.W.Frag}{E:XK}
theorem vP:∀ {ns:List Int}{its:List Value},Vals (ns.map V.int) its->∃ xs:List (Int×Tok),xs.map (·.1)=ns/\its=xs.map λp=>Value.int p.1 p.2
 |[],_,.nil=>⟨[],rfl,rfl⟩
 |n::ns,_,.cons h t=>by
  obtain⟨xs,h1,h2⟩:=vP (ns:=ns) t
  obtain⟨tk,rfl⟩:=h
  exact⟨(n,tk)::xs,by simp[h1],by simp[h2]⟩
noncomputable def Ko (K:PySem.W.Frag):List V->Hp->VK->Prop:=λxs H Q=>∃ (a:Addr)(ns:List Int) (m:Int),xs=[.ref a]/\SqL K H a (ns.map V.int)/\ns.max? = some m/\Q (.int m) H
theorem Q4 (hc:X.calm=true):CallR X (.builtin "max") (Ko X.K):=by
 intro pins s σ H xs us Q I r h
 obtain⟨a,ns,m,rfl,hq,hm,q⟩:=h
 obtain⟨u,rfl,rx⟩:=vals1 r
 cases rx
 obtain⟨its,r',pl,hz⟩:=I.list hq
 obtain⟨ys,h1,rfl⟩:=vP r'
 have hl:=pl.isList
 have e:(ys.map λp=>Value.int p.1 p.2).toArray=intItems ys.toArray:=by simp[intItems]
 rw[e]at hl
 have hne:0<ys.toArray.size:=by
  cases ys with
  |nil=>simp at h1;subst h1;simp at hm
  |cons y ys=>simp
 refine max_intList (I.ok.hd hc) hl hne λv h' tk hv hk=>?_
 obtain⟨t,rfl⟩:=intItems_at hv
 refine⟨.int m,H,I.kept (t':=tk) hk,⟨t,?_⟩,q⟩
 obtain⟨g1,g2⟩:=argBest_gt (numAt ys.toArray) (ys.toArray.size - 1)
 have at':∀ i (hi:i<ns.length),numAt ys.toArray i=ns[i]:=λi hi=>by
  unfold numAt
  subst h1
  have:i<ys.length:=by simpa using hi
  simp[this]
 have hlen:ns.length=ys.toArray.size:=by rw[<-h1];simp
 obtain⟨hmem,hmax⟩:=List.max?_eq_some_iff.mp hm
 congr 1
 generalize hB:argBest (λi j=>decide (numAt ys.toArray i > numAt ys.toArray j)) (ys.toArray.size - 1)=B at g1 g2 ⊢
 have hBl:B<ns.length:=by omega
 obtain⟨j,hj,rfl⟩:=List.getElem_of_mem hmem
 have a1:=g2 j (by omega)
 rw[at' j hj,at' B hBl]at a1
 have a2:=hmax _ (List.getElem_mem hBl)
 rw[at' B hBl]
 omega
theorem vq:∀ {ds:List D}{ns:List Int},yM ds=some ns->ds=ns.map D.int
 |[],_,e=>by cases e;rfl
 |d::r,ns,e=>by
  cases d<;>first | (cases e;done) | skip
  obtain⟨cs,e1,rfl⟩:=Option.map_eq_some_iff.mp e
  rw[vq e1]
  rfl
theorem vZ {G:Hp}:∀ {ns:List Int}{vs:List V},zL K G (ns.map D.int) vs->vs=ns.map V.int
 |[],vs,r=>r.nil_inv
 |b::bs,vs,r=>by
  obtain⟨v,vr,rfl,rv,rr⟩:=r.cons_inv
  rw[vZ rr,zM.mp rv]
  rfl
theorem Jn:ClM K (Ko K) (zx zAn):=by
 intro G H xs ds d Q s r e q
 cases ds with
 |nil=>cases e
 |cons x t=>
  cases t with
  |cons _ _=>cases e
  |nil=>
   cases x<;>first | (cases e;done) | skip
   obtain⟨v,vr,rfl,rv,rr⟩:=r.cons_inv
   cases rr.nil_inv
   obtain⟨ns,e1,e2⟩:=Option.bind_eq_some_iff.mp e
   obtain⟨m,e3,rfl⟩:=Option.map_eq_some_iff.mp e2
   cases vq e1
   obtain⟨a,vs,rfl,hq,rl⟩:=zj.mp rv
   cases vZ rl
   exact⟨a,ns,m,rfl,s.seq hq,e3,q _ G H (Ext.refl s) (Same.refl _) (zM.mpr rfl)⟩
variable {e:Expr}{es:List Expr}{pos:Pos}
theorem KG {p:Pos}{ms:List (M D)}(hm:X.mg "max" = none)(ha:MA X E (e::es) ms)(hc:autoParam (X.calm=true) aR._auto_1)(hg:Gl X "max":=by rfl)(he:autoParam (starEach (e::es) X.env=(false,eval e X.env)::starEach es X.env) aR._auto_1)(hpl:autoParam ((backTo pos (starEach es X.env)).any (·.1)=false) aR._auto_1) :
  ME X E (.Call (.Name "max" p) (e::es) [] pos) (za (zx zAn) ms):=ZB (Q4 hc) Jn hg hm (by with_unfolding_all rfl) ha (by decide) (by decide) he hpl
end
end PM
namespace PM
open PySem
mutual
noncomputable def D.flat:D->Bool
 |.non=>true
 |.bl _=>true
 |.int _=>true
 |.str _=>true
 |.tup ds=>D.flats ds
 |_=>false
noncomputable def D.flats:List D->Bool
 |[]=>true
 |d::ds=>d.flat && D.flats ds
end
noncomputable def uk (a:Int):List Int->List Int
 |[]=>[a]
 |b::r=>if a<=b then a::b::r else b::uk a r
noncomputable def YW:List Int->List Int
 |[]=>[]
 |a::r=>uk a (YW r)
noncomputable def xX:D->Option D
 |.lst ds=>(yM ds).bind λns=>if ns.length<64 then some (.lst ((YW ns).map .int)) else none
 |.tup ds=>(yM ds).bind λns=>if ns.length<64 then some (.lst ((YW ns).map .int)) else none
 |_=>none
end PM
namespace PM
open PySem PySem.Spec PyProof.Rows L2
theorem X3 (a:Int):∀ l:List Int,(uk a l).Perm (a::l)
 |[]=>List.Perm.refl _
 |b::r=>by
  unfold uk
  split
  ·exact List.Perm.refl _
  ·exact ((X3 a r).cons b).trans (List.Perm.swap a b r)
theorem w4:∀ l:List Int,(YW l).Perm l
 |[]=>List.Perm.refl _
 |a::r=>(X3 a (YW r)).trans ((w4 r).cons a)
theorem wQ (a:Int):∀ l:List Int,l.Pairwise (· ≤ ·)->(uk a l).Pairwise (· ≤ ·)
 |[],_=>List.pairwise_singleton _ _
 |b::r,h=>by
  unfold uk
  obtain⟨h1,h2⟩:=List.pairwise_cons.mp h
  split
  ·rename_i hab
   refine List.pairwise_cons.mpr ⟨λc hc=>?_,h⟩
   rcases List.mem_cons.mp hc with rfl | hc
   ·exact hab
   ·exact Int.le_trans hab (h1 c hc)
  ·rename_i hab
   refine List.pairwise_cons.mpr ⟨λc hc=>?_,wQ a r h2⟩
   rcases List.mem_cons.mp ((X3 a r).mem_iff.mp hc) with rfl | hc
   ·omega
   ·exact h1 c hc
theorem XD:∀ l:List Int,(YW l).Pairwise (· ≤ ·)
 |[]=>List.Pairwise.nil
 |a::r=>wQ a _ (XD r)
theorem wF:∀ {a b:List Int},a.Perm b->a.Pairwise (· ≤ ·)->b.Pairwise (· ≤ ·)->a=b
 |[],b,h,_,_=>(List.nil_perm.mp h).symm
 |x::a,[],h,_,_=>by simp at h
 |x::a,y::b,h,ha,hb=>by
  obtain⟨h1,h2⟩:=List.pairwise_cons.mp ha
  obtain⟨h3,h4⟩:=List.pairwise_cons.mp hb
  have e:x=y:=by
   have m1:x ∈ y::b:=h.mem_iff.mp List.mem_cons_self
   have m2:y ∈ x::a:=h.mem_iff.mpr List.mem_cons_self
   rcases List.mem_cons.mp m1 with e | m1
   ·exact e
   ·rcases List.mem_cons.mp m2 with e | m2
    ·exact e.symm
    ·have q1:=h3 x m1
     have q2:=h1 y m2
     omega
  subst e
  rw[wF (List.Perm.cons_inv h) h2 h4]
section
variable {prog:Program}{w:World}{A:Around}{E:Value->Shared->Prop}{s:Shared}
theorem Ja {T:String}{p:Addr}{o:Obj}{items:Array Value}{n:Nat}{Q:List Value->Shared->Prop}(hT:T = "list"\/T = "tuple")(ho:s.heap.get? p=some o)(hc:o.cls=.type T)(hd:o.data=.seq items n)(hz:items.size<=sizeLine)
  (hq:∀ h',s.heap.objs.size<=h'.objs.size->(∀ b o,s.heap.get? b=some o->h'.get? b=some o)->Q items.toList { s with heap:=h' }):wpAny (model prog w) A (collect (.ref p)) Q E s:=by
 have ho':(s.heap.push (seqObj "list" #[] 0)).get? p=some o:=Heap.get?_push_of_some _ ho
 unfold collect
 refine wpAny_bind (wpAny_runValue (codeAny_builtin entry_proto_collect' ?_))
 refine wpAny_bind (m:=newList []) (wpAny_newList (wpAny_pure ⟨Code.quiet_builtin _ (by decide +kernel),codeAny_builtin entry_list_iadd' ?_⟩))
 show wpAny _ _ (Builtin.List.listExtendWith (.ref s.heap.objs.size) (.ref p) (.ref s.heap.objs.size)) _ _ { s with heap:=s.heap.push (seqObj "list" #[] 0) }
 unfold Builtin.List.listExtendWith
 refine wpAny_bind (wpAny_typeOf (T:=T) ⟨o,ho',hc⟩ ?_)
 rw[if_pos (by simp;rcases hT with z | z<;>simp[z])]
 refine wpAny_bind (listItems_at ho' hd (wpAny_bind (listItems_at (xs:=#[]) (n:=0) (Heap.get?_push_size _ rfl) rfl ?_)))
 rw[if_neg (by simp;try omega)]
 refine wpAny_bind (listUpdate_at (xs:=#[]) (n:=0) (Heap.get?_push_size _ rfl) rfl (wpAny_pure ?_) (Nat.zero_le _) (by simp;omega))
 refine wpAny_bind (m:=load s.heap.objs.size) (wpAny_load (get?_update_seq (Heap.get?_push_size _ rfl) _) ?_)
 show wpAny _ _ (pure ((#[]:Array Value)++items).toList) Q E _
 rw[show ((#[]:Array Value)++items).toList=items.toList by simp]
 refine wpAny_pure (hq _ (by rw[Heap.size_update,size_push'];exact Nat.le_succ _) λb o' eb=>?_)
 have hlt:=Heap.lt_size eb
 rw[Heap.get?_update_ne _ _ _ _ (Nat.ne_of_lt hlt)]
 exact Heap.get?_push_of_some _ eb
theorem wz {T:String}{p:Addr}{o:Obj}{items:Array Value}{n:Nat}{ns:List Int}{Q:Value->Shared->Prop}(hT:T = "list"\/T = "tuple")(ho:s.heap.get? p=some o)(hc:o.cls=.type T)(hd:o.data=.seq items n)(hI:IntsAre items.toList ns)(h64:ns.length<64)
  (q:∀ (L:Addr)(h':Heap)(out:Array Value)(ms:List Int) (e:Nat),IntsAre out.toList ms->ms.Perm ns->ms.Pairwise (· ≤ ·)->s.heap.objs.size<=L->h'.get? L=some (seqObj "list" out e)->(∀ b o,s.heap.get? b=some o->h'.get? b=some o)->Q (.ref L) { s with heap:=h' }) :
  wpAny (model prog w) A (call (.builtin "sorted") [.ref p]) Q E s:=by
 have hlen:items.toList.length=ns.length:=hI.length
 refine Calls.call_function_entry kind_sorted plain_sorted entry_sorted (args_sorted1 _) ?_
 unfold Builtin.«sorted»
 refine wpAny_bind (m:=checkCount "sorted" 1 1 _) (wpAny_pure ?_)
 refine wpAny_bind (Ja hT ho hc hd (by rw[sizeLine_eq,<-Array.length_toList,hlen];omega) λh' hle keep=>?_)
 refine wpAny_bind (wpAny_newList ?_ (by rw[hlen,sizeLine_eq];omega))
 have hoL:(h'.push (seqObj "list" items.toList.toArray 0)).get? h'.objs.size=some (seqObj "list" items.toList.toArray 0):=Heap.get?_push_size _ rfl
 refine wpAny_bind (wpAny_holding (wpAny_call_entry slot_list_sort ⟨_,hoL,rfl⟩ entry_list_sort (list_sort_tree hoL hI (by rw[hlen];exact h64) λout ns' a1 a2 a3=>⟨_,rfl,?_⟩) (args_list_sort _)))
 obtain⟨e,he⟩:=sortedHeap_at (out:=out) hoL
 refine wpAny_pure ⟨_,rfl,q _ _ out ns' e a1 a2 a3 hle he λb o eb=>?_⟩
 have hlt:b<h'.objs.size:=Heap.lt_size (keep b o eb)
 rw[sortedHeap_old (Nat.ne_of_lt hlt) (by rw[size_push'];exact Nat.lt_succ_of_lt hlt)]
 exact Heap.get?_push_of_some _ (keep b o eb)
end
section
variable {X:Cx}{K:PySem.W.Frag}{E:XK}
noncomputable def jp (K:PySem.W.Frag):List V->Hp->VK->Prop:=λxs H Q=>∃ (p:Addr)(ns:List Int),xs=[.ref p]/\(SqL K H p (ns.map V.int)\/SqT K H p (ns.map V.int))/\ns.length<64/\∀ (l:Addr),H l=none->Q (.ref l) (upd H l (.lst ((YW ns).map V.int)))
theorem Q2:CallR X (.builtin "sorted") (jp X.K):=by
 intro pins s σ H xs us Q I r h
 obtain⟨p,ns,rfl,hq,h64,q⟩:=h
 obtain⟨u,rfl,rx⟩:=vals1 r
 cases rx
 have fin:∀ (L:Addr)(h':Heap)(out:Array Value)(ms:List Int) (e:Nat),IntsAre out.toList ms->ms.Perm ns->ms.Pairwise (· ≤ ·)->s.heap.objs.size<=L->h'.get? L=some (seqObj "list" out e)->(∀ b o,s.heap.get? b=some o->h'.get? b=some o)->EP X pins σ Q (.ref L) { s with heap:=h' }:=λL h' out ms e hI hpm hs hL hg k=>by
  have hlen:=hpm.length_eq
  cases wF (hpm.trans (w4 ns).symm) hs (XD ns)
  exact⟨.ref L,_,I.laid (t':=s.toks) (o:=.lst ((YW ns).map V.int)) k hL ⟨by rw[List.length_map,sizeLine_eq];omega,out.toList,e,UF hI,by rw[Array.toArray_toList];exact hg⟩,rfl,q L (I.hok.fresh hL)⟩
 rcases hq with hq | hq
 ·obtain⟨its,r',pl,hz⟩:=I.list hq
  obtain⟨o,ho,hcl,n,hd⟩:=pl.isList
  exact wz (.inl rfl) ho hcl hd (by simpa using Y0 r') h64 fin
 ·obtain⟨its,r',pl,hz⟩:=I.tuple hq
  obtain⟨o,ho,hcl,n,hd⟩:=pl
  exact wz (.inr rfl) ho hcl hd (by simpa using Y0 r') h64 fin
theorem Jm:ClM K (jp K) (zx xX):=by
 intro G H xs ds d Q s r e q
 cases ds with
 |nil=>cases e
 |cons x t=>
  cases t with
  |cons _ _=>cases e
  |nil=>
   obtain⟨v,vr,rfl,rv,rr⟩:=r.cons_inv
   rw[rr.nil_inv]
   have e':xX x=some d:=e
   have key:∀ (ds:List D),(x=.tup ds\/x=.lst ds)->((yM ds).bind λns=>if ns.length<64 then some (D.lst ((YW ns).map .int)) else none)=some d->jp K [v] H Q:=by
    intro ds hd e
    obtain⟨ns,e1,e2⟩:=Option.bind_eq_some_iff.mp e
    split at e2
    ·rename_i hz
     cases e2
     obtain⟨p,rfl,hq⟩:=V7 s hd rv e1
     refine⟨p,ns,rfl,hq,hz,λl hl=>?_⟩
     have x:=Ext.new (o:=.lst ((YW ns).map V.int)) s hl
     exact q _ _ _ x (Same.upd hl) (zj.mpr ⟨l,_,rfl,SqL.of upd_same,wN _ _⟩)
    ·cases e2
   cases x<;>first | (cases e';done) | skip
   ·exact key _ (.inl rfl) e'
   ·exact key _ (.inr rfl) e'
end
section
variable {X:Cx}{E:XK}{e:Expr}{es:List Expr}{pos:Pos}
theorem qO {p:Pos}{ms:List (M D)}(hm:X.mg "sorted" = none)(ha:MA X E (e::es) ms)(hg:Gl X "sorted":=by rfl)(he:autoParam (starEach (e::es) X.env=(false,eval e X.env)::starEach es X.env) aR._auto_1)(hpl:autoParam ((backTo pos (starEach es X.env)).any (·.1)=false) aR._auto_1) :
  ME X E (.Call (.Name "sorted" p) (e::es) [] pos) (za (zx xX) ms):=ZB Q2 Jm hg hm (by with_unfolding_all rfl) ha (by decide) (by decide) he hpl
end
end PM
namespace PM
open PySem PySem.Spec PyProof.Rows L2
section
variable {X:Cx}{pins:List (Addr×Obj)}{σ:St}{H:Hp}{s:Shared}{a:Addr}{A:Around}{E:Value->Shared->Prop}
noncomputable def Vz (K:PySem.W.Frag)(H:Hp)(ws:List (NK×Addr×V)):Prop:=∀ p ∈ ws,∃ d:D,p.1.1=d.py/\ZH d=some d/\Rep K H d (.ref p.2.1)
theorem Zc {d k:D}(h:ZH d=some k):k=d/\d.isTup=true/\d.hk=true/\d.deep<=8:=by
 unfold ZH at h
 split at h
 ·rename_i q;cases h;exact⟨rfl,q⟩
 ·cases h
mutual
theorem Y7:∀ {d:D},d.hk=true->d.plain=true
 |.non,_=>rfl
 |.int _,_=>rfl
 |.tup ds,h=>by
  show D.plains ds=true
  exact vw h
 |.bl _,h=>by cases h
 |.str _,h=>by cases h
 |.lst _,h=>by cases h
 |.exc _,h=>by cases h
 |.dct _ _,h=>by cases h
 |.dcT _ _,h=>by cases h
theorem vw:∀ {ds:List D},D.hks ds=true->D.plains ds=true
 |[],_=>rfl
 |d::ds,h=>by
  have h':(d.hk && D.hks ds)=true:=h
  rw[Bool.and_eq_true]at h'
  show (d.plain && D.plains ds)=true
  rw[Y7 h'.1,vw h'.2]
  rfl
end
mutual
theorem Vq:∀ {d:D},d.hk=true->hOk d.py=true
 |.non,_=>rfl
 |.int _,_=>rfl
 |.tup ds,h=>by
  show xl (D.pys ds)=true
  exact um h
 |.bl _,h=>by cases h
 |.str _,h=>by cases h
 |.lst _,h=>by cases h
 |.exc _,h=>by cases h
 |.dct _ _,h=>by cases h
 |.dcT _ _,h=>by cases h
theorem um:∀ {ds:List D},D.hks ds=true->xl (D.pys ds)=true
 |[],_=>rfl
 |d::ds,h=>by
  have h':(d.hk && D.hks ds)=true:=h
  rw[Bool.and_eq_true]at h'
  show (hOk d.py && xl (D.pys ds))=true
  rw[Vq h'.1,um h'.2]
  rfl
end
noncomputable def Yk (d:D)(h:ZH d=some d):NK:=⟨d.py,Vq (Zc h).2.2.1⟩
theorem Wc (I:Inv X pins σ H s){d:D}{b:Addr}(h:ZH d=some d)(r:Rep X.K H d (.ref b)):NK.At s.heap (Yk d h) b:=by
 obtain⟨_,_,h1,h2⟩:=Zc h
 obtain⟨as,ra⟩:=yI I r (show RelV (.ref b) (.ref b) from rfl) (Y7 h1)
 exact⟨⟨as,ra⟩,by show d.py.depth<=8;rw[XM (Y7 h1)];exact h2⟩
theorem u0 {ws:List (NK×Addr×V)}(I:Inv X pins σ H s)(e:H a=some (dnO a ws))(hk:Vz X.K H ws):ws.length<=sizeLine/\(a == sysModules)=false ∧
  ∃ xs,Paired (λ(p:NK×Addr×V)(q:NK×Addr×Value)=>p.1=q.1/\p.2.1=q.2.1/\RelV p.2.2 q.2.2) ws xs/\s.heap.DictOfH (jz X.prog X.w) a xs:=by
 obtain⟨⟨z,y,xs,r,o,es,ep,h1,h2,h3,h4,h5⟩,_⟩:=(show ObjOk X.prog X.w H s.heap a (dnO a ws) from I.hok a _ e)
 refine⟨z,y,xs,r,o,es,ep,h1,h2,h3,h4,λx hx=>?_,h5⟩
 have all:∀ {l:List (NK×Addr×V)}{m:List (NK×Addr×Value)},Paired (λ(p:NK×Addr×V)(q:NK×Addr×Value)=>p.1=q.1/\p.2.1=q.2.1/\RelV p.2.2 q.2.2) l m->(∀ p ∈ l,p ∈ ws)->∀ x ∈ m,NK.At s.heap x.1 x.2.1:=by
  intro l m q
  induction q with
  |nil=>intro _ x hx;exact nomatch hx
  |@cons p q ps qs hq t ih=>
   intro hm x hx
   rcases List.mem_cons.mp hx with e | hx
   ·subst e
    obtain⟨d,e1,e2,e3⟩:=hk p (hm p List.mem_cons_self)
    rw[<-hq.1,<-hq.2.1]
    have:=Wc I e2 e3
    rwa [show Yk d e2=p.1 from Subtype.ext e1.symm]at this
   ·exact ih (λp hp=>hm p (List.mem_cons_of_mem _ hp)) x hx
 exact all r (λp hp=>hp) x hx
noncomputable def Xk:List (NK×Addr×V)->NK->Option V
 |[],_=>none
 |p::r,k=>if p.1=k then some p.2.2 else Xk r k
noncomputable def VQ (ws:List (NK×Addr×V))(k:NK)(b:Addr)(v:V):List (NK×Addr×V):=if (Xk ws k).isSome=true then ws.map (λp=>if p.1=k then (p.1,p.2.1,v) else p) else ws++[(k,b,v)]
theorem xw {k:NK}:∀ {ws:List (NK×Addr×V)}{xs:List (NK×Addr×Value)},Paired (λ(p:NK×Addr×V)(q:NK×Addr×Value)=>p.1=q.1/\p.2.1=q.2.1/\RelV p.2.2 q.2.2) ws xs->RelO (Xk ws k) ((atKey xs k).map (·.2))
 |[],_,.nil=>trivial
 |p::r,q::t,.cons h hs=>by
  by_cases e:p.1=k
  ·have e2:q.1=k:=h.1.symm.trans e
   have e3:atKey (q::t) k=some q.2:=by unfold atKey;rw[List.find?_cons];simp[e2]
   unfold Xk
   rw[if_pos e,e3]
   exact h.2.2
  ·have e2:¬ q.1=k:=λz=>e (h.1.trans z)
   have e3:atKey (q::t) k=atKey t k:=by unfold atKey;rw[List.find?_cons];simp[e2]
   unfold Xk
   rw[if_neg e,e3]
   exact xw hs
theorem uI {k:NK}{b:Addr}{v:V}{u:Value}{ws:List (NK×Addr×V)}{xs:List (NK×Addr×Value)}(rv:RelV v u)(h:Paired (λ(p:NK×Addr×V)(q:NK×Addr×Value)=>p.1=q.1/\p.2.1=q.2.1/\RelV p.2.2 q.2.2) ws xs) :
  Paired (λ(p:NK×Addr×V)(q:NK×Addr×Value)=>p.1=q.1/\p.2.1=q.2.1/\RelV p.2.2 q.2.2) (VQ ws k b v) (storedH xs k b u):=by
 have e:(Xk ws k).isSome=(atKey xs k).isSome:=by have:=(xw (k:=k) h).isSome_eq;rw[Option.isSome_map]at this;exact this
 unfold VQ storedH
 rw[e]
 by_cases q:(atKey xs k).isSome=true
 ·rw[if_pos q,if_pos q]
  clear e q
  induction h with
  |nil=>exact .nil
  |@cons p q ps qs hq t ih=>
   refine .cons ?_ ih
   unfold putAt
   dsimp only
   by_cases e:p.1=k
   ·rw[if_pos e,if_pos (hq.1.symm.trans e)];exact⟨hq.1,hq.2.1,rv⟩
   ·rw[if_neg e,if_neg (λz=>e (hq.1.trans z))];exact hq
 ·rw[if_neg q,if_neg q];exact Paired.snoc h ⟨rfl,rfl,rv⟩
theorem uJ (ws:List (NK×Addr×V))(k:NK)(b:Addr)(v:V):(VQ ws k b v).length<=ws.length+1:=by
 unfold VQ
 split
 ·rw[List.length_map];omega
 ·rw[List.length_append];exact Nat.le_refl _
theorem jf {k:Nat}(hr:Room k A):(jz X.prog X.w).room A.in1:=by
 have:=hr.units
 show A.units+1+8<cLine
 omega
end
noncomputable def J4 (K:PySem.W.Frag)(H:Hp)(a:Addr)(y:V)(o:Option V):Prop:=∃ ws d b,∃ h:ZH d=some d,H a=some (dnO a ws)/\Vz K H ws/\y=.ref b/\Rep K H d (.ref b)/\o=Xk ws (Yk d h)
noncomputable def Kj (K:PySem.W.Frag)(td ty:TE):TE:=λσ H Q=>td σ H λx H1=>ty σ H1 λy H2=>∃ a v,x=.ref a/\J4 K H2 a y (some v)/\Q v H2
noncomputable def U3 (K:PySem.W.Frag)(ty td:TE):TE:=λσ H Q=>ty σ H λy H1=>td σ H1 λx H2=>∃ a o,x=.ref a/\J4 K H2 a y o/\Q (.bl (!o.isSome)) H2
noncomputable def Kl (K:PySem.W.Frag)(td ty tv:TE):TS:=λD σ H=>tv σ H λv H1=>td σ H1 λx H2=>ty σ H2 λy H3=>∃ a ws d b,∃ h:ZH d=some d,x=.ref a/\H3 a=some (dnO a ws)/\Vz K H3 ws/\y=.ref b/\Rep K H3 d (.ref b)/\ws.length<sizeLine/\D.nx σ (upd H3 a (dnO a (VQ ws (Yk d h) b v)))
section
variable {X:Cx}{o i e value:Expr}{pos pos' tpos:Pos}{td ty tv:TE}
theorem jy {pins:List (Addr×Obj)}{σ:St}{H:Hp}{s:Shared}{a:Addr}{y:V}{o:Option V}(I:Inv X pins σ H s)(g:J4 X.K H a y o):s.TypeIs (.ref a) "dict":=by
 obtain⟨ws,d,b,hk,e,hin,_⟩:=g
 obtain⟨_,_,xs,_,dd⟩:=u0 I e hin
 exact dd.typeIs
theorem kl {k:Nat}(hr:Room k X.A)(ho:PE X o td)(hi:PE X i ty)(hs:NoSl i):PE X (.Subscript o i pos) (Kj X.K td ty):=by
 intro pins s σ H Q I h
 refine subD_of PySem.F.slot_dict_getitem.lookup hs (thn (ho pins s σ H _ I h) λu s1 ⟨x,H1,I1,rx,q1⟩=>thn (hi pins s1 σ H1 _ I1 q1) λiv s2 ⟨y,H2,I2,ry,a,v,ex,g,q2⟩=>?_)
 subst ex
 obtain rfl:u=Value.ref a:=rx
 refine⟨jy I2 g,?_⟩
 obtain⟨ws,d,b,hk,e,hin,rfl,rd,ev⟩:=g
 cases (show iv=Value.ref b from ry)
 obtain⟨z,hd,xs,rel,dd⟩:=u0 I2 e hin
 obtain⟨w',hw,rw'⟩:=RelO.some_of (v:=v) (o:=(atKey xs (Yk d hk)).map (·.2)) (by rw[ev];exact xw rel)
 obtain⟨p,hp,hp2⟩:=Option.map_eq_some_iff.mp hw
 refine wpAny_getItem_heap (jf hr) (Wc I2 hk rd) dd hp ?_
 rw[hp2]
 exact⟨v,H2,I2.tok _,rw',q2⟩
theorem QG {k:Nat}(hr:Room k X.A)(hi:PE X i ty)(ho:PE X o td):PC X .NotIn i o (U3 X.K ty td):=by
 intro pins s σ H Q I h
 refine thn (hi pins s σ H _ I h) λiv s1 ⟨y,H1,I1,ry,q1⟩=>thn (ho pins s1 σ H1 _ I1 q1) λu s2 ⟨x,H2,I2,rx,a,ov,ex,g,q2⟩=>?_
 subst ex
 obtain rfl:u=Value.ref a:=rx
 obtain⟨ws,d,b,hk,e,hin,rfl,rd,ev⟩:=g
 cases (show iv=Value.ref b from ry)
 obtain⟨z,hd,xs,rel,dd⟩:=u0 I2 e hin
 refine wpAny_notIn_heap (jf hr) (Wc I2 hk rd) hd dd ?_
 have q:=(xw (k:=Yk d hk) rel).isSome_eq
 rw[Option.isSome_map]at q
 rw[<-q,<-ev]
 exact⟨.bl (!ov.isSome),H2,I2.tok _,rfl,q2⟩
theorem ki {k:Nat}(hr:Room k X.A)(ho:PE X o td)(hi:PE X i ty)(hv:PE X value tv)(hs:swapsWith value (some (.Subscript o i pos')) pos.line X.env=pure false) :
  PS X (.Assign [.Subscript o i pos'] value pos) (Kl X.K td ty tv):=by
 intro pins s σ H D I h
 refine wpAny_Assign_Subscript (thn (hv pins s σ H _ I h) λr s1 ⟨v,H1,I1,rv,q1⟩=>thn (ho pins s1 σ H1 _ I1 q1) λu s2 ⟨x,H2,I2,rx,q2⟩=>thn (hi pins s2 σ H2 _ I2 q2) λiv s3 ⟨y,H3,I3,ry,a,ws,d,b,hk,ex,e,hin,ey,rd,l,q3⟩=>?_) hs
 subst ex ey
 obtain rfl:u=Value.ref a:=rx
 cases (show iv=Value.ref b from ry)
 obtain⟨z,hd,xs,rel,dd⟩:=u0 I3 e hin
 have hz:xs.length<=sizeLine:=by rw[<-Paired.length rel];exact z
 have hl:(VQ ws (Yk d hk) b v).length<=sizeLine:=by have:=uJ ws (Yk d hk) b v;omega
 refine wpAny_setItem_heap (hsz:=hz) (jf hr) (Wc I3 hk rd) dd λh' dd' hs=>⟨σ,_,?_,q3⟩
 obtain⟨q,es,ep,hq,h2,h3,h4,_,h5⟩:=dd'
 refine d_write I3 (by rw[e];exact True.intro) hs ⟨q,hq⟩ ⟨⟨hl,hd,_,uI rv rel,q,es,ep,hq,h2,h3,h4,h5⟩,⟨q,hq⟩,λh1 h2 p k=>?_⟩
 obtain⟨z',y',xs',r',o',es',ep',k1,k2⟩:=p
 exact⟨z',y',xs',r',o',es',ep',k _ k1,k2⟩
end
end PM
namespace PM
open PySem PySem.Spec PyProof.Rows L2
theorem Zb {o:Option Slot}{d:List (D×D)}(h:Ze o=some d):o=some (.dicT d):=by
 unfold Ze at h
 split at h
 ·cases h;rfl
 ·cases h
section
variable {K:PySem.W.Frag}{E:XK}{G H:Hp}
theorem JS {p k:D}{q:NK}(h:q.1=p.py)(hp:ZH p=some p)(hk:ZH k=some k):q=Yk k hk ↔ p.eqv k=true:=by
 have h1:=(Zc hp).2.2.1
 have h2:=(Zc hk).2.2.1
 rw[<-Xs (Y7 h1) (Y7 h2),xN (Vq h1) (Vq h2)]
 constructor
 ·intro e
  have:=congrArg Subtype.val e
  rw[h]at this
  exact this
 ·intro e
  exact Subtype.ext (h.trans e)
theorem xO {k:D}(hk:ZH k=some k):∀ {kvs:List (D×D)}{ws:List (NK×Addr×V)},xG K G kvs ws->(∀ d,yT kvs k=some d->∃ v,Xk ws (Yk k hk)=some v/\Rep K G d v)/\(yT kvs k=none->Xk ws (Yk k hk)=none)
 |[],_,.nil=>⟨λ_ h=>(by cases h),λ_=>rfl⟩
 |p::r,q::t,.cons h hs=>by
  obtain⟨ih1,ih2⟩:=xO hk hs
  have he:=JS h.1.1 h.1.2 hk
  unfold yT Xk
  by_cases e:p.1.eqv k=true
  ·rw[if_pos e,if_pos (he.mpr e)]
   exact⟨λd hd=>⟨_,rfl,by cases hd;exact h.2.2⟩,λz=>by cases z⟩
  ·rw[if_neg e,if_neg (λz=>e (he.mp z))]
   exact⟨ih1,ih2⟩
theorem v5 {k:D}:∀ {kvs:List (D×D)},(kvs.any λp=>p.1.eqv k)=(yT kvs k).isSome
 |[]=>rfl
 |p::r=>by
  rw[List.any_cons]
  unfold yT
  by_cases e:p.1.eqv k=true
  ·rw[if_pos e,e];rfl
  ·rw[if_neg e,Bool.not_eq_true _ |>.mp e,v5];rfl
theorem Qv {k d:D}{b:Addr}{v:V}{kvs:List (D×D)}{ws:List (NK×Addr×V)}(hk:ZH k=some k)(rk:Rep K G k (.ref b))(r:Rep K G d v)(h:xG K G kvs ws):xG K G (Yy kvs k d) (VQ ws (Yk k hk) b v):=by
 obtain⟨g1,g2⟩:=xO hk h
 have e:(kvs.any λp=>p.1.eqv k)=(Xk ws (Yk k hk)).isSome:=by
  rw[v5]
  cases q:yT kvs k with
  |none=>rw[g2 q];rfl
  |some d=>obtain⟨v,hv,_⟩:=g1 d q;rw[hv];rfl
 unfold Yy VQ
 rw[e]
 by_cases c:(Xk ws (Yk k hk)).isSome=true
 ·rw[if_pos c,if_pos c]
  clear c e g1 g2
  induction h with
  |nil=>exact .nil
  |@cons p q ps qs h t ih=>
   refine .cons ?_ ih
   have he:=JS h.1.1 h.1.2 hk
   dsimp only
   by_cases e:p.1.eqv k=true
   ·rw[if_pos e,if_pos (he.mpr e)];exact⟨h.1,h.2.1,r⟩
   ·rw[if_neg e,if_neg (λz=>e (he.mp z))];exact h
 ·rw[if_neg c,if_neg c];exact Paired.snoc h ⟨⟨rfl,hk⟩,rk,r⟩
theorem X0 {kvs:List (D×D)}{ws:List (NK×Addr×V)}(s:Same G H)(h:xG K G kvs ws):Vz K H ws:=by
 induction h with
 |nil=>intro p hp;cases hp
 |@cons p q ps qs h t ih=>
  intro x hx
  rcases List.mem_cons.mp hx with rfl | hx
  ·exact⟨p.1,h.1.1,h.1.2,h.2.1.mono s⟩
  ·exact ih x hx
theorem Vj {k:D}{v:V}(hk:ZH k=some k)(r:Rep K G k v):∃ b,v=.ref b:=by
 obtain⟨_,h1,_⟩:=Zc hk
 cases k<;>first | (cases h1;done) | skip
 obtain⟨a,vs,rfl,_⟩:=zg.mp r
 exact⟨a,rfl⟩
theorem Yo {x k:D}(h:ZH x=some k):ZH x=some x:=by rw[h,(Zc h).1]
theorem kZ {i:Nat}{tk:TE}{mk:M D}(hk:RE K E tk mk):RE K E (Kj K (tVar i) tk) (qh i mk):=by
 intro G0 H0 ρ σ G H ho
 refine RAt.opt λkvs e=>?_
 obtain⟨a,ws,e1,e2,e3,e4,r⟩:=ho.sl i _ (Zb e)
 intro Q hQ
 refine⟨.ref a,e1,?_⟩
 refine RAt.bind (r2:=λG d v=>Rep K G d v) (t2:=λy σ H2 Q=>∃ a' v,V.ref a=.ref a'/\J4 K H2 a' y (some v)/\Q v H2) (hk G0 H0 ρ σ G H ho) (λdx ρ1 x G1 H1 s1 h1 r1=>?_) Q hQ
 refine RAt.opt λkvs' e'=>?_
 refine RAt.opt λk ek=>?_
 refine RAt.opt λy ey=>?_
 obtain⟨a',ws',f1,f2,f3,f4,r'⟩:=h1.sl i _ (Zb e')
 rw[e1]at f1
 cases f1
 intro Q hQ
 have hs:=Yo ek
 obtain⟨rfl,_⟩:=Zc ek
 obtain⟨b,rfl⟩:=Vj hs r1
 obtain⟨v,hv,rv⟩:=(xO hs r').1 y ey
 exact⟨a,v,rfl,⟨ws',_,b,hs,f2,X0 h1.e.s r',rfl,r1.mono h1.e.s,hv.symm⟩,hQ v G1 H1 (Same.refl _) h1 rv⟩
theorem jm {i:Nat}{tk:TE}{mk:M D}(hk:RE K E tk mk):RE K E (U3 K tk (tVar i)) (Ws i mk):=by
 intro G0 H0 ρ σ G H ho
 refine RAt.bind (r2:=λG d v=>Rep K G d v) (t2:=λy σ H1 Q=>tVar i σ H1 λx H2=>∃ a o,x=.ref a/\J4 K H2 a y o/\Q (.bl (!o.isSome)) H2) (hk G0 H0 ρ σ G H ho) λdx ρ1 x G1 H1 s1 h1 r1=>?_
 refine RAt.opt λkvs' e'=>?_
 refine RAt.opt λk ek=>?_
 obtain⟨a,ws',f1,f2,f3,f4,r'⟩:=h1.sl i _ (Zb e')
 intro Q hQ
 have hs:=Yo ek
 obtain⟨hkd,_⟩:=Zc ek
 subst hkd
 obtain⟨b,rfl⟩:=Vj hs r1
 obtain⟨g1,g2⟩:=xO hs r'
 refine⟨.ref a,f1,a,_,rfl,⟨ws',_,b,hs,f2,X0 h1.e.s r',rfl,r1.mono h1.e.s,rfl⟩,?_⟩
 have e:(Xk ws' (Yk k hs)).isSome=(yT kvs' k).isSome:=by
  cases q:yT kvs' k with
  |none=>rw[g2 q];rfl
  |some d=>obtain⟨v,hv,_⟩:=g1 d q;rw[hv];rfl
 rw[e]
 exact hQ _ G1 H1 (Same.refl _) h1 (ZZ.mpr rfl)
end
noncomputable def jR (K:PySem.W.Frag)(x y:V):TE:=λ_ H Q=>∀ p,H p=none->∃ d b,∃ h:ZH d=some d,x=.ref b/\(∀ G,Rep K G d (.ref b))/\Q (.ref p) (upd H p (dnO p [(Yk d h,b,y)]))
theorem Jk {P:Program}{w:World}{H:Hp}(h:Heap)(hb:sysModules<h.objs.size):ObjOk P w H (h.push { cls:=.type "dict",data:=.dict #[] }) h.objs.size (dnO h.objs.size []):=
 ⟨⟨Nat.zero_le _,beq_eq_false_iff_ne.mpr (Ne.symm (Nat.ne_of_lt hb)),[],.nil,_,#[],0,Heap.get?_push_size _ rfl,⟨rfl,rfl,rfl⟩,rfl,rfl,List.nodup_nil⟩,⟨_,Heap.get?_push_size _ rfl⟩,λh1 h2 p k=>by
  obtain⟨z',y',xs',r',o',es',ep',k1,k2⟩:=p
  exact⟨z',y',xs',r',o',es',ep',k _ k1,k2⟩⟩
theorem js {X:Cx}{k v:Expr}{x y:V}{pos:Pos}{kk:Nat}(hr:Room kk X.A)(hk:PE X k (tC x))(hv:PE X v (tC y)):PE X (.Dict [some k] [v] pos) (jR X.K x y):=by
 intro pins s σ H Q I q
 have hn:=I.hok.fresh (Nat.le_refl s.heap.objs.size)
 obtain⟨d,b,hd,ex,rd,qq⟩:=q _ hn
 have I1:=I.laid (a:=s.heap.objs.size) (o:=dnO s.heap.objs.size []) (h':=s.heap.push { cls:=.type "dict",data:=.dict #[] }) (t':=s.toks) (λ_ _ q=>Heap.get?_push_of_some _ q) (Nat.le_refl _) (Jk s.heap I.big)
 rw[arm_eval_Dict,zip_pairTrees [some k] [v] X.env pos rfl rfl,dictDisplay_pairs _ (λz=>by cases z) (by show 1<17;decide)]
 refine wpAny_bind (wpAny_standAt (wpAny_bind ?_))
 unfold subDict
 refine wpAny_bind (wpAny_alloc (wpAny_bind (wpAny_holding ?_)))
 rw[if_pos (by show 1<=15;decide)]
 refine wpAny_bind (pairTrees_cons_walk (thn (hk pins _ σ _ (λx' H'=>x'=x/\H'=upd H s.heap.objs.size (dnO s.heap.objs.size [])) I1 ⟨rfl,rfl⟩) λkv s1 ⟨x',H1,I1',rx,ex',eH1⟩=>thn (hv pins s1 σ H1 (λy' H'=>y'=y/\H'=H1) I1' ⟨rfl,rfl⟩) λvv s2 ⟨y',H2,I2,ry,ey',eH2⟩=>pairTrees_nil_walk ?_))
 subst eH2 eH1 ey' ex' ex
 obtain rfl:kv=Value.ref b:=rx
 refine wpAny_holding ?_
 rw[List.forIn_cons]
 have hp:(upd H s.heap.objs.size (dnO s.heap.objs.size [])) s.heap.objs.size=some (dnO s.heap.objs.size []):=upd_same
 obtain⟨z,hsm,xs,rel,dd⟩:=u0 I2 hp (λp hp=>by cases hp)
 refine wpAny_bind (wpAny_bind (show wpAny _ _ (dictSet s.heap.objs.size (.ref b) vv >>= λ_=>pure (ForInStep.yield PUnit.unit)) _ _ _ from wpAny_bind (wpAny_dictSet_heap (hsz:=by rw[<-Paired.length rel];exact z) (by have:=hr.units;show X.A.units+8<cLine;omega) (Wc I2 hd (rd _)) dd λh' dd' hs=>wpAny_pure ?_)))
 refine wpAny_pure (wpAny_pure (wpAny_pure (wpAny_pure ⟨.ref s.heap.objs.size,_,?_,rfl,qq⟩)))
 obtain⟨qo,es,ep,hq,h2,h3,h4,_,h5⟩:=dd'
 have:=d_write (t':=s2.toks+(jz X.prog X.w).draws (Yk d hd)) (ob:=dnO s.heap.objs.size (VQ [] (Yk d hd) b y')) I2 (by rw[hp];exact True.intro) hs ⟨qo,hq⟩ ⟨⟨by have:=uJ [] (Yk d hd) b y';have:=sizeLine_eq;simp at *;omega,hsm,_,uI ry rel,qo,es,ep,hq,h2,h3,h4,h5⟩,⟨qo,hq⟩,λh1 h2 p k=>by
  obtain⟨z',y',xs',r',o',es',ep',k1,k2⟩:=p
  exact⟨z',y',xs',r',o',es',ep',k _ k1,k2⟩⟩
 rw[upd_upd]at this
 exact this
section
variable {K:PySem.W.Frag}{E:XK}
theorem je {i:Nat}{b:Addr}{k v:D}{y:V}(hk:∀ G,Rep K G k (.ref b))(hv:∀ G,Rep K G v y):RS K E (tAsg (jR K (.ref b) y) (gName i)) (Ut i k v):=by
 intro G0 H0 ρ σ G H ho
 refine RSt.opt λk' ek=>?_
 have hs:=Yo ek
 obtain⟨rfl,_⟩:=Zc ek
 intro D hD p hp
 refine⟨_,b,hs,rfl,hk,?_⟩
 exact hD _ G _ (Same.refl _) (ho.setNew hp (s:=.dicT [(_,v)]) ⟨p,_,rfl,upd_same,ho.e.s.free hp,ho.b.free hp,.cons ⟨⟨rfl,hs⟩,hk _,hv _⟩ .nil⟩ rfl)
end
noncomputable def Kf (K:PySem.W.Frag)(mg:Str->Option Value) (x:Str)(d:D):Prop:=∃ b,mg x=some (.ref b)/\∀ G,Rep K G d (.ref b)
section
variable {X:Cx}{E:XK}{pos:Pos}
theorem qP {x:Str}{d:D}(hg:Gl X x)(hm:Kf X.K X.mg x d)(hd:autoParam ((x == ("__debug__" : Str))=false) aD._auto_1):ME X E (.Name x pos) (cM d):=by
 obtain⟨b,hm,hr⟩:=hm
 exact⟨_,pe_glob (v:=.ref b) hg hm rfl hd,QF hr⟩
theorem JD {kk:Nat}(hr:Room kk X.A) (i:Nat){x g:Str}{d:D}{n:Int}{lp p2 p3 p4:Pos}{j:Nat}(hN:X.N.Nodup)(hg:Gl X g)(hm:Kf X.K X.mg g d)(hi:autoParam (X.N[i]? = some x) aR._auto_1)(hx:autoParam (Loc X.env.scope x) aL._auto_1)
  (hd:autoParam ((g == ("__debug__" : Str))=false) aD._auto_1)(hs:autoParam (swapsWith (.Dict [some (.Name g p3)] [.Constant (.int n) j p4] lp) (some (.Name x p2)) pos.line X.env=pure false) aR._auto_1)(hf:autoParam (X.fn x=true\/X.env.scope.names.lookup x=some .local) aF._auto_1) :
  MS X E (.Assign [.Name x p2] (.Dict [some (.Name g p3)] [.Constant (.int n) j p4] lp) pos) (Ut i d (.int n)):=by
 obtain⟨b,hm,hk⟩:=hm
 exact⟨_,ps_set hN hi hx (js hr (pe_glob (v:=.ref b) hg hm rfl hd) pe_int) hs hf,je hk λG=>zM.mpr rfl⟩
end
end PM
namespace PM
open PySem PySem.Spec PyProof.Rows L2
noncomputable def rem (H:Hp)(a:Addr):Hp:=λc=>if c=a then none else H c
theorem WD {H:Hp}{a:Addr}:rem H a a=none:=if_pos rfl
theorem VN {H:Hp}{a c:Addr}(h:c≠a):rem H a c=H c:=if_neg h
theorem jh {H:Hp}{a:Addr}:Same (rem H a) H:=λc u q=>by
 by_cases z:c=a
 ·rw[z,WD]at q;cases q
 ·rw[VN z]at q;exact q
section
variable (K:PySem.W.Frag)(E:XK)
inductive SpN (F:FN)(vs:List V)(H:Hp)(Q:VK)(E:XK):Prop where
 |mk (x:V)(a b:Addr)(e:vs=[x,.ref a,.ref b])(G:Hp)(d:D)(ds:List D)(kvs:List (D×D))(us:List V)(ws:List (NK×Addr×V))(sg:Same G H)(r:Rep K G d x)(hab:a≠b)(ha:H a=some (.lst us))(ga:G a=none)(ra:zL K G ds us)(hb:H b=some (dnO b ws))(gb:G b=none)(rb:xG K G kvs ws)(hq:match F d ds kvs with
  |.ok r ds' kvs'=>∀ v G' H' us' ws',Ext G (rem (rem H a) b) G' H'->H' a=some (.lst us')->G' a=none->zL K G' ds' us'->H' b=some (dnO b ws')->G' b=none->xG K G' kvs' ws'->Rep K G' r v->Q v H'
  |.exn c=>∀ G' H',Ext G (rem (rem H a) b) G' H'->E (.ref c) none H'
  |.bad=>False)
noncomputable abbrev spN (F:FN):Sp:=λvs H Q E=>SpN K F vs H Q E
noncomputable def yg (σ:St)(G0 H0 G:Hp)(r:Res Fl)(D:Ends):Prop:=match r with
 |.ok .nx ρ'=>∀ G' H',Same G G'->Hold K G0 H0 ρ' σ G' H'->D.nx σ H'
 |.ok (.ret d) ρ'=>∀ v G' H',Same G G'->Hold K G0 H0 ρ' σ G' H'->Rep K G' d v->D.rt v H'
 |.exn c ρ'=>∀ G' H',Same G G'->Hold K G0 H0 ρ' σ G' H'->E (.ref c) none H'
 |_=>False
noncomputable def RC (t:TS)(m:M Fl):Prop:=∀ G0 H0 ρ σ G H,Hold K G0 H0 ρ σ G H->∀ D,yg K E σ G0 H0 G (m ρ) D->t D σ H
end
section
variable {K:PySem.W.Frag}{E:XK}{G0 H0:Hp}{ρ:Rho}{σ:St}{G H:Hp}
theorem yg.mono {r:Res Fl}{D:Ends}{G':Hp}(s:Same G G')(h:yg K E σ G0 H0 G r D):yg K E σ G0 H0 G' r D:=by
 cases r with
 |ok f ρ'=>
  cases f with
  |nx=>exact λG2 H2 s2 h2=>h G2 H2 (s.trans s2) h2
  |ret d=>exact λv G2 H2 s2 h2 r2=>h v G2 H2 (s.trans s2) h2 r2
  |brk=>exact h
  |cont=>exact h
 |exn c ρ'=>exact λG2 H2 s2 h2=>h G2 H2 (s.trans s2) h2
 |bad=>exact h
theorem zAU {t u:TS}{a b:M Fl}(ha:RC K E t a)(hb:RC K E u b):RC K E (tSeq t u) (zG a b):=by
 intro G0 H0 ρ σ G H ho D hD
 refine ha G0 H0 ρ σ G H ho _ ?_
 unfold zG at hD
 cases e:a ρ with
 |ok f ρ1=>
  rw[e]at hD
  cases f with
  |nx=>
   have hD':yg K E σ G0 H0 G (b ρ1) D:=by simpa[Res.bnd,Fl.isNx] using hD
   exact λG1 H1 s1 h1=>hb G0 H0 ρ1 σ G1 H1 h1 D (yg.mono s1 hD')
  |ret d=>exact hD
  |brk=>exact hD
  |cont=>exact hD
 |exn c ρ1=>rw[e]at hD;exact hD
 |bad=>rw[e]at hD;exact hD
theorem zAV {te:TE}{m:M D}(he:RE K E te m):RC K E (tRet te) (zz m):=by
 intro G0 H0 ρ σ G H ho D hD
 refine he G0 H0 ρ σ G H ho _ ?_
 unfold zz at hD
 cases e:m ρ with
 |ok d ρ1=>rw[e]at hD;exact λv G1 H1 s1 h1 r1=>hD v G1 H1 s1 h1 r1
 |exn c ρ1=>rw[e]at hD;exact λG1 H1 s1 h1=>hD G1 H1 s1 h1
 |bad=>rw[e]at hD;exact hD
theorem zBE {t:TT}{u w:TS}{c:M Bool}{a b:M Fl}(hc:RT K E t c)(ha:RC K E u a)(hb:RC K E w b):RC K E (tIfS t u w) (ifM c a b):=by
 intro G0 H0 ρ σ G H ho D hD
 refine hc G0 H0 ρ σ G H ho _ ?_
 unfold ifM at hD
 cases e:c ρ with
 |bad=>rw[e]at hD;exact hD
 |exn c ρ1=>rw[e]at hD;exact λG1 H1 s1 h1=>hD G1 H1 s1 h1
 |ok x ρ1=>
  rw[e]at hD
  intro k G1 H1 s1 h1 r1
  subst r1
  have hD:yg K E σ G0 H0 G (if k=true then a ρ1 else b ρ1) D:=hD
  cases k with
  |true=>rw[if_pos rfl]at hD ⊢;exact ha G0 H0 ρ1 σ G1 H1 h1 D (yg.mono s1 hD)
  |false=>rw[if_neg (by simp)]at hD ⊢;exact hb G0 H0 ρ1 σ G1 H1 h1 D (yg.mono s1 hD)
theorem jo {C:Addr}:RC K E (UO E C) (Zj C):=λG0 H0 ρ σ G H ho D hD=>hD G H (Same.refl _) ho
theorem kc:RC K E tNext nxM:=λG0 H0 ρ σ G H ho D hD=>hD G H (Same.refl _) ho
theorem zAW {i:Nat}{te:TE}{m:M D}(he:RE K E te m):RC K E (tDrop (tBM K "list" rAppend (tVar i) (tCons te tNil))) (ZT i m):=by
 intro G0 H0 ρ σ G H ho D hD
 unfold ZT at hD
 cases q0:zY ρ[i]? with
 |none=>rw[q0]at hD;exact hD.elim
 |some ds0=>
  rw[q0]at hD
  obtain⟨a,vs0,e1,e2,_,_,_⟩:=ho.own q0
  refine⟨_,e1,.inl ⟨rfl,vs0,SqL.of e2⟩,?_⟩
  refine he G0 H0 ρ σ G H ho _ ?_
  have hD:yg K E σ G0 H0 G ((m ρ).bnd λx ρ=>(zU (zY ρ[i]?) ρ).bnd λds ρ=>if ds.length<sizeLine then .ok .nx (ρ.set i (.own (ds++[x]))) else .bad) D:=hD
  cases e:m ρ with
  |bad=>rw[e]at hD;exact hD
  |exn c ρ1=>rw[e]at hD;exact λG1 H1 s1 h1=>hD G1 H1 s1 h1
  |ok x ρ1=>
   rw[e]at hD
   intro y G1 H1 s1 h1 r1
   have hD:yg K E σ G0 H0 G ((zU (zY ρ1[i]?) ρ1).bnd λds ρ=>if ds.length<sizeLine then .ok .nx (ρ.set i (.own (ds++[x]))) else .bad) D:=hD
   cases q:zY ρ1[i]? with
   |none=>rw[q]at hD;exact hD.elim
   |some ds=>
    rw[q]at hD
    have hD:yg K E σ G0 H0 G (if ds.length<sizeLine then .ok .nx (ρ1.set i (.own (ds++[x]))) else .bad) D:=hD
    obtain⟨a',vs,f1,f2,f3,f4,r⟩:=h1.own q
    rw[e1]at f1
    cases f1
    split at hD
    ·rename_i hz
     refine⟨a,vs,y,rfl,rfl,f2,by rw[r.ln];exact hz,hD G1 _ s1 ?_⟩
     exact h1.setMut (ZN q) rfl e1 f3 f4 (s':=.own (ds++[x])) ⟨a,vs++[y],rfl,upd_same,f3,f4,r.app (zL.cons r1 zL.nil)⟩ rfl
    ·exact hD.elim
theorem kd {i:Nat}{tk tv:TE}{mk mv:M D}(hk:RE K E tk mk)(hv:RE K E tv mv):RC K E (Kl K (tVar i) tk tv) (Wr i mk mv):=by
 intro G0 H0 ρ σ G H ho D hD
 unfold Wr at hD
 refine hv G0 H0 ρ σ G H ho _ ?_
 cases ev:mv ρ with
 |bad=>rw[ev]at hD;exact hD
 |exn c ρ1=>rw[ev]at hD;exact λG1 H1 s1 h1=>hD G1 H1 s1 h1
 |ok dv ρ1=>
  rw[ev]at hD
  intro v G1 H1 s1 h1 r1
  have hD:yg K E σ G0 H0 G ((zU (Ze ρ1[i]?) ρ1).bnd λ_ ρ=>(mk ρ).bnd λx ρ=>(zU (Ze ρ[i]?) ρ).bnd λkvs ρ=>(zU (ZH x) ρ).bnd λk ρ=>if kvs.length<sizeLine then .ok .nx (ρ.set i (.dicT (Yy kvs k dv))) else .bad) D:=hD
  cases q1:Ze ρ1[i]? with
  |none=>rw[q1]at hD;exact hD.elim
  |some kvs0=>
   rw[q1]at hD
   have hD:yg K E σ G0 H0 G ((mk ρ1).bnd λx ρ=>(zU (Ze ρ[i]?) ρ).bnd λkvs ρ=>(zU (ZH x) ρ).bnd λk ρ=>if kvs.length<sizeLine then .ok .nx (ρ.set i (.dicT (Yy kvs k dv))) else .bad) D:=hD
   obtain⟨a,_,e1,_⟩:=h1.sl i _ (Zb q1)
   refine⟨.ref a,e1,?_⟩
   refine hk G0 H0 ρ1 σ G1 H1 h1 _ ?_
   cases qk:mk ρ1 with
   |bad=>rw[qk]at hD;exact hD
   |exn c ρ2=>rw[qk]at hD;exact λG2 H2 s2 h2=>hD G2 H2 (s1.trans s2) h2
   |ok dk ρ2=>
    rw[qk]at hD
    intro y G2 H2 s2 h2 r2
    have hD:yg K E σ G0 H0 G ((zU (Ze ρ2[i]?) ρ2).bnd λkvs ρ=>(zU (ZH dk) ρ).bnd λk ρ=>if kvs.length<sizeLine then .ok .nx (ρ.set i (.dicT (Yy kvs k dv))) else .bad) D:=hD
    cases q2:Ze ρ2[i]? with
    |none=>rw[q2]at hD;exact hD.elim
    |some kvs=>
     rw[q2]at hD
     have hD:yg K E σ G0 H0 G ((zU (ZH dk) ρ2).bnd λk ρ=>if kvs.length<sizeLine then .ok .nx (ρ.set i (.dicT (Yy kvs k dv))) else .bad) D:=hD
     cases q3:ZH dk with
     |none=>rw[q3]at hD;exact hD.elim
     |some k=>
      rw[q3]at hD
      have hD:yg K E σ G0 H0 G (if kvs.length<sizeLine then .ok .nx (ρ2.set i (.dicT (Yy kvs k dv))) else .bad) D:=hD
      split at hD
      ·rename_i hz
       obtain⟨a',ws',f1,f2,f3,f4,r'⟩:=h2.sl i _ (Zb q2)
       rw[e1]at f1
       cases f1
       have hs:=Yo q3
       have hkd:=(Zc q3).1
       rw[hkd]at hD
       obtain⟨b,hyb⟩:=Vj hs r2
       rw[hyb]at r2 ⊢
       refine⟨a,ws',dk,b,hs,rfl,f2,X0 h2.e.s r',rfl,r2.mono h2.e.s,by rw[<-Paired.length r'];exact hz,?_⟩
       exact hD G2 _ (s1.trans s2) (h2.setMut (Zb q2) rfl e1 f3 f4 (s':=.dicT (Yy kvs dk dv)) ⟨a,_,rfl,upd_same,f3,f4,Qv hs r2 (r1.mono s2) r'⟩ rfl)
      ·exact hD.elim
theorem Hold.drop {i:Nat}(h:Hold K G0 H0 ρ σ G H):Hold K G0 H0 (ρ.set i .un) σ G H:=
 h.put (λ_ _ q=>q) h.e h.b (Same.refl _) (λj t c _ e f=>⟨rfl,((h.sl j t e).foot_in f).2.1⟩) (λ_ _=>rfl) rfl (λ_=>trivial) λc f=>f.elim
theorem VJ {i j:Nat}{t:Slot}{b:Addr}{H:Hp}{o:Option (Option V)}(e:(ρ.set j .un)[i]? = some t)(f:t.foot H o b):i≠j/\ρ[i]? = some t:=by
 rcases YD e with ⟨rfl,_,rfl⟩ | ⟨ne,e⟩
 ·exact f.elim
 ·exact⟨ne,e⟩
theorem jn {i j:Nat}{F:FN}{te:TE}{ea:M D}(ha:RE K E te ea)(hij:i≠j):RE K E (tCall (spN K F) [] E (tCons te (tCons (tVar i) (tCons (tVar j) tNil)))) (xD i j F ea):=by
 intro G0 H0 ρ σ G H ho
 refine RAt.bind (r2:=λG d v=>Rep K G d v) (t2:=λx σ H1 Q=>tCons (tVar i) (tCons (tVar j) tNil) σ H1 λxs H2=>spN K F ((x::xs)++[]) H2 Q E) (ha G0 H0 ρ σ G H ho) λdx ρ1 x G1 H1 s1 h1 r1=>?_
 refine RAt.opt λds e=>?_
 refine RAt.opt λkvs e'=>?_
 obtain⟨a,us,a1,a2,a3,a4,ra⟩:=h1.own e
 obtain⟨b,ws,b1,b2,b3,b4,rb⟩:=h1.sl j _ (Zb e')
 have hab:a≠b:=λz=>by
  rw[z]at a2
  have:=a2.symm.trans b2
  have:=Option.some.inj this
  unfold dnO at this
  cases this
 intro Q hQ
 refine⟨.ref a,a1,.ref b,b1,x,a,b,rfl,G1,dx,ds,kvs,us,ws,h1.e.s,r1,hab,a2,a3,ra,b2,b3,rb,?_⟩
 have fa:∀ (k:Nat)(t:Slot)(c:Addr),ρ1[k]? = some t->k≠i->t.foot H1 σ[k]? c->c≠a:=λk t c ek ni f z=>ni (h1.ds k i t _ c ek (ZN e) f (by rw[z];exact a1))
 have fb:∀ (k:Nat)(t:Slot)(c:Addr),ρ1[k]? = some t->k≠j->t.foot H1 σ[k]? c->c≠b:=λk t c ek nj f z=>nj (h1.ds k j t _ c ek (Zb e') f (by rw[z];exact b1))
 have rr:∀ {c:Addr},c≠a->c≠b->rem (rem H1 a) b c=H1 c:=λna nb=>by rw[VN nb,VN na]
 have hu:=(h1.drop (i:=i)).drop (i:=j)
 have step:∀ {G' H':Hp},Ext G1 (rem (rem H1 a) b) G' H'->Hold K G0 H0 ((ρ1.set i .un).set j .un) σ G' H':=fun {G' H'} x1=>by
  have up:Same H0 H':=λc u q=>x1.t _ _ (by rw[rr (ne_of_none q a4) (ne_of_none q b4)];exact h1.b _ _ q)
  have:=hu.put (i:=j) (s':=.un) (G':=G') (H':=H') (σ':=σ) (λt ws' q=>x1.t _ _ (by rw[rr (λz=>by rw[z,a2]at q;cases q) (λz=>by rw[z,b2]at q;unfold dnO at q;cases q)];exact q)) ⟨h1.e.g.trans x1.g,x1.s,λc hc q=>x1.n c (by rw[rr (λz=>hc.1 (by rw[z];exact a4)) (λz=>hc.1 (by rw[z];exact b4))];exact hc.same h1.b) (h1.e.n c hc q),up⟩ up x1.g (λk t c nk ek f=>?_) (λ_ _=>rfl) rfl (λ_=>trivial) λc f=>f.elim
  ·rwa [List.set_set]at this
  ·obtain⟨n1,ek⟩:=VJ ek f
   obtain⟨n2,ek⟩:=VJ ek f
   obtain⟨k1,k2,_⟩:=(h1.sl k t ek).foot_in f
   have na:=fa k t c ek n2 f
   have nb:=fb k t c ek n1 f
   refine⟨?_,x1.n c (by rw[rr na nb];exact k1) k2⟩
   cases qc:H1 c with
   |none=>exact absurd qc k1.1
   |some u=>exact x1.t _ _ (by rw[rr na nb];exact qc)
 cases q:F dx ds kvs with
 |bad=>rw[q]at hQ;exact hQ.elim
 |exn c=>
  rw[q]at hQ
  exact λG' H' x1=>hQ G' H' x1.g (step x1)
 |ok r ds' kvs'=>
  rw[q]at hQ
  intro v G' H' us' ws' x1 ha' ga' ra' hb' gb' rb' rv
  refine hQ v G' H' x1.g ?_ rv
  have hz:=step x1
  have hi:i<ρ1.length:=by
   by_cases z:i<ρ1.length
   ·exact z
   ·rw[List.getElem?_eq_none (by omega)]at e;cases e
  have hj:j<ρ1.length:=by
   by_cases z:j<ρ1.length
   ·exact z
   ·rw[List.getElem?_eq_none (by omega)]at e';cases e'
  have keepU:∀ {k:Nat}{t:Slot}{c:Addr},((ρ1.set i .un).set j .un)[k]? = some t->t.foot H' σ[k]? c->k≠i/\k≠j/\c≠a/\c≠b:=fun {k t c} ek f=>by
   obtain⟨n1,ek'⟩:=VJ ek f
   obtain⟨n2,ek'⟩:=VJ ek' f
   have f':t.foot H1 σ[k]? c:=by
    have sl:=hu.sl k t ek
    refine yY sl (H':=H') (λt ws' q=>x1.t _ _ (by rw[rr (λz=>by rw[z,a2]at q;cases q) (λz=>by rw[z,b2]at q;unfold dnO at q;cases q)];exact q)) (λc fc=>?_) f
    obtain⟨k1,k2,_⟩:=(h1.sl k t ek').foot_in fc
    have na:=fa k t c ek' n2 fc
    have nb:=fb k t c ek' n1 fc
    cases qc:H1 c with
    |none=>exact absurd qc k1.1
    |some u=>exact x1.t _ _ (by rw[rr na nb];exact qc)
   exact⟨n2,n1,fa k t c ek' n2 f',fb k t c ek' n1 f'⟩
  have w1:Hold K G0 H0 (((ρ1.set i .un).set j .un).set i (.own ds')) σ G' H':=hz.put (λ_ _ q=>q) hz.e hz.b (Same.refl _) (λk t c _ ek f=>⟨rfl,((hz.sl k t ek).foot_in f).2.1⟩) (λ_ _=>rfl) rfl (λ_=>⟨a,us',a1,ha',ga',a4,ra'⟩) λc fc k t nk ek f=>by
   have fc:σ[i]? = some (some (.ref c)):=fc
   rw[a1]at fc
   cases fc
   exact (keepU ek f).2.2.1 rfl
  have w2:Hold K G0 H0 ((((ρ1.set i .un).set j .un).set i (.own ds')).set j (.dicT kvs')) σ G' H':=w1.put (λ_ _ q=>q) w1.e w1.b (Same.refl _) (λk t c _ ek f=>⟨rfl,((w1.sl k t ek).foot_in f).2.1⟩) (λ_ _=>rfl) rfl (λ_=>⟨b,ws',b1,hb',gb',b4,rb'⟩) λc fc k t nk ek f=>by
   have fc:σ[j]? = some (some (.ref c)):=fc
   rw[b1]at fc
   cases fc
   rcases YD ek with ⟨rfl,_,rfl⟩ | ⟨n,ek⟩
   ·have f:σ[k]? = some (some (.ref b)):=f
    rw[a1]at f
    cases f
    exact hab rfl
   ·exact (keepU ek f).2.2.2 rfl
  have e3:(((ρ1.set i .un).set j .un).set i (.own ds')).set j (.dicT kvs')=(ρ1.set i (.own ds')).set j (.dicT kvs'):=by
   rw[List.set_comm _ _ (Ne.symm hij) (l:=ρ1.set i .un),List.set_set,List.set_set]
  rw[e3]at w2
  exact w2
theorem ul {a b:Addr}{d:D}{ds:List D}{kvs:List (D×D)}{us:List V}{ws:List (NK×Addr×V)}{x:V}{N:List Str}(s:Same G H)(r:Rep K G d x)(hl:3<=N.length)(hab:a≠b)(ha:H a=some (.lst us))(ga:G a=none)(ra:zL K G ds us)
  (hb:H b=some (dnO b ws))(gb:G b=none)(rb:xG K G kvs ws):Hold K G (rem (rem H a) b) (xB N.length d ds kvs) (L2.start N [x,.ref a,.ref b]) G H:=by
 have le:Same (rem (rem H a) b) H:=jh.trans jh
 have c3:∀ (i:Nat)(sl:Slot),(xB N.length d ds kvs)[i]? = some sl->(i=0/\sl=.fz d)\/(i=1/\sl=.own ds)\/(i=2/\sl=.dicT kvs)\/sl=.un:=λi sl e=>by
  unfold xB at e
  match i,e with
  |0,e=>simp at e;exact .inl ⟨rfl,e.symm⟩
  |1,e=>simp at e;exact .inr (.inl ⟨rfl,e.symm⟩)
  |2,e=>simp at e;exact .inr (.inr (.inl ⟨rfl,e.symm⟩))
  |i+3,e=>
   simp only[List.getElem?_cons_succ,List.getElem?_replicate]at e
   split at e
   ·cases e;exact .inr (.inr (.inr rfl))
   ·cases e
 refine⟨⟨Same.refl _,s,λ_ _ e=>e,le⟩,le,λi sl e=>?_,λi j si sj c e1 e2 f1 f2=>?_,?_⟩
 ·rcases c3 i sl e with ⟨rfl,rfl⟩ | ⟨rfl,rfl⟩ | ⟨rfl,rfl⟩ | rfl
  ·exact⟨x,rfl,r⟩
  ·exact⟨a,us,rfl,ha,ga,by rw[VN hab,WD],ra⟩
  ·exact⟨b,ws,rfl,hb,gb,WD,rb⟩
  ·exact trivial
 ·rcases c3 i si e1 with ⟨rfl,rfl⟩ | ⟨rfl,rfl⟩ | ⟨rfl,rfl⟩ | rfl
  ·exact f1.elim
  ·rcases c3 j sj e2 with ⟨rfl,rfl⟩ | ⟨rfl,rfl⟩ | ⟨rfl,rfl⟩ | rfl
   ·exact f2.elim
   ·rfl
   ·have f1:some (some (V.ref a))=some (some (.ref c)):=f1
    have f2:some (some (V.ref b))=some (some (.ref c)):=f2
    cases f1;cases f2
    exact absurd rfl hab
   ·exact f2.elim
  ·rcases c3 j sj e2 with ⟨rfl,rfl⟩ | ⟨rfl,rfl⟩ | ⟨rfl,rfl⟩ | rfl
   ·exact f2.elim
   ·have f1:some (some (V.ref b))=some (some (.ref c)):=f1
    have f2:some (some (V.ref a))=some (some (.ref c)):=f2
    cases f1;cases f2
    exact absurd rfl hab
   ·rfl
   ·exact f2.elim
  ·exact f1.elim
 ·unfold xB L2.start
  simp
end
noncomputable def MQ (X:Cx)(E:XK)(st:Stmt)(m:M Fl):Prop:=∃ t,PS X st t/\RC X.K E t m
noncomputable def MQs (X:Cx)(E:XK)(sts:List Stmt)(m:M Fl):Prop:=∃ t,PSs X sts t/\RC X.K E t m
section
variable {P:Program}{w:World}{K:PySem.W.Frag}{mg:Str->Option Value}{base:Heap}
theorem Kg {x qual:Str}{st:Stmt}{f:Addr}{fd:FuncData}{N ps:List Str}{k:Nat}{m:M Fl}(F:Fun K x qual st f fd)(S:FnScope N ps (defScope st))(hn:ps.length=3)(hN:3<=N.length)
  (hbody:∀ (cdv:Value)(A:Around)(outer:List Env)(s:Shared)(H:Hp)(E:XK),Room k (A.deeper (envOfC qual (defScope st) s.heap.objs.size f cdv)) ->
   MQs (cxOf (CX1 P w) P w K mg base N qual (defScope st) f cdv A outer s H E) E (defBody st) m):FnOk P w K mg base (CX1 P w) (k+1) f fd ps (spN K (UA N.length m)):=by
 obtain⟨oc,od,kV,doc,pm,an,cdv,ct,osl,rfl,lk,hcd⟩:=F.ex
 refine fn_of lk hcd S (λvs H Q E h=>?_) λA outer s H vs Q E hr hsp=>?_
 ·obtain⟨x,a,b,rfl,_⟩:=h
  rw[hn]
  rfl
 ·obtain⟨x,a,b,rfl,G,d,ds,kvs,us,ws,sg,r,hab,ha,ga,ra,hb,gb,rb,hq⟩:=hsp
  obtain⟨t,p,rc⟩:=hbody cdv A outer s H E hr
  refine⟨t,p,rc G (rem (rem H a) b) (xB N.length d ds kvs) (L2.start N [x,.ref a,.ref b]) G H (ul sg r hN hab ha ga ra hb gb rb) _ ?_⟩
  have z1:(L2.start N [x,.ref a,.ref b])[1]? = some (some (.ref a)):=rfl
  have z2:(L2.start N [x,.ref a,.ref b])[2]? = some (some (.ref b)):=rfl
  unfold UA at hq
  cases e:m (xB N.length d ds kvs) with
  |bad=>rw[e]at hq;exact hq
  |exn c ρ'=>rw[e]at hq;exact λG' H' s1 h1=>hq G' H' h1.e
  |ok fl ρ'=>
   rw[e]at hq
   cases fl with
   |brk=>exact hq.elim
   |cont=>exact hq.elim
   |nx=>exact hq.elim
   |ret d=>
    dsimp only at hq
    cases q1:zY ρ'[1]? with
    |none=>rw[q1]at hq;exact hq.elim
    |some ds'=>
     cases q2:Ze ρ'[2]? with
     |none=>rw[q1,q2]at hq;exact hq.elim
     |some kvs'=>
      rw[q1,q2]at hq
      intro v G' H' s1 h1 rv
      obtain⟨a',us',f1,f2,f3,f4,r1⟩:=h1.own q1
      obtain⟨b',ws',g1,g2,g3,g4,r2⟩:=h1.sl 2 _ (Zb q2)
      rw[z1]at f1
      rw[z2]at g1
      cases f1
      cases g1
      exact hq v G' H' us' ws' h1.e f2 f3 r1 g2 g3 r2 rv
end
noncomputable def FkN (P:Program)(w:World)(K:PySem.W.Frag)(mg:Str->Option Value)(base:Heap) (k:Nat) (x:Str)(ps:List Str)(F:FN):Prop:=
 ∃ f fd,FnOk P w K mg base (CX1 P w) k f fd ps (spN K F)/\mg x=some (.ref f)/\PySem.W.keepIn K (.ref f)=true/\Binds K fd ps []
section
variable {X:Cx}{E:XK}{e v:Expr}{es:List Expr}{st:Stmt}{sts:List Stmt}{m mk mv:M D}{mf mf':M Fl}{pos p2 p3:Pos}
theorem Vb:MQs X E [] nxM:=⟨_,pss_nil,kc⟩
theorem we (h:MQ X E st mf):MQs X E [st] mf:=by
 obtain⟨t,p,r⟩:=h
 exact⟨t,pss_one p,r⟩
theorem XT (h:MQ X E st mf)(h2:MQs X E sts mf'):MQs X E (st::sts) (zG mf mf'):=by
 obtain⟨t,p,r⟩:=h
 obtain⟨t2,p2,r2⟩:=h2
 exact⟨_,pss_cons p p2,zAU r r2⟩
theorem zAg (h:ME X E e m):MQ X E (.Return (some e) pos) (zz m):=by
 obtain⟨t,p,r⟩:=h
 exact⟨_,ps_ret p,zAV r⟩
theorem JE {c:Expr}{ta:M Bool}{sa sb:List Stmt}(h:MT X E c ta)(ha:MQs X E sa mf)(hb:MQs X E sb mf'):MQ X E (.If c sa sb pos) (ifM ta mf mf'):=by
 obtain⟨t,p,r⟩:=h
 obtain⟨t1,p1,r1⟩:=ha
 obtain⟨t2,p2,r2⟩:=hb
 exact⟨_,ps_if p p1 p2,zBE r r1 r2⟩
theorem zAh (i:Nat){x:Str}{ap cp:Pos}(h:ME X E e m)(hN:autoParam (X.N[i]? = some x) aR._auto_1)(hv:autoParam (Vis X.env.scope x) aV._auto_1)(hd:autoParam ((x == ("__debug__" : Str))=false) aD._auto_1)
  (hcd:autoParam ((x == ("__classdict__" : Str))=false) aD._auto_1)(hs0:autoParam (starEach [e] X.env=(false,eval e X.env)::starEach [] X.env) aR._auto_1)(hbase:autoParam (attributeBase (.Name x p2) "append" X.env (eval (.Name x p2) X.env)=eval (.Name x p2) X.env) aR._auto_1)
  (hfew:autoParam (((backTo cp (starEach [e] X.env)).all (λx=>!x.1) && (backToKw cp (keywordEach [] X.env)).all (λx=>x.1.isSome) && decide ([e].length+([]:List Keyword).length+(if ([]:List Keyword).isEmpty then 0 else 1)<30))=true) aR._auto_1)
  (hline:autoParam ((ap.endLine == cp.line)=true) aR._auto_1)(hplain:autoParam ((backTo cp (starEach [] X.env)).any (·.1)=false) aR._auto_1)
  (hs:autoParam (swapsWith (.Call (.Attribute (.Name x p2) "append" ap) [e] [] cp) none pos.line X.env=pure false) aR._auto_1):MQ X E (.Expr (.Call (.Attribute (.Name x p2) "append" ap) [e] [] cp) pos) (ZT i m):=by
 obtain⟨t,p,r⟩:=h
 exact⟨_,ps_expr (pe_bm PySem.F.plainAttrs_list PySem.F.slot_list_append PySem.F.type_list_append mt_append (pe_var hN hv hd hcd) (pa_cons p pa_nil hs0) hbase hfew hline hs0 hplain) hs,zAW r⟩
theorem KB {kk:Nat}(hr:Room kk X.A) (i:Nat){x:Str}(hk:ME X E e mk)(hv:ME X E v mv)(hN:autoParam (X.N[i]? = some x) aR._auto_1)(hvi:autoParam (Vis X.env.scope x) aV._auto_1)(hd:autoParam ((x == ("__debug__" : Str))=false) aD._auto_1)
  (hcd:autoParam ((x == ("__classdict__" : Str))=false) aD._auto_1)(hs:autoParam (swapsWith v (some (.Subscript (.Name x p2) e p3)) pos.line X.env=pure false) aR._auto_1):MQ X E (.Assign [.Subscript (.Name x p2) e p3] v pos) (Wr i mk mv):=by
 obtain⟨tk,pk,rk⟩:=hk
 obtain⟨tv,pv,rv⟩:=hv
 exact⟨_,ki hr (pe_var hN hvi hd hcd) pk pv hs,kd rk rv⟩
theorem KI {kk:Nat}(hr:Room kk X.A) (i:Nat){x:Str}(h:ME X E e m)(hN:autoParam (X.N[i]? = some x) aR._auto_1)(hv:autoParam (Vis X.env.scope x) aV._auto_1)(hs:NoSl e:=by intro _ _;rfl)(hd:autoParam ((x == ("__debug__" : Str))=false) aD._auto_1)
  (hcd:autoParam ((x == ("__classdict__" : Str))=false) aD._auto_1):ME X E (.Subscript (.Name x p2) e pos) (qh i m):=by
 obtain⟨t,p,r⟩:=h
 exact⟨_,kl hr (pe_var hN hv hd hcd) p hs,kZ r⟩
end
section
variable {X:Cx}{E:XK}{e:Expr}{m:M D}{pos p2 p3:Pos}
theorem JK {k:Nat}{ps:List Str}{F:FN}{f:Str}{fp cp:Pos} (i j:Nat){x y:Str}(G:FkN X.prog X.w X.K X.mg X.base k f ps F)(hr:Room k X.A)(hx:Passes (CX1 X.prog X.w) X E)(ha:ME X E e m)(hij:autoParam (i≠j) aD._auto_1)
  (hN:autoParam (X.N[i]? = some x) aR._auto_1)(hvi:autoParam (Vis X.env.scope x) aV._auto_1)(hd:autoParam ((x == ("__debug__" : Str))=false) aD._auto_1)(hcd:autoParam ((x == ("__classdict__" : Str))=false) aD._auto_1)
  (hN2:autoParam (X.N[j]? = some y) aR._auto_1)(hvi2:autoParam (Vis X.env.scope y) aV._auto_1)(hd2:autoParam ((y == ("__debug__" : Str))=false) aD._auto_1)(hcd2:autoParam ((y == ("__classdict__" : Str))=false) aD._auto_1)
  (hg:autoParam (Gl X f) aR._auto_1)(hdb:autoParam ((f == ("__debug__" : Str))=false) aD._auto_1)(he:autoParam (starEach [e,.Name x p2,.Name y p3] X.env=(false,eval e X.env)::starEach [.Name x p2,.Name y p3] X.env) aR._auto_1)
  (he2:autoParam (starEach [.Name x p2,.Name y p3] X.env=(false,eval (.Name x p2) X.env)::starEach [.Name y p3] X.env) aR._auto_1)(he3:autoParam (starEach [.Name y p3] X.env=(false,eval (.Name y p3) X.env)::starEach [] X.env) aR._auto_1)
  (hpl:autoParam ((backTo cp (starEach [.Name x p2,.Name y p3] X.env)).any (·.1)=false) aR._auto_1):ME X E (.Call (.Name f fp) [e,.Name x p2,.Name y p3] [] cp) (xD i j F m):=by
 obtain⟨fa,fd,G,hm,hk,hb⟩:=G
 obtain⟨t,p,r⟩:=ha
 exact⟨_,pe_call G hr hg hm hk hb .nil hx (pa_cons p (pa_cons (pe_var hN hvi hd hcd) (pa_cons (pe_var hN2 hvi2 hd2 hcd2) pa_nil he3) he2) he) hdb he hpl,jn r hij⟩
end
section
variable {P:Program}{w:World}{K:PySem.W.Frag}{mg:Str->Option Value}{base:Heap}{N:List Str}{qual:Str}{scope:Scope}{f:Addr}{cd:Value}{A:Around}{outer:List Env}{s₀:Shared}{H₀:Hp}{E:XK}
theorem uZ {C:Addr}{x:Str}{z:Str}{np cpos pos ap:Pos}{j:Nat}(q:PySem.W.excIn K C Yb Z0=true)(hm:mg x=some (.ref C))(hgl:autoParam (Gl (cxOf (CX1 P w) P w K mg base N qual scope f cd A outer s₀ H₀ E) x) aR._auto_1)
  (hd:autoParam ((x == ("__debug__" : Str))=false) aD._auto_1):MQ (cxOf (CX1 P w) P w K mg base N qual scope f cd A outer s₀ H₀ E) E (.Raise (some (.Call (.Name x np) [.Constant (.str z) j ap] [] cpos)) none pos) (Zj C):=⟨_,uK q hm hgl hd,jo⟩
end
end PM
namespace PM
open PySem PySem.Spec PyProof.Rows L2
section
variable {K:PySem.W.Frag}{E:XK}
theorem QB {i:Nat}{ta tb:TE}{ma mb:M D}(ha:RE K E ta ma)(hb:RE K E tb mb):RS K E (tAsg (tOp (uF K) ta tb) (gName i)) (XQ i ma mb):=by
 intro G0 H0 ρ σ G H ho
 refine RSt.bind (t2:=λx D σ H1=>tb σ H1 λy H2=>uF K x y H2 λv H3=>gName i v σ H3 D.nx) (ha G0 H0 ρ σ G H ho) λdx ρ1 x G1 H1 s1 h1 r1=>?_
 refine RSt.bind (t2:=λy D σ H2=>uF K x y H2 λv H3=>gName i v σ H3 D.nx) (hb G0 H0 ρ1 σ G1 H1 h1) λdy ρ2 y G2 H2 s2 h2 r2=>?_
 refine RSt.opt λds e=>?_
 intro D hD
 cases dx<;>first | (cases e;done) | (cases dy<;>first | (cases e;done) | skip)
 rename_i a b
 dsimp only at e
 split at e
 ·rename_i hz
  cases e
  obtain⟨p,vs,rfl,q1,t1⟩:=zj.mp (r1.mono s2)
  obtain⟨p2,ws,rfl,q2,t2⟩:=zj.mp r2
  refine⟨p,p2,vs,ws,rfl,rfl,h2.e.s.seq q1,h2.e.s.seq q2,by rw[t1.ln,t2.ln];exact hz,λn hn=>?_⟩
  exact hD _ G2 _ (Same.refl _) (h2.setNew hn (s:=.own (a++b)) ⟨n,_,rfl,upd_same,h2.e.s.free hn,h2.b.free hn,t1.app t2⟩ rfl)
 ·cases e
end
section
variable {X:Cx}{E:XK}{a b:Expr}{ma mb:M D}{pos p2 bp:Pos}
theorem QU (i:Nat){x:Str}(hN:X.N.Nodup)(ha:ME X E a ma)(hb:ME X E b mb)(hi:autoParam (X.N[i]? = some x) aR._auto_1)(hx:autoParam (Loc X.env.scope x) aL._auto_1)
  (hs:autoParam (swapsWith (.BinOp a .Add b bp) (some (.Name x p2)) pos.line X.env=pure false) aR._auto_1)(hf:autoParam (X.fn x=true\/X.env.scope.names.lookup x=some .local) aF._auto_1):MS X E (.Assign [.Name x p2] (.BinOp a .Add b bp) pos) (XQ i ma mb):=by
 obtain⟨ta,pa,ra⟩:=ha
 obtain⟨tb,pb,rb⟩:=hb
 exact⟨_,ps_set hN hi hx (pe_op qK pa pb) hs hf,QB ra rb⟩
end
section
variable {prog:Program}{w:World}{A:Around}{E:Value->Shared->Prop}{s:Shared}
theorem vL {Q:List Value->Shared->Prop}{r:Addr}{a b c:Int}{t u v:Tok}{n:Nat}(hh:A.handled=none)(hr:IsRange s.heap r a b c t u v)(hsmall:Builtin.Range.small a b c=true)(hn:Builtin.Range.rangeSize a b c=n)(hlen:n<=2 ^ 24)
  (hQ:∀ h' tk (acc':Array Value),(∀ b o',s.heap.get? b=some o'->h'.get? b=some o')->ItemsOf (λi v=>∃ t,v=.int (a+i * c) t) acc' n->Q acc'.toList { s with heap:=h',toks:=tk }) :
  wpAny (model prog w) A (collect (.ref r)) Q E s:=by
 unfold collect
 refine wpAny_bind (wpAny_runValue (codeAny_builtin F.entry_proto_collect ?_))
 rw[Around.under_plainId F.plain_proto_collect _]
 show wpAny _ A.in1 (newList [] >>= λl=>again (.builtin "list.__iadd__" ⟨[l,.ref r],[]⟩)) _ _ s
 refine wpAny_bind (wpAny_newObj_type ?_)
 refine wpAny_pure ⟨plainId_quiet F.plain_list_iadd _,codeAny_builtin F.entry_list_iadd ?_⟩
 rw[Around.under_plainId F.plain_list_iadd _]
 show wpAny _ A.in1 (Builtin.List.listExtendWith (.ref s.heap.objs.size) (.ref r) (.ref s.heap.objs.size)) _ _ _
 have hS:(s.heap.push { cls:=.type "list",data:=.seq ([]:List Value).toArray }).get? s.heap.objs.size=some { cls:=.type "list",data:=.seq #[] 0 }:=Heap.get?_push_size _ rfl
 refine wpAny_mono (wpAny_extend_range (A:=A) (R:=λrr s'=>rr=.ok (.ret (.ref s.heap.objs.size))/\∃ h' tk acc' c',(∀ b o,b≠s.heap.objs.size->(s.heap.push { cls:=.type "list",data:=.seq ([]:List Value).toArray }).get? b=some o->h'.get? b=some o) ∧
   h'.get? s.heap.objs.size=some { cls:=.type "list",dict:=none,data:=.seq acc' c',slots:=#[] }/\ItemsOf (λi v=>∃ t,v=.int (a+i * c) t) acc' n/\s'={ s with heap:=h',toks:=tk })
  (s:={ s with heap:=s.heap.push { cls:=.type "list",data:=.seq ([]:List Value).toArray } }) hh (Heap.get?_push_of_some _ hr) hsmall hn hlen s.heap.objs.size (.ref s.heap.objs.size) _ hS λh' tk acc' c' hk hS' hacc=>⟨rfl,h',tk,acc',c',hk,hS',hacc,rfl⟩) (λfin s' h=>?_) (λe s' h=>?_)
 ·have fin':∀ s',(∃ h' tk acc' c',(∀ b o,b≠s.heap.objs.size->(s.heap.push { cls:=.type "list",data:=.seq ([]:List Value).toArray }).get? b=some o->h'.get? b=some o) ∧
    h'.get? s.heap.objs.size=some { cls:=.type "list",dict:=none,data:=.seq acc' c',slots:=#[] }/\ItemsOf (λi v=>∃ t,v=.int (a+i * c) t) acc' n/\s'={ s with heap:=h',toks:=tk }) ->
    wpAny (model prog w) A (match Value.ref s.heap.objs.size with
     |Value.ref a=>do
      match (<-load a).data with
       |Data.seq xs _=>pure xs.toList
       |_=>unsupported "internal:collect"
     |_=>unsupported "internal:collect") Q E s':=by
   rintro s' ⟨h',tk,acc',c',hk,hS',hacc,rfl⟩
   show wpAny _ A (load s.heap.objs.size >>= _) _ _ _
   refine wpAny_bind (wpAny_load hS' ?_)
   refine wpAny_pure ?_
   exact hQ h' tk acc' (λb o' hb=>hk b o' (Nat.ne_of_lt (Heap.lt_size hb)) (Heap.get?_push_of_some _ hb)) hacc
  cases fin with
  |done f=>
   obtain⟨e,h⟩:=h
   cases e
   exact fin' _ h
  |again c'=>exact⟨h.1,codeAny_mono h.2 λrr s'' hr=>by obtain⟨rfl,h⟩:=hr;exact fin' _ h⟩
 ·exact absurd h.1 (by simp)
end
theorem wV {prog:Program}{w:World}(r:Addr){a b c:Int}{t u v:Tok}{n:Nat}(hsmall:Builtin.Range.small a b c=true)(hn:Builtin.Range.rangeSize a b c=n)(hlen:n<=2 ^ 24) :
  MeetsIn prog w (Builtin.«tuple.__new__» ⟨[.type "tuple",.ref r],[]⟩)
   (λA R s=>A.handled=none/\IsRange s.heap r a b c t u v/\∀ (h':Heap) tk (acc':Array Value),(∀ b o',s.heap.get? b=some o'->h'.get? b=some o')->ItemsOf (λi v=>∃ t,v=.int (a+i * c) t) acc' n->R (.ok (.ret (.ref h'.objs.size))) { s with heap:=h'.push { cls:=.type "tuple",data:=.seq acc' },toks:=tk }):=
 .of_wp λA R s h=>by
  obtain⟨hp,g,d,tk0,os⟩:=s;obtain⟨hh,ht,h⟩:=h
  have hsub:=sub_tuple_self
  have hinit:=init_tuple_lookup
  have hmh:=madeHere_tuple
  have hT:Shared.TypeIs ⟨hp,g,d,tk0,os⟩ (.ref r) "range":=⟨_,ht,rfl⟩
  have hh1:A.in1.handled=none:=hh
  wp_walk using AutoSeq1.wpAny_loadPart' ht,wpAny_typeOf hT,vL hh1 ht hsmall hn hlen
  intro h' tk acc' hk hacc
  show wpAny _ _ (Builtin.Tuple.tupleExact acc'.toList.toArray >>= λv=>ret v) _ _ _
  unfold Builtin.Tuple.tupleExact
  refine wpAny_bind (wpAny_newObj_type ?_ (by show acc'.toList.toArray.size<=sizeLine;rw[sizeLine_eq];simpa[hacc.1] using hlen))
  refine wpAny_pure ⟨_,rfl,?_⟩
  have e:acc'.toList.toArray=acc':=by simp
  rw[e]
  exact h h' tk acc' hk hacc
section
variable {X:Cx}{K:PySem.W.Frag}{E:XK}
noncomputable def VO:List V->Hp->VK->Prop:=λxs H Q=>∃ (r:Addr) (j:Int),xs=[.ref r]/\H r=some (.rng 0 j)/\-(2 ^ 62)<=j/\j<2 ^ 62/\j.toNat<=sizeLine/\∀ p,H p=none->Q (.ref p) (upd H p (.tup (xV j.toNat)))
theorem Vw (hc:X.calm=true):CallR X (.type "tuple") VO:=by
 intro pins s σ H xs us Q I r h
 obtain⟨ra,j,rfl,hr,h1,h2,hz,q⟩:=h
 obtain⟨u,rfl,rx⟩:=vals1 r
 cases rx
 obtain⟨t,u,v,hg⟩:=(show ObjOk X.prog X.w H s.heap ra (.rng 0 j) from I.hok ra _ hr)
 have hn:Builtin.Range.rangeSize 0 j 1=j.toNat:=by rw[rangeSize_one];split<;>omega
 refine callType_newIn F.called_tuple (by decide) (F.typeCall_tuple_1 _) (F.newCall_tuple_1 _) (λobj=>F.args_object_init_2 obj _) F.entry_tuple_new
  (wV ra (t:=t) (u:=u) (v:=v) (small_one (by omega) (by omega) h1 h2) hn (by rw[<-show (sizeLine:Nat)=2 ^ 24 from rfl];exact hz)) ⟨I.ok.hd hc,hg,λh' tk acc' hk hacc=>⟨⟨_,Heap.get?_push_size _ rfl,rfl⟩,?_⟩⟩
 have I1:Inv X pins σ H { s with heap:=h',toks:=tk }:=I.kept (t':=tk) hk
 have I2:Inv X pins σ (upd H h'.objs.size (.tup (xV j.toNat))) { s with heap:=h'.push { cls:=.type "tuple",data:=.seq acc' },toks:=tk }:=
  I1.laid (t':=tk) (λb o e=>Heap.get?_push_of_some _ e) (Nat.le_refl _) (show ObjOk X.prog X.w _ _ _ (.tup (xV j.toNat)) from ⟨by unfold xV;simpa using hz,acc'.toList,YV hacc,by simpa using IsTupD.new h' acc'⟩)
 exact⟨.ref h'.objs.size,_,I2,rfl,q _ (I1.hok.fresh (Nat.le_refl _))⟩
theorem QD {te:TE}{m:M D}(he:RE K E te m):RE K E (tCB VO (tCons (zAC (tCons te tNil)) tNil)) (op1 x0 m):=by
 intro G0 H0 ρ σ G H ho
 refine RAt.bind (r2:=λG d v=>Rep K G d v) (t2:=λv σ H1 Q=>∃ j:Int,[v]=[V.int j]/\-(2 ^ 62)<=j/\j<2 ^ 62/\∀ p,H1 p=none->VO [.ref p] (upd H1 p (.rng 0 j)) Q) (he G0 H0 ρ σ G H ho) λd ρ1 v G1 H1 s1 h1 r1=>?_
 refine RAt.opt1 λy e=>?_
 intro Q hQ
 unfold x0 at e
 obtain⟨ds,e1,e2⟩:=Option.bind_eq_some_iff.mp e
 obtain⟨j,rfl,hj,rfl⟩:=Yj e1
 split at e2
 ·rename_i hz
  cases e2
  cases zM.mp r1
  refine⟨j,rfl,hj.1,hj.2,λp hp=>⟨p,j,rfl,upd_same,hj.1,hj.2,?_,λq hq=>?_⟩⟩
  ·have:j.toNat<=1000:=by simpa[yC] using hz
   rw[sizeLine_eq];omega
  ·have h2:=h1.grow (Wp (o:=.rng 0 j) h1.e.s hp) (Same.upd hp)
   have x:=Ext.new (o:=.tup (xV j.toNat)) h2.e.s hq
   exact hQ _ _ _ (x.g) (h2.grow x (Same.upd hq)) (zg.mpr ⟨q,_,rfl,SqT.of upd_same,WB _ _⟩)
 ·cases e2
theorem vn {e:Expr}{m:M D}{p p3 cp cp2:Pos}(hl:X.mg "tuple" = none)(hr:X.mg "range" = none)(h:ME X E e m)(hc:autoParam (X.calm=true) aR._auto_1)
  (hgl:autoParam (Gl X "tuple") aR._auto_1)(hgr:autoParam (Gl X "range") aR._auto_1)(hst:autoParam (starEach [e] X.env=[(false,eval e X.env)]) aR._auto_1)(hst2:autoParam (starEach [.Call (.Name "range" p3) [e] [] cp2] X.env=[(false,eval (.Call (.Name "range" p3) [e] [] cp2) X.env)]) aR._auto_1) :
  ME X E (.Call (.Name "tuple" p) [.Call (.Name "range" p3) [e] [] cp2] [] cp) (op1 x0 m):=by
 obtain⟨t,pe,re⟩:=h
 exact⟨_,pe_callTy (Vw hc) hgl hl (by with_unfolding_all rfl) (pa_cons (uM hgr hr (pa_cons pe pa_nil hst) hst) pa_nil hst2) (by decide) (by decide) hst2 (by rfl),QD re⟩
end
end PM
namespace PM
open PySem PySem.Spec PyProof.Rows L2
section
variable {X:Cx}{E:XK}{e:Expr}{m:M D}{pos p2 p3:Pos}
theorem JA {kk:Nat}(hr:Room kk X.A)(h:ME X E e m) (i:Nat){x:Str}(hN:autoParam (X.N[i]? = some x) aR._auto_1)(hv:autoParam (Vis X.env.scope x) aV._auto_1)(hd:autoParam ((x == ("__debug__" : Str))=false) aD._auto_1)
  (hcd:autoParam ((x == ("__classdict__" : Str))=false) aD._auto_1)(hb:behindInMarks .NotIn (.Name x p2)=false:=by with_unfolding_all rfl):MT X E (.Compare e [.NotIn] [.Name x p2] pos) (zO zQ (Ws i m)):=by
 obtain⟨t,p,r⟩:=h
 exact⟨_,pt_cmp (QG hr p (pe_var hN hv hd hcd)) hb,qD (jm r)⟩
theorem QH {K:PySem.W.Frag}(H:Hp)(x:V)(dx:D)(a:Addr)(ds:List D)(vs:List V)(d:D)(Q:VK)(G:Hp)(s:Same G H)(rx:Rep K G dx x)(ha:H a=some (.lst vs))(rl:zL K G ds vs)(ed:yV dx (.lst ds)=some d)(hQ:∀ v,Rep K G d v->Q v H):jq K true x (.ref a) H Q:=by
 unfold yV at ed
 dsimp only [D.items?]at ed
 split at ed
 ·rename_i h
  cases ed
  simp only[Bool.and_eq_true,decide_eq_true_eq]at h
  exact⟨dx,ds,a,vs,rfl,.inl (SqL.of ha),rl.mono s,rx.mono s,h.1.1,h.1.2,h.2,hQ _ (ZZ.mpr rfl)⟩
 ·cases ed
theorem QP {kk:Nat}(hr:Room kk X.A)(h:ME X E e m) (i:Nat){x:Str}(hN:autoParam (X.N[i]? = some x) aR._auto_1)(hv:autoParam (Vis X.env.scope x) aV._auto_1)(hd:autoParam ((x == ("__debug__" : Str))=false) aD._auto_1)
  (hcd:autoParam ((x == ("__classdict__" : Str))=false) aD._auto_1)(hb:behindInMarks .NotIn (.Name x p2)=false:=by with_unfolding_all rfl):MT X E (.Compare e [.NotIn] [.Name x p2] pos) (zO zQ (inO yV m i)):=by
 obtain⟨t,p,r⟩:=h
 exact⟨_,pt_cmpR (vd hr) p (pe_var hN hv hd hcd) hb,qA (zAT r vc QH)⟩
theorem QZ {k:Nat}{ps:List Str}{F:List D->FR}{x:Str}{p:Pos}(G:Fk X.prog X.w X.K X.mg X.base k x ps 0 F)(hr:Room k X.A)(hx:Passes (CX1 X.prog X.w) X E)
  (hg:autoParam (Gl X x) aR._auto_1)(hdb:autoParam ((x == ("__debug__" : Str))=false) aD._auto_1):ME X E (.Call (.Name x p) [] [] pos) (zK F []):=by
 obtain⟨f,fd,G,hm,hk,hb⟩:=G
 exact⟨_,pe_call0 G hr hg hm hk hb .nil hx hdb,qG UQ rfl⟩
end
end PM
namespace PM
open PySem
inductive Res.wp {α:Type}:Res α->(α->Rho->Prop)->(Addr->Prop)->Prop where
 |ok {a:α}{ρ:Rho}{Q:α->Rho->Prop}{X:Addr->Prop}(h:Q a ρ):Res.wp (.ok a ρ) Q X
 |exn {c:Addr}{ρ:Rho}{Q:α->Rho->Prop}{X:Addr->Prop}(h:X c):Res.wp (.exn c ρ) Q X
section
variable {α β:Type}{Q:α->Rho->Prop}{R:β->Rho->Prop}{X:Addr->Prop}
theorem wt (a:α)(ρ:Rho):(Res.ok a ρ).wp Q X=Q a ρ:=propext ⟨λh=>by cases h;assumption,.ok⟩
theorem UI (c:Addr)(ρ:Rho):(Res.exn c ρ:Res α).wp Q X=X c:=propext ⟨λh=>by cases h;assumption,.exn⟩
theorem jB:(Res.bad:Res α).wp Q X=False:=propext ⟨λh=>(by cases h),False.elim⟩
theorem v8 (r:Res α)(k:α->Rho->Res β):(r.bnd k).wp R X=r.wp (λa ρ=>(k a ρ).wp R X) X:=by
 cases r<;>simp only[Res.bnd,wt,UI,jB]
theorem K3 (c:Prop) [Decidable c] (a b:Res α):(if c then a else b).wp Q X=if c then a.wp Q X else b.wp Q X:=by split<;>rfl
theorem Res.wp.mono {r:Res α}{Q':α->Rho->Prop}{X':Addr->Prop}(h:r.wp Q X)(hq:∀ a ρ,Q a ρ->Q' a ρ)(hx:∀ c,X c->X' c):r.wp Q' X':=by
 cases h with
 |ok h=>exact .ok (hq _ _ h)
 |exn h=>exact .exn (hx _ h)
theorem zV {r:Res α}{a:α}{ρ:Rho}(e:r=.ok a ρ)(h:Q a ρ):r.wp Q X:=by rw[e];exact .ok h
end
inductive FR.wp:FR->(D->Prop)->(Addr->Prop)->Prop where
 |ok {d:D}{Q:D->Prop}{X:Addr->Prop}(h:Q d):FR.wp (.ok d) Q X
 |exn {c:Addr}{Q:D->Prop}{X:Addr->Prop}(h:X c):FR.wp (.exn c) Q X
theorem FR.ok_of {r:FR}{d:D}(h:r.wp (λx=>x=d) λ_=>False):r=.ok d:=by
 cases h with
 |ok h=>exact congrArg _ h
 |exn h=>exact h.elim
theorem FR.exn_of {r:FR}{c:Addr}(h:r.wp (λ_=>False) λx=>x=c):r=.exn c:=by
 cases h with
 |ok h=>exact h.elim
 |exn h=>exact congrArg _ h
noncomputable def Fl.fin (Q:D->Prop):Fl->Rho->Prop
 |.nx,_=>Q .non
 |.ret d,_=>Q d
 |_,_=>False
theorem yo {n:Nat}{b:M Fl}{args:List D}{Q:D->Prop}{X:Addr->Prop}(h:(b (ZJ n args)).wp (Fl.fin Q) X):(ZS n b args).wp Q X:=by
 unfold ZS
 generalize b (ZJ n args)=r at h
 cases h with
 |@ok f ρ _ _ h=>
  cases f with
  |nx=>exact .ok h
  |ret d=>exact .ok h
  |brk=>exact h.elim
  |cont=>exact h.elim
 |exn h=>exact .exn h
theorem ZE {n:Nat}{b:M Fl}{args:List D}{d:D}(h:(b (ZJ n args)).wp (Fl.fin (· = d)) λ_=>False):ZS n b args=.ok d:=FR.ok_of (yo h)
theorem to_ok (d:D)(ρ:Rho):(FR.ok d).to ρ=.ok d ρ:=rfl
theorem to_exn (d:Addr)(ρ:Rho):(FR.exn d).to ρ=.exn d ρ:=rfl
section
variable {g:GM}{b:M Fl}{Q:Fl->Rho->Prop}{X:Addr->Prop}
noncomputable def xz (J:Rho->Prop)(Q:Fl->Rho->Prop):Fl->Rho->Prop
 |.nx,ρ=>J ρ
 |.cont,ρ=>J ρ
 |.brk,ρ=>Q .nx ρ
 |.ret d,ρ=>Q (.ret d) ρ
theorem U0 {J:Rho->Prop}{go:M Fl}{r:Res Fl}(h:r.wp (xz J Q) X)(hj:∀ ρ,J ρ->(go ρ).wp Q X):(r.bnd λf ρ=>Yt f ρ go).wp Q X:=by
 rw[v8]
 refine h.mono (λf ρ q=>?_) λ_ q=>q
 cases f with
 |nx=>exact hj ρ q
 |cont=>exact hj ρ q
 |brk=>exact .ok q
 |ret d=>exact .ok q
theorem U1 {ds:List D}{ρ:Rho}(J:Nat->Rho->Prop)(h0:J 0 ρ)(hs:∀ (i:Nat)(d:D)(ρ:Rho),ds[i]? = some d->J i ρ->∃ ρ1,g d ρ=some ρ1/\(b ρ1).wp (xz (J (i+1)) Q) X)
  (he:∀ ρ,J ds.length ρ->Q .nx ρ):(ZG g b ds ρ).wp Q X:=by
 induction ds generalizing ρ J with
 |nil=>exact .ok (he ρ h0)
 |cons d ds ih=>
  unfold ZG
  obtain⟨ρ1,e,w⟩:=hs 0 d ρ rfl h0
  rw[v8,e]
  rw[show zU (some ρ1) ρ=.ok ρ1 ρ from rfl,wt]
  exact U0 w λρ2 j=>ih (λi=>J (i+1)) j (λi d ρ hd hj=>hs (i+1) d ρ (by simpa using hd) hj) λρ hj=>he ρ (by simpa using hj)
theorem YB {α:Type}{f:α->D}{xs:List α}{ρ:Rho}(J:Nat->Rho->Prop)(h0:J 0 ρ)(hs:∀ (i:Nat)(x:α)(ρ:Rho),xs[i]? = some x->J i ρ->∃ ρ1,g (f x) ρ=some ρ1/\(b ρ1).wp (xz (J (i+1)) Q) X)
  (he:∀ ρ,J xs.length ρ->Q .nx ρ):(ZG g b (xs.map f) ρ).wp Q X:=by
 refine U1 J h0 (λi d ρ hd hj=>?_) λρ hj=>he ρ (by simpa using hj)
 rw[List.getElem?_map]at hd
 cases q:xs[i]? with
 |none=>rw[q]at hd;cases hd
 |some x=>rw[q]at hd;cases hd;exact hs i x ρ q hj
theorem Yd {n:Nat}{ρ:Rho}(J:Nat->Rho->Prop)(h0:J 0 ρ)(hs:∀ (i:Nat)(ρ:Rho),i<n->J i ρ->∃ ρ1,g (.int i) ρ=some ρ1/\(b ρ1).wp (xz (J (i+1)) Q) X)
  (he:∀ ρ,J n ρ->Q .nx ρ):(ZG g b (yC n) ρ).wp Q X:=by
 unfold yC
 refine YB J h0 (λi x ρ hx hj=>?_) λρ hj=>he ρ (by simpa using hj)
 have hi:i<n:=by simpa using (List.getElem?_eq_some_iff.mp hx).1
 have:x=i:=by rw[List.getElem?_range hi]at hx;exact (Option.some.inj hx).symm
 subst this
 exact hs _ ρ hi hj
theorem V1 {c:M Bool}{n:Nat}{ρ:Rho}(J:Nat->Rho->Prop) (k:Nat)(hk:k<n)(h0:J k ρ)
  (hs:∀ (i:Nat)(ρ:Rho),J i ρ->(c ρ).wp (λt ρ1=>if t=true then (b ρ1).wp (xz (λρ2=>∃ j,j<i/\J j ρ2) Q) X else Q .nx ρ1) X):(yh c b n ρ).wp Q X:=by
 induction n generalizing k ρ with
 |zero=>exact absurd hk (Nat.not_lt_zero _)
 |succ n ih=>
  unfold yh
  rw[v8]
  refine (hs k ρ h0).mono (λt ρ1 q=>?_) λ_ q=>q
  cases t with
  |true=>
   rw[if_pos rfl]at q ⊢
   exact U0 q λρ2 ⟨j,hj,jj⟩=>ih j (by omega) jj
  |false=>
   rw[if_neg (by simp)]at q ⊢
   exact .ok q
end
section
variable {e:M D}{c:M Bool}
theorem xR (a:Slot)(caps:List Slot)(s:Slot):([a]++caps++[s])[1+caps.length]? = some s:=by
 rw[List.getElem?_append_right (by simp;omega)]
 simp[Nat.add_comm]
theorem W6 (a:Slot)(caps:List Slot)(s t:Slot):([a]++caps++[s]).set (1+caps.length) t=[a]++caps++[t]:=by
 rw[List.set_append_right _ _ (by simp;omega)]
 simp[Nat.add_comm]
theorem vz {caps:List Slot}{f:D->D}:∀ {ds:List D}{acc:List D}{a:Slot},acc.length+ds.length<=sizeLine->(∀ d ∈ ds,∀ acc,e ([.fz d]++caps++[.own acc])=.ok (f d) ([.fz d]++caps++[.own acc])) ->
  ∃ a',ZG (ZC 0) (ym (1+caps.length) none e) ds ([a]++caps++[.own acc])=.ok .nx ([a']++caps++[.own (acc++ds.map f)])
 |[],acc,a,_,_=>⟨a,by simp[ZG]⟩
 |d::ds,acc,a,hl,h=>by
  obtain⟨a',e'⟩:=vz (caps:=caps) (f:=f) (ds:=ds) (acc:=acc++[f d]) (a:=.fz d) (by simp at hl ⊢;omega) (λx hx=>h x (List.mem_cons_of_mem _ hx))
  refine⟨a',?_⟩
  have h1:acc.length<sizeLine:=by simp at hl;omega
  have hd:=h d List.mem_cons_self acc
  unfold ZG
  have g1:ZC 0 d ([a]++caps++[.own acc])=some ([.fz d]++caps++[.own acc]):=by simp[ZC]
  have ap:ym (1+caps.length) none e ([.fz d]++caps++[.own acc])=.ok .nx ([.fz d]++caps++[.own (acc++[f d])]):=by
   unfold ym ZT
   simp only[xR,xI,zd,Res.bnd_ok,hd,if_pos h1,W6]
  rw[g1,zd,Res.bnd_ok,ap,Res.bnd_ok]
  unfold Yt
  dsimp only
  rw[e']
  simp
theorem xC {caps:List Slot}{idx:List Nat}{ds:List D}{ρ ρ':Rho}{mi:M (List D)}(f:D->D)(hm:mi ρ=.ok ds ρ')(hc:(idx.map λi=>Vv (ρ'.getD i .un))=caps)(hl:ds.length<=sizeLine)
  (h:∀ d ∈ ds,∀ acc,e ([.fz d]++caps++[.own acc])=.ok (f d) ([.fz d]++caps++[.own acc])) :
  yU mi 1 idx (ZC 0) none e ρ=.ok (.lst (ds.map f)) ρ':=by
 have hi:idx.length=caps.length:=by rw[<-hc];simp
 unfold yU
 rw[hm,Res.bnd_ok,hi]
 have eb:y6 1 idx ρ'=[.un]++caps++[.own []]:=by unfold y6;rw[hc];rfl
 obtain⟨a',e'⟩:=vz (caps:=caps) (f:=f) (ds:=ds) (acc:=[]) (a:=.un) (by simpa using hl) h
 rw[eb,e']
 unfold wS
 dsimp only
 rw[xR,xI,zd,Res.bnd_ok]
 simp
theorem xq {caps:List Slot}{f:D->D}{p:D->Bool}:∀ {ds:List D}{acc:List D}{a:Slot},acc.length+ds.length<=sizeLine ->
  (∀ d ∈ ds,∀ acc,c ([.fz d]++caps++[.own acc])=.ok (p d) ([.fz d]++caps++[.own acc]))->(∀ d ∈ ds,∀ acc,p d=true->e ([.fz d]++caps++[.own acc])=.ok (f d) ([.fz d]++caps++[.own acc])) ->
  ∃ a',ZG (ZC 0) (ym (1+caps.length) (some c) e) ds ([a]++caps++[.own acc])=.ok .nx ([a']++caps++[.own (acc++(ds.filter p).map f)])
 |[],acc,a,_,_,_=>⟨a,by simp[ZG]⟩
 |d::ds,acc,a,hl,hc,h=>by
  have h1:acc.length<sizeLine:=by simp at hl;omega
  have g1:ZC 0 d ([a]++caps++[.own acc])=some ([.fz d]++caps++[.own acc]):=by simp[ZC]
  have hcd:=hc d List.mem_cons_self acc
  by_cases hp:p d=true
  ·obtain⟨a',e'⟩:=xq (caps:=caps) (f:=f) (p:=p) (ds:=ds) (acc:=acc++[f d]) (a:=.fz d) (by simp at hl ⊢;omega) (λx hx=>hc x (List.mem_cons_of_mem _ hx)) (λx hx=>h x (List.mem_cons_of_mem _ hx))
   refine⟨a',?_⟩
   have hd:=h d List.mem_cons_self acc hp
   have ap:ym (1+caps.length) (some c) e ([.fz d]++caps++[.own acc])=.ok .nx ([.fz d]++caps++[.own (acc++[f d])]):=by
    unfold ym ifM ZT
    simp only[hcd,hp,xR,xI,zd,Res.bnd_ok,hd,if_pos h1,W6,if_true]
   unfold ZG
   rw[g1,zd,Res.bnd_ok,ap,Res.bnd_ok]
   unfold Yt
   dsimp only
   rw[e']
   simp[hp]
  ·obtain⟨a',e'⟩:=xq (caps:=caps) (f:=f) (p:=p) (ds:=ds) (acc:=acc) (a:=.fz d) (by simp at hl ⊢;omega) (λx hx=>hc x (List.mem_cons_of_mem _ hx)) (λx hx=>h x (List.mem_cons_of_mem _ hx))
   refine⟨a',?_⟩
   have hp':p d=false:=by simpa using hp
   have ap:ym (1+caps.length) (some c) e ([.fz d]++caps++[.own acc])=.ok .nx ([.fz d]++caps++[.own acc]):=by
    unfold ym ifM
    simp[hcd,hp',Res.bnd_ok,nxM]
    simp only[List.singleton_append]at hcd
    rw[show (Slot.fz d::(caps++[Slot.own acc]))=[.fz d]++caps++[.own acc] by simp,hc d List.mem_cons_self acc]
    simp[Res.bnd_ok,hp']
   unfold ZG
   rw[g1,zd,Res.bnd_ok,ap,Res.bnd_ok]
   unfold Yt
   dsimp only
   rw[e']
   simp[hp']
theorem w5 {caps:List Slot}{idx:List Nat}{ds:List D}{ρ ρ':Rho}{mi:M (List D)}{own:Bool}{i:Nat}(p:D->Bool)(f:D->D)(hm:mi ρ=.ok ds ρ')(hc:(idx.map λi=>Vv (ρ'.getD i .un))=caps)(hl:ds.length<=sizeLine)
  (hp:∀ d ∈ ds,∀ acc,c ([.fz d]++caps++[.own acc])=.ok (p d) ([.fz d]++caps++[.own acc]))(h:∀ d ∈ ds,∀ acc,p d=true->e ([.fz d]++caps++[.own acc])=.ok (f d) ([.fz d]++caps++[.own acc])) :
  yc own i mi 1 idx (ZC 0) (some c) e ρ=.ok .nx (ρ'.set i (if own then .own ((ds.filter p).map f) else .fz (.lst ((ds.filter p).map f)))):=by
 have hi:idx.length=caps.length:=by rw[<-hc];simp
 unfold yc
 rw[hm,Res.bnd_ok,hi]
 have eb:y6 1 idx ρ'=[.un]++caps++[.own []]:=by unfold y6;rw[hc];rfl
 obtain⟨a',e'⟩:=xq (caps:=caps) (f:=f) (p:=p) (ds:=ds) (acc:=[]) (a:=.un) (by simpa using hl) hp h
 rw[eb,e']
 unfold wS
 dsimp only
 rw[xR,xI,zd,Res.bnd_ok]
 simp
end
end PM
namespace PM
open PySem
inductive oP {α:Type}:Option α->(α->Prop)->Prop where
 |mk {a:α}{Q:α->Prop}(h:Q a):oP (some a) Q
@[simp] theorem oP_some {α:Type}(a:α)(Q:α->Prop):oP (some a) Q=Q a:=propext ⟨λh=>by cases h;assumption,.mk⟩
@[simp] theorem oP_none {α:Type}(Q:α->Prop):oP none Q=False:=propext ⟨λh=>(by cases h),False.elim⟩
theorem Wk {Q:D->Prop}{X:Addr->Prop}(d:D):(FR.ok d).wp Q X=Q d:=propext ⟨λh=>by cases h;assumption,.ok⟩
theorem Xd {Q:D->Prop}{X:Addr->Prop}(d:Addr):(FR.exn d).wp Q X=X d:=propext ⟨λh=>by cases h;assumption,.exn⟩
theorem wn {Q:D->Prop}{X:Addr->Prop}:(FR.bad).wp Q X=False:=propext ⟨λh=>(by cases h),False.elim⟩
section
variable {α β:Type}{Q:α->Rho->Prop}{X:Addr->Prop}{ρ:Rho}{a b:M D}{c d:M Bool}{s t:M Fl}{i:Nat}{R:Fl->Rho->Prop}{S:D->Rho->Prop}{U:Bool->Rho->Prop}
@[simp] theorem p_ok (a:α)(ρ:Rho):(Res.ok a ρ).wp Q X=Q a ρ:=wt a ρ
@[simp] theorem p_exn (c:Addr)(ρ:Rho):(Res.exn c ρ:Res α).wp Q X=X c:=UI c ρ
@[simp] theorem p_bad:(Res.bad:Res α).wp Q X=False:=jB
@[simp] theorem p_bnd {R:β->Rho->Prop}(r:Res α)(k:α->Rho->Res β):(r.bnd k).wp R X=r.wp (λa ρ=>(k a ρ).wp R X) X:=v8 r k
@[simp] theorem p_opt (o:Option α)(ρ:Rho):(zU o ρ).wp Q X=oP o λa=>Q a ρ:=by cases o<;>simp[zU]
@[simp] theorem p_ite (c:Prop) [Decidable c] (a b:Res α):(if c then a else b).wp Q X=if c then a.wp Q X else b.wp Q X:=K3 c a b
@[simp] theorem p_seq:(zG s t ρ).wp R X=(s ρ).wp (λf ρ=>if f.isNx=true then (t ρ).wp R X else R f ρ) X:=by
 unfold zG;simp
theorem K2 (J:Rho->Prop)(h:(s ρ).wp (λf ρ=>f=.nx/\J ρ) X)(k:∀ ρ,J ρ->(t ρ).wp R X):(zG s t ρ).wp R X:=by
 rw[p_seq]
 refine h.mono (λf ρ q=>?_) λ_ q=>q
 obtain⟨rfl,j⟩:=q
 rw[if_pos (show Fl.nx.isNx=true from rfl)]
 exact k ρ j
@[simp] theorem p_vM:(vM i ρ).wp S X=oP (KO ρ[i]?) λd=>S d ρ:=by unfold vM;simp
@[simp] theorem p_cM {d:D}:(cM d ρ).wp S X=S d ρ:=wt _ _
@[simp] theorem p_op2 {f:D->D->Option D}:(op2 f a b ρ).wp S X=(a ρ).wp (λx ρ=>(b ρ).wp (λy ρ=>oP (f x y) λd=>S d ρ) X) X:=by unfold op2;simp
@[simp] theorem p_op1 {f:D->Option D}:(op1 f a ρ).wp S X=(a ρ).wp (λx ρ=>oP (f x) λd=>S d ρ) X:=by unfold op1;simp
@[simp] theorem p_test {f:D->Option Bool}:(zO f a ρ).wp U X=(a ρ).wp (λx ρ=>oP (f x) λd=>U d ρ) X:=by unfold zO;simp
@[simp] theorem p_or:(orM c d ρ).wp U X=(c ρ).wp (λx ρ=>if x=true then U true ρ else (d ρ).wp U X) X:=by unfold orM;simp
@[simp] theorem p_not:(Xw c ρ).wp U X=(c ρ).wp (λx ρ=>U (!x) ρ) X:=by unfold Xw;simp
@[simp] theorem p_andV:(W9 a b ρ).wp S X=(a ρ).wp (λx ρ=>oP (zQ x) λk=>if k=true then (b ρ).wp S X else S (.bl false) ρ) X:=by unfold W9;simp
@[simp] theorem p_orV:(orV a b ρ).wp S X=(a ρ).wp (λx ρ=>oP (zQ x) λk=>if k=true then S (.bl true) ρ else (b ρ).wp S X) X:=by unfold orV;simp
@[simp] theorem p_notV:(WQ a ρ).wp S X=(a ρ).wp (λx ρ=>oP (zQ x) λk=>S (.bl (!k)) ρ) X:=by unfold WQ;simp
@[simp] theorem p_iteM:(YY c a b ρ).wp S X=(c ρ).wp (λx ρ=>if x=true then (a ρ).wp S X else (b ρ).wp S X) X:=by unfold YY;simp
@[simp] theorem p_args0 {R:List D->Rho->Prop}:(zm [] ρ).wp R X=R [] ρ:=wt _ _
@[simp] theorem p_args {as:List (M D)}{R:List D->Rho->Prop}:(zm (a::as) ρ).wp R X=(a ρ).wp (λx ρ=>(zm as ρ).wp (λxs ρ=>R (x::xs) ρ) X) X:=by rw[show zm (a::as) ρ=(a ρ).bnd λx ρ=>(zm as ρ).bnd λxs ρ=>.ok (x::xs) ρ from rfl];simp only[p_bnd,p_ok]
@[simp] theorem p_callB {f:List D->Option D}{as:List (M D)}:(za f as ρ).wp S X=(zm as ρ).wp (λxs ρ=>oP (f xs) λd=>S d ρ) X:=by unfold za;simp
@[simp] theorem p_callM {F:List D->FR}{as:List (M D)}:(zK F as ρ).wp S X=(zm as ρ).wp (λxs ρ=>(F xs).wp (λd=>S d ρ) X) X:=by
 unfold zK
 simp only[p_bnd]
 congr 1
 funext xs ρ
 cases F xs<;>simp[FR.to,Wk,Xd,wn]
@[simp] theorem p_tup {as:List (M D)}:(ZP as ρ).wp S X=(zm as ρ).wp (λxs ρ=>xs.length<=sizeLine/\S (.tup xs) ρ) X:=by
 unfold ZP
 simp only[p_bnd]
 congr 1
 funext xs ρ
 by_cases h:xs.length<=sizeLine<;>simp[h]
@[simp] theorem p_lst {as:List (M D)}:(lstM as ρ).wp S X=(zm as ρ).wp (λxs ρ=>xs.length<=sizeLine/\S (.lst xs) ρ) X:=by
 unfold lstM
 simp only[p_bnd]
 congr 1
 funext xs ρ
 by_cases h:xs.length<=sizeLine<;>simp[h]
@[simp] theorem p_part0 {R:Option Int->Rho->Prop}:(XN none ρ).wp R X=R none ρ:=wt _ _
@[simp] theorem p_part1 {R:Option Int->Rho->Prop}:(XN (some a) ρ).wp R X=(a ρ).wp (λx ρ=>oP (Xa x) λk=>R (some k) ρ) X:=by unfold XN;simp
@[simp] theorem p_slice {lo hi:Option (M D)}:(Xo a lo hi ρ).wp S X=(a ρ).wp (λx ρ=>(XN lo ρ).wp (λl ρ=>(XN hi ρ).wp (λh ρ=>oP (slD x l h) λd=>S d ρ) X) X) X:=by unfold Xo;simp
@[simp] theorem p_set:(zy i a ρ).wp R X=(a ρ).wp (λx ρ=>R .nx (ρ.set i (.fz x))) X:=by unfold zy;simp
@[simp] theorem p_ret:(zz a ρ).wp R X=(a ρ).wp (λx ρ=>R (.ret x) ρ) X:=by unfold zz;simp
@[simp] theorem p_expr:(yf a ρ).wp R X=(a ρ).wp (λx ρ=>R .nx ρ) X:=by unfold yf;simp
@[simp] theorem p_nx:(nxM ρ).wp R X=R .nx ρ:=wt _ _
@[simp] theorem p_if:(ifM c s t ρ).wp R X=(c ρ).wp (λx ρ=>if x=true then (s ρ).wp R X else (t ρ).wp R X) X:=by unfold ifM;simp
@[simp] theorem p_new {as:List (M D)}:(yw i as ρ).wp R X=(zm as ρ).wp (λxs ρ=>xs.length<=sizeLine/\R .nx (ρ.set i (.own xs))) X:=by
 unfold yw
 simp only[p_bnd]
 congr 1
 funext xs ρ
 by_cases h:xs.length<=sizeLine<;>simp[h]
@[simp] theorem p_frz:(yk i s ρ).wp R X=oP (zY ρ[i]?) λds=>(s (ρ.set i (.fz (.lst ds)))).wp R X:=by unfold yk;simp
@[simp] theorem p_app:(ZT i a ρ).wp R X=oP (zY ρ[i]?) λds=>(a ρ).wp (λx ρ=>oP (zY ρ[i]?) λds=>ds.length<sizeLine/\R .nx (ρ.set i (.own (ds++[x])))) X:=by
 unfold ZT
 simp only[p_bnd,p_opt]
 congr 1
 funext ds
 congr 2
 funext x ρ
 congr 1
 funext ds
 by_cases h:ds.length<sizeLine<;>simp[h]
@[simp] theorem p_lenO:(Zr i ρ).wp S X=oP (zY ρ[i]?) λds=>S (.int ds.length) ρ:=by unfold Zr;simp
@[simp] theorem p_ixO:(ixO i a ρ).wp S X=oP (zY ρ[i]?) λds=>(a ρ).wp (λx ρ=>oP (zY ρ[i]?) λds=>oP (ixD (.lst ds) x) λd=>S d ρ) X:=by unfold ixO;simp
@[simp] theorem p_truO:(qv i ρ).wp U X=oP (zY ρ[i]?) λds=>U (!ds.isEmpty) ρ:=by unfold qv;simp
@[simp] theorem p_inO {f:D->D->Option D}:(inO f a i ρ).wp S X=(a ρ).wp (λx ρ=>oP (zY ρ[i]?) λds=>oP (f x (.lst ds)) λd=>S d ρ) X:=by unfold inO;simp
@[simp] theorem p_popAtO:(YN i a ρ).wp S X=oP (zY ρ[i]?) λds=>(a ρ).wp (λx ρ=>oP (zY ρ[i]?) λds=>oP (Xa x) λk=>oP ((if ds.length<=sizeLine then Yp ds.length k else none)) λj=>oP (ds[j]?) λy=>S y (ρ.set i (.own (ds.eraseIdx j)))) X:=by
 unfold YN;simp only[p_bnd,p_opt,p_ok]
@[simp] theorem p_setIx {b:M D}:(xb i a b ρ).wp R X=(b ρ).wp (λy ρ=>oP (zY ρ[i]?) λds=>(a ρ).wp (λx ρ=>oP (zY ρ[i]?) λds=>oP (Xa x) λk=>oP (Yp ds.length k) λj=>R .nx (ρ.set i (.own (ds.set j y)))) X) X:=by
 unfold xb;simp only[p_bnd,p_opt,p_ok]
@[simp] theorem p_asg {g:GM}:(wZ a g ρ).wp R X=(a ρ).wp (λx ρ=>oP (g x ρ) λρ'=>R .nx ρ') X:=by
 unfold wZ;simp only[p_bnd,p_opt,p_ok]
@[simp] theorem p_forE {items:D->Option (List D)}{g:GM}:(YT a items g s ρ).wp R X=(a ρ).wp (λx ρ=>oP (items x) λds=>(ZG g s ds ρ).wp R X) X:=by unfold YT;simp
@[simp] theorem p_forR {g:GM}:(Ya a g s ρ).wp R X=(a ρ).wp (λx ρ=>oP (Za x) λds=>(ZG g s ds ρ).wp R X) X:=by unfold Ya;simp
@[simp] theorem p_newRange:(yW i a ρ).wp R X=(a ρ).wp (λx ρ=>oP (Za x) λds=>ds.length<=sizeLine/\R .nx (ρ.set i (.own ds))) X:=by
 unfold yW
 simp only[p_bnd,p_opt]
 congr 1
 funext x ρ
 congr 1
 funext ds
 by_cases h:ds.length<=sizeLine<;>simp[h]
@[simp] theorem p_methT {f:D->D->Option D}{b:M D}:(vm f a b ρ).wp S X=(a ρ).wp (λx ρ=>oP (Y1 x) λ_=>(b ρ).wp (λy ρ=>oP (f x y) λd=>S d ρ) X) X:=by
 unfold vm;simp only[p_bnd,p_opt]
@[simp] theorem p_methO {f:D->D->Option D}:(XW f i a ρ).wp S X=oP (zY ρ[i]?) λds=>(a ρ).wp (λx ρ=>oP (zY ρ[i]?) λds=>oP (f (.lst ds) x) λd=>S d ρ) X:=by
 unfold XW;simp only[p_bnd,p_opt,p_ok]
@[simp] theorem p_raise {c:Addr}:(Zj c ρ).wp R X=X c:=UI _ _
@[simp] theorem fz_fz (d:D):KO (some (.fz d))=some d:=rfl
@[simp] theorem own_own (d:List D):zY (some (.own d))=some d:=rfl
@[simp] theorem nx_nx:Fl.nx.isNx=true:=rfl
@[simp] theorem nx_ret (d:D):(Fl.ret d).isNx=false:=rfl
@[simp] theorem nx_brk:Fl.brk.isNx=false:=rfl
@[simp] theorem nx_cont:Fl.cont.isNx=false:=rfl
@[simp] theorem fin_ret {Q:D->Prop}(d:D)(ρ:Rho):Fl.fin Q (.ret d) ρ=Q d:=propext Iff.rfl
@[simp] theorem fin_nx {Q:D->Prop}(ρ:Rho):Fl.fin Q .nx ρ=Q .non:=propext Iff.rfl
@[simp] theorem turn_nx {J:Rho->Prop}(ρ:Rho):xz J R .nx ρ=J ρ:=propext Iff.rfl
@[simp] theorem turn_ret {J:Rho->Prop}(d:D)(ρ:Rho):xz J R (.ret d) ρ=R (.ret d) ρ:=propext Iff.rfl
@[simp] theorem turn_brk {J:Rho->Prop}(ρ:Rho):xz J R .brk ρ=R .nx ρ:=propext Iff.rfl
@[simp] theorem turn_cont {J:Rho->Prop}(ρ:Rho):xz J R .cont ρ=J ρ:=propext Iff.rfl
@[simp] theorem fr_ok {Q:D->Prop}(d:D):(FR.ok d).wp Q X=Q d:=Wk d
@[simp] theorem fr_exn {Q:D->Prop}(d:Addr):(FR.exn d).wp Q X=X d:=Xd d
end
@[simp] theorem sizeLine_eq:sizeLine=16777216:=by decide
@[simp] theorem s_mod (a b:Int)(h:0<b):Zq (.int a) (.int b)=some (.int (a % b)):=by show (if _ then _ else _)=_;rw[if_pos h]
@[simp] theorem s_fdiv (a b:Int)(h:0<b/\b<1073741824):Zv (.int a) (.int b)=some (.int (a / b)):=by show (if _ then _ else _)=_;rw[if_pos h]
@[simp] theorem s_add (a b:Int):zl (.int a) (.int b)=some (.int (a+b)):=rfl
@[simp] theorem s_sub (a b:Int):V2 (.int a) (.int b)=some (.int (a - b)):=rfl
@[simp] theorem s_neg (a:Int):WS (.int a)=some (.int (-a)):=rfl
theorem U8 (a b:Int)(h:(-(2 ^ 64)<a/\a<2 ^ 64)\/(-(2 ^ 64)<b/\b<2 ^ 64)):yx (.int a) (.int b)=some (.int (a * b)):=by show (if _ then _ else _)=_;rw[if_pos h]
@[simp] theorem s_mulL (a b:Int) (h : -(2 ^ 64)<a/\a<2 ^ 64):yx (.int a) (.int b)=some (.int (a * b)):=U8 a b (.inl h)
@[simp] theorem s_mulR (a b:Int) (h : -(2 ^ 64)<b/\b<2 ^ 64):yx (.int a) (.int b)=some (.int (a * b)):=U8 a b (.inr h)
@[simp] theorem s_lt (a b:Int):ltD (.int a) (.int b)=some (.bl (decide (a<b))):=rfl
@[simp] theorem s_le (a b:Int):leD (.int a) (.int b)=some (.bl (decide (a<=b))):=rfl
@[simp] theorem s_gt (a b:Int):gtD (.int a) (.int b)=some (.bl (decide (b<a))):=rfl
@[simp] theorem s_ge (a b:Int):geD (.int a) (.int b)=some (.bl (decide (b<=a))):=rfl
@[simp] theorem s_eq (a b:Int):eqD (.int a) (.int b)=some (.bl (decide (a=b))):=by simp[eqD,D.plain,D.deep,D.eqv];rfl
@[simp] theorem s_ne (a b:Int):neD (.int a) (.int b)=some (.bl (!decide (a=b))):=by simp[neD,D.plain,D.deep,D.eqv];rfl
@[simp] theorem s_lenL (a:List D):yX (.lst a)=some (.int a.length):=rfl
@[simp] theorem s_lenT (a:List D):yX (.tup a)=some (.int a.length):=rfl
@[simp] theorem s_arg1 (f:D->Option D)(x:D):zx f [x]=f x:=rfl
@[simp] theorem s_ixL (a:List D) (i:Int):ixD (.lst a) (.int i)=atD a i:=rfl
@[simp] theorem s_ixT (a:List D) (i:Int):ixD (.tup a) (.int i)=atD a i:=rfl
@[simp] theorem s_boolB (b:Bool):zQ (.bl b)=some b:=rfl
@[simp] theorem s_truB (b:Bool):YL (.bl b)=some b:=rfl
@[simp] theorem s_truL (b:List D):YL (.lst b)=some (!b.isEmpty):=rfl
@[simp] theorem s_lstOf (b:List D):yB (.lst b)=some b:=rfl
@[simp] theorem s_tupOf (b:List D):Y1 (.tup b)=some b:=rfl
@[simp] theorem s_intOf (b:Int):Xa (.int b)=some b:=rfl
@[simp] theorem s_asIntB (b:Bool):Xj (.bl b)=some (.int (if b then 1 else 0)):=rfl
@[simp] theorem s_asIntI (b:Int):Xj (.int b)=some (.int b):=rfl
@[simp] theorem s_listL (b:List D):yy (.lst b)=some (.lst b):=rfl
@[simp] theorem s_listT (b:List D):yy (.tup b)=some (.lst b):=rfl
@[simp] theorem s_tupleL (b:List D):tupleD (.lst b)=some (.tup b):=rfl
@[simp] theorem s_tupleT (b:List D):tupleD (.tup b)=some (.tup b):=rfl
@[simp] theorem s_slL (b:List D)(lo hi:Option Int):slD (.lst b) lo hi=some (.lst (cut b lo hi)):=rfl
@[simp] theorem s_slT (b:List D)(lo hi:Option Int):slD (.tup b) lo hi=some (.tup (cut b lo hi)):=rfl
@[simp] theorem s_range (j:Int) (h : -(2 ^ 62)<=j/\j<2 ^ 62):Za (.int j)=some (yC j.toNat):=by show (if _ then _ else _)=_;rw[if_pos h]
@[simp] theorem s_isN (d:D):isD d .non=some (.bl (We d)):=rfl
@[simp] theorem s_gVar (i:Nat)(d:D)(ρ:Rho):ZC i d ρ=some (ρ.set i (.fz d)):=rfl
@[simp] theorem s_gTup (is:List Nat)(ds:List D)(ρ:Rho):Yw is (.tup ds) ρ=Y9 is ds ρ:=rfl
@[simp] theorem s_gTup0 (ρ:Rho):Y9 [] [] ρ=some ρ:=rfl
@[simp] theorem s_gTup1 (i:Nat)(is:List Nat)(d:D)(ds:List D)(ρ:Rho):Y9 (i::is) (d::ds) ρ=Y9 is ds (ρ.set i (.fz d)):=rfl
theorem zBA (a:List D) (j:Nat)(h:j<a.length):atD a (j:Int)=a[j]?:=by
 unfold atD Yp
 simp[h]
theorem Zh {α:Type}(f:α->D)(xs:List α) (j:Nat)(x:α)(h:xs[j]? = some x):atD (xs.map f) (j:Int)=some (f x):=by
 have hj:=(List.getElem?_eq_some_iff.mp h).1
 rw[zBA _ _ (by simpa using hj),List.getElem?_map,h]
 rfl
section
variable {s t:M Fl}{ρ ρ':Rho}{R:Fl->Rho->Prop}{X:Addr->Prop}{a b c:M Bool}{r:Res Bool}
theorem zJ (e:s ρ=.ok .nx ρ')(h:(t ρ').wp R X):(zG s t ρ).wp R X:=by unfold zG;rw[e];exact h
theorem U7 {d:D}(e:s ρ=.ok (.ret d) ρ')(h:R (.ret d) ρ'):(zG s t ρ).wp R X:=by unfold zG;rw[e];exact .ok h
theorem Zo {k:Addr}(e:s ρ=.exn k ρ')(h:X k):(zG s t ρ).wp R X:=by unfold zG;rw[e];exact .exn h
theorem yz (e:c ρ=.ok true ρ'):ifM c s t ρ=s ρ':=by unfold ifM;rw[e];rfl
theorem yQ (e:c ρ=.ok false ρ'):ifM c s t ρ=t ρ':=by unfold ifM;rw[e];rfl
theorem km (e:a ρ=.ok true ρ'):orM a b ρ=.ok true ρ':=by unfold orM;rw[e];rfl
theorem WM (e:a ρ=.ok false ρ')(e2:b ρ'=r):orM a b ρ=r:=by unfold orM;rw[e];exact e2
theorem xT {p:Prop} [Decidable p] (h:p)(e:a ρ=.ok (decide p) ρ'):a ρ=.ok true ρ':=by rw[e,decide_eq_true h]
theorem YQ {p:Prop} [Decidable p] (h:¬ p)(e:a ρ=.ok (decide p) ρ'):a ρ=.ok false ρ':=by rw[e,decide_eq_false h]
end
theorem zI {f:D->D->Option D}{a b:M D}{ρ ρ1 ρ2:Rho}{x y z:D}(ea:a ρ=.ok x ρ1)(eb:b ρ1=.ok y ρ2)(e:f x y=some z):op2 f a b ρ=.ok z ρ2:=by unfold op2;rw[ea,Res.bnd_ok,eb,Res.bnd_ok,e];rfl
theorem Xu {f:D->Option D}{a:M D}{ρ ρ1:Rho}{x z:D}(ea:a ρ=.ok x ρ1)(e:f x=some z):op1 f a ρ=.ok z ρ1:=by unfold op1;rw[ea,Res.bnd_ok,e];rfl
theorem zb {f:D->Option Bool}{a:M D}{ρ ρ1:Rho}{x:D}{z:Bool}(ea:a ρ=.ok x ρ1)(e:f x=some z):zO f a ρ=.ok z ρ1:=by unfold zO;rw[ea,Res.bnd_ok,e];rfl
theorem XR (a b:Int):neD (.int a) (.int b)=some (.bl (decide (a≠b))):=by
 unfold neD
 by_cases h:a=b<;>simp[D.plain,D.deep,D.eqv,h]
theorem zN {a:M D}{as:List (M D)}{ρ ρ1 ρ2:Rho}{x:D}{xs:List D}(e:a ρ=.ok x ρ1)(er:zm as ρ1=.ok xs ρ2):zm (a::as) ρ=.ok (x::xs) ρ2:=by
 show (a ρ).bnd _=_
 rw[e,Res.bnd_ok]
 show (zm as ρ1).bnd _=_
 rw[er]
 rfl
theorem X9 {F:List D->FR}{as:List (M D)}{ρ ρ':Rho}{xs:List D}{R:Fl->Rho->Prop}{X:Addr->Prop}(e:zm as ρ=.ok xs ρ')(h:(F xs).wp (λ_=>R .nx ρ') X):(yf (zK F as) ρ).wp R X:=by
 rw[p_expr,p_callM,e,p_ok]
 exact h
theorem xp {it:M D}{items:D->Option (List D)}{g:GM}{b:M Fl}{ρ ρ':Rho}{x:D}{ds:List D}{R:Fl->Rho->Prop}{X:Addr->Prop}(e:it ρ=.ok x ρ')(ei:items x=some ds)(h:(ZG g b ds ρ').wp R X):(YT it items g b ρ).wp R X:=by
 rw[p_forE,e,p_ok,ei,oP_some]
 exact h
theorem jT {a:M D}{hi:M D}{ρ ρ1 ρ2:Rho}{x z:D}{k:Int}(e:a ρ=.ok x ρ1)(eh:hi ρ1=.ok (.int k) ρ2)(ez:slD x none (some k)=some z):Xo a none (some hi) ρ=.ok z ρ2:=by
 unfold Xo XN
 rw[e,Res.bnd_ok]
 dsimp only
 rw[Res.bnd_ok,eh,Res.bnd_ok]
 show ((Res.ok k ρ2).bnd _).bnd _=_
 rw[Res.bnd_ok,Res.bnd_ok,ez]
 rfl
theorem Z4 {s t:M Fl}{ρ:Rho}{R:Fl->Rho->Prop}{X:Addr->Prop}(J:Rho->Prop)(h:(s ρ).wp (λf ρ=>f=.nx/\J ρ) X)(k:∀ ρ,J ρ->(t ρ).wp R X):(zG s t ρ).wp R X:=K2 J h k
end PM
namespace PM
open PySem
noncomputable section
noncomputable def ua (A:Cls):M Fl:=
 zG (zy 3 (op2 ixD (vM 1) (cM (.int 0))))
 (zG (zy 4 (op2 ixD (vM 1) (cM (.int 1))))
 (zG (ifM (orM (zO zQ (op2 ltD (vM 3) (cM (.int 0)))) (zO zQ (op2 geD (vM 3) (za (zx yX) [vM 0])))) (Zj A.bm) (nxM))
 (zG (ifM (zO zQ (op2 neD (za (zx yX) [vM 4]) (op2 ixD (op2 ixD (vM 0) (vM 3)) (cM (.int 1))))) (Zj A.bm) (nxM))
 (zG (ifM (zO zQ (op2 neD (op1 xL (vM 4)) (za (zx yX) [vM 4]))) (Zj A.bm) (nxM))
 (YT (vM 4) Y1 (ZC 5) (ifM (orM (zO zQ (op2 ltD (vM 5) (cM (.int 0)))) (zO zQ (op2 geD (vM 5) (vM 2)))) (Zj A.bm) (nxM)))))))
noncomputable def yF (A:Cls):List D->FR:=ZS 6 (ua A)
noncomputable def JN:M Fl:=
 zG (ifM (zO zQ (op2 eqD (vM 0) (cM (.str "both")))) (zz (W9 (vM 1) (vM 2))) (nxM))
 (zG (ifM (zO zQ (op2 eqD (vM 0) (cM (.str "either")))) (zz (orV (vM 1) (vM 2))) (nxM))
 (zG (ifM (zO zQ (op2 eqD (vM 0) (cM (.str "less")))) (zz (W9 (vM 1) (WQ (vM 2)))) (nxM))
 (zz (op2 neD (vM 1) (vM 2)))))
noncomputable def YA:List D->FR:=ZS 3 JN
noncomputable def YH (A:Cls):M Fl:=
 zG (ifM (zO zQ (Ws 2 (vM 0))) (zG (ifM (zO zQ (op2 geD (Zr 1) (cM (.int 400)))) (Zj A.tm) (nxM))
 (zG (ifM (zO zQ (op2 gtD (za (zx yX) [op2 ixD (vM 0) (cM (.int 2))]) (cM (.int 6)))) (Zj A.tm) (nxM))
 (zG (Wr 2 (vM 0) (Zr 1))
 (ZT 1 (vM 0))))) (nxM))
 (zz (qh 2 (vM 0)))
noncomputable def z8 (A:Cls):FN:=UA 3 (YH A)
noncomputable def Qa:M Fl:=
 zG (ifM (zO zQ (op2 isD (vM 1) (cM .non))) (zz (op2 ixD (vM 0) (cM (.int 1)))) (nxM))
 (zz (vM 1))
noncomputable def yE:List D->FR:=ZS 2 Qa
noncomputable def Ue:M Fl:=
 zG (ifM (zO zQ (op2 inD (vM 1) (op2 ixD (vM 0) (cM (.int 1))))) (zz (vm YR (op2 ixD (vM 0) (cM (.int 1))) (vM 1))) (nxM))
 (zz (cM .non))
noncomputable def Zn:List D->FR:=ZS 2 Ue
noncomputable def Wa:M Fl:=
 zG (ifM (zO YL (vM 0)) (zz (op2 ixD (vM 0) (op2 Zq (vM 1) (za (zx yX) [vM 0])))) (nxM))
 (zz (cM (.int 0)))
noncomputable def y9:List D->FR:=ZS 2 Wa
noncomputable def Ud:M Fl:=
 zG (wZ (op2 ixD (vM 0) (vM 1)) (Yw [4,5,6]))
 (zG (wZ (op2 ixD (vM 6) (vM 5)) (Yw [7,8]))
 (zG (Ya (vM 5) (ZC 9) (ifM (zO zQ (op2 eqD (op2 ixD (vM 2) (vM 9)) (vM 3))) (wZ (op2 ixD (vM 6) (vM 9)) (Yw [7,8])) (nxM)))
 (zz (ZP [vM 7,yU (ZI Y1 (vM 8)) 1 [2,3,5] (ZC 0) none (YY (zO zQ (op2 eqD (vM 0) (vM 3))) (vM 2) (op2 ixD (vM 1) (vM 0)))]))))
noncomputable def y8:List D->FR:=ZS 10 Ud
noncomputable def ub:M Fl:=
 zG (yw 1 [lstM [lstM []]])
 (zG (Ya (vM 0) (ZC 2) (zG (zy 3 (lstM []))
 (zG (YT (ixO 1 (op1 WS (cM (.int 1)))) yB (ZC 4) (zy 3 (op2 zl (vM 3) (yU (ZI Za (op2 zl (za (zx zAn) [op2 zl (lstM [op1 WS (cM (.int 1))]) (vM 4)]) (cM (.int 2)))) 1 [4] (ZC 0) none (op2 zl (vM 1) (lstM [vM 0]))))))
 (ZT 1 (vM 3)))))
 (zG (zy 5 (lstM []))
 (yk 1 (zG (YT (vM 1) yB (ZC 6) (zy 5 (op2 zl (vM 5) (vM 6))))
 (zz (vM 5))))))
noncomputable def Zm:List D->FR:=ZS 7 ub
noncomputable def vH (A:Cls):M Fl:=
 zG (ifM (zO zQ (op2 isD (vM 0) (cM .non))) (zz (cM (.str "ok"))) (nxM))
 (zG (yw 1 [op1 (yS (A.is A.bm)) (vM 0),op1 (yS (A.is A.bt)) (vM 0),op1 (yS (A.is A.bw)) (vM 0)])
 (zG (ZT 1 (op1 (yS (A.is A.tm)) (vM 0)))
 (zG (ifM (orM (zO zQ (op2 neD (XW Wu 1 (cM (.bl true))) (cM (.int 1)))) (Xw (zO YL (op1 (yS A.isVE) (vM 0))))) (zz (cM (.str "wrong"))) (nxM))
 (zz (op2 ixD (lstM [cM (.str "machine"),cM (.str "text"),cM (.str "word"),cM (.str "many")]) (XW YR 1 (cM (.bl true))))))))
noncomputable def zv (A:Cls):List D->FR:=ZS 2 (vH A)
noncomputable def Qb:M Fl:=
 zG (ifM (zO zQ (op2 eqD (vM 0) (cM (.str "both")))) (zz (W9 (vM 1) (vM 2))) (nxM))
 (zG (ifM (zO zQ (op2 eqD (vM 0) (cM (.str "either")))) (zz (orV (vM 1) (vM 2))) (nxM))
 (zz (YY (zO zQ (op2 eqD (vM 0) (cM (.str "less")))) (W9 (vM 1) (WQ (vM 2))) (op2 neD (vM 1) (vM 2)))))
noncomputable def yG:List D->FR:=ZS 3 Qb
noncomputable def Vh:M Fl:=
 zG (yw 1 [])
 (zG (Ya (op2 zl (vM 0) (cM (.int 1))) (ZC 2) (zG (yc false 3 (ZI Za (vM 2)) 1 [2] (ZC 0) none (ZP [vM 1,op1 x0 (vM 1)]))
 (zG (zy 4 (za qN [op2 zl (vM 2) (cM (.int 1)),vM 0]))
 (ZT 1 (ZP [op2 eqD (vM 2) (vM 0),vM 2,op2 zl (vM 3) (lstM [ZP [vM 4,op1 x0 (vM 4)]])])))))
 (yk 1 (zz (vM 1))))
noncomputable def zo:List D->FR:=ZS 5 Vh
noncomputable def ud:M Fl:=
 zG (yw 1 [cM (.int 0)])
 (zG (Ya (za (zx yX) [vM 0]) (ZC 2) (zG (ifM (zO zQ (op2 geD (vM 2) (Zr 1))) (zz (cM (.bl false))) (nxM))
 (YT (op2 ixD (op2 ixD (vM 0) (vM 2)) (cM (.int 2))) yB (Yw [3,4]) (zG (ifM (zO zQ (inO yV (vM 3) 1)) (zG (ifM (orM (zO zQ (op2 neD (vM 3) (Zr 1))) (zO zQ (op2 neD (za (zx yy) [vM 4]) (za (zx xX) [vM 4])))) (zz (cM (.bl false))) (nxM))
 (ZT 1 (vM 3))) (nxM))
 (ifM (zO zQ (op2 neD (za (zx yy) [vM 4]) (za (zx xX) [vM 4]))) (zz (cM (.bl false))) (nxM))))))
 (zz (cM (.bl true))))
noncomputable def ZY:List D->FR:=ZS 5 ud
noncomputable def Uc:M Fl:=
 zG (Ya (vM 1) (ZC 2) (zG (yw 3 [ZP [cM (.bl false),cM (.int 0),lstM [ZP [cM (.int 1),ZP []]]]])
 (zG (YT (vM 0) yB (Yw [4,5,6]) (ZT 3 (ZP [vM 4,vM 5,yU (ZI yB (vM 6)) 2 [] (Yw [0,1]) none (ZP [op2 zl (vM 0) (cM (.int 1)),vM 1])])))
 (yk 3 (zy 0 (vM 3))))))
 (zz (vM 0))
noncomputable def ya:List D->FR:=ZS 7 Uc
noncomputable def Vg (A:Cls):M Fl:=
 zG (zy 2 (op2 ixD (vM 1) (cM (.int 1))))
 (zG (zy 3 (op2 ixD (vM 1) (cM (.int 2))))
 (zG (ifM (orM (zO zQ (op2 ltD (vM 2) (cM (.int 0)))) (zO zQ (op2 gtD (vM 2) (cM (.int 6))))) (Zj A.bm) (nxM))
 (zG (ifM (zO zQ (op2 neD (za (zx yX) [vM 3]) (op2 zl (vM 2) (cM (.int 1))))) (Zj A.bm) (nxM))
 (zG (YT (Xo (vM 3) none (some (vM 2))) yB (ZC 4) (yf (zK (yF A) [vM 0,vM 4,vM 2])))
 (yf (zK (yF A) [vM 0,op2 ixD (vM 3) (vM 2),op2 zl (vM 2) (cM (.int 1))]))))))
noncomputable def yO (A:Cls):List D->FR:=ZS 5 (Vg A)
noncomputable def JO:M Fl:=
 zG (zy 4 (op2 ixD (vM 0) (op2 ixD (vM 2) (cM (.int 0)))))
 (zG (zy 5 (op2 ixD (vM 1) (op2 ixD (vM 2) (cM (.int 1)))))
 (zG (XQ 6 (za (zx yy) [op2 ixD (vM 2) (cM (.int 2))]) (lstM [ZP [cM .non,cM .non]]))
 (zG (xb 6 (vM 3) (ZP [zK yE [vM 4,op2 ixD (ixO 6 (vM 3)) (cM (.int 0))],zK yE [vM 5,op2 ixD (ixO 6 (vM 3)) (cM (.int 1))]]))
 (zG (zy 7 (op2 ixD (op2 ixD (vM 4) (cM (.int 2))) (op2 ixD (ixO 6 (vM 3)) (cM (.int 0)))))
 (zG (zy 8 (op2 ixD (op2 ixD (vM 5) (cM (.int 2))) (op2 ixD (ixO 6 (vM 3)) (cM (.int 1)))))
 (zG (yw 9 [])
 (zG (yw 10 [])
 (yk 6 (zG (YT (vM 6) Ur (Yw [11,12]) (zG (zy 13 (ZP [zK Zn [vM 7,op2 ixD (vM 12) (cM (.int 0))],zK Zn [vM 8,op2 ixD (vM 12) (cM (.int 1))]]))
 (ifM (zO zQ (op2 neD (vM 13) (ZP [cM .non,cM .non]))) (zG (ZT 9 (vM 13))
 (ZT 10 (vM 11))) (nxM))))
 (yk 9 (yk 10 (zz (ZP [ZP [op2 ixD (vM 7) (cM (.int 0)),op2 ixD (vM 8) (cM (.int 0)),za (zx tupleD) [vM 9]],za (zx tupleD) [vM 10]])))))))))))))
noncomputable def yP:List D->FR:=ZS 14 JO
noncomputable def vo:M Fl:=
 zG (zy 2 (op2 Zq (op2 zl (zK y9 [vM 0,vM 1]) (op2 yx (cM (.int 104729)) (op2 zl (vM 1) (cM (.int 1))))) (cM (.int 4294967291))))
 (zG (zy 2 (op2 Zq (op2 yx (vM 2) (cM (.int 48271))) (cM (.int 4294967279))))
 (zz (op2 Zq (op2 zl (op2 yx (op2 Zv (vM 2) (cM (.int 64))) (cM (.int 69621))) (vM 2)) (cM (.int 4294967231)))))
noncomputable def zW:List D->FR:=ZS 3 vo
noncomputable def uc:M Fl:=
 zG (zy 2 (cM (.int 0)))
 (zG (zy 3 (lstM []))
 (zG (YT (vM 1) yB (ZC 4) (wZ (zK y8 [vM 0,vM 2,vM 3,vM 4]) (Yw [2,3])))
 (zz (op2 ixD (op2 ixD (vM 0) (vM 2)) (cM (.int 0))))))
noncomputable def zR:List D->FR:=ZS 5 uc
noncomputable def WZ (A:Cls):M Fl:=
 zG (ifM (orM (zO zQ (op2 ltD (za (zx yX) [vM 0]) (cM (.int 1)))) (zO zQ (op2 gtD (za (zx yX) [vM 0]) (cM (.int 400))))) (Zj A.bm) (nxM))
 (zG (ifM (zO zQ (op2 neD (op2 ixD (op2 ixD (vM 0) (cM (.int 0))) (cM (.int 1))) (cM (.int 0)))) (Zj A.bm) (nxM))
 (YT (vM 0) yB (ZC 1) (yf (zK (yO A) [vM 0,vM 1]))))
noncomputable def zP (A:Cls):List D->FR:=ZS 2 (WZ A)
noncomputable def vG:M Fl:=
 zG (yW 4 (vM 3))
 (zG (yw 5 [])
 (zG (yh (zO zQ (op2 ltD (Zr 5) (vM 2))) (ZT 5 (YN 4 (op2 Zq (zK zW [vM 0,op2 zl (vM 1) (Zr 5)]) (Zr 4)))) Qo)
 (yk 5 (zz (za (zx tupleD) [vM 5])))))
noncomputable def ZV:List D->FR:=ZS 6 vG
noncomputable def UZ:M Fl:=
 zG (yw 3 [])
 (zG (Ya (op2 Zq (zK zW [vM 0,vM 1]) (op2 zl (vM 2) (cM (.int 1)))) (ZC 4) (zG (zy 5 (zK zW [vM 0,op2 zl (op2 zl (vM 1) (cM (.int 1))) (vM 4)]))
 (zG (zy 6 (YY (qv 3) (ixO 3 (op2 V2 (op1 WS (cM (.int 1))) (op2 Zq (op2 Zv (vM 5) (cM (.int 8))) (Zr 3)))) (cM (.int 0))))
 (ZT 3 (op2 ixD (lstM [vM 6,vM 6,op2 Zq (op2 Zv (vM 5) (cM (.int 64))) (cM (.int 3)),op2 Zq (op2 Zv (vM 5) (cM (.int 64))) (cM (.int 9)),op2 zl (vM 6) (cM (.int 1)),op2 Zq (op2 Zv (op1 WS (vM 5)) (cM (.int 64))) (cM (.int 1000))]) (op2 Zq (vM 5) (cM (.int 6))))))))
 (yk 3 (zz (vM 3))))
noncomputable def z6:List D->FR:=ZS 7 UZ
noncomputable def JL (A:Cls):M Fl:=
 zG (yf (zK (zP A) [vM 0]))
 (zz (yU (ZI yB (vM 0)) 1 [] (ZC 0) none (ZP [WQ (op2 ixD (vM 0) (cM (.int 0))),op2 ixD (vM 0) (cM (.int 1)),za (zx yy) [op2 ixD (vM 0) (cM (.int 2))]])))
noncomputable def Z3 (A:Cls):List D->FR:=ZS 1 (JL A)
noncomputable def JM (A:Cls):M Fl:=
 zG (ifM (zO zQ (op2 yV (vM 0) (cM (.tup [.str "both",.str "either",.str "less",.str "odd"])))) (Zj A.bw) (nxM))
 (zG (yf (zK (zP A) [vM 1]))
 (zG (yf (zK (zP A) [vM 2]))
 (zG (yw 3 [cM (.tup [.int 0,.int 0,(.tup [])])])
 (zG (Ut 4 (.tup [.int 0,.int 0,(.tup [])]) (.int 0))
 (zG (yw 5 [])
 (zG (yh (zO zQ (op2 ltD (Zr 5) (Zr 3))) (zG (zy 6 (ixO 3 (Zr 5)))
 (zG (zy 7 (za (zx yX) [op2 ixD (vM 6) (cM (.int 2))]))
 (zG (yw 8 [])
 (zG (Ya (op2 zl (vM 7) (cM (.int 1))) (ZC 9) (zG (zy 10 (zK yP [vM 1,vM 2,vM 6,vM 9]))
 (ZT 8 (ZP [xD 3 4 (z8 A) (op2 ixD (vM 10) (cM (.int 0))),op2 ixD (vM 10) (cM (.int 1))]))))
 (zG (zy 11 (zK YA [vM 0,op2 ixD (op2 ixD (vM 1) (op2 ixD (vM 6) (cM (.int 0)))) (cM (.int 0)),op2 ixD (op2 ixD (vM 2) (op2 ixD (vM 6) (cM (.int 1)))) (cM (.int 0))]))
 (yk 8 (ZT 5 (ZP [vM 11,vM 7,vM 8])))))))) Qo)
 (yk 5 (zz (vM 5)))))))))
noncomputable def ZU (A:Cls):List D->FR:=ZS 12 (JM A)
noncomputable def vI:M Fl:=
 zG (yw 3 [cM (.int 0)])
 (zG (Ya (op2 Zq (zK zW [vM 0,vM 1]) (vM 2)) (ZC 4) (ZT 3 (op2 ixD (lstM [cM (.int 0),cM (.int 1),cM (.int 1),cM (.int 2)]) (op2 Zq (zK zW [vM 0,op2 zl (op2 zl (vM 1) (cM (.int 1))) (vM 4)]) (cM (.int 4))))))
 (zG (yw 5 [])
 (yk 3 (zG (Ya (za (zx yX) [vM 3]) (ZC 6) (zG (yw 7 [])
 (zG (Ya (op2 zl (op2 ixD (vM 3) (vM 6)) (cM (.int 1))) (ZC 8) (zG (zy 9 (op2 zl (op2 ixD (vM 3) (vM 6)) (za (zx Xj) [op2 eqD (vM 8) (op2 ixD (vM 3) (vM 6))])))
 (zG (yc false 10 (ZI Za (za (zx yX) [vM 3])) 1 [3,9] (ZC 0) (some (zO zQ (op2 leD (op2 ixD (vM 1) (vM 0)) (vM 2)))) (vM 0))
 (zG (zy 11 (op2 ixD (vM 10) (op2 Zq (zK zW [vM 0,op2 zl (op2 zl (op2 zl (vM 1) (cM (.int 8))) (op2 yx (cM (.int 5)) (vM 6))) (vM 8)]) (za (zx yX) [vM 10]))))
 (ZT 7 (ZP [vM 11,zK ZV [vM 0,op2 zl (op2 zl (op2 zl (vM 1) (cM (.int 40))) (op2 yx (cM (.int 9)) (vM 6))) (op2 yx (cM (.int 3)) (vM 8)),op2 ixD (vM 3) (vM 11),vM 9]]))))))
 (yk 7 (ZT 5 (ZP [op2 eqD (op2 Zq (op2 Zv (zK zW [vM 0,op2 zl (op2 zl (vM 1) (cM (.int 30))) (vM 6)]) (cM (.int 4))) (cM (.int 2))) (cM (.int 0)),op2 ixD (vM 3) (vM 6),vM 7]))))))
 (yk 5 (zz (vM 5)))))))
noncomputable def ZF:List D->FR:=ZS 12 vI
noncomputable def Ub (A:Cls):M Fl:=
 zG (zy 3 (cM .non))
 (zG (zy 4 (cM .non))
 (zG (UK A.all 3 (zy 4 (YY (zO zQ (op2 neD (vM 0) (cM (.str "turn")))) (zK (ZU A) [vM 0,vM 1,vM 2]) (zK (Z3 A) [vM 1]))))
 (zz (YY (zO zQ (op2 isD (vM 3) (cM .non))) (vM 4) (zK (zv A) [vM 3])))))
noncomputable def zT (A:Cls):List D->FR:=ZS 6 (Ub A)
noncomputable def Ua (A:Cls):M Fl:=
 zG (zy 0 (zK (zT A) [cM (.str "both"),zK zo [cM (.int 4)],zK zo [cM (.int 4)]]))
 (zz (W9 (op1 (Wf D.isLst) (vM 0)) (op2 eqD (zK (zT A) [cM (.str "both"),zK zo [cM (.int 4)],zK ya [zK zo [cM (.int 4)],cM (.int 4)]]) (cM (.str "many")))))
noncomputable def yZ (A:Cls):List D->FR:=ZS 1 (Ua A)
noncomputable def zBL (A:Cls):M Fl:=
 zG (zy 1 (zK ZF [vM 0,cM (.int 0),cM (.int 3)]))
 (zG (zy 2 (zK ZF [vM 0,cM (.int 100),cM (.int 3)]))
 (zG (zy 3 (op2 zl (yU (ZI Za (cM (.int 6))) 1 [0] (ZC 0) none (zK z6 [vM 1,op2 zl (cM (.int 200)) (op2 yx (cM (.int 12)) (vM 0)),cM (.int 9)])) (zK Zm [cM (.int 3)])))
 (zG (YT (ZP [cM (.str "both"),cM (.str "either"),cM (.str "less"),cM (.str "odd")]) Y1 (ZC 4) (zG (zy 5 (zK (zT A) [vM 4,vM 1,vM 2]))
 (zG (ifM (orM (Xw (zO YL (op1 (Wf D.isLst) (vM 5)))) (Xw (zO YL (zK ZY [vM 5])))) (zz (cM (.bl false))) (nxM))
 (zG (yf (zK (zP A) [vM 5]))
 (YT (vM 3) yB (ZC 6) (ifM (zO zQ (op2 neD (zK zR [vM 5,vM 6]) (zK yG [vM 4,zK zR [vM 1,vM 6],zK zR [vM 2,vM 6]]))) (zz (cM (.bl false))) (nxM)))))))
 (zG (zy 5 (zK (zT A) [cM (.str "turn"),vM 1,vM 2]))
 (zG (ifM (zO zQ (op2 neD (yU (ZI yB (vM 3)) 1 [5] (ZC 0) none (zK zR [vM 1,vM 0])) (yU (ZI yB (vM 3)) 1 [1] (ZC 0) none (WQ (zK zR [vM 1,vM 0]))))) (zz (cM (.bl false))) (nxM))
 (zG (zy 7 (lstM [ZP [cM (.bl true),cM (.int 1),lstM []]]))
 (zG (zy 5 (lstM [zK (zT A) [cM (.str "and"),vM 7,vM 7],zK (zT A) [cM (.str "odd"),vM 1,vM 7],zK (zT A) [cM (.str "turn"),vM 7,vM 1]]))
 (zG (ifM (zO zQ (op2 neD (vM 5) (lstM [cM (.str "word"),cM (.str "machine"),cM (.str "machine")]))) (zz (cM (.bl false))) (nxM))
 (zz (zK (yZ A) []))))))))))
noncomputable def kA (A:Cls):List D->FR:=ZS 8 (zBL A)
end
end PM
namespace PM
open PySem
noncomputable def cell (ns:List Int) (k:Nat):Int:=if ns=[] then 0 else ns.getD (k % ns.length) 0
noncomputable def zAj (c:Int) (k:Nat):Int:=
 ((c+104729 * (k+1)) % 4294967291 * 48271 % 4294967279 / 64 * 69621+(c+104729 * (k+1)) % 4294967291 * 48271 % 4294967279) % 4294967231
noncomputable def mix (ns:List Int) (k:Nat):Nat:=(zAj (cell ns k) k).toNat
theorem zAB (ns:List Int) (k:Nat):y9 [.lst (ns.map .int),.int k]=.ok (.int (cell ns k)):=by
 refine ZE ?_
 unfold Wa ZJ
 by_cases h:ns=[]
 ·subst h
  simp[cell]
 ·have hl:0<ns.length:=List.length_pos_iff.mpr h
  have hm:k % ns.length<ns.length:=Nat.mod_lt _ hl
  simp[h,hl,cell]
  rw[show ((k:Int) % (ns.length:Int))=((k % ns.length:Nat):Int) by omega]
  rw[Zh D.int ns (k % ns.length) (ns.getD (k % ns.length) 0) (by rw[List.getD_eq_getElem?_getD,List.getElem?_eq_getElem hm];rfl)]
  simp
theorem zAi (ns:List Int) (k:Nat):(mix ns k:Int)=zAj (cell ns k) k:=by
 unfold mix
 exact Int.toNat_of_nonneg (Int.emod_nonneg _ (by decide))
theorem zA8 (ns:List Int) (k:Nat):zW [.lst (ns.map .int),.int k]=.ok (.int (mix ns k)):=by
 refine ZE ?_
 unfold vo ZJ
 simp[zAB,zAi,zAj]
noncomputable def wU (s:D)(mx:Nat->Nat):Prop:=∀ k:Nat,zW [s,.int k]=.ok (.int (mx k))
theorem zBK (ns:List Int):wU (.lst (ns.map .int)) (mix ns):=λk=>zA8 ns k
noncomputable def nth (l:List Nat) (i:Nat):Nat:=(l[i]?).getD 0
noncomputable def dn (n:Nat):D:=.int n
noncomputable abbrev dns (l:List Nat):List D:=l.map dn
noncomputable abbrev dS (ns:List Int):D:=.lst (ns.map .int)
noncomputable def WJ (mx:Nat->Nat) (k:Nat):Nat->List Nat->List Nat->List Nat
 |0,_,found=>found
 |n+1,left,found=>WJ mx k n (left.eraseIdx (mx (k+found.length) % left.length)) (found++[nth left (mx (k+found.length) % left.length)])
noncomputable def Xm (mx:Nat->Nat) (k many most:Nat):List Nat:=WJ mx k many (List.range most) []
theorem intsD_eq (n:Nat):yC n=dns (List.range n):=rfl
theorem Xg {α β:Type}(f:α->β):∀ (l:List α) (i:Nat),(l.map f).eraseIdx i=(l.eraseIdx i).map f
 |[],_=>rfl
 |a::r,0=>rfl
 |a::r,i+1=>by simp[Xg f r i]
theorem getElem?_getD {l:List Nat}{j:Nat}(h:j<l.length):l[j]? = some (nth l j):=by
 unfold nth;rw[List.getElem?_eq_getElem h];rfl
theorem ui {n j:Nat}(h:j<n):Yp n (j:Int)=some j:=by
 unfold Yp
 rw[if_pos (by omega),if_pos (by omega)]
 simp
theorem Wq (a b:Int):D.eqv (.int a) (.int b)=decide (a=b):=by
 show (a == b)=_
 rfl
theorem VM {s t:M Fl}{ρ ρ':Rho}(e:s ρ=.ok .nx ρ'):zG s t ρ=t ρ':=by unfold zG;rw[e];rfl
theorem b_set {i:Nat}{e:M D}{ρ ρ':Rho}{x:D}(he:e ρ=.ok x ρ'):zy i e ρ=.ok .nx (ρ'.set i (.fz x)):=by unfold zy;rw[he];rfl
theorem UC {e:M D}{ρ ρ':Rho}{x:D}(he:e ρ=.ok x ρ'):zz e ρ=.ok (.ret x) ρ':=by unfold zz;rw[he];rfl
theorem xE {F:List D->FR}{as:List (M D)}{ρ ρ':Rho}{xs:List D}{d:D}(ha:zm as ρ=.ok xs ρ')(h:F xs=.ok d):zK F as ρ=.ok d ρ':=by unfold zK;rw[ha,Res.bnd_ok,h];rfl
theorem Ka {f:List D->Option D}{as:List (M D)}{ρ ρ':Rho}{xs:List D}{d:D}(ha:zm as ρ=.ok xs ρ')(h:f xs=some d):za f as ρ=.ok d ρ':=by unfold za;rw[ha,Res.bnd_ok,h];rfl
theorem wo {f:D->Option D}{a:M D}{ρ ρ':Rho}{x d:D}(ha:a ρ=.ok x ρ')(h:f x=some d):za (zx f) [a] ρ=.ok d ρ':=Ka (xs:=[x]) (zN ha (by rfl)) h
theorem UE {i:Nat}{e:M D}{ρ:Rho}{ds:List D}{x:D}(ho:zY ρ[i]? = some ds)(he:e ρ=.ok x ρ)(hs:ds.length<16777216):ZT i e ρ=.ok .nx (ρ.set i (.own (ds++[x]))):=by
 unfold ZT
 rw[ho,zd,Res.bnd_ok,he,Res.bnd_ok,ho,zd,Res.bnd_ok,if_pos (by rw[sizeLine_eq];exact hs)]
theorem UD {i:Nat}{m:M Fl}{ρ:Rho}{ds:List D}{R:Fl->Rho->Prop}{X:Addr->Prop}(ho:zY ρ[i]? = some ds)(h:(m (ρ.set i (.fz (.lst ds)))).wp R X):(yk i m ρ).wp R X:=by unfold yk;rw[ho];exact h
theorem W4 {a:M D}{g:GM}{b:M Fl}{ρ ρ':Rho}{n:Nat}{R:Fl->Rho->Prop}{X:Addr->Prop}(e:a ρ=.ok (dn n) ρ')(h:n<1000000)(hw:(ZG g b (yC n) ρ').wp R X):(Ya a g b ρ).wp R X:=by
 rw[p_forR,e,p_ok]
 unfold dn
 rw[s_range _ (by omega),oP_some,Int.toNat_natCast]
 exact hw
theorem Jt {a b:M D}{ρ ρ1 ρ2:Rho}{x y:D}(ea:a ρ=.ok x ρ1)(eb:b ρ1=.ok y ρ2):ZP [a,b] ρ=.ok (.tup [x,y]) ρ2:=by
 unfold ZP
 rw[zN ea (zN eb (show zm [] ρ2=.ok [] ρ2 from rfl)),Res.bnd_ok]
 rfl
theorem zA2 {a b c:M D}{ρ ρ1 ρ2 ρ3:Rho}{x y z:D}(ea:a ρ=.ok x ρ1)(eb:b ρ1=.ok y ρ2)(ec:c ρ2=.ok z ρ3):ZP [a,b,c] ρ=.ok (.tup [x,y,z]) ρ3:=by
 unfold ZP
 rw[zN ea (zN eb (zN ec (show zm [] ρ3=.ok [] ρ3 from rfl))),Res.bnd_ok]
 rfl
theorem yn {a b:M D}{ρ ρ1 ρ2:Rho}{x y z:Int}(ea:a ρ=.ok (.int x) ρ1)(eb:b ρ1=.ok (.int y) ρ2)(h:z=x+y):op2 zl a b ρ=.ok (.int z) ρ2:=by rw[h];exact zI ea eb rfl
theorem Jv {a b:M D}{ρ ρ1 ρ2:Rho}{x y z:Int}(ea:a ρ=.ok (.int x) ρ1)(eb:b ρ1=.ok (.int y) ρ2) (hx : -(2 ^ 64)<x/\x<2 ^ 64)(h:z=x * y):op2 yx a b ρ=.ok (.int z) ρ2:=by rw[h];exact zI ea eb (U8 _ _ (.inl hx))
theorem W3 {a b:M D}{ρ ρ1 ρ2:Rho}{x y z:Int}(ea:a ρ=.ok (.int x) ρ1)(eb:b ρ1=.ok (.int y) ρ2)(hy:0<y)(h:z=x % y):op2 Zq a b ρ=.ok (.int z) ρ2:=by rw[h];exact zI ea eb (s_mod _ _ hy)
theorem zBX (a b:Nat):eqD (dn a) (dn b)=some (.bl (decide (a=b))):=by
 show some (D.bl ((D.int (a:Int)).eqv (.int (b:Int))))=_
 rw[Wq,decide_eq_decide.mpr (show ((a:Int)=(b:Int)) ↔ a=b by omega)]
theorem b_len {l:List Nat}:yX (.lst (dns l))=some (dn l.length):=by show some (D.int ((dns l).length:Nat))=_;rw[List.length_map];rfl
theorem Jw {e:M D}{g:GM}{ρ ρ1 ρ2:Rho}{x:D}(he:e ρ=.ok x ρ1)(hg:g x ρ1=some ρ2):wZ e g ρ=.ok .nx ρ2:=by unfold wZ;rw[he,Res.bnd_ok,hg];rfl
theorem zBR {c:M Bool}{ρ ρ':Rho}{b:Bool}(h:c ρ=.ok b ρ'):Xw c ρ=.ok (!b) ρ':=by unfold Xw;rw[h];rfl
theorem Uy {i:Nat}{ρ:Rho}{l:List Nat}(h:zY ρ[i]? = some (dns l)):Zr i ρ=.ok (dn l.length) ρ:=by unfold Zr;rw[h];show Res.ok (D.int ((dns l).length:Nat)) ρ=_;rw[List.length_map];rfl
theorem zBW {a b:M D}{ρ ρ1 ρ2:Rho}{x y:Nat}(ea:a ρ=.ok (dn x) ρ1)(eb:b ρ1=.ok (dn y) ρ2):zO zQ (op2 ltD a b) ρ=.ok (decide (x<y)) ρ2:=by
 refine zb (x:=.bl (decide (x<y))) (zI ea eb ?_) rfl
 show some (D.bl (decide ((x:Int)<(y:Int))))=_
 rw[decide_eq_decide.mpr (show ((x:Int)<(y:Int)) ↔ x<y by omega)]
theorem KW {i j:Nat}{e:M D}{ρ:Rho}{l:List Nat}(ho:zY ρ[i]? = some (dns l))(he:e ρ=.ok (dn j) ρ)(hj:j<l.length)(hz:l.length<=16777216):YN i e ρ=.ok (dn (nth l j)) (ρ.set i (.own (dns (l.eraseIdx j)))):=by
 unfold YN
 rw[ho,zd,Res.bnd_ok,he,Res.bnd_ok,ho,zd,Res.bnd_ok]
 have h1:(dns l)[j]? = some (dn (nth l j)):=by rw[List.getElem?_map,getElem?_getD hj];rfl
 have hl:(dns l).length=l.length:=List.length_map _
 have h2:(dns l).eraseIdx j=dns (l.eraseIdx j):=Xg _ _ _
 have h3:Yp (dns l).length (j:Int)=some j:=by rw[hl];exact ui hj
 show (zU (if (dns l).length<=sizeLine then Yp (dns l).length (j:Int) else none) ρ).bnd _=_
 rw[if_pos (by rw[hl,sizeLine_eq];exact hz),h3,zd,Res.bnd_ok,h1,zd,Res.bnd_ok,h2]
theorem Ux {i n:Nat}{e:M D}{ρ ρ':Rho}(he:e ρ=.ok (dn n) ρ')(h:n<1000000):yW i e ρ=.ok .nx (ρ'.set i (.own (dns (List.range n)))):=by
 unfold yW
 rw[he,Res.bnd_ok,show dn n=.int (n:Int) from rfl,s_range _ (by omega),zd,Res.bnd_ok,Int.toNat_natCast,if_pos (by rw[sizeLine_eq];simp[yC];omega)]
 rfl
theorem zA3 {a b:M D}{ρ ρ1 ρ2:Rho}{x y z:Int}(ea:a ρ=.ok (.int x) ρ1)(eb:b ρ1=.ok (.int y) ρ2)(hy:0<y/\y<1073741824)(h:z=x / y):op2 Zv a b ρ=.ok (.int z) ρ2:=by
 rw[h]
 refine zI ea eb ?_
 show (if 0<y/\y<1073741824 then _ else _)=_
 rw[if_pos hy]
theorem zBQ {a b:M D}{ρ ρ1 ρ2:Rho}{x y z:Int}(ea:a ρ=.ok (.int x) ρ1)(eb:b ρ1=.ok (.int y) ρ2)(h:z=x - y):op2 V2 a b ρ=.ok (.int z) ρ2:=by rw[h];exact zI ea eb rfl
theorem Ky {a b:M D}{ρ ρ1 ρ2:Rho}{x y:Int}(ea:a ρ=.ok (.int x) ρ1)(eb:b ρ1=.ok (.int y) ρ2):zO zQ (op2 eqD a b) ρ=.ok (decide (x=y)) ρ2:=by
 refine zb (x:=.bl (decide (x=y))) (zI ea eb ?_) rfl
 show some (D.bl ((D.int x).eqv (.int y)))=_
 rw[Wq]
theorem KY {c:M Bool}{a b:M D}{ρ ρ':Rho}{r:Res D}(e:c ρ=.ok true ρ')(h:a ρ'=r):YY c a b ρ=r:=by unfold YY;rw[e];exact h
theorem KZ {c:M Bool}{a b:M D}{ρ ρ':Rho}{r:Res D}(e:c ρ=.ok false ρ')(h:b ρ'=r):YY c a b ρ=r:=by unfold YY;rw[e];exact h
noncomputable def rR (s:D) (k many most:Nat)(left found:List Nat):Rho:=[.fz s,.fz (dn k),.fz (dn many),.fz (dn most),.own (dns left),.own (dns found)]
theorem qy {s:D}{mx:Nat->Nat}(hs:wU s mx) (k many most:Nat)(h:many<=most)(hm:most<1000):ZV [s,dn k,dn many,dn most]=.ok (.tup (dns (Xm mx k many most))):=by
 refine ZE ?_
 refine zJ (ρ':=[.fz s,.fz (dn k),.fz (dn many),.fz (dn most),.own (dns (List.range most)),.un]) (Ux (i:=4) (n:=most) (by rfl) (by omega)) ?_
 refine zJ (ρ':=(rR s k many most (List.range most) [])) (by rfl) ?_
 refine Z4 (λρ=>∃ left,ρ=(rR s k many most left (Xm mx k many most))) ?_ ?_
 ·refine V1 (λi ρ=>∃ left found:List Nat,i=many - found.length/\found.length<=many/\left.length+found.length=most/\WJ mx k (many - found.length) left found=Xm mx k many most/\ρ=(rR s k many most left found)) many (by rw[qZ];omega) ⟨List.range most,[],rfl,Nat.zero_le _,by simp,rfl,rfl⟩ ?_
  rintro i ρ ⟨left,found,rfl,hf,hl,hp,rfl⟩
  refine zV (zBW (x:=found.length) (y:=many) (ρ1:=(rR s k many most left found)) (Uy (by rfl)) (by rfl)) ?_
  by_cases hlt:found.length<many
  ·rw[decide_eq_true hlt,if_pos rfl]
   have hleft:0<left.length:=by omega
   have hj:mx (k+found.length) % left.length<left.length:=Nat.mod_lt _ hleft
   have hc:YN 4 (op2 Zq (zK zW [vM 0,op2 zl (vM 1) (Zr 5)]) (Zr 4)) (rR s k many most left found)=.ok (dn (nth left (mx (k+found.length) % left.length))) (rR s k many most (left.eraseIdx (mx (k+found.length) % left.length)) found):=
    KW (i:=4) (j:=mx (k+found.length) % left.length) (l:=left) (ρ:=(rR s k many most left found)) (by rfl) (W3 (x:=(mx (k+found.length):Int)) (y:=(left.length:Int)) (xE (F:=zW) (xs:=[s,.int ((k+found.length:Nat):Int)]) (zN (x:=s) (ρ1:=(rR s k many most left found)) (by rfl) (zN (ρ1:=(rR s k many most left found)) (yn (x:=(k:Int)) (y:=(found.length:Int)) (by rfl) (Uy (by rfl)) (by omega)) (by rfl))) (hs _)) (Uy (by rfl)) (by omega) (by omega)) hj (by omega)
   have ha:ZT 5 (YN 4 (op2 Zq (zK zW [vM 0,op2 zl (vM 1) (Zr 5)]) (Zr 4))) (rR s k many most left found)=.ok .nx (rR s k many most (left.eraseIdx (mx (k+found.length) % left.length)) (found++[nth left (mx (k+found.length) % left.length)])):=by
    unfold ZT
    show (YN 4 _ _).bnd _=_
    rw[hc,Res.bnd_ok]
    show (if (dns found).length<sizeLine then _ else _)=_
    unfold rR
    rw[if_pos (by rw[List.length_map,sizeLine_eq];omega),show dns (found++[nth left (mx (k+found.length) % left.length)])=dns found++[dn (nth left (mx (k+found.length) % left.length))] from List.map_append]
    rfl
   refine zV ha ⟨many - (found.length+1),by omega,left.eraseIdx (mx (k+found.length) % left.length),found++[nth left (mx (k+found.length) % left.length)],by rw[List.length_append];rfl,by rw[List.length_append];show found.length+1<=many;omega,by rw[List.length_append,List.length_eraseIdx,if_pos hj];show left.length - 1+(found.length+1)=most;omega,?_,rfl⟩
   rw[<-hp,List.length_append,show many - found.length=(many - (found.length+1))+1 by omega]
   rfl
  ·rw[decide_eq_false hlt,if_neg (by decide)]
   have e:many - found.length=0:=by omega
   rw[e]at hp
   exact⟨rfl,left,by rw[<-hp];rfl⟩
 ·rintro ρ ⟨left,rfl⟩
  exact UD (ds:=dns (Xm mx k many most)) (by rfl) (zV (UC (x:=.tup (dns (Xm mx k many most))) (by rfl)) rfl)
theorem WK {α:Type}:∀ {l:List α}{j:Nat}(h:j<l.length),(l[j]::l.eraseIdx j).Perm l
 |a::r,0,_=>List.Perm.refl _
 |a::r,j+1,h=>(List.Perm.swap _ _ _).trans ((WK (l:=r) (j:=j) (by simpa using h)).cons a)
theorem vS (mx:Nat->Nat) (k:Nat):∀ (n:Nat)(left found:List Nat),n<=left.length->(left++found).Nodup->(WJ mx k n left found).length=found.length+n/\(WJ mx k n left found).Nodup/\∀ x ∈ WJ mx k n left found,x ∈ left\/x ∈ found
 |0,left,found,_,hd=>⟨by simp[WJ],by simpa[WJ] using (List.nodup_append.mp hd).2.1,λx hx=>by simp[WJ]at hx;exact .inr hx⟩
 |n+1,left,found,hn,hd=>by
  have hj:mx (k+found.length) % left.length<left.length:=Nat.mod_lt _ (by omega)
  generalize hJ:mx (k+found.length) % left.length=j at hj
  have hm:nth left j ∈ left:=List.mem_of_getElem? (getElem?_getD hj)
  have hpm:left.Perm (nth left j::left.eraseIdx j):=by
   unfold nth
   rw[List.getElem?_eq_getElem hj]
   exact (WK hj).symm
  have hd2:(left.eraseIdx j++(found++[nth left j])).Nodup:=by
   refine (List.Perm.nodup_iff ?_).mp hd
   refine (hpm.append_right found).trans ?_
   rw[List.cons_append,<-List.append_assoc]
   exact (List.perm_append_singleton _ _).symm
  obtain⟨h1,h2,h3⟩:=vS mx k n (left.eraseIdx j) (found++[nth left j]) (by rw[List.length_eraseIdx,if_pos hj];omega) hd2
  have e:WJ mx k (n+1) left found=WJ mx k n (left.eraseIdx j) (found++[nth left j]):=by rw[<-hJ];rfl
  rw[e]
  refine⟨by rw[h1];simp;omega,h2,λx hx=>?_⟩
  rcases h3 x hx with h | h
  ·exact .inl (List.mem_of_mem_eraseIdx h)
  ·rcases List.mem_append.mp h with h | h
   ·exact .inr h
   ·rw[List.mem_singleton.mp h];exact .inl hm
theorem kM (mx:Nat->Nat) (k many most:Nat)(h:many<=most):(Xm mx k many most).length=many/\(Xm mx k many most).Nodup/\∀ x ∈ Xm mx k many most,x<most:=by
 obtain⟨h1,h2,h3⟩:=vS mx k many (List.range most) [] (by simpa using h) (by simpa using List.nodup_range)
 exact⟨by simpa[Xm] using h1,h2,λx hx=>by simpa using h3 x hx⟩
noncomputable abbrev Mv:=Int×List Int
noncomputable abbrev Stt:=Bool×Int×List Mv
noncomputable def eMv (m:Mv):D:=.tup [.int m.1,.tup (m.2.map .int)]
noncomputable def eSt (s:Stt):D:=.tup [.bl s.1,.int s.2.1,.lst (s.2.2.map eMv)]
noncomputable def eM (m:List Stt):D:=.lst (m.map eSt)
noncomputable def zs (l:List Nat):List Int:=l.map λn:Nat=>(n:Int)
noncomputable def zw (mx:Nat->Nat) (k most:Nat):List Nat:=0::(List.range (mx k % most)).map λj=>nth [0,1,1,2] (mx (k+1+j) % 4)
noncomputable def YS (bs:List Nat) (s c:Nat):Nat:=nth bs s+if c=nth bs s then 1 else 0
noncomputable def zq (bs:List Nat) (far:Nat):List Nat:=(List.range bs.length).filter λg=>decide (nth bs g<=far)
noncomputable def gGoal (mx:Nat->Nat) (k:Nat)(bs:List Nat) (s c:Nat):Nat:=nth (zq bs (YS bs s c)) (mx (k+8+5 * s+c) % (zq bs (YS bs s c)).length)
noncomputable def qW (mx:Nat->Nat) (k:Nat)(bs:List Nat) (s c:Nat):List Nat:=Xm mx (k+40+9 * s+3 * c) (nth bs (gGoal mx k bs s c)) (YS bs s c)
noncomputable def YZ (mx:Nat->Nat) (k:Nat)(bs:List Nat) (s c:Nat):Mv:=((gGoal mx k bs s c:Int),zs (qW mx k bs s c))
noncomputable def ut (mx:Nat->Nat) (k s:Nat):Bool:=decide (mx (k+30+s) / 4 % 2=0)
noncomputable def ZM (mx:Nat->Nat) (k:Nat)(bs:List Nat) (s:Nat):Stt:=(ut mx k s,(nth bs s:Int),(List.range (nth bs s+1)).map (YZ mx k bs s))
noncomputable def gM (mx:Nat->Nat) (k most:Nat):List Stt:=(List.range (zw mx k most).length).map (ZM mx k (zw mx k most))
theorem Us (l:List Nat):dns l=(zs l).map .int:=by simp[dns,zs,dn]
theorem xo (mx:Nat->Nat) (k most:Nat)(h:0<most):(zw mx k most).length<=most/\0<(zw mx k most).length:=by
 have:=Nat.mod_lt (mx k) h
 simp[zw];omega
theorem X7 (mx:Nat->Nat) (k most s:Nat):nth (zw mx k most) s<=2:=by
 unfold nth
 cases q:(zw mx k most)[s]? with
 |none=>simp
 |some b=>
  have hb:=List.mem_of_getElem? q
  unfold zw at hb
  rcases List.mem_cons.mp hb with rfl | hb
  ·simp
  ·obtain⟨j,_,rfl⟩:=List.mem_map.mp hb
   have:mx (k+1+j) % 4<4:=Nat.mod_lt _ (by decide)
   generalize mx (k+1+j) % 4=x at this
   match x,this with
   |0,_=>decide
   |1,_=>decide
   |2,_=>decide
   |3,_=>decide
theorem xm {bs:List Nat}{far g:Nat}:g ∈ zq bs far ↔ g<bs.length/\nth bs g<=far:=by simp[zq]
theorem Wi (mx:Nat->Nat) (k most far:Nat):0<(zq (zw mx k most) far).length:=by
 refine List.length_pos_of_mem (a:=0) (xm.mpr ⟨by simp[zw],by simp[zw,nth]⟩)
theorem vy (mx:Nat->Nat) (k most s c:Nat):gGoal mx k (zw mx k most) s c ∈ zq (zw mx k most) (YS (zw mx k most) s c):=by
 unfold gGoal
 exact List.mem_of_getElem? (getElem?_getD (Nat.mod_lt _ (Wi mx k most _)))
theorem wC {l:List Nat}{j:Nat}(h:j<l.length):atD (dns l) (j:Int)=some (dn (nth l j)):=Zh dn l j _ (getElem?_getD h)
theorem zA4 {l:List Nat}{j:Nat}{z:Int}(e:z=j)(h:j<l.length):atD (dns l) z=some (dn (nth l j)):=by rw[e];exact wC h
noncomputable def rM (s:D) (k most:Nat)(bs:List Nat)(st:List D)(j1 j2 j3 j4 j5 j6 j7:Slot):Rho:=[.fz s,.fz (dn k),.fz (dn most),.fz (.lst (dns bs)),j1,.own st,j2,j3,j4,j5,j6,j7]
noncomputable def inM:M Fl:=(zG (zy 9 (op2 zl (op2 ixD (vM 3) (vM 6)) (za (zx Xj) [op2 eqD (vM 8) (op2 ixD (vM 3) (vM 6))])))
 (zG (yc false 10 (ZI Za (za (zx yX) [vM 3])) 1 [3,9] (ZC 0) (some (zO zQ (op2 leD (op2 ixD (vM 1) (vM 0)) (vM 2)))) (vM 0))
 (zG (zy 11 (op2 ixD (vM 10) (op2 Zq (zK zW [vM 0,op2 zl (op2 zl (op2 zl (vM 1) (cM (.int 8))) (op2 yx (cM (.int 5)) (vM 6))) (vM 8)]) (za (zx yX) [vM 10]))))
 (ZT 7 (ZP [vM 11,zK ZV [vM 0,op2 zl (op2 zl (op2 zl (vM 1) (cM (.int 40))) (op2 yx (cM (.int 9)) (vM 6))) (op2 yx (cM (.int 3)) (vM 8)),op2 ixD (vM 3) (vM 11),vM 9]])))))
theorem KM {s:D}{mx:Nat->Nat}(hs:wU s mx) (k most:Nat)(bs:List Nat)(hbl:bs.length<=100/\0<bs.length)(hb2:∀ s,nth bs s<=2)(hgp:∀ far,0<(zq bs far).length)(hgm:∀ s c,gGoal mx k bs s c ∈ zq bs (YS bs s c)){i c:Nat}(hi:i<bs.length){st mv:List D}(hmv:mv.length<=100){j1 j5 j6 j7:Slot} :
  inM (rM s k most bs st j1 (.fz (dn i)) (.own mv) (.fz (dn c)) j5 j6 j7)=.ok .nx (rM s k most bs st j1 (.fz (dn i)) (.own (mv++[eMv (YZ mx k bs i c)])) (.fz (dn c)) (.fz (dn (YS bs i c))) (.fz (.lst (dns (zq bs (YS bs i c))))) (.fz (dn (gGoal mx k bs i c)))):=by
 have eb:atD (dns bs) (i:Int)=some (dn (nth bs i)):=wC hi
 have b2:=hb2 i
 have hix:op2 ixD (vM 3) (vM 6) (rM s k most bs st j1 (.fz (dn i)) (.own mv) (.fz (dn c)) j5 j6 j7)=.ok (dn (nth bs i)) (rM s k most bs st j1 (.fz (dn i)) (.own mv) (.fz (dn c)) j5 j6 j7):=zI (x:=.lst (dns bs)) (y:=dn i) (by rfl) (by rfl) eb
 have hf:dn (YS bs i c)=.int ((nth bs i:Int)+if c=nth bs i then 1 else 0):=by
  unfold dn YS
  split<;>simp
 unfold inM
 rw[VM (ρ':=rM s k most bs st j1 (.fz (dn i)) (.own mv) (.fz (dn c)) (.fz (dn (YS bs i c))) j6 j7) (b_set (i:=9) (ρ':=rM s k most bs st j1 (.fz (dn i)) (.own mv) (.fz (dn c)) j5 j6 j7) (by rw[hf];exact yn hix (wo (zI (x:=dn c) (y:=dn (nth bs i)) (by rfl) hix (zBX _ _)) (show Xj (.bl (decide (c=nth bs i)))=some (.int (if c=nth bs i then 1 else 0)) by by_cases h:c=nth bs i<;>simp[h,Xj])) rfl))]
 have hgi:=hgm i c
 have hsr:qW mx k bs i c=Xm mx (k+40+9 * i+3 * c) (nth bs (gGoal mx k bs i c)) (YS bs i c):=rfl
 have hgo:gGoal mx k bs i c=nth (zq bs (YS bs i c)) (mx (k+8+5 * i+c) % (zq bs (YS bs i c)).length):=rfl
 have hmvq:YZ mx k bs i c=((gGoal mx k bs i c:Int),zs (qW mx k bs i c)):=rfl
 have hf3:YS bs i c<=3:=by unfold YS;split<;>omega
 rw[hmvq,hsr]
 generalize YS bs i c=far at hf3 hgi hgo ⊢
 have hpos:=hgp far
 have hmod:mx (k+8+5 * i+c) % (zq bs far).length<(zq bs far).length:=Nat.mod_lt _ hpos
 obtain⟨hg1,hg2⟩:=xm.mp hgi
 have hm:ZI Za (za (zx yX) [vM 3]) (rM s k most bs st j1 (.fz (dn i)) (.own mv) (.fz (dn c)) (.fz (dn far)) j6 j7)=.ok (dns (List.range bs.length)) (rM s k most bs st j1 (.fz (dn i)) (.own mv) (.fz (dn c)) (.fz (dn far)) j6 j7):=by
  unfold ZI
  rw[wo (x:=.lst (dns bs)) (d:=dn bs.length) (ρ':=rM s k most bs st j1 (.fz (dn i)) (.own mv) (.fz (dn c)) (.fz (dn far)) j6 j7) (by rfl) b_len,Res.bnd_ok]
  unfold dn
  rw[s_range _ (by omega),Int.toNat_natCast]
  rfl
 rw[VM (ρ':=rM s k most bs st j1 (.fz (dn i)) (.own mv) (.fz (dn c)) (.fz (dn far)) (.fz (.lst (dns (zq bs far)))) j7) (by
  rw[w5 (own:=false) (i:=10) (caps:=[.fz (.lst (dns bs)),.fz (dn far)]) (λd=>match d with | .int z=>decide (nth bs z.toNat<=far) | _=>false) id hm rfl (by rw[List.length_map,List.length_range,sizeLine_eq];omega) (λd hd acc=>by
   obtain⟨x,hx,rfl⟩:=List.mem_map.mp hd
   have hx':x<bs.length:=by simpa using hx
   refine zb (x:=.bl (decide (nth bs x<=far))) (zI (x:=dn (nth bs x)) (y:=dn far) (ρ1:=[.fz (dn x)]++[.fz (.lst (dns bs)),.fz (dn far)]++[.own acc]) (zI (f:=ixD) (x:=.lst (dns bs)) (y:=dn x) (by rfl) (by rfl) (wC hx')) (by rfl) (by
    show some (D.bl (decide ((nth bs x:Int)<=(far:Int))))=_
    rw[decide_eq_decide.mpr (show ((nth bs x:Int)<=(far:Int)) ↔ nth bs x<=far by omega)])) (by
    show some (decide (nth bs x<=far))=some (decide (nth bs ((x:Int)).toNat<=far))
    rw[Int.toNat_natCast])) (λd hd acc hp=>by rfl)]
  unfold rM
  rw[List.map_id,dns,List.filter_map]
  rfl)]
 rw[VM (ρ':=rM s k most bs st j1 (.fz (dn i)) (.own mv) (.fz (dn c)) (.fz (dn far)) (.fz (.lst (dns (zq bs far)))) (.fz (dn (gGoal mx k bs i c)))) (b_set (i:=11) (ρ':=rM s k most bs st j1 (.fz (dn i)) (.own mv) (.fz (dn c)) (.fz (dn far)) (.fz (.lst (dns (zq bs far)))) j7) (zI (x:=.lst (dns (zq bs far))) (y:=dn (mx (k+8+5 * i+c) % (zq bs far).length)) (ρ1:=rM s k most bs st j1 (.fz (dn i)) (.own mv) (.fz (dn c)) (.fz (dn far)) (.fz (.lst (dns (zq bs far)))) j7) (by rfl)
  (W3 (x:=(mx (k+8+5 * i+c):Int)) (y:=((zq bs far).length:Int)) (ρ1:=rM s k most bs st j1 (.fz (dn i)) (.own mv) (.fz (dn c)) (.fz (dn far)) (.fz (.lst (dns (zq bs far)))) j7) (xE (F:=zW) (xs:=[s,.int ((k+8+5 * i+c:Nat):Int)]) (zN (x:=s) (ρ1:=rM s k most bs st j1 (.fz (dn i)) (.own mv) (.fz (dn c)) (.fz (dn far)) (.fz (.lst (dns (zq bs far)))) j7) (by rfl) (zN (ρ1:=rM s k most bs st j1 (.fz (dn i)) (.own mv) (.fz (dn c)) (.fz (dn far)) (.fz (.lst (dns (zq bs far)))) j7) (yn (x:=(k:Int)+8+5 * (i:Int)) (y:=(c:Int)) (yn (x:=(k:Int)+8) (y:=5 * (i:Int)) (yn (x:=(k:Int)) (y:=8) (by rfl) (by rfl) rfl) (Jv (x:=5) (y:=(i:Int)) (by rfl) (by rfl) (by decide) rfl) rfl) (by rfl) (by omega)) (by rfl))) (hs _)) (wo (x:=.lst (dns (zq bs far))) (by rfl) b_len) (by omega) (by omega)) (by rw[hgo];exact wC hmod)))]
 have es:=qy hs (k+40+9 * i+3 * c) (nth bs (gGoal mx k bs i c)) far hg2 (by omega)
 rw[UE (i:=7) (ds:=mv) (x:=.tup [dn (gGoal mx k bs i c),.tup (dns (Xm mx (k+40+9 * i+3 * c) (nth bs (gGoal mx k bs i c)) far))]) (by rfl) (Jt (ρ1:=rM s k most bs st j1 (.fz (dn i)) (.own mv) (.fz (dn c)) (.fz (dn far)) (.fz (.lst (dns (zq bs far)))) (.fz (dn (gGoal mx k bs i c)))) (by rfl) (xE (F:=ZV) (xs:=[s,dn (k+40+9 * i+3 * c),dn (nth bs (gGoal mx k bs i c)),dn far]) (zN (x:=s) (ρ1:=rM s k most bs st j1 (.fz (dn i)) (.own mv) (.fz (dn c)) (.fz (dn far)) (.fz (.lst (dns (zq bs far)))) (.fz (dn (gGoal mx k bs i c)))) (by rfl) (zN (ρ1:=rM s k most bs st j1 (.fz (dn i)) (.own mv) (.fz (dn c)) (.fz (dn far)) (.fz (.lst (dns (zq bs far)))) (.fz (dn (gGoal mx k bs i c)))) (yn (x:=(k:Int)+40+9 * (i:Int)) (y:=3 * (c:Int)) (yn (x:=(k:Int)+40) (y:=9 * (i:Int)) (yn (x:=(k:Int)) (y:=40) (by rfl) (by rfl) rfl) (Jv (x:=9) (y:=(i:Int)) (by rfl) (by rfl) (by decide) rfl) rfl) (Jv (x:=3) (y:=(c:Int)) (by rfl) (by rfl) (by decide) rfl) (by omega)) (zN (ρ1:=rM s k most bs st j1 (.fz (dn i)) (.own mv) (.fz (dn c)) (.fz (dn far)) (.fz (.lst (dns (zq bs far)))) (.fz (dn (gGoal mx k bs i c)))) (zI (f:=ixD) (x:=.lst (dns bs)) (y:=dn (gGoal mx k bs i c)) (by rfl) (by rfl) (wC hg1)) (by rfl)))) es)) (by omega)]
 unfold eMv
 rw[Us (Xm mx (k+40+9 * i+3 * c) (nth bs (gGoal mx k bs i c)) far)]
 rfl
theorem Vf {s:D}{mx:Nat->Nat}(hs:wU s mx) (k most:Nat)(bs:List Nat)(j:Slot)(hbl:bs.length<=100/\0<bs.length)(hb2:∀ s,nth bs s<=2)(hgp:∀ far,0<(zq bs far).length)(hgm:∀ s c,gGoal mx k bs s c ∈ zq bs (YS bs s c)) :
  ((zG (yw 5 [])
 (yk 3 (zG (Ya (za (zx yX) [vM 3]) (ZC 6) (zG (yw 7 [])
 (zG (Ya (op2 zl (op2 ixD (vM 3) (vM 6)) (cM (.int 1))) (ZC 8) inM)
 (yk 7 (ZT 5 (ZP [op2 eqD (op2 Zq (op2 Zv (zK zW [vM 0,op2 zl (op2 zl (vM 1) (cM (.int 30))) (vM 6)]) (cM (.int 4))) (cM (.int 2))) (cM (.int 0)),op2 ixD (vM 3) (vM 6),vM 7]))))))
 (yk 5 (zz (vM 5)))))) [.fz s,.fz (dn k),.fz (dn most),.own (dns bs),j,.un,.un,.un,.un,.un,.un,.un]).wp (Fl.fin λx=>x=eM ((List.range bs.length).map (ZM mx k bs))) λ_=>False:=by
 refine zJ (ρ':=[.fz s,.fz (dn k),.fz (dn most),.own (dns bs),j,.own [],.un,.un,.un,.un,.un,.un]) (by rfl) (UD (ds:=dns bs) (by rfl) ?_)
 refine Z4 (λρ=>∃ j1 j2 j3 j4 j5 j6 j7,ρ=rM s k most bs ((List.range bs.length).map λi=>eSt (ZM mx k bs i)) j1 j2 j3 j4 j5 j6 j7) (W4 (n:=bs.length) (ρ':=rM s k most bs [] j .un .un .un .un .un .un) (wo (x:=.lst (dns bs)) (by rfl) b_len) (by omega)
  (Yd (λi ρ=>∃ j1 j2 j3 j4 j5 j6 j7,ρ=rM s k most bs ((List.range i).map λi=>eSt (ZM mx k bs i)) j1 j2 j3 j4 j5 j6 j7) ⟨_,_,_,_,_,_,_,rfl⟩ ?_ λρ h=>⟨rfl,h⟩)) ?_
 ·rintro i ρ hi ⟨j1,j2,j3,j4,j5,j6,j7,rfl⟩
  have eb:atD (dns bs) (i:Int)=some (dn (nth bs i)):=wC hi
  have b2:=hb2 i
  generalize hst:((List.range i).map λi=>eSt (ZM mx k bs i))=st
  have hsl:st.length=i:=by rw[<-hst];simp
  refine⟨rM s k most bs st j1 (.fz (dn i)) j3 j4 j5 j6 j7,rfl,?_⟩
  refine zJ (ρ':=rM s k most bs st j1 (.fz (dn i)) (.own []) j4 j5 j6 j7) (by rfl) ?_
  refine Z4 (λρ=>∃ j4 j5 j6 j7,ρ=rM s k most bs st j1 (.fz (dn i)) (.own ((List.range (nth bs i+1)).map λc=>eMv (YZ mx k bs i c))) j4 j5 j6 j7) (W4 (n:=nth bs i+1) (ρ':=rM s k most bs st j1 (.fz (dn i)) (.own []) j4 j5 j6 j7) (yn (zI (f:=ixD) (x:=.lst (dns bs)) (y:=dn i) (by rfl) (by rfl) eb) (by rfl) (by omega)) (by omega)
   (Yd (λc ρ=>∃ j4 j5 j6 j7,ρ=rM s k most bs st j1 (.fz (dn i)) (.own ((List.range c).map λc=>eMv (YZ mx k bs i c))) j4 j5 j6 j7) ⟨_,_,_,_,rfl⟩ ?_ λρ h=>⟨rfl,h⟩)) ?_
  ·rintro c ρ hc ⟨j4,j5,j6,j7,rfl⟩
   refine⟨rM s k most bs st j1 (.fz (dn i)) (.own ((List.range c).map λc=>eMv (YZ mx k bs i c))) (.fz (dn c)) j5 j6 j7,rfl,zV (KM hs k most bs hbl hb2 hgp hgm hi (by simp;omega)) ⟨.fz (dn c),.fz (dn (YS bs i c)),.fz (.lst (dns (zq bs (YS bs i c)))),.fz (dn (gGoal mx k bs i c)),?_⟩⟩
   rw[List.range_succ,List.map_append]
   rfl
  ·rintro ρ ⟨j4,j5,j6,j7,rfl⟩
   refine UD (ds:=(List.range (nth bs i+1)).map λc=>eMv (YZ mx k bs i c)) (by rfl) ?_
   have e:decide ((mx (k+30+i):Int) / 4 % 2=0)=ut mx k i:=decide_eq_decide.mpr (by omega)
   generalize hmvs:((List.range (nth bs i+1)).map λc=>eMv (YZ mx k bs i c))=mvs
   have hk:zK zW [vM 0,op2 zl (op2 zl (vM 1) (cM (.int 30))) (vM 6)] (rM s k most bs st j1 (.fz (dn i)) (.fz (.lst mvs)) j4 j5 j6 j7)=.ok (.int (mx (k+30+i):Int)) (rM s k most bs st j1 (.fz (dn i)) (.fz (.lst mvs)) j4 j5 j6 j7):=xE (F:=zW) (xs:=[s,.int ((k+30+i:Nat):Int)]) (zN (x:=s) (ρ1:=(rM s k most bs st j1 (.fz (dn i)) (.fz (.lst mvs)) j4 j5 j6 j7)) (by rfl) (zN (ρ1:=(rM s k most bs st j1 (.fz (dn i)) (.fz (.lst mvs)) j4 j5 j6 j7)) (yn (x:=(k:Int)+30) (y:=(i:Int)) (yn (x:=(k:Int)) (y:=30) (by rfl) (by rfl) rfl) (by rfl) (by omega)) (by rfl))) (hs _)
   have hd:op2 Zq (op2 Zv (zK zW [vM 0,op2 zl (op2 zl (vM 1) (cM (.int 30))) (vM 6)]) (cM (.int 4))) (cM (.int 2)) (rM s k most bs st j1 (.fz (dn i)) (.fz (.lst mvs)) j4 j5 j6 j7)=.ok (.int ((mx (k+30+i):Int) / 4 % 2)) (rM s k most bs st j1 (.fz (dn i)) (.fz (.lst mvs)) j4 j5 j6 j7):=W3 (x:=(mx (k+30+i):Int) / 4) (y:=2) (zI (f:=Zv) (x:=.int (mx (k+30+i):Int)) (y:=.int 4) hk (by rfl) (by rfl)) (by rfl) (by omega) rfl
   have hg:op2 eqD (op2 Zq (op2 Zv (zK zW [vM 0,op2 zl (op2 zl (vM 1) (cM (.int 30))) (vM 6)]) (cM (.int 4))) (cM (.int 2))) (cM (.int 0)) (rM s k most bs st j1 (.fz (dn i)) (.fz (.lst mvs)) j4 j5 j6 j7)=.ok (.bl (ut mx k i)) (rM s k most bs st j1 (.fz (dn i)) (.fz (.lst mvs)) j4 j5 j6 j7):=zI (f:=eqD) (y:=.int 0) hd (by rfl) (by
    show some (D.bl ((D.int ((mx (k+30+i):Int) / 4 % 2)).eqv (.int 0)))=_
    rw[Wq,e])
   refine zV (UE (i:=5) (ρ:=(rM s k most bs st j1 (.fz (dn i)) (.fz (.lst mvs)) j4 j5 j6 j7)) (ds:=st) (x:=.tup [.bl (ut mx k i),dn (nth bs i),.lst mvs]) (by rfl) (zA2 hg (zI (f:=ixD) (x:=.lst (dns bs)) (y:=dn i) (by rfl) (by rfl) eb) (by rfl)) (by omega)) ?_
   refine⟨j1,.fz (dn i),.fz (.lst mvs),j4,j5,j6,j7,?_⟩
   rw[show List.range (i+1)=List.range i++[i] from List.range_succ,List.map_append,hst]
   have:eSt (ZM mx k bs i)=.tup [.bl (ut mx k i),dn (nth bs i),.lst mvs]:=by rw[<-hmvs];unfold eSt ZM;rw[List.map_map];rfl
   rw[show [i].map (λi=>eSt (ZM mx k bs i))=[eSt (ZM mx k bs i)] from rfl,this]
   rfl
 ·rintro ρ ⟨j1,j2,j3,j4,j5,j6,j7,rfl⟩
  refine UD (ds:=(List.range bs.length).map λi=>eSt (ZM mx k bs i)) (by rfl) (zV (UC (by rfl)) ?_)
  show D.lst _=eM _
  unfold eM
  rw[List.map_map]
  rfl
noncomputable def rX (s:D) (k most:Nat)(l:List Nat)(j:Slot):Rho:=[.fz s,.fz (dn k),.fz (dn most),.own (dns l),j,.un,.un,.un,.un,.un,.un,.un]
theorem vR {s:D}{mx:Nat->Nat}(hs:wU s mx) (k most:Nat)(h:0<most)(hm:most<100):ZF [s,dn k,dn most]=.ok (eM (gM mx k most)):=by
 refine ZE (zJ (ρ':=rX s k most [0] .un) (by rfl) ?_)
 have hlt:=Nat.mod_lt (mx k) h
 refine Z4 (λρ=>∃ j,ρ=rX s k most (zw mx k most) j) (W4 (n:=mx k % most) (ρ':=rX s k most [0] .un) (W3 (x:=(mx k:Int)) (y:=(most:Int)) (xE (F:=zW) (xs:=[s,.int (k:Int)]) (by rfl) (hs k)) (by rfl) (by omega) (by push_cast;rfl)) (by omega)
  (Yd (λi ρ=>∃ j,ρ=rX s k most (0::(List.range i).map λj=>nth [0,1,1,2] (mx (k+1+j) % 4)) j) ⟨_,rfl⟩ ?_ λρ h=>⟨rfl,h⟩)) ?_
 ·rintro i ρ hi ⟨j,rfl⟩
  generalize hl:(0::(List.range i).map λj=>nth [0,1,1,2] (mx (k+1+j) % 4))=l
  have hll:l.length=i+1:=by rw[<-hl];simp
  refine⟨rX s k most l (.fz (dn i)),rfl,?_⟩
  have e:atD [D.int 0,D.int 1,D.int 1,D.int 2] ((mx (k+1+i):Int) % 4)=some (dn (nth [0,1,1,2] (mx (k+1+i) % 4))):=zA4 (l:=[0,1,1,2]) (by omega) (Nat.mod_lt _ (by decide))
  refine zV (UE (i:=3) (ρ:=rX s k most l (.fz (dn i))) (ds:=dns l) (x:=dn (nth [0,1,1,2] (mx (k+1+i) % 4))) (by rfl) (zI (f:=ixD) (x:=.lst [.int 0,.int 1,.int 1,.int 2]) (y:=.int ((mx (k+1+i):Int) % 4)) (ρ1:=rX s k most l (.fz (dn i))) (by rfl) (W3 (x:=(mx (k+1+i):Int)) (y:=4) (xE (F:=zW) (xs:=[s,.int ((k+1+i:Nat):Int)]) (zN (x:=s) (ρ1:=rX s k most l (.fz (dn i))) (by rfl) (zN (ρ1:=rX s k most l (.fz (dn i))) (yn (x:=(k:Int)+1) (y:=(i:Int)) (yn (x:=(k:Int)) (y:=1) (by rfl) (by rfl) rfl) (by rfl) (by omega)) (by rfl))) (hs _)) (by rfl) (by decide) rfl) e) (by rw[List.length_map];omega)) ⟨.fz (dn i),?_⟩
  rw[List.range_succ,List.map_append,<-List.cons_append,hl]
  unfold rX
  rw[show dns (l++[i].map λj=>nth [0,1,1,2] (mx (k+1+j) % 4))=dns l++[dn (nth [0,1,1,2] (mx (k+1+i) % 4))] from List.map_append]
  rfl
 ·rintro ρ ⟨j,rfl⟩
  have hbl:=xo mx k most h
  exact Vf hs k most _ j ⟨by omega,hbl.2⟩ (X7 mx k most) (Wi mx k most) (vy mx k most)
theorem FR.wp.mono {r:FR}{Q Q':D->Prop}{X X':Addr->Prop}(h:r.wp Q X)(hq:∀ d,Q d->Q' d)(hx:∀ c,X c->X' c):r.wp Q' X':=by
 cases h with
 |ok h=>exact .ok (hq _ h)
 |exn h=>exact .exn (hx _ h)
noncomputable def YJ (m:List Stt) (g:Int):Int:=((m[g.toNat]?).map (·.2.1)).getD 0
noncomputable def vT (most:Int)(ss:List Int):Bool:=decide ((z0 ss).length=ss.length) && ss.all λx=>decide (0<=x) && decide (x<most)
noncomputable def xS (m:List Stt) (most:Int)(v:Mv):Bool:=decide (0<=v.1) && decide (v.1<m.length) && decide ((v.2.length:Int)=YJ m v.1) && vT most v.2
noncomputable def wW (m:List Stt)(s:Stt):Bool:=decide (0<=s.2.1) && decide (s.2.1<=6) && decide ((s.2.2.length:Int)=s.2.1+1) && (s.2.2.take s.2.1.toNat).all (xS m s.2.1) && ((s.2.2[s.2.1.toNat]?).map (xS m (s.2.1+1))).getD false
noncomputable def Xc (m:List Stt):Bool:=decide (1<=m.length) && decide (m.length<=400) && decide (YJ m 0=0) && m.all (wW m)
noncomputable def UH (m:List Stt):Prop:=∀ s ∈ m,∀ v ∈ s.2.2,v.2.length<1000
theorem K0 {m:List Stt}{g:Int}(h0:0<=g)(h1:g<m.length):∃ s,m[g.toNat]? = some s/\atD (m.map eSt) g=some (eSt s)/\YJ m g=s.2.1:=by
 have hl:g.toNat<m.length:=by omega
 refine⟨m[g.toNat],List.getElem?_eq_getElem hl,?_,?_⟩
 ·have:=Zh eSt m g.toNat _ (List.getElem?_eq_getElem hl)
  rwa [show ((g.toNat:Nat):Int)=g by omega]at this
 ·unfold YJ;rw[List.getElem?_eq_getElem hl];rfl
theorem Wg (ns:List Int):yM (ns.map .int)=some ns:=by
 induction ns with
 |nil=>rfl
 |cons a r ih=>simp[yM,ih]
theorem Ug (ns:List Int)(h:ns.length<1000):xL (.tup (ns.map .int))=some (.int (z0 ns).length):=by
 simp[xL,Wg,h]
@[simp] theorem at0 (a:D)(r:List D):atD (a::r) 0=some a:=by simp[atD,Yp]
@[simp] theorem at1 (a b:D)(r:List D):atD (a::b::r) 1=some b:=by
 unfold atD Yp
 rw[if_pos (by decide),if_pos (by simp;omega)]
 rfl
@[simp] theorem at2 (a b c:D)(r:List D):atD (a::b::c::r) 2=some c:=by
 unfold atD Yp
 rw[if_pos (by decide),if_pos (by simp;omega)]
 rfl
theorem take_succ {α:Type}{l:List α}{i:Nat}{x:α}(h:l[i]? = some x):l.take (i+1)=l.take i++[x]:=by
 rw[List.take_succ,h];rfl
noncomputable def vO {α:Type}(l:List α)(p:α->Bool):Prop:=l.all p=true
theorem allT_nil {α:Type}(p:α->Bool):vO [] p:=rfl
theorem wD {α:Type}{l:List α}{i:Nat}{x:α}{p:α->Bool}(h:l[i]? = some x)(ha:vO (l.take i) p)(hx:p x=true):vO (l.take (i+1)) p:=by
 unfold vO at *
 rw[take_succ h,List.all_append,ha]
 simp[hx]
theorem vA {α:Type}{l:List α}{p:α->Bool}(h:vO (l.take l.length) p):l.all p=true:=by
 unfold vO at h
 rwa [List.take_length]at h
noncomputable def rLM (m:List Stt)(v:Mv) (l:Int)(j:Slot):Rho:=[.fz (eM m),.fz (eMv v),.fz (.int l),.fz (.int v.1),.fz (.tup (v.2.map .int)),j]
theorem KK (A:Cls)(m:List Stt)(v:Mv) (l x:Int):((ifM (orM (zO zQ (op2 ltD (vM 5) (cM (.int 0)))) (zO zQ (op2 geD (vM 5) (vM 2)))) (Zj A.bm) (nxM)) (rLM m v l (.fz (.int x))))=if 0<=x/\x<l then .ok .nx (rLM m v l (.fz (.int x))) else .exn A.bm (rLM m v l (.fz (.int x))):=by
 by_cases h0:x<0
 ·rw[if_neg (by omega)]
  exact yz (km (xT h0 rfl))
 ·by_cases h1:l<=x
  ·rw[if_neg (by omega)]
   exact yz (WM (YQ h0 rfl) (xT h1 rfl))
  ·rw[if_pos (by omega)]
   exact yQ (WM (YQ h0 rfl) (YQ h1 rfl))
theorem wE (A:Cls)(m:List Stt)(v:Mv) (l:Int)(hv:v.2.length<1000):(yF A [eM m,eMv v,.int l]).wp (λd=>d=.non/\xS m l v=true) (λc=>c=A.bm/\xS m l v=false):=by
 refine yo (zJ (ρ':=[.fz (eM m),.fz (eMv v),.fz (.int l),.fz (.int v.1),.un,.un]) rfl (zJ (ρ':=rLM m v l .un) rfl ?_))
 have el:((m.map eSt).length:Int)=m.length:=by rw[List.length_map]
 by_cases h0:v.1<0
 ·exact Zo (yz (km (xT h0 rfl))) ⟨rfl,by simp[xS];omega⟩
 by_cases h1:((m.map eSt).length:Int)<=v.1
 ·exact Zo (yz (WM (YQ h0 rfl) (xT h1 rfl))) ⟨rfl,by simp[xS];omega⟩
 refine zJ (yQ (WM (YQ h0 rfl) (YQ h1 rfl))) ?_
 obtain⟨s,hs,ea,eb⟩:=K0 (m:=m) (g:=v.1) (by omega) (by omega)
 have e1:op2 neD (za (zx yX) [vM 4]) (op2 ixD (op2 ixD (vM 0) (vM 3)) (cM (.int 1))) (rLM m v l .un)=.ok (.bl (decide (((v.2.map D.int).length:Int)≠s.2.1))) (rLM m v l .un):=
  zI rfl (zI (zI rfl rfl ea) rfl rfl) (XR _ _)
 have e2:op2 neD (op1 xL (vM 4)) (za (zx yX) [vM 4]) (rLM m v l .un)=.ok (.bl (decide (((z0 v.2).length:Int)≠((v.2.map D.int).length:Int)))) (rLM m v l .un):=
  zI (Xu rfl (Ug v.2 hv)) rfl (XR _ _)
 have em:(v.2.map D.int).length=v.2.length:=by rw[List.length_map]
 rw[em]at e1 e2
 by_cases h2:(v.2.length:Int)=s.2.1
 case neg=>exact Zo (yz (xT h2 (zb e1 rfl))) ⟨rfl,by simp[xS,eb,h2]⟩
 refine zJ (yQ (YQ (λz=>z h2) (zb e1 rfl))) ?_
 have hc:xS m l v=vT l v.2:=by simp[xS,eb,h2];omega
 rw[hc]
 by_cases h3:((z0 v.2).length:Int)=(v.2.length:Int)
 case neg=>exact Zo (yz (xT h3 (zb e2 rfl))) ⟨rfl,by simp[vT];omega⟩
 refine zJ (yQ (YQ (λz=>z h3) (zb e2 rfl))) ?_
 rw[p_forE,p_vM]
 refine .mk (.mk (YB (λi ρ=>vO (v.2.take i) (λx=>decide (0<=x) && decide (x<l))/\∃ j,ρ=rLM m v l j) ⟨rfl,_,rfl⟩ ?_ ?_))
 ·rintro i x ρ hx ⟨hall,j,rfl⟩
  refine⟨rLM m v l (.fz (.int x)),rfl,?_⟩
  rw[KK A m v l x]
  by_cases hx0:0<=x/\x<l
  ·rw[if_pos hx0,p_ok]
   exact⟨wD hx hall (by simp[hx0]),_,rfl⟩
  ·rw[if_neg hx0,p_exn]
   refine⟨rfl,?_⟩
   unfold vT
   rw[Bool.and_eq_false_iff]
   exact .inr (List.all_eq_false.mpr ⟨x,List.mem_of_getElem? hx,by simpa using hx0⟩)
 ·rintro ρ ⟨hall,j,rfl⟩
  have:=vA hall
  exact⟨rfl,by unfold vT;rw[this,Bool.and_true];exact decide_eq_true (by omega)⟩
theorem zA0 {α:Type}(xs:List α) (b:Int)(h:0<=b):cut xs none (some b)=xs.take b.toNat:=by
 unfold cut u2
 simp only[List.drop_zero,Nat.sub_zero]
 rw[if_neg (by omega)]
 by_cases hb:b.toNat<=xs.length
 ·rw[Nat.min_eq_left hb]
 ·rw[Nat.min_eq_right (by omega),List.take_of_length_le (Nat.le_refl _),List.take_of_length_le (by omega)]
noncomputable def rLS (m:List Stt)(s:Stt)(j:Slot):Rho:=[.fz (eM m),.fz (eSt s),.fz (.int s.2.1),.fz (.lst (s.2.2.map eMv)),j]
theorem VA (A:Cls)(m:List Stt)(s:Stt)(hs:∀ v ∈ s.2.2,v.2.length<1000):(yO A [eM m,eSt s]).wp (λd=>d=.non/\wW m s=true) (λc=>c=A.bm/\wW m s=false):=by
 refine yo (zJ (ρ':=[.fz (eM m),.fz (eSt s),.fz (.int s.2.1),.un,.un]) rfl (zJ (ρ':=rLS m s .un) rfl ?_))
 by_cases h0:s.2.1<0
 ·exact Zo (yz (km (xT h0 rfl))) ⟨rfl,by simp[wW];omega⟩
 by_cases h6:6<s.2.1
 ·exact Zo (yz (WM (YQ h0 rfl) (xT h6 rfl))) ⟨rfl,by simp[wW];omega⟩
 refine zJ (yQ (WM (YQ h0 rfl) (YQ h6 rfl))) ?_
 have e1:op2 neD (za (zx yX) [vM 3]) (op2 zl (vM 2) (cM (.int 1))) (rLS m s .un)=.ok (.bl (decide (((s.2.2.map eMv).length:Int)≠s.2.1+1))) (rLS m s .un):=zI rfl rfl (XR _ _)
 rw[List.length_map]at e1
 by_cases hl:(s.2.2.length:Int)=s.2.1+1
 case neg=>exact Zo (yz (xT hl (zb e1 rfl))) ⟨rfl,by simp[wW];omega⟩
 refine zJ (yQ (YQ (λz=>z hl) (zb e1 rfl))) ?_
 have hb:s.2.1.toNat<s.2.2.length:=by omega
 have hbl:=List.getElem?_eq_getElem hb
 generalize s.2.2[s.2.1.toNat]=vl at hbl
 have hcond:wW m s=((s.2.2.take s.2.1.toNat).all (xS m s.2.1) && xS m (s.2.1+1) vl):=by
  unfold wW
  rw[decide_eq_true (show 0<=s.2.1 by omega),decide_eq_true (show s.2.1<=6 by omega),decide_eq_true hl,hbl]
  rfl
 have eat:atD (s.2.2.map eMv) s.2.1=some (eMv vl):=by
  have:=Zh eMv s.2.2 s.2.1.toNat _ hbl
  rwa [show ((s.2.1.toNat:Nat):Int)=s.2.1 by omega]at this
 rw[hcond]
 refine Z4 (λρ=>vO (s.2.2.take s.2.1.toNat) (xS m s.2.1)/\∃ j,ρ=rLS m s j) (xp (jT rfl rfl rfl) rfl ?_) ?_
 ·rw[zA0 _ _ (by omega),<-List.map_take]
  refine YB (λi ρ=>vO ((s.2.2.take s.2.1.toNat).take i) (xS m s.2.1)/\∃ j,ρ=rLS m s j) ⟨rfl,_,rfl⟩ ?_ ?_
  ·rintro i v ρ hv ⟨hall,j,rfl⟩
   have hvm:v ∈ s.2.2.take s.2.1.toNat:=List.mem_of_getElem? hv
   refine⟨rLS m s (.fz (eMv v)),rfl,X9 (xs:=[eM m,eMv v,.int s.2.1]) rfl ?_⟩
   refine (wE A m v s.2.1 (hs v (List.mem_of_mem_take hvm))).mono (λd hd=>?_) λc hc=>?_
   ·exact⟨wD hv hall hd.2,_,rfl⟩
   ·exact⟨hc.1,Bool.and_eq_false_iff.mpr (.inl (List.all_eq_false.mpr ⟨v,hvm,by rw[hc.2];decide⟩))⟩
  ·rintro ρ ⟨hall,j,rfl⟩
   exact⟨rfl,vA hall,j,rfl⟩
 ·rintro ρ ⟨hall,j,rfl⟩
  rw[show (s.2.2.take s.2.1.toNat).all (xS m s.2.1)=true from hall]
  refine X9 (ρ':=rLS m s j) (xs:=[eM m,eMv vl,.int (s.2.1+1)]) (zN (ρ1:=rLS m s j) rfl (zN (zI rfl rfl eat) rfl)) ?_
  refine (wE A m vl (s.2.1+1) (hs _ (List.mem_of_getElem? hbl))).mono (λd hd=>?_) λc hc=>?_
  ·exact⟨rfl,hd.2⟩
  ·exact⟨hc.1,hc.2⟩
theorem Yz (A:Cls)(m:List Stt)(hs:UH m):(zP A [eM m]).wp (λd=>d=.non/\Xc m=true) (λc=>c=A.bm/\Xc m=false):=by
 refine yo ?_
 have el:((m.map eSt).length:Int)=m.length:=by rw[List.length_map]
 by_cases h1:((m.map eSt).length:Int)<1
 ·exact Zo (ρ':=ZJ 2 [eM m]) (yz (km (xT h1 rfl))) ⟨rfl,by unfold Xc;rw[decide_eq_false (by omega)];rfl⟩
 by_cases h4:400<((m.map eSt).length:Int)
 ·exact Zo (ρ':=ZJ 2 [eM m]) (yz (WM (YQ h1 rfl) (xT h4 rfl))) ⟨rfl,by unfold Xc;rw[decide_eq_false (show ¬ m.length<=400 by omega),Bool.and_false];rfl⟩
 refine zJ (ρ':=ZJ 2 [eM m]) (yQ (WM (YQ h1 rfl) (YQ h4 rfl))) ?_
 obtain⟨s,e1,e2,e3⟩:=K0 (m:=m) (g:=0) (by omega) (by omega)
 have hg:Xc m=(decide (s.2.1=0) && m.all (wW m)):=by
  unfold Xc
  rw[decide_eq_true (show 1<=m.length by omega),decide_eq_true (show m.length<=400 by omega),e3]
  rfl
 have eq:op2 neD (op2 ixD (op2 ixD (vM 0) (cM (.int 0))) (cM (.int 1))) (cM (.int 0)) (ZJ 2 [eM m])=.ok (.bl (decide (s.2.1≠0))) (ZJ 2 [eM m]):=zI (zI (zI rfl rfl e2) rfl rfl) rfl (XR _ _)
 rw[hg]
 by_cases h0:s.2.1=0
 case neg=>exact Zo (yz (xT h0 (zb eq rfl))) ⟨rfl,by rw[decide_eq_false h0];rfl⟩
 refine zJ (yQ (YQ (λz=>z h0) (zb eq rfl))) ?_
 rw[decide_eq_true h0,Bool.true_and]
 refine xp rfl rfl (YB (λi ρ=>vO (m.take i) (wW m)/\∃ j,ρ=[.fz (eM m),j]) ⟨rfl,_,rfl⟩ ?_ ?_)
 ·rintro i v ρ hv ⟨hall,j,rfl⟩
  have hvm:v ∈ m:=List.mem_of_getElem? hv
  refine⟨[.fz (eM m),.fz (eSt v)],rfl,X9 (xs:=[eM m,eSt v]) rfl ?_⟩
  refine (VA A m v (hs v hvm)).mono (λd hd=>?_) λc hc=>?_
  ·exact⟨wD hv hall hd.2,_,rfl⟩
  ·exact⟨hc.1,List.all_eq_false.mpr ⟨v,hvm,by rw[hc.2];decide⟩⟩
 ·rintro ρ ⟨hall,j,rfl⟩
  exact⟨rfl,vA hall⟩
theorem Wn:∀ l:List Int,(z0 l).length<=l.length
 |[]=>Nat.le_refl _
 |a::r=>by
  unfold z0
  have:=List.length_filter_le (· != a) (z0 r)
  have:=Wn r
  simp;omega
theorem Wo:∀ (l:List Int) (x:Int),x ∈ l->x ∈ z0 l
 |a::r,x,h=>by
  unfold z0
  by_cases e:x=a
  ·subst e;exact List.mem_cons_self
  ·refine List.mem_cons_of_mem _ (List.mem_filter.mpr ⟨Wo r x ((List.mem_cons.mp h).resolve_left e),by simpa using e⟩)
theorem Xe:∀ l:List Int,(z0 l).length=l.length->l.Nodup
 |[],_=>List.nodup_nil
 |a::r,h=>by
  unfold z0 at h
  have h1:=List.length_filter_le (· != a) (z0 r)
  have h2:=Wn r
  simp at h
  have h3:(z0 r).length=r.length:=by omega
  have h4:((z0 r).filter (· != a)).length=(z0 r).length:=by omega
  refine List.nodup_cons.mpr ⟨λm=>?_,Xe r h3⟩
  have:=(List.length_filter_eq_length_iff.mp h4) a (Wo r a m)
  simp at this
theorem XO:∀ l:List Int,l.Nodup->z0 l=l
 |[],_=>rfl
 |a::r,h=>by
  obtain⟨h1,h2⟩:=List.nodup_cons.mp h
  unfold z0
  rw[XO r h2,List.filter_eq_self.mpr]
  intro x hx
  have:x≠a:=λe=>h1 (e ▸ hx)
  simpa using this
structure GoodMv (m:List Stt) (most:Int)(v:Mv):Prop where
 t0:0<=v.1
 t1:v.1<m.length
 ln:(v.2.length:Int)=YJ m v.1
 nd:v.2.Nodup
 lo:∀ x ∈ v.2,0<=x
 hi:∀ x ∈ v.2,x<most
structure GoodSt (m:List Stt)(s:Stt):Prop where
 b0:0<=s.2.1
 b6:s.2.1<=6
 ml:s.2.2.length=s.2.1.toNat+1
 mv:∀ (c:Nat)(v:Mv),s.2.2[c]? = some v->GoodMv m (s.2.1+if c=s.2.1.toNat then 1 else 0) v
structure GoodM (m:List Stt):Prop where
 pos:0<m.length
 few:m.length<=400
 zer:YJ m 0=0
 sts:∀ s ∈ m,GoodSt m s
theorem XS {m:List Stt}{most:Int}{v:Mv}:xS m most v=true ↔ GoodMv m most v:=by
 unfold xS vT
 simp only[Bool.and_eq_true,decide_eq_true_eq,List.all_eq_true]
 constructor
 ·rintro⟨⟨⟨h1,h2⟩,h3⟩,h4,h5⟩
  exact⟨h1,h2,h3,Xe _ h4,λx hx=>(h5 x hx).1,λx hx=>(h5 x hx).2⟩
 ·rintro⟨h1,h2,h3,h4,h5,h6⟩
  exact⟨⟨⟨h1,h2⟩,h3⟩,by rw[XO _ h4],λx hx=>⟨h5 x hx,h6 x hx⟩⟩
theorem V3 {m:List Stt}{s:Stt}:wW m s=true ↔ GoodSt m s:=by
 unfold wW
 simp only[Bool.and_eq_true,decide_eq_true_eq,List.all_eq_true]
 constructor
 ·rintro⟨⟨⟨⟨h1,h2⟩,h3⟩,h4⟩,h5⟩
  have hb:s.2.1.toNat<s.2.2.length:=by omega
  have hbl:=List.getElem?_eq_getElem hb
  rw[hbl]at h5
  refine⟨h1,h2,by omega,λc v hv=>?_⟩
  have hc:=(List.getElem?_eq_some_iff.mp hv).1
  by_cases e:c=s.2.1.toNat
  ·subst e
   rw[hbl]at hv
   cases hv
   rw[if_pos rfl]
   exact XS.mp h5
  ·rw[if_neg e,Int.add_zero]
   refine XS.mp (h4 v (List.mem_iff_getElem?.mpr ⟨c,?_⟩))
   rw[List.getElem?_take,if_pos (by omega),hv]
 ·rintro⟨h1,h2,h3,h4⟩
  have hb:s.2.1.toNat<s.2.2.length:=by omega
  have hbl:=List.getElem?_eq_getElem hb
  refine⟨⟨⟨⟨h1,h2⟩,by omega⟩,λv hv=>?_⟩,?_⟩
  ·obtain⟨c,hc⟩:=List.mem_iff_getElem?.mp hv
   rw[List.getElem?_take]at hc
   split at hc
   ·rename_i hlt
    have:=h4 c v hc
    rw[if_neg (by omega),Int.add_zero]at this
    exact XS.mpr this
   ·cases hc
  ·rw[hbl]
   have:=h4 _ _ hbl
   rw[if_pos rfl]at this
   exact XS.mpr this
theorem X5 {m:List Stt}:Xc m=true ↔ GoodM m:=by
 unfold Xc
 simp only[Bool.and_eq_true,decide_eq_true_eq,List.all_eq_true]
 constructor
 ·rintro⟨⟨⟨h1,h2⟩,h3⟩,h4⟩
  exact⟨h1,h2,h3,λs hs=>V3.mp (h4 s hs)⟩
 ·rintro⟨h1,h2,h3,h4⟩
  exact⟨⟨⟨h1,h2⟩,h3⟩,λs hs=>V3.mpr (h4 s hs)⟩
noncomputable abbrev Pl:=Nat×List Int
structure At (m:List Stt)(p:Pl)(s:Stt):Prop where
 st:m[p.1]? = some s
 ln:p.2.length=s.2.1.toNat
 nd:p.2.Nodup
noncomputable def ZD (s:Stt)(held:List Int) (x:Int):Mv:=(s.2.2[held.findIdx (λy=>decide (y=x))]?).getD (0,[])
noncomputable def Z2 (held:List Int) (x:Int) (src:Int):Int:=((held++[x])[src.toNat]?).getD 0
noncomputable def step (m:List Stt)(p:Pl) (x:Int):Pl:=match m[p.1]? with
 |some s=>((ZD s p.2 x).1.toNat,(ZD s p.2 x).2.map (Z2 p.2 x))
 |none=>(0,[])
theorem Zl {m:List Stt}{g:Int}{s:Stt}(h:m[g.toNat]? = some s):YJ m g=s.2.1:=by unfold YJ;rw[h];rfl
section
variable {m:List Stt}(hm:GoodM m){p:Pl}{s:Stt}(hp:At m p s) (x:Int)
theorem zAs:p.2.findIdx (λy=>decide (y=x))<=p.2.length:=List.findIdx_le_length
include hm hp
theorem xP:s.2.2[p.2.findIdx (λy=>decide (y=x))]? = some (ZD s p.2 x)/\GoodMv m (s.2.1+if p.2.findIdx (λy=>decide (y=x))=s.2.1.toNat then 1 else 0) (ZD s p.2 x):=by
 have hs:=hm.sts s (List.mem_of_getElem? hp.st)
 have hi:p.2.findIdx (λy=>decide (y=x))<s.2.2.length:=by
  have:=zAs (p:=p) x
  rw[hs.ml,<-hp.ln]
  omega
 have e:s.2.2[p.2.findIdx (λy=>decide (y=x))]? = some (ZD s p.2 x):=by
  unfold ZD
  rw[List.getElem?_eq_getElem hi]
  rfl
 exact⟨e,hs.mv _ _ e⟩
theorem Qs:∀ a ∈ (ZD s p.2 x).2,∀ b ∈ (ZD s p.2 x).2,Z2 p.2 x a=Z2 p.2 x b->a=b:=by
 obtain⟨e,g⟩:=xP hm hp x
 intro a ha b hb hab
 have hnd:=hp.nd
 by_cases q:p.2.findIdx (λy=>decide (y=x))=s.2.1.toNat
 ·rw[if_pos q]at g
  have hx:x ∉ p.2:=λhx=>by
   have:=List.findIdx_lt_length_of_exists (p:=λy=>decide (y=x)) (xs:=p.2) ⟨x,hx,by simp⟩
   rw[hp.ln]at this
   omega
  have nd2:(p.2++[x]).Nodup:=by
   rw[List.nodup_append]
   exact⟨hnd,by simp,λy hy z hz=>by rw[List.mem_singleton.mp hz];exact λe=>hx (e ▸ hy)⟩
  have hla:a.toNat<(p.2++[x]).length:=by
   have:=g.hi a ha;have:=g.lo a ha;simp[hp.ln];omega
  have hlb:b.toNat<(p.2++[x]).length:=by
   have:=g.hi b hb;have:=g.lo b hb;simp[hp.ln];omega
  unfold Z2 at hab
  rw[List.getElem?_eq_getElem hla,List.getElem?_eq_getElem hlb]at hab
  have:=(List.getElem_inj nd2).mp hab
  have:=g.lo a ha;have:=g.lo b hb
  omega
 ·rw[if_neg q,Int.add_zero]at g
  have hla:a.toNat<p.2.length:=by
   have:=g.hi a ha;have:=g.lo a ha;rw[hp.ln];omega
  have hlb:b.toNat<p.2.length:=by
   have:=g.hi b hb;have:=g.lo b hb;rw[hp.ln];omega
  unfold Z2 at hab
  rw[List.getElem?_append_left hla,List.getElem?_append_left hlb,List.getElem?_eq_getElem hla,List.getElem?_eq_getElem hlb]at hab
  have:=(List.getElem_inj hnd).mp hab
  have:=g.lo a ha;have:=g.lo b hb
  omega
theorem wb:∃ s',At m (step m p x) s':=by
 obtain⟨e,g⟩:=xP hm hp x
 have ht:(ZD s p.2 x).1.toNat<m.length:=by have:=g.t0;have:=g.t1;omega
 have es:step m p x=((ZD s p.2 x).1.toNat,(ZD s p.2 x).2.map (Z2 p.2 x)):=by unfold step;rw[hp.st]
 refine⟨m[(ZD s p.2 x).1.toNat],?_⟩
 rw[es]
 refine⟨List.getElem?_eq_getElem ht,?_,?_⟩
 ·have:=g.ln
  rw[Zl (List.getElem?_eq_getElem ht)]at this
  simp only[List.length_map]
  omega
 ·refine List.pairwise_map.mpr ?_
  refine List.Pairwise.imp_of_mem ?_ g.nd
  intro a b ha hb hne he
  exact hne (Qs hm hp x a ha b hb he)
end
noncomputable def run (m:List Stt)(w:List Int):Pl:=w.foldl (step m) (0,[])
theorem xF {m:List Stt}(hm:GoodM m):∃ s,At m (0,[]) s:=by
 have h:=hm.pos
 refine⟨m[0],List.getElem?_eq_getElem h,?_,List.nodup_nil⟩
 have:=hm.zer
 rw[Zl (g:=0) (List.getElem?_eq_getElem h)]at this
 rw[show m[0].2.1=0 from this]
 rfl
theorem Wm {m:List Stt}(hm:GoodM m):∀ (w:List Int)(p:Pl)(s:Stt),At m p s->∃ s',At m (w.foldl (step m) p) s'
 |[],p,s,h=>⟨s,h⟩
 |x::w,p,s,h=>by
  obtain⟨s',h'⟩:=wb hm h x
  exact Wm hm w _ s' h'
theorem jZ {m:List Stt}(hm:GoodM m)(w:List Int):∃ s,At m (run m w) s:=by
 obtain⟨s,h⟩:=xF hm
 exact Wm hm w _ s h
theorem yd (l:List Int):D.plains (l.map .int)=true:=by
 induction l with
 |nil=>simp[D.plains]
 |cons a r ih=>simp[D.plains,D.plain,ih]
theorem y0 (l:List Int):D.deeps (l.map .int)=0:=by
 induction l with
 |nil=>simp[D.deeps]
 |cons a r ih=>simp[D.deeps,D.deep,ih]
theorem Xh (a b:Int):D.eqv (.int a) (.int b)=decide (a=b):=by
 unfold D.eqv
 by_cases h:a=b<;>simp[h]
theorem JV (x:Int)(l:List Int):inD (.int x) (.tup (l.map .int))=some (.bl (decide (x ∈ l))):=by
 simp only[inD,D.items?,D.plain,yd,y0,List.any_map]
 simp
 rw[Bool.eq_iff_iff]
 simp[Xh]
theorem zAq (x:Int)(l:List Int):inD (.int x) (.lst (l.map .int))=some (.bl (decide (x ∈ l))):=by
 simp only[inD,D.items?,D.plain,yd,y0,List.any_map]
 simp
 rw[Bool.eq_iff_iff]
 simp[Xh]
theorem Qk (x:Int)(l:List Int)(h:x ∈ l):YR (.tup (l.map .int)) (.int x)=some (.int (l.findIdx λy=>decide (y=x))):=by
 have hlt:=List.findIdx_lt_length_of_exists (p:=λy=>decide (y=x)) (xs:=l) ⟨x,h,by simp⟩
 have e:uu (l.map .int) (.int x)=some (l.findIdx λy=>decide (y=x)):=by
  unfold uu
  rw[List.findIdx?_map]
  have:(λy=>D.eqv y (.int x)) ∘ D.int=λy=>decide (y=x):=by funext y;exact Xh y x
  rw[this,List.findIdx?_eq_some_iff_findIdx_eq]
  exact⟨hlt,rfl⟩
 simp only[YR,D.items?,D.plain,yd,y0,e]
 simp
theorem qR {l:List Int}{x:Int}(h:x ∉ l):l.findIdx (λy=>decide (y=x))=l.length:=by
 rw[List.findIdx_eq_length]
 intro y hy
 have:y≠x:=λe=>h (e ▸ hy)
 simpa using this
section
variable {m:List Stt}(hm:GoodM m){p:Pl}{s:Stt}(hp:At m p s) (x:Int)
include hm hp
theorem Jg {a:Int}(ha:a ∈ (ZD s p.2 x).2):∃ z,(p.2++[x])[a.toNat]? = some z/\Z2 p.2 x a=z/\0<=a/\a.toNat<p.2.length+1:=by
 obtain⟨e,g⟩:=xP hm hp x
 have h0:=g.lo a ha
 have h1:=g.hi a ha
 have hs:=hm.sts s (List.mem_of_getElem? hp.st)
 have:=hs.b0
 have hl:a.toNat<(p.2++[x]).length:=by
  rw[List.length_append,hp.ln]
  simp
  split at h1<;>omega
 refine⟨(p.2++[x])[a.toNat],List.getElem?_eq_getElem hl,?_,h0,by simpa using hl⟩
 unfold Z2
 rw[List.getElem?_eq_getElem hl]
 rfl
theorem jt:p.2.length<=6:=by
 have hs:=hm.sts s (List.mem_of_getElem? hp.st)
 have:=hs.b6
 rw[hp.ln]
 omega
end
theorem UN {α β:Type}{f:β->α->β}{b:β}{l:List α}{i:Nat}{x:α}(h:l[i]? = some x):(l.take (i+1)).foldl f b=f ((l.take i).foldl f b) x:=by
 rw[take_succ h,List.foldl_append];rfl
theorem wx {m:List Stt}(hm:GoodM m)(hs:UH m)(A:Cls):zP A [eM m]=.ok .non:=by
 have:=Yz A m hs
 rw[X5.mpr hm]at this
 exact FR.ok_of (this.mono (λd h=>h.1) λc h=>by cases h.2)
noncomputable def rV (m:List Stt)(p:Pl) (x:Int)(go:Bool) (b:Int)(ms:List Mv)(v:Mv)(j:Slot):Rho:=[.fz (eM m),.fz (dn p.1),.fz (dS p.2),.fz (.int x),.fz (.bl go),.fz (.int b),.fz (.lst (ms.map eMv)),.fz (.int v.1),.fz (.tup (v.2.map .int)),j]
theorem zAA {m:List Stt}(hm:GoodM m){p:Pl}{s:Stt}(hp:At m p s) (x:Int):y8 [eM m,dn p.1,dS p.2,.int x]=.ok (.tup [dn (step m p x).1,dS (step m p x).2]):=by
 refine ZE ?_
 obtain⟨e,g⟩:=xP hm hp x
 have hs:=hm.sts s (List.mem_of_getElem? hp.st)
 have e1:=Zh eSt m p.1 s hp.st
 have h6:=jt hm hp
 have hln:=hp.ln
 have es:step m p x=((ZD s p.2 x).1.toNat,(ZD s p.2 x).2.map (Z2 p.2 x)):=by unfold step;rw[hp.st]
 have hfe:=λa ha=>Jg hm hp x (a:=a) ha
 have hnd:=hp.nd
 obtain⟨go,b,ms⟩:=s
 have hb0:0<=b:=hs.b0
 have hb6:b<=6:=hs.b6
 have hml:ms.length=b.toNat+1:=hs.ml
 generalize hV:ZD (go,b,ms) p.2 x=V at *
 have hln:p.2.length=b.toNat:=hln
 have e:ms[p.2.findIdx λy=>decide (y=x)]? = some V:=e
 have hbl:ms[b.toNat]? = some ms[b.toNat]:=List.getElem?_eq_getElem (by omega)
 have e3:atD (ms.map eMv) b=some (eMv ms[b.toNat]):=by
  have:=Zh eMv ms b.toNat _ hbl
  rwa [show ((b.toNat:Nat):Int)=b by omega]at this
 refine zJ (ρ':=[.fz (eM m),.fz (dn p.1),.fz (dS p.2),.fz (.int x),.fz (.bl go),.fz (.int b),.fz (.lst (ms.map eMv)),.un,.un,.un]) (Jw (zI (f:=ixD) (x:=eM m) (y:=dn p.1) (by rfl) (by rfl) e1) (by rfl)) ?_
 refine zJ (ρ':=rV m p x go b ms ms[b.toNat] .un) (Jw (zI (f:=ixD) (x:=.lst (ms.map eMv)) (y:=.int b) (by rfl) (by rfl) e3) (by rfl)) ?_
 generalize hI:p.2.findIdx (λy=>decide (y=x))=I at e g
 have hIle:I<=p.2.length:=hI ▸ List.findIdx_le_length
 refine Z4 (λρ=>∃ j,ρ=rV m p x go b ms V j) (W4 (n:=b.toNat) (ρ':=rV m p x go b ms ms[b.toNat] .un) (show Res.ok (D.int b) _=_ from by rw[show dn b.toNat=.int b by unfold dn;rw[Int.toNat_of_nonneg hb0]]) (by omega)
  (Yd (λi ρ=>∃ (v:Mv)(j:Slot),ms[if I<i then I else b.toNat]? = some v/\ρ=rV m p x go b ms v j) ⟨ms[b.toNat],_,by rw[if_neg (Nat.not_lt_zero _)];exact hbl,rfl⟩ ?_ ?_)) ?_
 ·rintro i ρ hi ⟨v,j,hv,rfl⟩
  refine⟨rV m p x go b ms v (.fz (dn i)),rfl,?_⟩
  have hil:i<p.2.length:=by omega
  have e4:=Zh D.int p.2 i _ (List.getElem?_eq_getElem hil)
  have him:i<ms.length:=by omega
  have e5:=Zh eMv ms i _ (List.getElem?_eq_getElem him)
  have tt:zO zQ (op2 eqD (op2 ixD (vM 2) (vM 9)) (vM 3)) (rV m p x go b ms v (.fz (dn i)))=.ok (decide (p.2[i]=x)) (rV m p x go b ms v (.fz (dn i))):=Ky (zI (f:=ixD) (x:=dS p.2) (y:=dn i) (by rfl) (by rfl) e4) (by rfl)
  by_cases hxi:p.2[i]=x
  ·have hIi:I=i:=by
    rw[<-hI]
    have h1:=List.findIdx_lt_length_of_exists (xs:=p.2) (p:=λy=>decide (y=x)) ⟨x,hxi ▸ List.getElem_mem hil,by simp⟩
    have h2:=List.findIdx_getElem (xs:=p.2) (p:=λy=>decide (y=x)) (w:=h1)
    exact (List.getElem_inj hnd).mp ((of_decide_eq_true h2).trans hxi.symm)
   rw[yz (xT hxi tt)]
   exact zV (Jw (ρ2:=rV m p x go b ms ms[i] (.fz (dn i))) (zI (f:=ixD) (x:=.lst (ms.map eMv)) (y:=dn i) (by rfl) (by rfl) e5) (by rfl)) ⟨ms[i],_,by rw[if_pos (by omega),hIi];exact List.getElem?_eq_getElem him,rfl⟩
  ·have hIi:I≠i:=λq=>by
    have h1:p.2.findIdx (λy=>decide (y=x))<p.2.length:=by rw[hI,q];exact hil
    have h2:=of_decide_eq_true (List.findIdx_getElem (xs:=p.2) (p:=λy=>decide (y=x)) (w:=h1))
    simp only[hI,q]at h2
    exact hxi h2
   rw[yQ (YQ hxi tt)]
   refine zV (show nxM _=.ok .nx _ from rfl) ⟨v,_,?_,rfl⟩
   rw[<-hv]
   by_cases q:I<i
   ·rw[if_pos q,if_pos (by omega)]
   ·rw[if_neg q,if_neg (by omega)]
 ·rintro ρ ⟨v,j,hv,rfl⟩
  have hc:(if I<b.toNat then I else b.toNat)=I:=by split<;>omega
  rw[hc,e]at hv
  cases hv
  exact⟨rfl,j,rfl⟩
 rintro ρ ⟨j,rfl⟩
 have hvl:V.2.length<=6:=by
  have:=g.ln
  have ht:V.1.toNat<m.length:=by have:=g.t0;have:=g.t1;omega
  rw[Zl (List.getElem?_eq_getElem ht)]at this
  have h6':=(hm.sts _ (List.getElem_mem ht)).b6
  omega
 have hcomp:yU (ZI Y1 (vM 8)) 1 [2,3,5] (ZC 0) none (YY (zO zQ (op2 eqD (vM 0) (vM 3))) (vM 2) (op2 ixD (vM 1) (vM 0))) (rV m p x go b ms V j)=.ok (.lst ((V.2.map D.int).map λd=>match d with | .int a=>.int (Z2 p.2 x a) | _=>.non)) (rV m p x go b ms V j):=by
  refine xC (caps:=[.fz (dS p.2),.fz (.int x),.fz (.int b)]) _ (by rfl) (by rfl) (by rw[List.length_map,sizeLine_eq];omega) λd hd acc=>?_
  obtain⟨a,ha,rfl⟩:=List.mem_map.mp hd
  obtain⟨z,f1,f2,f3,f4⟩:=hfe a ha
  have tt:zO zQ (op2 eqD (vM 0) (vM 3)) ([.fz (.int a)]++[.fz (dS p.2),.fz (.int x),.fz (.int b)]++[.own acc])=.ok (decide (a=b)) ([.fz (.int a)]++[.fz (dS p.2),.fz (.int x),.fz (.int b)]++[.own acc]):=Ky (by rfl) (by rfl)
  by_cases hab:a=b
  ·refine KY (xT hab tt) ?_
   rw[hab,List.getElem?_append_right (by omega),show b.toNat - p.2.length=0 by omega]at f1
   have:x=z:=Option.some.inj f1
   show Res.ok (D.int x) _=Res.ok (D.int (Z2 p.2 x a)) _
   rw[f2,this]
  ·refine KZ (YQ hab tt) ?_
   have hal:a.toNat<p.2.length:=by omega
   rw[List.getElem?_append_left hal]at f1
   have:=Zh D.int p.2 a.toNat z f1
   rw[show ((a.toNat:Nat):Int)=a by omega]at this
   exact zI (f:=ixD) (x:=dS p.2) (y:=.int a) (by rfl) (by rfl) (by show atD (p.2.map .int) a=some (D.int (Z2 p.2 x a));rw[this,f2])
 refine zV (UC (Jt (x:=.int V.1) (ρ1:=rV m p x go b ms V j) (by rfl) hcomp)) ?_
 show D.tup [.int V.1,.lst ((V.2.map D.int).map _)]=_
 rw[es,List.map_map]
 show _=D.tup [.int ((V.1.toNat:Nat):Int),.lst ((V.2.map (Z2 p.2 x)).map .int)]
 rw[Int.toNat_of_nonneg g.t0,List.map_map]
 rfl
theorem Vs (mx:Nat->Nat) (k most:Nat):(gM mx k most).length=(zw mx k most).length:=by simp[gM]
theorem Kw (mx:Nat->Nat) (k most s:Nat)(h:s<(zw mx k most).length):(gM mx k most)[s]? = some (ZM mx k (zw mx k most) s):=by
 unfold gM
 rw[List.getElem?_map,List.getElem?_range h]
 rfl
theorem uU {l:List Nat}(h:l.Nodup):(zs l).Nodup:=by
 unfold zs
 refine List.pairwise_map.mpr (h.imp λh e=>h (by omega))
theorem qX (mx:Nat->Nat) (k most:Nat)(h:0<most)(h1:most<=100):GoodM (gM mx k most):=by
 have hl:=xo mx k most h
 refine⟨by rw[Vs];exact hl.2,by rw[Vs];omega,?_,λs hs=>?_⟩
 ·rw[Zl (g:=0) (Kw mx k most 0 hl.2)]
  simp[ZM,zw,nth]
 ·obtain⟨i,hi,rfl⟩:=List.mem_map.mp hs
  have hi:i<(zw mx k most).length:=by simpa using hi
  have hb:=X7 mx k most i
  refine⟨by simp[ZM],by simp[ZM];omega,by simp[ZM],λc v hv=>?_⟩
  have hc:c<nth (zw mx k most) i+1:=by have:=(List.getElem?_eq_some_iff.mp hv).1;simpa[ZM] using this
  simp only[ZM]at hv
  rw[List.getElem?_map,List.getElem?_range hc]at hv
  cases hv
  have hg:=vy mx k most i c
  obtain⟨g1,g2⟩:=xm.mp hg
  obtain⟨s1,s2,s3⟩:=kM mx (k+40+9 * i+3 * c) _ _ g2
  have hfar:((YS (zw mx k most) i c:Nat):Int)=(ZM mx k (zw mx k most) i).2.1+if c=(ZM mx k (zw mx k most) i).2.1.toNat then 1 else 0:=by
   simp[YS,ZM]
   by_cases q:c=nth (zw mx k most) i<;>simp[q]
  refine⟨by simp[YZ],by rw[Vs];simp[YZ];exact g1,?_,uU s2,λx hx=>?_,λx hx=>?_⟩
  ·rw[Zl (g:=(YZ mx k (zw mx k most) i c).1) (s:=ZM mx k (zw mx k most) (gGoal mx k (zw mx k most) i c)) (by simp only[YZ,Int.toNat_natCast];exact Kw mx k most _ g1)]
   simp[YZ,ZM,zs,qW,s1]
  ·obtain⟨y,_,rfl⟩:=List.mem_map.mp hx
   omega
  ·obtain⟨y,hy,rfl⟩:=List.mem_map.mp hx
   rw[<-hfar]
   have:=s3 y hy
   omega
theorem WR {α:Type} [DecidableEq α]:∀ {l k:List α},l.Nodup->(∀ x ∈ l,x ∈ k)->l.length<=k.length
 |[],_,_,_=>Nat.zero_le _
 |a::r,k,h,hs=>by
  obtain⟨h1,h2⟩:=List.nodup_cons.mp h
  have ha:a ∈ k:=hs a List.mem_cons_self
  have:=WR (l:=r) (k:=k.erase a) h2 λx hx=>by
   have:x≠a:=λe=>h1 (e ▸ hx)
   exact (List.mem_erase_of_ne this).mpr (hs x (List.mem_cons_of_mem _ hx))
  rw[List.length_erase_of_mem ha]at this
  have:=List.length_pos_of_mem ha
  simp;omega
structure Cls.Ok (A:Cls):Prop where
 t:A.bm≠A.bt
 w:A.bm≠A.bw
 m:A.bm≠A.tm
 tw:A.bt≠A.bw
 tm:A.bt≠A.tm
 wm:A.bw≠A.tm
theorem jA {cs:List Addr}{iy:Nat}{b:M Fl}{ρ:Rho}{R:Fl->Rho->Prop}{X:Addr->Prop}(h:(b ρ).wp R λc=>cs.contains c=true/\R .nx ((List.replicate ρ.length Slot.un).set iy (.fz (.exc c)))):(UK cs iy b ρ).wp R X:=by
 unfold UK
 generalize b ρ=r at h
 cases h with
 |ok h=>exact .ok h
 |exn h=>
  dsimp only
  rw[if_pos h.1]
  exact .ok h.2
theorem U9 {f:Addr->Option Bool}{c:Addr}{b:Bool}(h:f c=some b):yS f (.exc c)=some (.bl b):=by simp[yS,h]
theorem Ju {A:Cls}{c:Addr}{b1 b2 b3 b4:Bool}{r:D}(i1:yS (A.is A.bm) (.exc c)=some (.bl b1))(i2:yS (A.is A.bt) (.exc c)=some (.bl b2))(i3:yS (A.is A.bw) (.exc c)=some (.bl b3))(i4:yS (A.is A.tm) (.exc c)=some (.bl b4))(i5:yS A.isVE (.exc c)=some (.bl true))
  (hc:zO zQ (op2 neD (XW Wu 1 (cM (.bl true))) (cM (.int 1))) [.fz (.exc c),.own [.bl b1,.bl b2,.bl b3,.bl b4]]=.ok false [.fz (.exc c),.own [.bl b1,.bl b2,.bl b3,.bl b4]])
  (hr:op2 ixD (lstM [cM (.str "machine"),cM (.str "text"),cM (.str "word"),cM (.str "many")]) (XW YR 1 (cM (.bl true))) [.fz (.exc c),.own [.bl b1,.bl b2,.bl b3,.bl b4]]=.ok r [.fz (.exc c),.own [.bl b1,.bl b2,.bl b3,.bl b4]]):zv A [.exc c]=.ok r:=by
 refine ZE (zJ (ρ':=[.fz (.exc c),.un]) (by rfl) ?_)
 refine zJ (ρ':=[.fz (.exc c),.own [.bl b1,.bl b2,.bl b3]]) (by
  unfold yw
  rw[zN (Xu (x:=.exc c) (ρ1:=[.fz (.exc c),.un]) (by rfl) i1) (zN (Xu (x:=.exc c) (ρ1:=[.fz (.exc c),.un]) (by rfl) i2) (zN (Xu (x:=.exc c) (ρ1:=[.fz (.exc c),.un]) (by rfl) i3) (show zm [] _=.ok [] _ from rfl))),Res.bnd_ok]
  rfl) ?_
 refine zJ (UE (i:=1) (ds:=[.bl b1,.bl b2,.bl b3]) (x:=.bl b4) (by rfl) (Xu (x:=.exc c) (by rfl) i4) (show 3<16777216 by decide)) ?_
 refine zJ (ρ':=[.fz (.exc c),.own [.bl b1,.bl b2,.bl b3,.bl b4]]) (by
  show ifM _ _ _ [.fz (.exc c),.own [.bl b1,.bl b2,.bl b3,.bl b4]]=_
  rw[yQ (ρ':=[.fz (.exc c),.own [.bl b1,.bl b2,.bl b3,.bl b4]]) (WM hc (zBR (b:=true) (zb (x:=.bl true) (Xu (x:=.exc c) (by rfl) i5) rfl)))]
  rfl) (zV (UC hr) rfl)
theorem Ku {A:Cls}{c d:Addr}(hc:A.all.contains c=true):yS (A.is d) (.exc c)=some (.bl (c == d)):=U9 (by unfold Cls.is;rw[if_pos hc])
theorem Vo {A:Cls}{c:Addr}(hc:A.all.contains c=true):yS A.isVE (.exc c)=some (.bl true):=U9 (by unfold Cls.isVE;rw[if_pos hc])
theorem yA {A:Cls}:A.all.contains A.bm=true/\A.all.contains A.bw=true/\A.all.contains A.tm=true:=by simp[Cls.all]
theorem Vm {A:Cls}{c:Addr}(hc:A.all.contains c=true):yS (A.is c) (.exc c)=some (.bl true):=by rw[Ku hc,beq_self_eq_true]
theorem Yq {A:Cls}{c d:Addr}(hc:A.all.contains c=true)(h:c≠d):yS (A.is d) (.exc c)=some (.bl false):=by rw[Ku hc,beq_false_of_ne h]
theorem XA {A:Cls}(h:A.Ok):zv A [.exc A.bm]=.ok (.str "machine"):=
 Ju (Vm yA.1) (Yq yA.1 h.t) (Yq yA.1 h.w) (Yq yA.1 h.m) (Vo yA.1) (by rfl) (by rfl)
theorem K1 {A:Cls}{m:List Stt}(hs:UH m)(h:Xc m=false):zP A [eM m]=.exn A.bm:=by
 have:=Yz A m hs
 rw[h]at this
 exact FR.exn_of (this.mono (λd h=>by cases h.2) λc h=>h.1)
theorem qm {l:List Int}{i:Int} (h0 : -(l.length:Int)<=i)(h1:i<l.length):∃ z,atD (l.map .int) i=some (.int z):=by
 unfold atD Yp
 rw[List.length_map]
 by_cases h:0<=i
 ·rw[if_pos h,if_pos h1]
  have:i.toNat<l.length:=by omega
  exact⟨l[i.toNat],by simp[List.getElem?_eq_getElem this]⟩
 ·rw[if_neg h,if_pos h0]
  have:(i+l.length).toNat<l.length:=by omega
  exact⟨l[(i+l.length).toNat],by simp[List.getElem?_eq_getElem this]⟩
noncomputable def rW (s:D) (k most:Nat)(w:List Int)(a b c:Slot):Rho:=[.fz s,.fz (dn k),.fz (dn most),.own (w.map .int),a,b,c]
theorem kD (s:D) (k most i n:Nat)(w:List Int)(c:Slot):∃ z:Int,zy 6 (YY (qv 3) (ixO 3 (op2 V2 (op1 WS (cM (.int 1))) (op2 Zq (op2 Zv (vM 5) (cM (.int 8))) (Zr 3)))) (cM (.int 0))) (rW s k most w (.fz (dn i)) (.fz (dn n)) c)=.ok .nx (rW s k most w (.fz (dn i)) (.fz (dn n)) (.fz (.int z))):=by
 cases w with
 |nil=>exact⟨0,by rfl⟩
 |cons x r=>
  have hwl:0<(x::r).length:=Nat.succ_pos _
  have hb:(n:Int) / 8 % ((x::r).length:Int)<(x::r).length:=Int.emod_lt_of_pos _ (by omega)
  have hb0:0<=(n:Int) / 8 % ((x::r).length:Int):=Int.emod_nonneg _ (by omega)
  obtain⟨z,hz⟩:=qm (l:=x::r) (i:=-1 - (n:Int) / 8 % ((x::r).length:Int)) (by omega) (by omega)
  refine⟨z,b_set (i:=6) (ρ:=rW s k most (x::r) (.fz (dn i)) (.fz (dn n)) c) (ρ':=rW s k most (x::r) (.fz (dn i)) (.fz (dn n)) c) ?_⟩
  have hl:Zr 3 (rW s k most (x::r) (.fz (dn i)) (.fz (dn n)) c)=.ok (.int ((x::r).length:Int)) (rW s k most (x::r) (.fz (dn i)) (.fz (dn n)) c):=by
   show Res.ok (D.int (((x::r).map D.int).length:Nat)) _=_
   rw[List.length_map]
  have hi:op2 V2 (op1 WS (cM (.int 1))) (op2 Zq (op2 Zv (vM 5) (cM (.int 8))) (Zr 3)) (rW s k most (x::r) (.fz (dn i)) (.fz (dn n)) c)=.ok (.int (-1 - (n:Int) / 8 % ((x::r).length:Int))) (rW s k most (x::r) (.fz (dn i)) (.fz (dn n)) c):=
   zBQ (x:=-1) (y:=(n:Int) / 8 % ((x::r).length:Int)) (by rfl) (W3 (x:=(n:Int) / 8) (y:=((x::r).length:Int)) (zA3 (x:=(n:Int)) (y:=8) (by rfl) (by rfl) (by decide) rfl) hl (by omega) rfl) rfl
  show (ixO 3 _ (rW s k most (x::r) (.fz (dn i)) (.fz (dn n)) c))=_
  unfold ixO
  show (op2 V2 (op1 WS (cM (.int 1))) (op2 Zq (op2 Zv (vM 5) (cM (.int 8))) (Zr 3)) (rW s k most (x::r) (.fz (dn i)) (.fz (dn n)) c)).bnd _=_
  rw[hi,Res.bnd_ok]
  show zU (atD ((x::r).map .int) (-1 - (n:Int) / 8 % ((x::r).length:Int))) _=_
  rw[hz]
  rfl
theorem kC (s:D) (k most i n:Nat)(w:List Int) (z:Int)(hw:w.length<1000):∃ y:Int,ZT 3 (op2 ixD (lstM [vM 6,vM 6,op2 Zq (op2 Zv (vM 5) (cM (.int 64))) (cM (.int 3)),op2 Zq (op2 Zv (vM 5) (cM (.int 64))) (cM (.int 9)),op2 zl (vM 6) (cM (.int 1)),op2 Zq (op2 Zv (op1 WS (vM 5)) (cM (.int 64))) (cM (.int 1000))]) (op2 Zq (vM 5) (cM (.int 6)))) (rW s k most w (.fz (dn i)) (.fz (dn n)) (.fz (.int z)))=.ok .nx (rW s k most (w++[y]) (.fz (dn i)) (.fz (dn n)) (.fz (.int z))):=by
 obtain⟨y,hy⟩:=qm (l:=[z,z,(n:Int) / 64 % 3,(n:Int) / 64 % 9,z+1,-(n:Int) / 64 % 1000]) (i:=(n:Int) % 6) (by show -(6:Int)<=_;omega) (by show _<(6:Int);omega)
 refine⟨y,?_⟩
 rw[UE (i:=3) (ds:=w.map .int) (x:=.int y) (by rfl) (zI (f:=ixD) (x:=.lst [.int z,.int z,.int ((n:Int) / 64 % 3),.int ((n:Int) / 64 % 9),.int (z+1),.int (-(n:Int) / 64 % 1000)]) (y:=.int ((n:Int) % 6)) (by rfl) (by rfl) hy) (by rw[List.length_map];omega)]
 unfold rW
 rw[List.map_append]
 rfl
theorem K4 {s:D}{mx:Nat->Nat}(hs:wU s mx) (k most:Nat)(hm:most<100):∃ w:List Int,z6 [s,dn k,dn most]=.ok (dS w)/\w.length<=most:=by
 have hw:(z6 [s,dn k,dn most]).wp (λd=>∃ w:List Int,d=dS w/\w.length<=most) λ_=>False:=by
  refine yo (zJ (ρ':=rW s k most [] .un .un .un) (by rfl) ?_)
  have hlt:mx k % (most+1)<most+1:=Nat.mod_lt _ (by omega)
  refine Z4 (λρ=>∃ (w:List Int)(j1 j2 j3:Slot),w.length<=most/\ρ=rW s k most w j1 j2 j3) (W4 (n:=mx k % (most+1)) (ρ':=rW s k most [] .un .un .un) (W3 (x:=(mx k:Int)) (y:=(most:Int)+1) (xE (F:=zW) (xs:=[s,.int (k:Int)]) (by rfl) (hs k)) (yn (x:=(most:Int)) (y:=1) (by rfl) (by rfl) rfl) (by omega) (by push_cast;rfl)) (by omega)
   (Yd (λi ρ=>∃ (w:List Int)(j1 j2 j3:Slot),w.length=i/\ρ=rW s k most w j1 j2 j3) ⟨[],_,_,_,rfl,rfl⟩ ?_ λρ ⟨w,j1,j2,j3,hl,e⟩=>⟨rfl,w,j1,j2,j3,by omega,e⟩)) ?_
  ·rintro i ρ hi ⟨w,j1,j2,j3,hl,rfl⟩
   refine⟨rW s k most w (.fz (dn i)) j2 j3,rfl,?_⟩
   refine zJ (ρ':=rW s k most w (.fz (dn i)) (.fz (dn (mx (k+1+i)))) j3) (b_set (i:=5) (ρ':=rW s k most w (.fz (dn i)) j2 j3) (xE (F:=zW) (xs:=[s,.int ((k+1+i:Nat):Int)]) (zN (x:=s) (ρ1:=rW s k most w (.fz (dn i)) j2 j3) (by rfl) (zN (ρ1:=rW s k most w (.fz (dn i)) j2 j3) (yn (x:=(k:Int)+1) (y:=(i:Int)) (yn (x:=(k:Int)) (y:=1) (by rfl) (by rfl) rfl) (by rfl) (by omega)) (by rfl))) (hs _))) ?_
   obtain⟨z,hz⟩:=kD s k most i (mx (k+1+i)) w j3
   obtain⟨y,hy⟩:=kC s k most i (mx (k+1+i)) w z (by omega)
   exact zJ hz (zV hy ⟨w++[y],_,_,_,by rw[List.length_append,hl];rfl,rfl⟩)
  ·rintro ρ ⟨w,j1,j2,j3,hl,rfl⟩
   exact UD (ds:=w.map .int) (by rfl) (zV (UC (by rfl)) ⟨w,rfl,hl⟩)
 generalize z6 [s,dn k,dn most]=r at hw
 cases hw with
 |ok h=>obtain⟨w,rfl,h⟩:=h;exact⟨w,rfl,h⟩
 |exn h=>exact h.elim
theorem Ui {i:Nat}{e:M D}{ρ:Rho}{ds:List D}{x d:D}(ho:zY ρ[i]? = some ds)(he:e ρ=.ok x ρ)(hx:ixD (.lst ds) x=some d):ixO i e ρ=.ok d ρ:=by
 unfold ixO
 rw[ho]
 show (e ρ).bnd _=_
 rw[he]
 show (zU (zY ρ[i]?) ρ).bnd _=_
 rw[ho]
 show zU (ixD (.lst ds) x) ρ=_
 rw[hx]
 rfl
theorem jV {i j:Nat}{e v:M D}{ρ:Rho}{ds:List D}{y:D}{k:Int}(hv:v ρ=.ok y ρ)(ho:zY ρ[i]? = some ds)(he:e ρ=.ok (.int k) ρ)(hk:Yp ds.length k=some j):xb i e v ρ=.ok .nx (ρ.set i (.own (ds.set j y))):=by
 unfold xb
 rw[hv]
 show (zU (zY ρ[i]?) ρ).bnd _=_
 rw[ho]
 show (e ρ).bnd _=_
 rw[he]
 show (zU (zY ρ[i]?) ρ).bnd _=_
 rw[ho]
 show (zU (Yp ds.length k) ρ).bnd _=_
 rw[hk]
 rfl
theorem W7 {i:Nat}{e:M D}{ρ:Rho}{ds:List D}{x:D}(ho:zY ρ[i]? = some ds)(he:e ρ=.ok x ρ)(hs:ds.length<16777216):ZT i e ρ=.ok .nx (ρ.set i (.own (ds++[x]))):=by
 unfold ZT
 rw[ho]
 show (e ρ).bnd _=_
 rw[he]
 show (zU (zY ρ[i]?) ρ).bnd _=_
 rw[ho]
 show (if ds.length<sizeLine then _ else _)=_
 rw[if_pos (by rw[sizeLine_eq];exact hs)]
theorem Zi {i:Nat}{e:M D}{ρ ρ':Rho}{x:D}(he:e ρ=.ok x ρ'):zy i e ρ=.ok .nx (ρ'.set i (.fz x)):=by
 unfold zy
 rw[he]
 rfl
theorem zX {F:List D->FR}{as:List (M D)}{ρ ρ':Rho}{xs:List D}{d:D}(ha:zm as ρ=.ok xs ρ')(h:F xs=.ok d):zK F as ρ=.ok d ρ':=by
 unfold zK
 rw[ha]
 show (F xs).to ρ'=_
 rw[h]
 rfl
theorem Yg {s t:M Fl}{ρ ρ':Rho}(e:s ρ=.ok .nx ρ'):zG s t ρ=t ρ':=by unfold zG;rw[e];rfl
theorem Ye {m:List Stt}{p:Pl}{s:Stt}(hp:At m p s) (x:Int):step m p x=((ZD s p.2 x).1.toNat,(ZD s p.2 x).2.map (Z2 p.2 x)):=by unfold step;rw[hp.st]
theorem Zx {e:M D}{ρ ρ':Rho}{x:D}(he:e ρ=.ok x ρ'):zz e ρ=.ok (.ret x) ρ':=by
 unfold zz
 rw[he]
 rfl
theorem Xf {e:M D}{ρ ρ':Rho}{x:D}(he:e ρ=.ok x ρ'):yf e ρ=.ok .nx ρ':=by
 unfold yf
 rw[he]
 rfl
theorem zA5 {e:M D}{g:GM}{ρ ρ1 ρ2:Rho}{x:D}(he:e ρ=.ok x ρ1)(hg:g x ρ1=some ρ2):wZ e g ρ=.ok .nx ρ2:=by
 unfold wZ
 rw[he]
 show (zU (g x ρ1) ρ1).bnd _=_
 rw[hg]
 rfl
theorem Kc (a b:List D)(h:a.length+b.length<=16777216):zl (.lst a) (.lst b)=some (.lst (a++b)):=by
 show (if a.length+b.length<=sizeLine then _ else _)=_
 rw[sizeLine_eq,if_pos h]
theorem Zz {m:List Stt}(hm:GoodM m):UH m:=by
 intro s hs v hv
 obtain⟨c,hc⟩:=List.getElem?_of_mem hv
 have g:=(hm.sts s hs).mv c v hc
 have:=g.ln
 have ht:v.1.toNat<m.length:=by have:=g.t0;have:=g.t1;omega
 rw[Zl (List.getElem?_eq_getElem ht)]at this
 have:=(hm.sts _ (List.getElem_mem ht)).b6
 omega
noncomputable def rT (m:List Stt)(w:List Int)(p:Pl)(j:Slot):Rho:=[.fz (eM m),.fz (dS w),.fz (dn p.1),.fz (dS p.2),j]
theorem YC {m:List Stt}(hm:GoodM m)(w:List Int){s:Stt}(hp:At m (run m w) s):zR [eM m,dS w]=.ok (.bl s.1):=by
 refine ZE (zJ (ρ':=[.fz (eM m),.fz (dS w),.fz (dn 0),.un,.un]) (by rfl) (zJ (ρ':=rT m w (0,[]) .un) (by rfl) ?_))
 refine Z4 (λρ=>∃ j,ρ=rT m w (run m w) j) (xp (x:=dS w) (ρ':=rT m w (0,[]) .un) (by rfl) (by rfl) ?_) ?_
 ·refine YB (λi ρ=>∃ j,ρ=rT m w ((w.take i).foldl (step m) (0,[])) j) ⟨_,rfl⟩ ?_ ?_
  ·rintro i x ρ hx ⟨j,rfl⟩
   obtain⟨s0,h0⟩:=xF hm
   obtain⟨s',h'⟩:=Wm hm (w.take i) _ s0 h0
   refine⟨rT m w ((w.take i).foldl (step m) (0,[])) (.fz (.int x)),rfl,?_⟩
   rw[UN hx]
   generalize (w.take i).foldl (step m) (0,[])=p at h'
   exact zV (zA5 (ρ1:=rT m w p (.fz (.int x))) (zX (xs:=[eM m,dn p.1,dS p.2,.int x]) (by rfl) (zAA hm h' x)) (by rfl)) ⟨_,rfl⟩
  ·rintro ρ ⟨j,rfl⟩
   rw[List.take_length]
   exact⟨rfl,j,rfl⟩
 ·rintro ρ ⟨j,rfl⟩
  exact zV (Zx (zI (zI (x:=eM m) (y:=dn (run m w).1) (by rfl) (by rfl) (Zh eSt m _ s hp.st)) (by rfl) (by rfl))) rfl
theorem qa {a:M D}{g:GM}{b:M Fl}{ρ ρ':Rho}{n:Nat}{R:Fl->Rho->Prop}{X:Addr->Prop}(e:a ρ=.ok (dn n) ρ')(h:n<1000000)(hw:(ZG g b (yC n) ρ').wp R X):(Ya a g b ρ).wp R X:=by
 rw[p_forR,e,p_ok]
 unfold dn
 rw[s_range _ (by omega),oP_some,Int.toNat_natCast]
 exact hw
theorem jw {c:M Bool}{ρ ρ':Rho}{b:Bool}(h:c ρ=.ok b ρ'):Xw c ρ=.ok (!b) ρ':=by
 unfold Xw
 rw[h]
 rfl
theorem Jr {f:List D->Option D}{as:List (M D)}{ρ ρ':Rho}{xs:List D}{d:D}(ha:zm as ρ=.ok xs ρ')(h:f xs=some d):za f as ρ=.ok d ρ':=by
 unfold za
 rw[ha]
 show zU (f xs) ρ'=_
 rw[h]
 rfl
theorem W0 {f:D->Option D}{a:M D}{ρ ρ':Rho}{x d:D}(ha:a ρ=.ok x ρ')(h:f x=some d):za (zx f) [a] ρ=.ok d ρ':=Jr (xs:=[x]) (zN ha (by rfl)) h
end PM
namespace PM
open PySem
noncomputable abbrev Pr:=Option Nat×Option Nat
noncomputable abbrev Tr:=Nat×Nat×List Pr
noncomputable def eO:Option Nat->D
 |none=>.non
 |some n=>dn n
noncomputable def eP (p:Pr):D:=.tup [eO p.1,eO p.2]
noncomputable def eT (t:Tr):D:=.tup [dn t.1,dn t.2.1,.tup (t.2.2.map eP)]
noncomputable def zt (s:Stt)(o:Option Nat):Nat:=o.getD s.2.1.toNat
noncomputable def z9 (v:Mv)(o:Option Nat):Option Nat:=match o with
 |none=>none
 |some n=>if (n:Int) ∈ v.2 then some (v.2.findIdx λy=>decide (y=(n:Int))) else none
theorem vQ {s:Stt}(h:0<=s.2.1)(o:Option Nat):yE [eSt s,eO o]=.ok (dn (zt s o)):=by
 cases o with
 |none=>
  refine ZE (U7 (ρ':=[.fz (eSt s),.fz .non]) (d:=dn (zt s none)) ?_ rfl)
  rw[yz (ρ':=[.fz (eSt s),.fz .non]) (by rfl)]
  refine Zx (zI (x:=eSt s) (y:=.int 1) (by rfl) (by rfl) ?_)
  show some (D.int s.2.1)=some (D.int (s.2.1.toNat:Nat))
  rw[Int.toNat_of_nonneg h]
 |some n=>
  refine ZE (zJ (ρ':=[.fz (eSt s),.fz (dn n)]) (by rw[yQ (ρ':=[.fz (eSt s),.fz (dn n)]) (by rfl)];rfl) (zV (Zx (x:=dn n) (by rfl)) rfl))
theorem uy (l:List Int):(l.map D.int).any (λy=>y.eqv .non)=false:=by
 induction l with
 |nil=>rfl
 |cons a r ih=>rw[List.map_cons,List.any_cons,ih];rfl
theorem wy (v:Mv)(o:Option Nat):Zn [eMv v,eO o]=.ok (eO (z9 v o)):=by
 cases o with
 |none=>
  refine ZE (zJ (ρ':=[.fz (eMv v),.fz .non]) (by
   rw[yQ (ρ':=[.fz (eMv v),.fz .non]) (zb (x:=.bl false) (zI (x:=.non) (y:=.tup (v.2.map .int)) (by rfl) (by rfl) ?_) rfl)]
   rfl
   show (if _ then _ else _)=_
   rw[yd,y0,uy];rfl) (zV (Zx (x:=.non) (by rfl)) rfl))
 |some n=>
  by_cases h:(n:Int) ∈ v.2
  ·have e:z9 v (some n)=some (v.2.findIdx λy=>decide (y=(n:Int))):=by show (if _ then _ else _)=_;rw[if_pos h]
   rw[e]
   refine ZE (U7 (ρ':=[.fz (eMv v),.fz (dn n)]) (d:=eO (some (v.2.findIdx λy=>decide (y=(n:Int))))) ?_ rfl)
   rw[yz (ρ':=[.fz (eMv v),.fz (dn n)]) (zb (x:=.bl true) (zI (x:=dn n) (y:=.tup (v.2.map .int)) (by rfl) (by rfl) (by rw[show dn n=.int (n:Int) from rfl,JV,decide_eq_true h])) rfl)]
   refine Zx ?_
   unfold vm
   show (zU (YR (.tup (v.2.map .int)) (.int (n:Int))) _)=_
   rw[Qk _ _ h]
   rfl
  ·have e:z9 v (some n)=none:=by show (if _ then _ else _)=_;rw[if_neg h]
   rw[e]
   refine ZE (zJ (ρ':=[.fz (eMv v),.fz (dn n)]) (by
    rw[yQ (ρ':=[.fz (eMv v),.fz (dn n)]) (zb (x:=.bl false) (zI (x:=dn n) (y:=.tup (v.2.map .int)) (by rfl) (by rfl) (by rw[show dn n=.int (n:Int) from rfl,JV,decide_eq_false h])) rfl)]
    rfl) (zV (Zx (x:=.non) (by rfl)) rfl))
noncomputable def Zu (t:Tr):List Pr:=t.2.2++[(none,none)]
noncomputable def z7 (t:Tr) (r:Nat):Pr:=((Zu t)[r]?).getD (none,none)
noncomputable def lets (s1 s2:Stt)(t:Tr) (r:Nat):List Pr:=(Zu t).set r (some (zt s1 (z7 t r).1),some (zt s2 (z7 t r).2))
noncomputable def uW (s:Stt) (j:Nat):Mv:=(s.2.2[j]?).getD (0,[])
noncomputable def z4 (v1 v2:Mv)(p:Pr):Pr:=(z9 v1 p.1,z9 v2 p.2)
noncomputable def ZR (v1 v2:Mv)(x:Pr×Nat):Bool:=decide (z4 v1 v2 x.1≠(none,none))
noncomputable def yN (v1 v2:Mv)(ls:List Pr):List (Pr×Nat):=ls.zipIdx.filter (ZR v1 v2)
noncomputable def mv1 (s1:Stt)(t:Tr) (r:Nat):Mv:=uW s1 (zt s1 (z7 t r).1)
noncomputable def mv2 (s2:Stt)(t:Tr) (r:Nat):Mv:=uW s2 (zt s2 (z7 t r).2)
noncomputable def Y8 (s1 s2:Stt)(t:Tr) (r:Nat):List (Pr×Nat):=yN (mv1 s1 t r) (mv2 s2 t r) (lets s1 s2 t r)
noncomputable def zu (s1 s2:Stt)(t:Tr) (r:Nat):Tr:=((mv1 s1 t r).1.toNat,(mv2 s2 t r).1.toNat,(Y8 s1 s2 t r).map λx=>z4 (mv1 s1 t r) (mv2 s2 t r) x.1)
noncomputable def ZX (s1 s2:Stt)(t:Tr) (r:Nat):List Nat:=(Y8 s1 s2 t r).map (·.2)
theorem Ji (a:Option Nat):(eO a).eqv .non=decide (a=none):=by cases a<;>rfl
theorem jr (p:Pr):(eP p).plain=true:=by obtain⟨a,b⟩:=p;cases a<;>cases b<;>rfl
theorem qi (p:Pr):(eP p).deep=1:=by obtain⟨a,b⟩:=p;cases a<;>cases b<;>rfl
theorem zBI (p:Pr):neD (eP p) (.tup [.non,.non])=some (.bl (decide (p≠(none,none)))):=by
 show (if _ then _ else _)=_
 rw[jr,qi]
 show some (D.bl (!((eO p.1).eqv .non && ((eO p.2).eqv .non && true))))=_
 rw[Ji,Ji]
 obtain⟨a,b⟩:=p
 cases a<;>cases b<;>rfl
theorem Kz {ls:List Pr}{q:Nat}{p:Pr}(h:ls[q]? = some p):ixD (.lst (ls.map eP)) (dn q)=some (eP p):=Zh eP ls q p h
theorem W5 {m:List Stt}{q:Nat}{s:Stt}(h:m[q]? = some s):ixD (eM m) (dn q)=some (eSt s):=Zh eSt m q s h
theorem Jy {s:Stt}{q:Nat}{v:Mv}(h:s.2.2[q]? = some v):ixD (.lst (s.2.2.map eMv)) (dn q)=some (eMv v):=Zh eMv s.2.2 q v h
theorem uz {α:Type}(f:α->D):∀ (l:List α) (k:Nat),Yx (l.map f) k=(l.zipIdx k).map λx=>.tup [dn x.2,f x.1]
 |[],k=>rfl
 |a::r,k=>by
  rw[List.map_cons,List.zipIdx_cons,List.map_cons]
  show D.tup [.int k,f a]::Yx (r.map f) (k+1)=_
  rw[uz f r (k+1)]
  rfl
noncomputable def rB (m1 m2:List Stt)(t:Tr) (r:Nat)(s1 s2:Stt)(ls:Slot)(a b c d e f g:Slot):Rho:=[.fz (eM m1),.fz (eM m2),.fz (eT t),.fz (dn r),.fz (eSt s1),.fz (eSt s2),ls,a,b,c,d,e,f,g]
end PM
namespace PM
open PySem
theorem wa {a b:M D}{ρ ρ1 ρ2:Rho}{x y:D}(ea:a ρ=.ok x ρ1)(eb:b ρ1=.ok y ρ2):ZP [a,b] ρ=.ok (.tup [x,y]) ρ2:=by
 unfold ZP
 rw[zN ea (zN eb (show zm [] ρ2=.ok [] ρ2 from rfl)),Res.bnd_ok]
 rfl
theorem kI {a b c:M D}{ρ ρ1 ρ2 ρ3:Rho}{x y z:D}(ea:a ρ=.ok x ρ1)(eb:b ρ1=.ok y ρ2)(ec:c ρ2=.ok z ρ3):ZP [a,b,c] ρ=.ok (.tup [x,y,z]) ρ3:=by
 unfold ZP
 rw[zN ea (zN eb (zN ec (show zm [] ρ3=.ok [] ρ3 from rfl))),Res.bnd_ok]
 rfl
theorem QO {i:Nat}{a b:M D}{ρ ρ1 ρ2:Rho}{x y:List D}(ea:a ρ=.ok (.lst x) ρ1)(eb:b ρ1=.ok (.lst y) ρ2)(h:x.length+y.length<=16777216):XQ i a b ρ=.ok .nx (ρ2.set i (.own (x++y))):=by
 unfold XQ
 rw[ea,Res.bnd_ok,eb,Res.bnd_ok]
 show (zU (if x.length+y.length<=sizeLine then some (x++y) else none) ρ2).bnd _=_
 rw[sizeLine_eq,if_pos h]
 rfl
theorem Wj {i:Nat}{m:M Fl}{ρ:Rho}{ds:List D}{R:Fl->Rho->Prop}{X:Addr->Prop}(ho:zY ρ[i]? = some ds)(h:(m (ρ.set i (.fz (.lst ds)))).wp R X):(yk i m ρ).wp R X:=by
 unfold yk
 rw[ho]
 exact h
theorem uf (s1 s2:Stt)(t:Tr) (r:Nat):(lets s1 s2 t r).length=t.2.2.length+1:=by unfold lets Zu;simp
theorem KL (s1 s2:Stt)(t:Tr){r:Nat}(h:r<=t.2.2.length):(lets s1 s2 t r)[r]? = some (some (zt s1 (z7 t r).1),some (zt s2 (z7 t r).2)):=by
 unfold lets
 rw[List.getElem?_set_self (by unfold Zu;simp;omega)]
theorem JP (t:Tr){r:Nat}(h:r<=t.2.2.length):(Zu t)[r]? = some (z7 t r):=by
 unfold z7
 have:r<(Zu t).length:=by unfold Zu;simp;omega
 rw[List.getElem?_eq_getElem this]
 rfl
section
variable {m1 m2:List Stt}{t:Tr}{r:Nat}{s1 s2:Stt}
theorem jP (h1:m1[t.1]? = some s1)(h2:m2[t.2.1]? = some s2)(hr:r<=t.2.2.length)(hl:t.2.2.length<1000)(n1:0<=s1.2.1)(n2:0<=s2.2.1)(g1:s1.2.2[zt s1 (z7 t r).1]? = some (mv1 s1 t r))(g2:s2.2.2[zt s2 (z7 t r).2]? = some (mv2 s2 t r))
  (p1:0<=(mv1 s1 t r).1)(p2:0<=(mv2 s2 t r).1):yP [eM m1,eM m2,eT t,dn r]=.ok (.tup [eT (zu s1 s2 t r),.tup (dns (ZX s1 s2 t r))]):=by
 refine ZE ?_
 refine zJ (ρ':=[.fz (eM m1),.fz (eM m2),.fz (eT t),.fz (dn r),.fz (eSt s1),.un,.un,.un,.un,.un,.un,.un,.un,.un]) (Zi (zI (x:=eM m1) (y:=dn t.1) (by rfl) (by rfl) (W5 h1))) ?_
 refine zJ (ρ':=rB m1 m2 t r s1 s2 .un .un .un .un .un .un .un .un) (Zi (zI (x:=eM m2) (y:=dn t.2.1) (by rfl) (by rfl) (W5 h2))) ?_
 refine zJ (ρ':=rB m1 m2 t r s1 s2 (.own ((Zu t).map eP)) .un .un .un .un .un .un .un) (by
  have:=QO (i:=6) (a:=za (zx yy) [op2 ixD (vM 2) (cM (.int 2))]) (b:=lstM [ZP [cM .non,cM .non]]) (ρ:=rB m1 m2 t r s1 s2 .un .un .un .un .un .un .un .un) (x:=t.2.2.map eP) (y:=[.tup [.non,.non]]) (by rfl) (by rfl) (by simp;omega)
  rw[this]
  have e:(Zu t).map eP=t.2.2.map eP++[.tup [.non,.non]]:=by unfold Zu;rw[List.map_append];rfl
  rw[e]
  rfl) ?_
 have hx:ixD (.lst ((Zu t).map eP)) (dn r)=some (eP (z7 t r)):=Kz (JP t hr)
 have hix:ixO 6 (vM 3) (rB m1 m2 t r s1 s2 (.own ((Zu t).map eP)) .un .un .un .un .un .un .un)=.ok (eP (z7 t r)) (rB m1 m2 t r s1 s2 (.own ((Zu t).map eP)) .un .un .un .un .un .un .un):=Ui (by rfl) (by rfl) hx
 refine zJ (ρ':=rB m1 m2 t r s1 s2 (.own ((lets s1 s2 t r).map eP)) .un .un .un .un .un .un .un) (by
  have:=jV (i:=6) (j:=r) (e:=vM 3) (k:=(r:Int)) (ρ:=rB m1 m2 t r s1 s2 (.own ((Zu t).map eP)) .un .un .un .un .un .un .un) (ds:=(Zu t).map eP) (y:=eP (some (zt s1 (z7 t r).1),some (zt s2 (z7 t r).2)))
   (v:=ZP [zK yE [vM 4,op2 ixD (ixO 6 (vM 3)) (cM (.int 0))],zK yE [vM 5,op2 ixD (ixO 6 (vM 3)) (cM (.int 1))]])
   (wa (zX (zN (x:=eSt s1) (by rfl) (zN (zI (x:=eP (z7 t r)) (y:=.int 0) hix (by rfl) (by rfl)) (by rfl))) (vQ n1 _)) (zX (zN (x:=eSt s2) (by rfl) (zN (zI (x:=eP (z7 t r)) (y:=.int 1) hix (by rfl) (by rfl)) (by rfl))) (vQ n2 _)))
   (by rfl) (by rfl) (ui (by unfold Zu;simp;omega))
  rw[this]
  have e:(lets s1 s2 t r).map eP=((Zu t).map eP).set r (eP (some (zt s1 (z7 t r).1),some (zt s2 (z7 t r).2))):=by unfold lets;rw[List.map_set]
  rw[e]
  rfl) ?_
 have hy:ixD (.lst ((lets s1 s2 t r).map eP)) (dn r)=some (eP (some (zt s1 (z7 t r).1),some (zt s2 (z7 t r).2))):=Kz (KL s1 s2 t hr)
 have hiy:∀ {a b c d e f g:Slot},ixO 6 (vM 3) (rB m1 m2 t r s1 s2 (.own ((lets s1 s2 t r).map eP)) a b c d e f g)=.ok (eP (some (zt s1 (z7 t r).1),some (zt s2 (z7 t r).2))) (rB m1 m2 t r s1 s2 (.own ((lets s1 s2 t r).map eP)) a b c d e f g):=Ui (by rfl) (by rfl) hy
 refine zJ (ρ':=rB m1 m2 t r s1 s2 (.own ((lets s1 s2 t r).map eP)) (.fz (eMv (mv1 s1 t r))) .un .un .un .un .un .un) (Zi (zI (x:=.lst (s1.2.2.map eMv)) (y:=dn (zt s1 (z7 t r).1)) (by rfl) (zI (f:=ixD) (x:=eP (some (zt s1 (z7 t r).1),some (zt s2 (z7 t r).2))) (y:=.int 0) hiy (by rfl) (by rfl)) (Jy g1))) ?_
 refine zJ (ρ':=rB m1 m2 t r s1 s2 (.own ((lets s1 s2 t r).map eP)) (.fz (eMv (mv1 s1 t r))) (.fz (eMv (mv2 s2 t r))) .un .un .un .un .un) (Zi (zI (x:=.lst (s2.2.2.map eMv)) (y:=dn (zt s2 (z7 t r).2)) (by rfl) (zI (f:=ixD) (x:=eP (some (zt s1 (z7 t r).1),some (zt s2 (z7 t r).2))) (y:=.int 1) hiy (by rfl) (by rfl)) (Jy g2))) ?_
 refine zJ (ρ':=rB m1 m2 t r s1 s2 (.own ((lets s1 s2 t r).map eP)) (.fz (eMv (mv1 s1 t r))) (.fz (eMv (mv2 s2 t r))) (.own []) .un .un .un .un) (by rfl) ?_
 refine zJ (ρ':=rB m1 m2 t r s1 s2 (.own ((lets s1 s2 t r).map eP)) (.fz (eMv (mv1 s1 t r))) (.fz (eMv (mv2 s2 t r))) (.own []) (.own []) .un .un .un) (by rfl) ?_
 refine Wj (ds:=(lets s1 s2 t r).map eP) (by rfl) ?_
 have hls:=uf s1 s2 t r
 generalize hL:lets s1 s2 t r=ls at hls
 have eh:Y8 s1 s2 t r=yN (mv1 s1 t r) (mv2 s2 t r) ls:=by unfold Y8;rw[hL]
 have en1:zu s1 s2 t r=((mv1 s1 t r).1.toNat,(mv2 s2 t r).1.toNat,(yN (mv1 s1 t r) (mv2 s2 t r) ls).map λx=>z4 (mv1 s1 t r) (mv2 s2 t r) x.1):=by unfold zu;rw[eh]
 have en2:ZX s1 s2 t r=(yN (mv1 s1 t r) (mv2 s2 t r) ls).map (·.2):=by unfold ZX;rw[eh]
 rw[en1,en2]
 generalize mv1 s1 t r=v1 at *
 generalize mv2 s2 t r=v2 at *
 refine Z4 (λρ=>∃ e f g,ρ=rB m1 m2 t r s1 s2 (.fz (.lst (ls.map eP))) (.fz (eMv v1)) (.fz (eMv v2)) (.own ((yN v1 v2 ls).map λx=>eP (z4 v1 v2 x.1))) (.own ((yN v1 v2 ls).map λx=>dn x.2)) e f g)
  (xp (x:=.lst (ls.map eP)) (ρ':=rB m1 m2 t r s1 s2 (.fz (.lst (ls.map eP))) (.fz (eMv v1)) (.fz (eMv v2)) (.own []) (.own []) .un .un .un) (by rfl) (show some (Yx (ls.map eP) 0)=_ from by rw[uz]) ?_) ?_
 ·refine YB (λi ρ=>∃ e f g,ρ=rB m1 m2 t r s1 s2 (.fz (.lst (ls.map eP))) (.fz (eMv v1)) (.fz (eMv v2)) (.own (((ls.zipIdx.take i).filter (ZR v1 v2)).map λx=>eP (z4 v1 v2 x.1))) (.own (((ls.zipIdx.take i).filter (ZR v1 v2)).map λx=>dn x.2)) e f g) ⟨_,_,_,rfl⟩ ?_ ?_
  ·rintro i x ρ hx ⟨e,f,g,rfl⟩
   have hi:i<ls.length:=by have:=(List.getElem?_eq_some_iff.mp hx).1;simpa using this
   have hf:((ls.zipIdx.take i).filter (ZR v1 v2)).length<=i:=Nat.le_trans (List.length_filter_le _ _) (by rw[List.length_take];omega)
   refine⟨_,rfl,?_⟩
   refine zJ (ρ':=(rB m1 m2 t r s1 s2 (.fz (.lst (ls.map eP))) (.fz (eMv v1)) (.fz (eMv v2)) (.own (((ls.zipIdx.take i).filter (ZR v1 v2)).map λx=>eP (z4 v1 v2 x.1))) (.own (((ls.zipIdx.take i).filter (ZR v1 v2)).map λx=>dn x.2)) (.fz (dn x.2)) (.fz (eP x.1)) (.fz (eP (z4 v1 v2 x.1))))) (show zy 13 _ (rB m1 m2 t r s1 s2 (.fz (.lst (ls.map eP))) (.fz (eMv v1)) (.fz (eMv v2)) (.own (((ls.zipIdx.take i).filter (ZR v1 v2)).map λx=>eP (z4 v1 v2 x.1))) (.own (((ls.zipIdx.take i).filter (ZR v1 v2)).map λx=>dn x.2)) (.fz (dn x.2)) (.fz (eP x.1)) g)=_ from ?_) ?_
   ·exact Zi (i:=13) (ρ:=(rB m1 m2 t r s1 s2 (.fz (.lst (ls.map eP))) (.fz (eMv v1)) (.fz (eMv v2)) (.own (((ls.zipIdx.take i).filter (ZR v1 v2)).map λx=>eP (z4 v1 v2 x.1))) (.own (((ls.zipIdx.take i).filter (ZR v1 v2)).map λx=>dn x.2)) (.fz (dn x.2)) (.fz (eP x.1)) g)) (ρ':=(rB m1 m2 t r s1 s2 (.fz (.lst (ls.map eP))) (.fz (eMv v1)) (.fz (eMv v2)) (.own (((ls.zipIdx.take i).filter (ZR v1 v2)).map λx=>eP (z4 v1 v2 x.1))) (.own (((ls.zipIdx.take i).filter (ZR v1 v2)).map λx=>dn x.2)) (.fz (dn x.2)) (.fz (eP x.1)) g)) (x:=eP (z4 v1 v2 x.1)) (wa (x:=eO (z9 v1 x.1.1)) (y:=eO (z9 v2 x.1.2)) (ρ:=(rB m1 m2 t r s1 s2 (.fz (.lst (ls.map eP))) (.fz (eMv v1)) (.fz (eMv v2)) (.own (((ls.zipIdx.take i).filter (ZR v1 v2)).map λx=>eP (z4 v1 v2 x.1))) (.own (((ls.zipIdx.take i).filter (ZR v1 v2)).map λx=>dn x.2)) (.fz (dn x.2)) (.fz (eP x.1)) g)) (ρ1:=(rB m1 m2 t r s1 s2 (.fz (.lst (ls.map eP))) (.fz (eMv v1)) (.fz (eMv v2)) (.own (((ls.zipIdx.take i).filter (ZR v1 v2)).map λx=>eP (z4 v1 v2 x.1))) (.own (((ls.zipIdx.take i).filter (ZR v1 v2)).map λx=>dn x.2)) (.fz (dn x.2)) (.fz (eP x.1)) g)) (zX (F:=Zn) (as:=[vM 7,op2 ixD (vM 12) (cM (.int 0))]) (xs:=[eMv v1,eO x.1.1]) (by rfl) (wy v1 _)) (zX (F:=Zn) (as:=[vM 8,op2 ixD (vM 12) (cM (.int 1))]) (xs:=[eMv v2,eO x.1.2]) (by rfl) (wy v2 _)))
   have et:(ls.zipIdx.take (i+1)).filter (ZR v1 v2)=(ls.zipIdx.take i).filter (ZR v1 v2)++if ZR v1 v2 x=true then [x] else []:=by
    rw[take_succ hx,List.filter_append]
    congr 1
    by_cases k:ZR v1 v2 x=true
    ·rw[if_pos k,List.filter_cons_of_pos k];rfl
    ·rw[if_neg k,List.filter_cons_of_neg k];rfl
   have ht:zO zQ (op2 neD (vM 13) (ZP [cM .non,cM .non])) (rB m1 m2 t r s1 s2 (.fz (.lst (ls.map eP))) (.fz (eMv v1)) (.fz (eMv v2)) (.own (((ls.zipIdx.take i).filter (ZR v1 v2)).map λx=>eP (z4 v1 v2 x.1))) (.own (((ls.zipIdx.take i).filter (ZR v1 v2)).map λx=>dn x.2)) (.fz (dn x.2)) (.fz (eP x.1)) (.fz (eP (z4 v1 v2 x.1)))) =
     .ok (ZR v1 v2 x) _:=zb (x:=.bl (ZR v1 v2 x)) (zI (x:=eP (z4 v1 v2 x.1)) (y:=.tup [.non,.non]) (by rfl) (by rfl) (zBI _)) rfl
   by_cases k:ZR v1 v2 x=true
   ·rw[k]at ht
    rw[yz ht]
    rw[if_pos k]at et
    refine zJ (W7 (i:=9) (x:=eP (z4 v1 v2 x.1)) (by rfl) (by rfl) (by rw[List.length_map];omega)) (zV (W7 (i:=10) (x:=dn x.2) (ds:=((ls.zipIdx.take i).filter (ZR v1 v2)).map λx=>dn x.2) (by rfl) (by rfl) (by rw[List.length_map];omega)) ?_)
    refine⟨.fz (dn x.2),.fz (eP x.1),.fz (eP (z4 v1 v2 x.1)),?_⟩
    rw[et,List.map_append,List.map_append]
    rfl
   ·rw[show ZR v1 v2 x=false from by simpa using k]at ht
    rw[yQ ht]
    rw[if_neg k]at et
    refine zV (show nxM _=.ok .nx _ from rfl) ⟨.fz (dn x.2),.fz (eP x.1),.fz (eP (z4 v1 v2 x.1)),?_⟩
    rw[et,List.append_nil]
  ·rintro ρ ⟨e,f,g,rfl⟩
   refine⟨rfl,e,f,g,?_⟩
   rw[List.take_length]
   rfl
 ·rintro ρ ⟨e,f,g,rfl⟩
  refine Wj (ds:=(yN v1 v2 ls).map λx=>eP (z4 v1 v2 x.1)) (by rfl) (Wj (ds:=(yN v1 v2 ls).map λx=>dn x.2) (by rfl) ?_)
  refine zV (Zx (wa (kI (x:=.int v1.1) (y:=.int v2.1) (z:=.tup ((yN v1 v2 ls).map λx=>eP (z4 v1 v2 x.1))) (by rfl) (by rfl) (by rfl)) (y:=.tup ((yN v1 v2 ls).map λx=>dn x.2)) (by rfl))) ?_
  show D.tup [.tup [.int v1.1,.int v2.1,.tup ((yN v1 v2 ls).map λx=>eP (z4 v1 v2 x.1))],.tup ((yN v1 v2 ls).map λx=>dn x.2)]=_
  unfold eT
  rw[List.map_map,dns,List.map_map]
  show _=D.tup [.tup [.int (v1.1.toNat:Nat),.int (v2.1.toNat:Nat),_],_]
  rw[Int.toNat_of_nonneg p1,Int.toNat_of_nonneg p2]
  rfl
end
end PM
namespace PM
open PySem
theorem Uq (a b:Nat):(dn a).eqv (dn b)=decide (a=b):=by
 unfold dn
 rw[Xh]
 exact decide_eq_decide.mpr ⟨λh=>Int.ofNat.inj h,λh=>by rw[h]⟩
theorem qg (a b:Option Nat):(eO a).eqv (eO b)=decide (a=b):=by
 cases a<;>cases b
 ·rfl
 ·rfl
 ·rfl
 ·rename_i a b
  show (dn a).eqv (dn b)=_
  rw[Uq]
  exact decide_eq_decide.mpr ⟨λh=>by rw[h],λh=>Option.some.inj h⟩
theorem zAx (a b:Pr):(eP a).eqv (eP b)=decide (a=b):=by
 show ((eO a.1).eqv (eO b.1) && ((eO a.2).eqv (eO b.2) && true))=_
 rw[qg,qg,Bool.and_true,<-Bool.decide_and]
 exact decide_eq_decide.mpr ⟨λh=>Prod.ext h.1 h.2,λh=>by rw[h];exact⟨rfl,rfl⟩⟩
theorem qf:∀ (a b:List Pr),D.eqvs (a.map eP) (b.map eP)=decide (a=b)
 |[],[]=>rfl
 |[],_::_=>rfl
 |_::_,[]=>rfl
 |x::a,y::b=>by
  show ((eP x).eqv (eP y) && D.eqvs (a.map eP) (b.map eP))=_
  rw[zAx,qf a b,<-Bool.decide_and]
  exact decide_eq_decide.mpr ⟨λh=>by rw[h.1,h.2],λh=>by cases h;exact⟨rfl,rfl⟩⟩
theorem zAw (a b:Tr):(eT a).eqv (eT b)=decide (a=b):=by
 show ((dn a.1).eqv (dn b.1) && ((dn a.2.1).eqv (dn b.2.1) && ((D.tup (a.2.2.map eP)).eqv (.tup (b.2.2.map eP)) && true)))=_
 rw[Uq,Uq,show (D.tup (a.2.2.map eP)).eqv (.tup (b.2.2.map eP))=D.eqvs (a.2.2.map eP) (b.2.2.map eP) from rfl,qf,Bool.and_true,<-Bool.decide_and,<-Bool.decide_and]
 exact decide_eq_decide.mpr ⟨λh=>Prod.ext h.1 (Prod.ext h.2.1 h.2.2),λh=>by rw[h];exact⟨rfl,rfl,rfl⟩⟩
theorem JY:∀ (a:List Pr),D.hks (a.map eP)=true
 |[]=>rfl
 |(x,y)::a=>by
  show ((eP (x,y)).hk && D.hks (a.map eP))=true
  rw[JY a]
  cases x<;>cases y<;>rfl
theorem u1:∀ (a:List Pr),D.deeps (a.map eP)<=1
 |[]=>Nat.zero_le _
 |x::a=>by
  show max (eP x).deep (D.deeps (a.map eP))<=1
  rw[qi]
  have:=u1 a
  omega
theorem Vk (t:Tr):ZH (eT t)=some (eT t):=by
 unfold ZH
 refine if_pos ⟨rfl,?_,?_⟩
 ·show ((dn t.1).hk && ((dn t.2.1).hk && ((D.tup (t.2.2.map eP)).hk && true)))=true
  rw[show (D.tup (t.2.2.map eP)).hk=D.hks (t.2.2.map eP) from rfl,JY]
  rfl
 ·show max 0 (max 0 (max (D.deeps (t.2.2.map eP)+1) 0))+1<=8
  have:=u1 t.2.2
  omega
noncomputable def kvT (T:List Tr):List (D×D):=T.zipIdx.map λx=>(eT x.1,dn x.2)
noncomputable def yD (T:List Tr)(t:Tr):Option Nat:=T.findIdx? λu=>decide (u=t)
theorem v4:∀ (T:List Tr)(t:Tr) (k:Nat),yT ((T.zipIdx k).map λx=>(eT x.1,dn x.2)) (eT t)=(yD T t).map λi=>dn (k+i)
 |[],t,k=>rfl
 |u::T,t,k=>by
  rw[List.zipIdx_cons,List.map_cons]
  unfold yT yD
  rw[List.findIdx?_cons,zAw]
  by_cases e:u=t
  ·rw[if_pos (by simpa using e),if_pos (by simpa using e)];rfl
  ·rw[if_neg (by simpa using e),if_neg (by simpa using e),v4 T t (k+1)]
   unfold yD
   cases q:T.findIdx? λu=>decide (u=t) with
   |none=>rfl
   |some i=>show some (dn (k+1+i))=some (dn (k+(i+1)));rw[show k+1+i=k+(i+1) by omega]
theorem Wt (T:List Tr)(t:Tr):yT (kvT T) (eT t)=(yD T t).map dn:=by
 unfold kvT
 rw[v4 T t 0]
 cases yD T t with
 |none=>rfl
 |some i=>show some (dn (0+i))=some (dn i);rw[Nat.zero_add]
theorem Jz {kvs:List (D×D)}{k:D}(h:yT kvs k=none):(kvs.any λp=>p.1.eqv k)=false:=by
 induction kvs with
 |nil=>rfl
 |cons p r ih=>
  unfold yT at h
  by_cases e:p.1.eqv k=true
  ·rw[if_pos e]at h;cases h
  ·rw[if_neg e]at h
   rw[List.any_cons,ih h]
   simpa using e
theorem Jj {T:List Tr}{t:Tr}(h:yD T t=none):Yy (kvT T) (eT t) (dn T.length)=kvT (T++[t]):=by
 unfold Yy
 rw[Jz (by rw[Wt,h];rfl)]
 unfold kvT
 rw[List.zipIdx_append,List.map_append]
 simp
noncomputable def Xv (T:List Tr)(t:Tr):Option (Nat×List Tr):=match yD T t with
 |some i=>some (i,T)
 |none=>if 400<=T.length\/6<t.2.2.length then none else some (T.length,T++[t])
theorem Qq {T:List Tr}{t:Tr}(h:yD T t=none):yD (T++[t]) t=some T.length:=by
 unfold yD at h ⊢
 rw[List.findIdx?_append,h]
 simp
noncomputable def rN (t:Tr)(T T':List Tr):Rho:=[.fz (eT t),.own (T.map eT),.dicT (kvT T')]
theorem jx (t:Tr)(T T':List Tr):Ws 2 (vM 0) (rN t T T')=.ok (.bl (!(yD T' t).isSome)) (rN t T T'):=by
 show (zU (ZH (eT t)) _).bnd _=_
 rw[Vk]
 show Res.ok (D.bl (!(yT (kvT T') (eT t)).isSome)) _=_
 rw[Wt,Option.isSome_map]
theorem Jx {t:Tr}{T T':List Tr}{i:Nat}(h:yD T' t=some i):qh 2 (vM 0) (rN t T T')=.ok (dn i) (rN t T T'):=by
 show (zU (ZH (eT t)) _).bnd _=_
 rw[Vk]
 show (zU (yT (kvT T') (eT t)) _).bnd _=_
 rw[Wt,h]
 rfl
theorem kh {t:Tr}{T T':List Tr}(h:yD T' t=none)(hl:T'.length<=400)(e:T=T'):Wr 2 (vM 0) (Zr 1) (rN t T T')=.ok .nx (rN t T (T'++[t])):=by
 subst e
 show (zU (ZH (eT t)) _).bnd _=_
 rw[Vk]
 show (if (kvT T).length<sizeLine then _ else _)=_
 have:(kvT T).length<sizeLine:=by unfold kvT;rw[List.length_map,List.length_zipIdx,sizeLine_eq];omega
 rw[if_pos this,List.length_map]
 show Res.ok Fl.nx [.fz (eT t),.own (T.map eT),.dicT (Yy (kvT T) (eT t) (dn T.length))]=_
 rw[Jj h]
 rfl
theorem jN (A:Cls)(T:List Tr)(t:Tr)(hl:T.length<=400)(hb:t.2.2.length<1000):z8 A (eT t) (T.map eT) (kvT T)=match Xv T t with
  |some x=>.ok (dn x.1) (x.2.map eT) (kvT x.2)
  |none=>.exn A.tm:=by
 have key:YH A (rN t T T)=match Xv T t with
   |some x=>.ok (.ret (dn x.1)) (rN t x.2 x.2)
   |none=>.exn A.tm (rN t T T):=by
  unfold YH Xv
  cases q:yD T t with
  |some i=>
   rw[Yg (ρ':=rN t T T) (by rw[yQ (ρ':=rN t T T) (zb (x:=.bl false) (by rw[jx,q];rfl) rfl)];rfl)]
   exact Zx (Jx q)
  |none=>
   have tt:zO zQ (Ws 2 (vM 0)) (rN t T T)=.ok true (rN t T T):=zb (x:=.bl true) (by rw[jx,q];rfl) rfl
   have t1:zO zQ (op2 geD (Zr 1) (cM (.int 400))) (rN t T T)=.ok (decide (400<=T.length)) (rN t T T):=by
    refine zb (x:=.bl (decide (400<=T.length))) (zI (x:=dn T.length) (y:=.int 400) (by show Res.ok (D.int ((T.map eT).length:Nat)) _=_;rw[List.length_map];rfl) (by rfl) ?_) rfl
    show some (D.bl (decide ((T.length:Int) ≥ 400)))=_
    rw[decide_eq_decide.mpr (show ((T.length:Int) ≥ 400) ↔ 400<=T.length by omega)]
   have t2:zO zQ (op2 gtD (za (zx yX) [op2 ixD (vM 0) (cM (.int 2))]) (cM (.int 6))) (rN t T T)=.ok (decide (6<t.2.2.length)) (rN t T T):=by
    refine zb (x:=.bl (decide (6<t.2.2.length))) (zI (x:=dn t.2.2.length) (y:=.int 6) (by show Res.ok (D.int ((t.2.2.map eP).length:Nat)) _=_;rw[List.length_map];rfl) (by rfl) ?_) rfl
    show some (D.bl (decide ((t.2.2.length:Int) > 6)))=_
    rw[decide_eq_decide.mpr (show ((t.2.2.length:Int) > 6) ↔ 6<t.2.2.length by omega)]
   by_cases c1:400<=T.length
   ·rw[if_pos (.inl c1)]
    unfold zG
    rw[yz tt,yz (xT c1 t1)]
    rfl
   ·by_cases c2:6<t.2.2.length
    ·rw[if_pos (.inr c2)]
     unfold zG
     rw[yz tt,yQ (YQ c1 t1)]
     show ((((ifM _ _ _) (rN t T T)).bnd _).bnd _)=_
     rw[yz (xT c2 t2)]
     rfl
    ·rw[if_neg (by omega)]
     rw[Yg (ρ':=rN t (T++[t]) (T++[t])) (by
      rw[yz tt,Yg (ρ':=rN t T T) (by rw[yQ (YQ c1 t1)];rfl),Yg (ρ':=rN t T T) (by rw[yQ (YQ c2 t2)];rfl),Yg (kh q hl rfl),W7 (i:=1) (ds:=T.map eT) (x:=eT t) (by rfl) (by rfl) (by rw[List.length_map];omega)]
      unfold rN
      rw[List.map_append]
      rfl)]
     exact Zx (Jx (Qq q))
 show UA 3 (YH A) (eT t) (T.map eT) (kvT T)=_
 unfold UA
 rw[show xB 3 (eT t) (T.map eT) (kvT T)=rN t T T from rfl,key]
 cases Xv T t with
 |none=>rfl
 |some x=>rfl
end PM
namespace PM
open PySem
structure FOk (b:Nat)(os:List (Option Nat)):Prop where
 lt:∀ i n:Nat,os[i]? = some (some n)->n<b
 inj:∀ i j n:Nat,os[i]? = some (some n)->os[j]? = some (some n)->i=j
 all:∀ n:Nat,n<b->∃ i:Nat,os[i]? = some (some n)
noncomputable def wY (os:List (Option Nat)) (r:Nat):Option Nat:=((os++[none])[r]?).getD none
noncomputable def Zf (b:Nat)(os:List (Option Nat)) (r:Nat):Nat:=(wY os r).getD b
noncomputable def lsO (b:Nat)(os:List (Option Nat)) (r:Nat):List (Option Nat):=(os++[none]).set r (some (Zf b os r))
theorem yr {os:List (Option Nat)}{i n:Nat}(h:(os++[none])[i]? = some (some n)):os[i]? = some (some n):=by
 by_cases hi:i<os.length
 ·rw[List.getElem?_append_left hi]at h;exact h
 ·rw[List.getElem?_append_right (by omega)]at h
  by_cases e:i - os.length=0
  ·rw[e]at h;cases h
  ·rw[List.getElem?_eq_none (by simp;omega)]at h;cases h
theorem Xn {os:List (Option Nat)}{i n:Nat}(h:os[i]? = some (some n)):(os++[none])[i]? = some (some n):=by
 rw[List.getElem?_append_left (List.getElem?_eq_some_iff.mp h).1];exact h
theorem vp {os:List (Option Nat)}{r n:Nat}(h:wY os r=some n):os[r]? = some (some n):=by
 unfold wY at h
 cases q:(os++[none])[r]? with
 |none=>rw[q]at h;cases h
 |some o=>rw[q]at h;cases h;exact yr q
theorem YF {b r:Nat}{os:List (Option Nat)}(h:FOk b os):(Zf b os r<b/\os[r]? = some (some (Zf b os r)))\/(Zf b os r=b/\wY os r=none):=by
 unfold Zf
 cases q:wY os r with
 |none=>exact .inr ⟨rfl,rfl⟩
 |some n=>exact .inl ⟨h.lt r n (vp q),vp q⟩
theorem FOk.lets {b r:Nat}{os:List (Option Nat)}(h:FOk b os)(hr:r<=os.length):FOk (b+if Zf b os r=b then 1 else 0) (lsO b os r):=by
 have hrl:r<(os++[none]).length:=by simp;omega
 have atr:(lsO b os r)[r]? = some (some (Zf b os r)):=by unfold lsO;rw[List.getElem?_set_self hrl]
 have atn:∀ i,i≠r->(lsO b os r)[i]? = (os++[none])[i]?:=λi n=>by unfold lsO;rw[List.getElem?_set_ne (Ne.symm n)]
 have hc:=YF (r:=r) h
 refine⟨λi n e=>?_,λi j n e1 e2=>?_,λn hn=>?_⟩
 ·by_cases z:i=r
  ·subst z
   rw[atr]at e
   cases e
   rcases hc with ⟨c,_⟩ | ⟨c,_⟩
   ·rw[if_neg (by omega)];omega
   ·rw[if_pos c];omega
  ·rw[atn i z]at e
   have:=h.lt i n (yr e)
   omega
 ·by_cases z:i=r
  ·by_cases z2:j=r
   ·rw[z,z2]
   ·subst z
    rw[atr]at e1
    cases e1
    rw[atn j z2]at e2
    have e2:=yr e2
    rcases hc with ⟨c,c2⟩ | ⟨c,c2⟩
    ·exact h.inj _ _ _ c2 e2
    ·have:=h.lt _ _ e2;omega
  ·rw[atn i z]at e1
   have e1:=yr e1
   by_cases z2:j=r
   ·subst z2
    rw[atr]at e2
    cases e2
    rcases hc with ⟨c,c2⟩ | ⟨c,c2⟩
    ·exact h.inj _ _ _ e1 c2
    ·have:=h.lt _ _ e1;omega
   ·rw[atn j z2]at e2
    exact h.inj _ _ _ e1 (yr e2)
 ·by_cases z:n<b
  ·obtain⟨i,e⟩:=h.all n z
   by_cases zi:i=r
   ·subst zi
    refine⟨i,?_⟩
    rw[atr]
    have:wY os i=some n:=by unfold wY;rw[Xn e];rfl
    unfold Zf
    rw[this]
    rfl
   ·exact⟨i,by rw[atn i zi];exact Xn e⟩
  ·by_cases c:Zf b os r=b
   ·rw[if_pos c]at hn
    exact⟨r,by rw[atr,c,show n=b by omega]⟩
   ·rw[if_neg c]at hn;omega
theorem Yr {v:Mv}{o:Option Nat}{a:Nat}(h:z9 v o=some a):∃ n:Nat,o=some n/\v.2[a]? = some (n:Int):=by
 cases o with
 |none=>cases h
 |some n=>
  have h:(if (n:Int) ∈ v.2 then some (v.2.findIdx λy=>decide (y=(n:Int))) else none)=some a:=h
  split at h
  ·rename_i hm
   cases h
   refine⟨n,rfl,?_⟩
   have hlt:v.2.findIdx (λy=>decide (y=(n:Int)))<v.2.length:=List.findIdx_lt_length_of_exists ⟨(n:Int),hm,by simp⟩
   rw[List.getElem?_eq_getElem hlt]
   have:=List.findIdx_getElem (w:=hlt)
   simpa using this
  ·cases h
theorem xJ {α:Type} [DecidableEq α] {l:List α}(h:l.Nodup){i j:Nat}{x:α}(h1:l[i]? = some x)(h2:l[j]? = some x):i=j:=
 (List.getElem?_inj (List.getElem?_eq_some_iff.mp h1).1 h).mp (h1.trans h2.symm)
theorem Uv {v:Mv}(nd:v.2.Nodup){n a:Nat}(h:v.2[a]? = some (n:Int)):z9 v (some n)=some a:=by
 have hm:(n:Int) ∈ v.2:=List.mem_of_getElem? h
 have e:z9 v (some n)=some (v.2.findIdx λy=>decide (y=(n:Int))):=by show (if _ then _ else _)=_;rw[if_pos hm]
 obtain⟨k,e1,e2⟩:=Yr e
 cases e1
 rw[e,xJ nd e2 h]
theorem Xb {v1 v2:Mv}{ls:List Pr}{x:Pr×Nat}:x ∈ yN v1 v2 ls ↔ ls[x.2]? = some x.1/\z4 v1 v2 x.1≠(none,none):=by
 unfold yN
 rw[List.mem_filter,List.mem_zipIdx_iff_getElem?]
 unfold ZR
 rw[decide_eq_true_eq]
theorem qS (v1 v2:Mv)(ls:List Pr):((yN v1 v2 ls).map (·.2)).Pairwise (· < ·):=by
 have h:(ls.zipIdx.map (·.2)).Pairwise (· < ·):=by
  have:ls.zipIdx.map (·.2)=List.range' 0 ls.length:=by rw[<-List.zipIdx_map_snd 0 ls]
  rw[this]
  exact List.pairwise_lt_range'
 exact h.sublist ((List.filter_sublist (l:=ls.zipIdx) (p:=ZR v1 v2)).map (·.2))
theorem JZ {v1 v2:Mv}{ls:List Pr}{k k':Nat}{x x':Pr×Nat}(h:(yN v1 v2 ls)[k]? = some x)(h':(yN v1 v2 ls)[k']? = some x')(e:x.2=x'.2):k=k':=by
 have nd:((yN v1 v2 ls).map (·.2)).Nodup:=(qS v1 v2 ls).imp (λh=>Nat.ne_of_lt h)
 refine xJ nd (x:=x.2) ?_ ?_
 ·rw[List.getElem?_map,h];rfl
 ·rw[List.getElem?_map,h',e];rfl
theorem qT (v1 v2:Mv)(ls:List Pr){k:Nat}{x:Pr×Nat}(h:(yN v1 v2 ls)[k]? = some x):ls[x.2]? = some x.1/\z4 v1 v2 x.1≠(none,none):=Xb.mp (List.mem_of_getElem? h)
structure SrcN (N:Nat)(v:Mv):Prop where
 nd:v.2.Nodup
 lo:∀ x ∈ v.2,0<=x
 hi:∀ x ∈ v.2,x<(N:Int)
theorem vf {v1 v2:Mv}{ls:List Pr}{N:Nat}(f:Pr->Option Nat)(v:Mv)(hf:∀ p a,z9 v (f p)=some a->z4 v1 v2 p≠(none,none))(h:FOk N (ls.map f))(hv:SrcN N v):FOk v.2.length ((yN v1 v2 ls).map λx=>z9 v (f x.1)):=by
 have at_:∀ {k n:Nat},((yN v1 v2 ls).map λx=>z9 v (f x.1))[k]? = some (some n)->∃ x o,(yN v1 v2 ls)[k]? = some x/\f x.1=some o/\v.2[n]? = some (o:Int)/\(ls.map f)[x.2]? = some (some o):=fun {k n} e=>by
  rw[List.getElem?_map]at e
  cases q:(yN v1 v2 ls)[k]? with
  |none=>rw[q]at e;cases e
  |some x=>
   rw[q]at e
   have e:z9 v (f x.1)=some n:=by simpa using e
   obtain⟨o,e1,e2⟩:=Yr e
   exact⟨x,o,rfl,e1,e2,by rw[List.getElem?_map,(qT _ _ _ q).1];show some (f x.1)=_;rw[e1]⟩
 refine⟨λk n e=>?_,λk k' n e e'=>?_,λn hn=>?_⟩
 ·obtain⟨x,o,_,_,e2,_⟩:=at_ e
  exact (List.getElem?_eq_some_iff.mp e2).1
 ·obtain⟨x,o,q,e1,e2,e3⟩:=at_ e
  obtain⟨x',o',q',e1',e2',e3'⟩:=at_ e'
  rw[e2]at e2'
  have:(o:Int)=o':=Option.some.inj e2'
  have:o=o':=by omega
  subst this
  exact JZ q q' (h.inj _ _ _ e3 e3')
 ·have hz:=List.getElem?_eq_getElem hn
  have hm:=List.mem_of_getElem? hz
  have l0:=hv.lo _ hm
  have l1:=hv.hi _ hm
  obtain⟨o,ho⟩:=Int.eq_ofNat_of_zero_le l0
  obtain⟨i,e⟩:=h.all o (by omega)
  rw[List.getElem?_map]at e
  cases q:ls[i]? with
  |none=>rw[q]at e;cases e
  |some p=>
   rw[q]at e
   have e:f p=some o:=by simpa using e
   have hb:z9 v (f p)=some n:=by rw[e];exact Uv hv.nd (by rw[hz,ho])
   have hm2:(p,i) ∈ yN v1 v2 ls:=Xb.mpr ⟨q,hf p n hb⟩
   obtain⟨k,hk⟩:=List.getElem?_of_mem hm2
   exact⟨k,by rw[List.getElem?_map,hk];show some (z9 v (f p))=_;rw[hb]⟩
end PM
namespace PM
open PySem
structure TOk (m1 m2:List Stt)(t:Tr):Prop where
 s1:∃ s,m1[t.1]? = some s/\FOk s.2.1.toNat (t.2.2.map (·.1))
 s2:∃ s,m2[t.2.1]? = some s/\FOk s.2.1.toNat (t.2.2.map (·.2))
 ne:∀ p ∈ t.2.2,p≠(none,none)
theorem Qd (t:Tr) (r:Nat):(z7 t r).1=wY (t.2.2.map (·.1)) r:=by
 unfold z7 wY Zu
 rw[show (t.2.2.map (·.1))++[none]=(t.2.2++[((none,none):Pr)]).map (·.1) by rw[List.map_append];rfl,List.getElem?_map]
 cases (t.2.2++[((none,none):Pr)])[r]?<;>rfl
theorem Qc (t:Tr) (r:Nat):(z7 t r).2=wY (t.2.2.map (·.2)) r:=by
 unfold z7 wY Zu
 rw[show (t.2.2.map (·.2))++[none]=(t.2.2++[((none,none):Pr)]).map (·.2) by rw[List.map_append];rfl,List.getElem?_map]
 cases (t.2.2++[((none,none):Pr)])[r]?<;>rfl
theorem WG (s:Stt)(t:Tr) (r:Nat):zt s (z7 t r).1=Zf s.2.1.toNat (t.2.2.map (·.1)) r:=by unfold zt Zf;rw[Qd]
theorem WF (s:Stt)(t:Tr) (r:Nat):zt s (z7 t r).2=Zf s.2.1.toNat (t.2.2.map (·.2)) r:=by unfold zt Zf;rw[Qc]
theorem ug (s1 s2:Stt)(t:Tr) (r:Nat):(lets s1 s2 t r).map (·.1)=lsO s1.2.1.toNat (t.2.2.map (·.1)) r:=by
 unfold lets lsO Zu
 rw[List.map_set,List.map_append,WG]
 rfl
theorem ue (s1 s2:Stt)(t:Tr) (r:Nat):(lets s1 s2 t r).map (·.2)=lsO s2.2.1.toNat (t.2.2.map (·.2)) r:=by
 unfold lets lsO Zu
 rw[List.map_set,List.map_append,WF]
 rfl
theorem Ks {m:List Stt}(hm:GoodM m){s:Stt}{q b:Nat}{os:List (Option Nat)}{r:Nat}(hs:m[q]? = some s)(h:FOk s.2.1.toNat os):s.2.2[Zf s.2.1.toNat os r]? = some (uW s (Zf s.2.1.toNat os r)) ∧
  GoodMv m (s.2.1+if Zf s.2.1.toNat os r=s.2.1.toNat then 1 else 0) (uW s (Zf s.2.1.toNat os r)):=by
 have g:=hm.sts s (List.mem_of_getElem? hs)
 have hl:Zf s.2.1.toNat os r<s.2.2.length:=by
  rw[g.ml]
  rcases YF (r:=r) h with ⟨c,_⟩ | ⟨c,_⟩<;>omega
 have e:s.2.2[Zf s.2.1.toNat os r]? = some (uW s (Zf s.2.1.toNat os r)):=by
  unfold uW
  rw[List.getElem?_eq_getElem hl]
  rfl
 exact⟨e,g.mv _ _ e⟩
theorem U5 {m:List Stt}{z:Int}{c:Prop} [Decidable c] {v:Mv}(h0:0<=z)(h:GoodMv m (z+if c then 1 else 0) v):SrcN (z.toNat+if c then 1 else 0) v:=by
 refine⟨h.nd,h.lo,λx hx=>?_⟩
 have:=h.hi x hx
 by_cases k:c
 ·rw[if_pos k]at this ⊢;omega
 ·rw[if_neg k]at this ⊢;omega
theorem qV {m:List Stt}{z:Int}{v:Mv}(h:GoodMv m z v)(hm:GoodM m):∃ s,m[v.1.toNat]? = some s/\s.2.1.toNat=v.2.length:=by
 have h0:=h.t0
 have h1:=h.t1
 have hl:v.1.toNat<m.length:=by omega
 refine⟨m[v.1.toNat],List.getElem?_eq_getElem hl,?_⟩
 have:=h.ln
 rw[Zl (List.getElem?_eq_getElem hl)]at this
 omega
section
variable {m1 m2:List Stt}{t:Tr}{r:Nat}{s1 s2:Stt}
theorem j9 (hm:GoodM m1)(h:TOk m1 m2 t)(e1:m1[t.1]? = some s1):s1.2.2[zt s1 (z7 t r).1]? = some (mv1 s1 t r)/\GoodMv m1 (s1.2.1+if Zf s1.2.1.toNat (t.2.2.map (·.1)) r=s1.2.1.toNat then 1 else 0) (mv1 s1 t r):=by
 obtain⟨s,e,f⟩:=h.s1
 rw[e1]at e
 cases e
 have:=Ks (b:=0) (r:=r) hm e1 f
 unfold mv1
 rw[WG]
 exact this
theorem j8 (hm:GoodM m2)(h:TOk m1 m2 t)(e2:m2[t.2.1]? = some s2):s2.2.2[zt s2 (z7 t r).2]? = some (mv2 s2 t r)/\GoodMv m2 (s2.2.1+if Zf s2.2.1.toNat (t.2.2.map (·.2)) r=s2.2.1.toNat then 1 else 0) (mv2 s2 t r):=by
 obtain⟨s,e,f⟩:=h.s2
 rw[e2]at e
 cases e
 have:=Ks (b:=0) (r:=r) hm e2 f
 unfold mv2
 rw[WF]
 exact this
theorem VX (hm1:GoodM m1)(hm2:GoodM m2)(h:TOk m1 m2 t)(hr:r<=t.2.2.length)(e1:m1[t.1]? = some s1)(e2:m2[t.2.1]? = some s2):TOk m1 m2 (zu s1 s2 t r):=by
 obtain⟨s,e,f1⟩:=h.s1
 rw[e1]at e
 cases e
 obtain⟨s,e,f2⟩:=h.s2
 rw[e2]at e
 cases e
 have g1:=(j9 (r:=r) hm1 h e1).2
 have g2:=(j8 (r:=r) hm2 h e2).2
 have l1:=f1.lets (r:=r) (by simpa using hr)
 have l2:=f2.lets (r:=r) (by simpa using hr)
 rw[<-ug s1 s2]at l1
 rw[<-ue s1 s2]at l2
 have b1:=(hm1.sts _ (List.mem_of_getElem? e1)).b0
 have b2:=(hm2.sts _ (List.mem_of_getElem? e2)).b0
 refine⟨?_,?_,?_⟩
 ·obtain⟨s,q1,q2⟩:=qV g1 hm1
  refine⟨s,q1,?_⟩
  rw[q2]
  have:=vf (v1:=mv1 s1 t r) (v2:=mv2 s2 t r) (λp:Pr=>p.1) (mv1 s1 t r) (λp a ha z=>by
   have:(z4 (mv1 s1 t r) (mv2 s2 t r) p).1=some a:=ha
   rw[z]at this
   cases this) l1 (U5 b1 g1)
  have e:(zu s1 s2 t r).2.2.map (·.1)=(yN (mv1 s1 t r) (mv2 s2 t r) (lets s1 s2 t r)).map λx=>z9 (mv1 s1 t r) x.1.1:=by
   unfold zu Y8
   rw[List.map_map]
   rfl
  rw[e]
  exact this
 ·obtain⟨s,q1,q2⟩:=qV g2 hm2
  refine⟨s,q1,?_⟩
  rw[q2]
  have:=vf (v1:=mv1 s1 t r) (v2:=mv2 s2 t r) (λp:Pr=>p.2) (mv2 s2 t r) (λp a ha z=>by
   have:(z4 (mv1 s1 t r) (mv2 s2 t r) p).2=some a:=ha
   rw[z]at this
   cases this) l2 (U5 b2 g2)
  have e:(zu s1 s2 t r).2.2.map (·.2)=(yN (mv1 s1 t r) (mv2 s2 t r) (lets s1 s2 t r)).map λx=>z9 (mv2 s2 t r) x.1.2:=by
   unfold zu Y8
   rw[List.map_map]
   rfl
  rw[e]
  exact this
 ·intro p hp
  unfold zu at hp
  obtain⟨x,hx,rfl⟩:=List.mem_map.mp hp
  exact (Xb.mp hx).2
theorem ve (hr:r<=t.2.2.length):(ZX s1 s2 t r).Pairwise (· < ·)/\(∀ q ∈ ZX s1 s2 t r,q<t.2.2.length+if r=t.2.2.length then 1 else 0)/\(ZX s1 s2 t r).length=(zu s1 s2 t r).2.2.length:=by
 refine⟨qS _ _ _,λq hq=>?_,?_⟩
 ·unfold ZX at hq
  obtain⟨x,hx,rfl⟩:=List.mem_map.mp hq
  obtain⟨h1,h2⟩:=Xb.mp hx
  have hl:=(List.getElem?_eq_some_iff.mp h1).1
  rw[uf]at hl
  by_cases e:r=t.2.2.length
  ·rw[if_pos e];exact hl
  ·rw[if_neg e]
   by_cases z:x.2=t.2.2.length
   ·exfalso
    rw[z]at h1
    unfold lets at h1
    rw[List.getElem?_set_ne e]at h1
    unfold Zu at h1
    rw[List.getElem?_append_right (Nat.le_refl _),Nat.sub_self]at h1
    have:((none,none):Pr)=x.1:=Option.some.inj h1
    rw[<-this]at h2
    exact h2 rfl
   ·omega
 ·unfold ZX zu
  rw[List.length_map,List.length_map]
theorem Uf {b1 b2:Nat}{ps:List Pr}(h1:FOk b1 (ps.map (·.1)))(h2:FOk b2 (ps.map (·.2)))(hn:∀ p ∈ ps,p≠(none,none)):ps.length<=b1+b2:=by
 let g:Pr->Nat:=λp=>match p.1 with
  |some a=>a
  |none=>b1+p.2.getD 0
 have hg:∀ i p,ps[i]? = some p->(∃ a,p.1=some a/\g p=a/\a<b1)\/∃ a,p.1=none/\p.2=some a/\g p=b1+a/\a<b2:=λi p hp=>by
  obtain⟨x,y⟩:=p
  cases x with
  |some a=>exact .inl ⟨a,rfl,rfl,h1.lt i a (by rw[List.getElem?_map,hp];rfl)⟩
  |none=>
   cases y with
   |none=>exact absurd rfl (hn _ (List.mem_of_getElem? hp))
   |some a=>exact .inr ⟨a,rfl,rfl,rfl,h2.lt i a (by rw[List.getElem?_map,hp];rfl)⟩
 have nd:(ps.map g).Nodup:=by
  refine List.pairwise_iff_getElem.mpr λi j hi hj hij e=>?_
  rw[List.length_map]at hi hj
  have e:g ps[i]=g ps[j]:=by simpa using e
  have pi:=List.getElem?_eq_getElem hi
  have pj:=List.getElem?_eq_getElem hj
  rcases hg i _ pi with ⟨a,x1,x2,x3⟩ | ⟨a,x1,x2,x3,x4⟩
  ·rcases hg j _ pj with ⟨a',y1,y2,y3⟩ | ⟨a',y1,y2,y3,y4⟩
   ·have:a=a':=by omega
    subst this
    have:=h1.inj i j a (by rw[List.getElem?_map,pi];show some (ps[i].1)=_;rw[x1]) (by rw[List.getElem?_map,pj];show some (ps[j].1)=_;rw[y1])
    omega
   ·omega
  ·rcases hg j _ pj with ⟨a',y1,y2,y3⟩ | ⟨a',y1,y2,y3,y4⟩
   ·omega
   ·have:a=a':=by omega
    subst this
    have:=h2.inj i j a (by rw[List.getElem?_map,pi];show some (ps[i].2)=_;rw[x2]) (by rw[List.getElem?_map,pj];show some (ps[j].2)=_;rw[y2])
    omega
 have:=WR nd (k:=List.range (b1+b2)) λx hx=>by
  obtain⟨p,hp,rfl⟩:=List.mem_map.mp hx
  obtain⟨i,hi⟩:=List.getElem?_of_mem hp
  rw[List.mem_range]
  rcases hg i p hi with ⟨a,_,q,_⟩ | ⟨a,_,_,q,_⟩<;>omega
 simpa using this
theorem XZ (hm1:GoodM m1)(hm2:GoodM m2)(h:TOk m1 m2 t):t.2.2.length<=12:=by
 obtain⟨s,e,f1⟩:=h.s1
 obtain⟨s',e',f2⟩:=h.s2
 have:=Uf f1 f2 h.ne
 have b1:=(hm1.sts _ (List.mem_of_getElem? e)).b6
 have b2:=(hm2.sts _ (List.mem_of_getElem? e')).b6
 omega
theorem zA1 (hm1:GoodM m1)(hm2:GoodM m2)(h:TOk m1 m2 t)(hr:r<=t.2.2.length)(e1:m1[t.1]? = some s1)(e2:m2[t.2.1]? = some s2):yP [eM m1,eM m2,eT t,dn r]=.ok (.tup [eT (zu s1 s2 t r),.tup (dns (ZX s1 s2 t r))]):=by
 have g1:=j9 (r:=r) hm1 h e1
 have g2:=j8 (r:=r) hm2 h e2
 have:=XZ hm1 hm2 h
 exact jP e1 e2 hr (by omega) (hm1.sts _ (List.mem_of_getElem? e1)).b0 (hm2.sts _ (List.mem_of_getElem? e2)).b0 g1.1 g2.1 g1.2.t0 g2.2.t0
end
end PM
namespace PM
open PySem
noncomputable def VY (s1 s2:Stt)(t:Tr) (r i:Nat):Mv:=((i:Int),zs (ZX s1 s2 t r))
noncomputable def yR (s1 s2:Stt)(t:Tr)(T:List Tr):Nat->Option (List Mv×List Tr)
 |0=>some ([],T)
 |i+1=>match yR s1 s2 t T i with
  |none=>none
  |some st=>match Xv st.2 (zu s1 s2 t i) with
   |none=>none
   |some x=>some (st.1++[VY s1 s2 t i x.1],x.2)
noncomputable def stN (due:Bool->Bool->Bool)(m1 m2:List Stt):Nat->Option (List Tr×List Stt)
 |0=>some ([(0,0,[])],[])
 |n+1=>match stN due m1 m2 n with
  |none=>none
  |some st=>match st.1[n]? with
   |none=>some st
   |some t=>match m1[t.1]?,m2[t.2.1]? with
    |some s1,some s2=>match yR s1 s2 t st.1 (t.2.2.length+1) with
     |none=>none
     |some x=>some (x.2,st.2++[(due s1.1 s2.1,(t.2.2.length:Int),x.1)])
    |_,_=>none
theorem vi {s1 s2:Stt}{t:Tr}{T:List Tr}{i:Nat}(h:yR s1 s2 t T i=none):∀ {j:Nat},i<=j->yR s1 s2 t T j=none
 |0,hj=>by rw[show (0:Nat)=i by omega];exact h
 |j+1,hj=>by
  by_cases e:i=j+1
  ·rw[<-e];exact h
  ·unfold yR
   rw[vi h (by omega)]
theorem VH {due:Bool->Bool->Bool}{m1 m2:List Stt}{i:Nat}(h:stN due m1 m2 i=none):∀ {j:Nat},i<=j->stN due m1 m2 j=none
 |0,hj=>by rw[show (0:Nat)=i by omega];exact h
 |j+1,hj=>by
  by_cases e:i=j+1
  ·rw[<-e];exact h
  ·unfold stN
   rw[VH h (by omega)]
theorem VG {due:Bool->Bool->Bool}{m1 m2:List Stt}{i:Nat}{x:List Tr×List Stt}(h:stN due m1 m2 i=some x)(hl:x.1.length<=i):∀ {j:Nat},i<=j->stN due m1 m2 j=some x
 |0,hj=>by rw[show (0:Nat)=i by omega];exact h
 |j+1,hj=>by
  by_cases e:i=j+1
  ·rw[<-e];exact h
  ·unfold stN
   rw[VG h hl (show i<=j by omega)]
   dsimp only
   rw[List.getElem?_eq_none (by omega)]
structure Known (m1 m2:List Stt)(T:List Tr):Prop where
 ok:∀ t ∈ T,TOk m1 m2 t
 nd:T.Nodup
 le:T.length<=400
 b6:∀ t ∈ T,t.2.2.length<=6
theorem Qp {T:List Tr}{t:Tr}{i:Nat}(h:yD T t=some i):T[i]? = some t:=by
 unfold yD at h
 obtain⟨hl,he,_⟩:=List.findIdx?_eq_some_iff_getElem.mp h
 rw[List.getElem?_eq_getElem hl]
 simpa using he
theorem Qr {T:List Tr}{t:Tr}(h:yD T t=none):t ∉ T:=by
 unfold yD at h
 rw[List.findIdx?_eq_none_iff]at h
 intro hm
 have:=h t hm
 simp at this
theorem QM {m1 m2:List Stt}{T:List Tr}{t:Tr}{x:Nat×List Tr}(h:Known m1 m2 T)(ht:TOk m1 m2 t)(e:Xv T t=some x):Known m1 m2 x.2/\x.2[x.1]? = some t/\(∃ more,x.2=T++more)/\((x.2=T/\x.1<T.length)\/(x.1=T.length/\x.2.length=T.length+1)):=by
 unfold Xv at e
 cases q:yD T t with
 |some i=>
  rw[q]at e
  cases e
  have:=Qp q
  exact⟨h,this,⟨[],by simp⟩,.inl ⟨rfl,(List.getElem?_eq_some_iff.mp this).1⟩⟩
 |none=>
  rw[q]at e
  dsimp only at e
  split at e
  ·cases e
  ·rename_i hc
   cases e
   have hn:=Qr q
   refine⟨⟨λu hu=>?_,?_,by simp;omega,λu hu=>?_⟩,by simp,⟨[t],rfl⟩,.inr ⟨rfl,by simp⟩⟩
   ·rcases List.mem_append.mp hu with hu | hu
    ·exact h.ok u hu
    ·rw[List.mem_singleton.mp hu];exact ht
   ·refine List.nodup_append.mpr ⟨h.nd,by simp,λa ha b hb z=>?_⟩
    rw[z,List.mem_singleton.mp hb]at ha
    exact hn ha
   ·rcases List.mem_append.mp hu with hu | hu
    ·exact h.b6 u hu
    ·rw[List.mem_singleton.mp hu];omega
noncomputable def scan:List Mv->Nat->Option Nat
 |[],c=>some c
 |v::r,c=>if v.1<(c:Int) then scan r c else if v.1=(c:Int) then scan r (c+1) else none
theorem YX:∀ {l:List Mv}{c c':Nat}{v:Mv},scan l c=some c'->scan (l++[v]) c=scan [v] c'
 |[],c,c',v,h=>by cases h;rfl
 |w::r,c,c',v,h=>by
  rw[List.cons_append]
  unfold scan at h ⊢
  split at h
  ·rename_i k;rw[if_pos k];exact YX h
  ·rename_i k
   rw[if_neg k]
   split at h
   ·rename_i k2;rw[if_pos k2];exact YX h
   ·cases h
structure MovOk (m1 m2:List Stt)(s1 s2:Stt)(t:Tr)(T:List Tr) (i:Nat)(x:List Mv×List Tr):Prop where
 kn:Known m1 m2 x.2
 ext:∃ more,x.2=T++more
 len:x.1.length=i
 at_:∀ (r:Nat)(v:Mv),x.1[r]? = some v->∃ g:Nat,v=VY s1 s2 t r g/\x.2[g]? = some (zu s1 s2 t r)
 sc:scan x.1 T.length=some x.2.length
theorem XU {m1 m2:List Stt}{s1 s2:Stt}{t:Tr}{T:List Tr}(hm1:GoodM m1)(hm2:GoodM m2)(h:Known m1 m2 T)(ht:TOk m1 m2 t)(e1:m1[t.1]? = some s1)(e2:m2[t.2.1]? = some s2):∀ (i:Nat)(x:List Mv×List Tr),i<=t.2.2.length+1->yR s1 s2 t T i=some x->MovOk m1 m2 s1 s2 t T i x
 |0,x,_,e=>by
  cases e
  exact⟨h,⟨[],by simp⟩,rfl,λr v hv=>by simp at hv,rfl⟩
 |i+1,x,hi,e=>by
  unfold yR at e
  cases q:yR s1 s2 t T i with
  |none=>rw[q]at e;cases e
  |some st=>
   rw[q]at e
   have ih:=XU hm1 hm2 h ht e1 e2 i st (by omega) q
   dsimp only at e
   cases q2:Xv st.2 (zu s1 s2 t i) with
   |none=>rw[q2]at e;cases e
   |some y=>
    rw[q2]at e
    cases e
    obtain⟨k1,k2,⟨more,k3⟩,k4⟩:=QM ih.kn (VX hm1 hm2 ht (by omega) e1 e2) q2
    obtain⟨more0,m0⟩:=ih.ext
    refine⟨k1,⟨more0++more,by rw[k3,m0,List.append_assoc]⟩,by rw[List.length_append,ih.len];rfl,λr v hv=>?_,?_⟩
    ·by_cases hr:r<i
     ·rw[List.getElem?_append_left (by rw[ih.len];exact hr)]at hv
      obtain⟨g,e3,e4⟩:=ih.at_ r v hv
      exact⟨g,e3,by rw[k3,List.getElem?_append_left (List.getElem?_eq_some_iff.mp e4).1];exact e4⟩
     ·rw[List.getElem?_append_right (by rw[ih.len];omega),ih.len]at hv
      have hr2:r=i:=by
       have:=(List.getElem?_eq_some_iff.mp hv).1
       simp at this
       omega
      subst hr2
      rw[Nat.sub_self]at hv
      cases hv
      exact⟨y.1,rfl,k2⟩
    ·rw[YX ih.sc]
     show (if ((y.1:Int))<((st.2.length:Nat):Int) then some st.2.length else if (y.1:Int)=((st.2.length:Nat):Int) then some (st.2.length+1) else none)=_
     rcases k4 with ⟨z1,z2⟩ | ⟨z1,z2⟩
     ·rw[if_pos (by omega),z1]
     ·rw[if_neg (by omega),if_pos (by omega),z2]
noncomputable def Zt:List Stt->Nat->Nat->Option Nat
 |[],_,c=>some c
 |s::r,n,c=>if n<c then match scan s.2.2 c with
  |some c'=>Zt r (n+1) c'
  |none=>none
  else none
theorem xc:∀ {J:List Stt}{n c c':Nat}{s:Stt},Zt J n c=some c'->Zt (J++[s]) n c=Zt [s] (n+J.length) c'
 |[],n,c,c',s,h=>by cases h;rfl
 |w::r,n,c,c',s,h=>by
  rw[List.cons_append]
  unfold Zt at h
  rw[show Zt (w::(r++[s])) n c=(if n<c then match scan w.2.2 c with | some c'=>Zt (r++[s]) (n+1) c' | none=>none else none) from rfl]
  split at h
  ·rename_i k
   rw[if_pos k]
   cases q:scan w.2.2 c with
   |none=>rw[q]at h;cases h
   |some c2=>
    rw[q]at h
    dsimp only at h ⊢
    rw[xc h,List.length_cons,show n+1+r.length=n+(r.length+1) by omega]
  ·cases h
structure StOk (due:Bool->Bool->Bool)(m1 m2:List Stt) (n:Nat)(x:List Tr×List Stt):Prop where
 kn:Known m1 m2 x.1
 fst:x.1[0]? = some (0,0,[])
 len:x.2.length=min n x.1.length
 at_:∀ (k:Nat)(s:Stt),x.2[k]? = some s->∃ t s1 s2,x.1[k]? = some t/\m1[t.1]? = some s1/\m2[t.2.1]? = some s2/\s.1=due s1.1 s2.1/\s.2.1=(t.2.2.length:Int)/\s.2.2.length=t.2.2.length+1 ∧
  ∀ (r:Nat)(v:Mv),s.2.2[r]? = some v->∃ g:Nat,v=VY s1 s2 t r g/\x.1[g]? = some (zu s1 s2 t r)
 sc:Zt x.2 0 1=some x.1.length
theorem zBU {m1 m2:List Stt}(hm1:GoodM m1)(hm2:GoodM m2):TOk m1 m2 (0,0,[]):=by
 have z:∀ {m:List Stt},GoodM m->∃ s,m[0]? = some s/\FOk s.2.1.toNat []:=fun {m} hm=>by
  have e:=List.getElem?_eq_getElem hm.pos
  refine⟨_,e,?_⟩
  have:=hm.zer
  rw[Zl (g:=0) e]at this
  rw[this]
  exact⟨λi n h=>by simp at h,λi j n h=>by simp at h,λn hn=>by simp at hn⟩
 exact⟨z hm1,z hm2,λp hp=>by cases hp⟩
theorem xW {due:Bool->Bool->Bool}{m1 m2:List Stt}(hm1:GoodM m1)(hm2:GoodM m2):∀ (n:Nat)(x:List Tr×List Stt),stN due m1 m2 n=some x->StOk due m1 m2 n x
 |0,x,e=>by
  cases e
  refine⟨⟨λt ht=>?_,by simp,by simp,λt ht=>?_⟩,rfl,by simp,λk s hs=>by simp at hs,rfl⟩
  ·rw[List.mem_singleton.mp ht];exact zBU hm1 hm2
  ·rw[List.mem_singleton.mp ht];exact Nat.zero_le _
 |n+1,x,e=>by
  unfold stN at e
  cases q:stN due m1 m2 n with
  |none=>rw[q]at e;cases e
  |some st=>
   rw[q]at e
   have ih:=xW hm1 hm2 n st q
   dsimp only at e
   cases q1:st.1[n]? with
   |none=>
    rw[q1]at e
    have hz:st.1.length<=n:=List.getElem?_eq_none_iff.mp q1
    cases e
    exact⟨ih.kn,ih.fst,by rw[ih.len];omega,ih.at_,ih.sc⟩
   |some t=>
    rw[q1]at e
    have hn:=(List.getElem?_eq_some_iff.mp q1).1
    have ht:=ih.kn.ok t (List.mem_of_getElem? q1)
    obtain⟨s1,e1,_⟩:=ht.s1
    obtain⟨s2,e2,_⟩:=ht.s2
    dsimp only at e
    rw[e1,e2]at e
    dsimp only at e
    cases q2:yR s1 s2 t st.1 (t.2.2.length+1) with
    |none=>rw[q2]at e;cases e
    |some y=>
     rw[q2]at e
     cases e
     have mo:=XU hm1 hm2 ih.kn ht e1 e2 _ y (Nat.le_refl _) q2
     obtain⟨more,k3⟩:=mo.ext
     have up:∀ {g:Nat}{u:Tr},st.1[g]? = some u->y.2[g]? = some u:=fun {g u} h=>by rw[k3,List.getElem?_append_left (List.getElem?_eq_some_iff.mp h).1];exact h
     have hl:st.2.length=n:=by rw[ih.len];omega
     refine⟨mo.kn,up ih.fst,by rw[List.length_append,hl];show n+1=min (n+1) y.2.length;rw[k3,List.length_append];omega,λk s hs=>?_,?_⟩
     ·by_cases hk:k<n
      ·rw[List.getElem?_append_left (by omega)]at hs
       obtain⟨t',s1',s2',a1,a2,a3,a4,a5,a6,a7⟩:=ih.at_ k s hs
       exact⟨t',s1',s2',up a1,a2,a3,a4,a5,a6,λr v hv=>by obtain⟨g,b1,b2⟩:=a7 r v hv;exact⟨g,b1,up b2⟩⟩
      ·rw[List.getElem?_append_right (by omega),hl]at hs
       have hk2:k=n:=by
        have:=(List.getElem?_eq_some_iff.mp hs).1
        simp at this
        omega
       subst hk2
       rw[Nat.sub_self]at hs
       cases hs
       exact⟨t,s1,s2,up q1,e1,e2,rfl,rfl,mo.len,mo.at_⟩
     ·rw[xc ih.sc,Nat.zero_add,hl]
      show (if n<st.1.length then match scan y.1 st.1.length with | some c'=>some c' | none=>none else none)=_
      rw[if_pos hn,mo.sc]
end PM
namespace PM
open PySem
structure Wd (wd:D)(due:Bool->Bool->Bool):Prop where
 ni:yV wd (.tup [.str "both",.str "either",.str "less",.str "odd"])=some (.bl false)
 is:∀ a b,YA [wd,.bl a,.bl b]=.ok (.bl (due a b))
 law:∀ a b,yG [wd,.bl a,.bl b]=.ok (.bl (due a b))
theorem v9:Wd (.str "both") (λa b=>a && b):=⟨by with_unfolding_all rfl,λa b=>by cases a<;>cases b<;>with_unfolding_all rfl,λa b=>by cases a<;>cases b<;>with_unfolding_all rfl⟩
theorem qp:Wd (.str "either") (λa b=>a || b):=⟨by with_unfolding_all rfl,λa b=>by cases a<;>cases b<;>with_unfolding_all rfl,λa b=>by cases a<;>cases b<;>with_unfolding_all rfl⟩
theorem kB:Wd (.str "less") (λa b=>a && !b):=⟨by with_unfolding_all rfl,λa b=>by cases a<;>cases b<;>with_unfolding_all rfl,λa b=>by cases a<;>cases b<;>with_unfolding_all rfl⟩
theorem jF:Wd (.str "odd") (λa b=>a != b):=⟨by with_unfolding_all rfl,λa b=>by cases a<;>cases b<;>with_unfolding_all rfl,λa b=>by cases a<;>cases b<;>with_unfolding_all rfl⟩
noncomputable def rJ (wd:D)(m1 m2:List Stt)(T:List Tr)(J:List Stt)(a b c d e f:Slot):Rho:=[.fz wd,.fz (eM m1),.fz (eM m2),.own (T.map eT),.dicT (kvT T),.own (J.map eSt),a,b,c,d,e,f]
theorem zBS {T:List Tr}{n:Nat}{t:Tr}(h:T[n]? = some t):ixD (.lst (T.map eT)) (dn n)=some (eT t):=Zh eT T n t h
theorem Jq {i j:Nat}{F:FN}{ea:M D}{ρ ρ':Rho}{x d:D}{ds ds':List D}{kvs kvs':List (D×D)}(e:ea ρ=.ok x ρ')(h1:zY ρ'[i]? = some ds)(h2:Ze ρ'[j]? = some kvs)(h:F x ds kvs=.ok d ds' kvs'):xD i j F ea ρ=.ok d ((ρ'.set i (.own ds')).set j (.dicT kvs')):=by
 unfold xD
 rw[e,Res.bnd_ok,h1,zd,Res.bnd_ok,h2,zd,Res.bnd_ok,h]
theorem Q6 {i j:Nat}{F:FN}{ea:M D}{ρ ρ':Rho}{x:D}{ds:List D}{kvs:List (D×D)}{c:Addr}(e:ea ρ=.ok x ρ')(h1:zY ρ'[i]? = some ds)(h2:Ze ρ'[j]? = some kvs)(h:F x ds kvs=.exn c):xD i j F ea ρ=.exn c ((ρ'.set i .un).set j .un):=by
 unfold xD
 rw[e,Res.bnd_ok,h1,zd,Res.bnd_ok,h2,zd,Res.bnd_ok,h]
section
variable {A:Cls}{wd:D}{due:Bool->Bool->Bool}{m1 m2:List Stt}
noncomputable def UB (A:Cls):M Fl:=zG (zy 10 (zK yP [vM 1,vM 2,vM 6,vM 9])) (ZT 8 (ZP [xD 3 4 (z8 A) (op2 ixD (vM 10) (cM (.int 0))),op2 ixD (vM 10) (cM (.int 1))]))
theorem K6 (hm1:GoodM m1)(hm2:GoodM m2){T T0:List Tr}{J:List Stt}{t:Tr}{s1 s2:Stt}{i:Nat}{mv:List Mv}{a b:Slot}(hk:Known m1 m2 T)(ht:TOk m1 m2 t)(e1:m1[t.1]? = some s1)(e2:m2[t.2.1]? = some s2)(hi:i<=t.2.2.length)(hl:mv.length=i) :
  UB A (rJ wd m1 m2 T J (.fz (eT t)) (.fz (dn t.2.2.length)) (.own (mv.map eMv)) (.fz (dn i)) a b)=match Xv T (zu s1 s2 t i) with
   |some x=>.ok .nx (rJ wd m1 m2 x.2 J (.fz (eT t)) (.fz (dn t.2.2.length)) (.own ((mv++[VY s1 s2 t i x.1]).map eMv)) (.fz (dn i)) (.fz (.tup [eT (zu s1 s2 t i),.tup (dns (ZX s1 s2 t i))])) b)
   |none=>.exn A.tm ((((rJ wd m1 m2 T J (.fz (eT t)) (.fz (dn t.2.2.length)) (.own (mv.map eMv)) (.fz (dn i)) (.fz (.tup [eT (zu s1 s2 t i),.tup (dns (ZX s1 s2 t i))])) b).set 3 .un).set 4 .un)):=by
 have hb:=XZ hm1 hm2 ht
 have hn:=VX hm1 hm2 ht hi e1 e2
 have hb2:=XZ hm1 hm2 hn
 have st:zy 10 (zK yP [vM 1,vM 2,vM 6,vM 9]) (rJ wd m1 m2 T J (.fz (eT t)) (.fz (dn t.2.2.length)) (.own (mv.map eMv)) (.fz (dn i)) a b)=.ok .nx (rJ wd m1 m2 T J (.fz (eT t)) (.fz (dn t.2.2.length)) (.own (mv.map eMv)) (.fz (dn i)) (.fz (.tup [eT (zu s1 s2 t i),.tup (dns (ZX s1 s2 t i))])) b):=
  Zi (i:=10) (ρ:=rJ wd m1 m2 T J (.fz (eT t)) (.fz (dn t.2.2.length)) (.own (mv.map eMv)) (.fz (dn i)) a b) (ρ':=rJ wd m1 m2 T J (.fz (eT t)) (.fz (dn t.2.2.length)) (.own (mv.map eMv)) (.fz (dn i)) a b) (zX (F:=yP) (xs:=[eM m1,eM m2,eT t,dn i]) (by rfl) (zA1 hm1 hm2 ht hi e1 e2))
 unfold UB
 rw[Yg st]
 have num:=jN A T (zu s1 s2 t i) hk.le (by omega)
 cases q:Xv T (zu s1 s2 t i) with
 |none=>
  rw[q]at num
  dsimp only at num ⊢
  have hc:=Q6 (i:=3) (j:=4) (F:=z8 A) (ea:=op2 ixD (vM 10) (cM (.int 0))) (ρ:=rJ wd m1 m2 T J (.fz (eT t)) (.fz (dn t.2.2.length)) (.own (mv.map eMv)) (.fz (dn i)) (.fz (.tup [eT (zu s1 s2 t i),.tup (dns (ZX s1 s2 t i))])) b)
   (ρ':=rJ wd m1 m2 T J (.fz (eT t)) (.fz (dn t.2.2.length)) (.own (mv.map eMv)) (.fz (dn i)) (.fz (.tup [eT (zu s1 s2 t i),.tup (dns (ZX s1 s2 t i))])) b) (x:=eT (zu s1 s2 t i)) (by rfl) (by rfl) (by rfl) num
  show (((((xD 3 4 (z8 A) (op2 ixD (vM 10) (cM (.int 0)))) (rJ wd m1 m2 T J (.fz (eT t)) (.fz (dn t.2.2.length)) (.own (mv.map eMv)) (.fz (dn i)) (.fz (.tup [eT (zu s1 s2 t i),.tup (dns (ZX s1 s2 t i))])) b)).bnd _).bnd _).bnd _)=_
  rw[hc]
  rfl
 |some x=>
  rw[q]at num
  dsimp only at num ⊢
  have hc:=Jq (i:=3) (j:=4) (F:=z8 A) (ea:=op2 ixD (vM 10) (cM (.int 0))) (ρ:=rJ wd m1 m2 T J (.fz (eT t)) (.fz (dn t.2.2.length)) (.own (mv.map eMv)) (.fz (dn i)) (.fz (.tup [eT (zu s1 s2 t i),.tup (dns (ZX s1 s2 t i))])) b)
   (ρ':=rJ wd m1 m2 T J (.fz (eT t)) (.fz (dn t.2.2.length)) (.own (mv.map eMv)) (.fz (dn i)) (.fz (.tup [eT (zu s1 s2 t i),.tup (dns (ZX s1 s2 t i))])) b) (x:=eT (zu s1 s2 t i)) (by rfl) (by rfl) (by rfl) num
  have hp:ZP [xD 3 4 (z8 A) (op2 ixD (vM 10) (cM (.int 0))),op2 ixD (vM 10) (cM (.int 1))] (rJ wd m1 m2 T J (.fz (eT t)) (.fz (dn t.2.2.length)) (.own (mv.map eMv)) (.fz (dn i)) (.fz (.tup [eT (zu s1 s2 t i),.tup (dns (ZX s1 s2 t i))])) b) =
    .ok (.tup [dn x.1,.tup (dns (ZX s1 s2 t i))]) (rJ wd m1 m2 x.2 J (.fz (eT t)) (.fz (dn t.2.2.length)) (.own (mv.map eMv)) (.fz (dn i)) (.fz (.tup [eT (zu s1 s2 t i),.tup (dns (ZX s1 s2 t i))])) b):=wa hc (by rfl)
  unfold ZT
  show ((ZP [xD 3 4 (z8 A) (op2 ixD (vM 10) (cM (.int 0))),op2 ixD (vM 10) (cM (.int 1))] (rJ wd m1 m2 T J (.fz (eT t)) (.fz (dn t.2.2.length)) (.own (mv.map eMv)) (.fz (dn i)) (.fz (.tup [eT (zu s1 s2 t i),.tup (dns (ZX s1 s2 t i))])) b)).bnd _)=_
  rw[hp,Res.bnd_ok]
  show (if (mv.map eMv).length<sizeLine then _ else _)=_
  rw[if_pos (by rw[List.length_map,sizeLine_eq];omega),List.map_append]
  have:eMv (VY s1 s2 t i x.1)=.tup [dn x.1,.tup (dns (ZX s1 s2 t i))]:=by unfold eMv VY;rw[Us];rfl
  rw[show [VY s1 s2 t i x.1].map eMv=[eMv (VY s1 s2 t i x.1)] from rfl,this]
  rfl
theorem zAo (hm1:GoodM m1)(hm2:GoodM m2){T:List Tr}{J:List Stt}{t:Tr}{s1 s2:Stt}{a b c:Slot}(hk:Known m1 m2 T)(ht:TOk m1 m2 t)(e1:m1[t.1]? = some s1)(e2:m2[t.2.1]? = some s2) :
  (Ya (op2 zl (vM 7) (cM (.int 1))) (ZC 9) (UB A) (rJ wd m1 m2 T J (.fz (eT t)) (.fz (dn t.2.2.length)) (.own []) a b c)).wp
   (λf ρ=>f=.nx/\∃ x a b,yR s1 s2 t T (t.2.2.length+1)=some x/\ρ=rJ wd m1 m2 x.2 J (.fz (eT t)) (.fz (dn t.2.2.length)) (.own (x.1.map eMv)) a b c) (λz=>z=A.tm/\yR s1 s2 t T (t.2.2.length+1)=none):=by
 have hb:=XZ hm1 hm2 ht
 refine qa (n:=t.2.2.length+1) (ρ':=rJ wd m1 m2 T J (.fz (eT t)) (.fz (dn t.2.2.length)) (.own []) a b c) (zI (x:=dn t.2.2.length) (y:=.int 1) (by rfl) (by rfl) (by show some (D.int _)=some (D.int _);congr 1)) (by omega) ?_
 refine Yd (λi ρ=>∃ x a b,yR s1 s2 t T i=some x/\ρ=rJ wd m1 m2 x.2 J (.fz (eT t)) (.fz (dn t.2.2.length)) (.own (x.1.map eMv)) a b c) ⟨([],T),a,b,rfl,rfl⟩ ?_ ?_
 ·rintro i ρ hi ⟨x,a,b,q,rfl⟩
  refine⟨_,rfl,?_⟩
  have mo:=XU hm1 hm2 hk ht e1 e2 i x (by omega) q
  have tu:=K6 (A:=A) (wd:=wd) (J:=J) (T0:=T) (a:=b) (b:=c) hm1 hm2 mo.kn ht e1 e2 (show i<=t.2.2.length by omega) mo.len
  show (UB A (rJ wd m1 m2 x.2 J (.fz (eT t)) (.fz (dn t.2.2.length)) (.own (x.1.map eMv)) (.fz (dn i)) b c)).wp _ _
  rw[tu]
  have nx:yR s1 s2 t T (i+1)=match Xv x.2 (zu s1 s2 t i) with
    |none=>none
    |some y=>some (x.1++[VY s1 s2 t i y.1],y.2):=by
   conv=>lhs;unfold yR
   rw[q]
   try rfl
  cases q2:Xv x.2 (zu s1 s2 t i) with
  |none=>
   rw[q2]at nx
   exact .exn ⟨rfl,vi nx (by omega)⟩
  |some y=>
   rw[q2]at nx
   exact .ok ⟨_,_,_,nx,rfl⟩
 ·rintro ρ ⟨x,a,b,q,rfl⟩
  exact⟨rfl,x,a,b,q,rfl⟩
end
end PM
namespace PM
open PySem
section
variable {A:Cls}{wd:D}{due:Bool->Bool->Bool}{m1 m2:List Stt}
noncomputable def Uw (A:Cls):M Fl:=(zG (zy 6 (ixO 3 (Zr 5)))
 (zG (zy 7 (za (zx yX) [op2 ixD (vM 6) (cM (.int 2))]))
 (zG (yw 8 [])
 (zG (Ya (op2 zl (vM 7) (cM (.int 1))) (ZC 9) (UB A))
 (zG (zy 11 (zK YA [vM 0,op2 ixD (op2 ixD (vM 1) (op2 ixD (vM 6) (cM (.int 0)))) (cM (.int 0)),op2 ixD (op2 ixD (vM 2) (op2 ixD (vM 6) (cM (.int 1)))) (cM (.int 0))]))
 (yk 8 (ZT 5 (ZP [vM 11,vM 7,vM 8]))))))))
theorem K5 (hm1:GoodM m1)(hm2:GoodM m2)(hw:Wd wd due){x:List Tr×List Stt}{a b c d e f:Slot}(h:stN due m1 m2 x.2.length=some x)(hl:x.2.length<x.1.length) :
  (Uw A (rJ wd m1 m2 x.1 x.2 a b c d e f)).wp (λfl ρ=>fl=.nx/\∃ y a b c d e f,stN due m1 m2 (x.2.length+1)=some y/\y.2.length=x.2.length+1/\ρ=rJ wd m1 m2 y.1 y.2 a b c d e f) (λz=>z=A.tm/\stN due m1 m2 (x.2.length+1)=none):=by
 have so:=xW hm1 hm2 _ x h
 have q1:=List.getElem?_eq_getElem hl
 generalize x.1[x.2.length]=t at q1
 have ht:=so.kn.ok t (List.mem_of_getElem? q1)
 obtain⟨s1,e1,_⟩:=ht.s1
 obtain⟨s2,e2,_⟩:=ht.s2
 have hn:x.2.length<=400:=by have:=so.kn.le;omega
 have hb:=XZ hm1 hm2 ht
 have lo:∀ {a b c d e f:Slot},Zr 5 (rJ wd m1 m2 x.1 x.2 a b c d e f)=.ok (dn x.2.length) (rJ wd m1 m2 x.1 x.2 a b c d e f):=fun {a b c d e f}=>by
  show Res.ok (D.int ((x.2.map eSt).length:Nat)) _=_
  rw[List.length_map]
  rfl
 unfold Uw
 refine zJ (ρ':=rJ wd m1 m2 x.1 x.2 (.fz (eT t)) b c d e f) (Zi (i:=6) (ρ:=rJ wd m1 m2 x.1 x.2 a b c d e f) (ρ':=rJ wd m1 m2 x.1 x.2 a b c d e f) (Ui (ds:=x.1.map eT) (by rfl) lo (zBS q1))) ?_
 refine zJ (ρ':=rJ wd m1 m2 x.1 x.2 (.fz (eT t)) (.fz (dn t.2.2.length)) c d e f) (Zi (i:=7) (ρ:=rJ wd m1 m2 x.1 x.2 (.fz (eT t)) b c d e f) (ρ':=rJ wd m1 m2 x.1 x.2 (.fz (eT t)) b c d e f) (W0 (x:=.tup (t.2.2.map eP)) (by rfl) (by show some (D.int ((t.2.2.map eP).length:Nat))=_;rw[List.length_map];rfl))) ?_
 refine zJ (ρ':=rJ wd m1 m2 x.1 x.2 (.fz (eT t)) (.fz (dn t.2.2.length)) (.own []) d e f) (by rfl) ?_
 have nx:stN due m1 m2 (x.2.length+1)=match yR s1 s2 t x.1 (t.2.2.length+1) with
   |none=>none
   |some y=>some (y.2,x.2++[(due s1.1 s2.1,(t.2.2.length:Int),y.1)]):=by
  conv=>lhs;unfold stN
  rw[h]
  dsimp only
  rw[q1]
  dsimp only
  rw[e1,e2]
  try rfl
 refine Z4 (λρ=>∃ y d e,yR s1 s2 t x.1 (t.2.2.length+1)=some y/\ρ=rJ wd m1 m2 y.2 x.2 (.fz (eT t)) (.fz (dn t.2.2.length)) (.own (y.1.map eMv)) d e f) ((zAo (A:=A) (wd:=wd) hm1 hm2 so.kn ht e1 e2).mono (λfl ρ h=>h) λz ⟨hz,hq⟩=>⟨hz,by rw[nx,hq]⟩) ?_
 rintro ρ ⟨y,d,e,hy,rfl⟩
 rw[hy]at nx
 dsimp only at nx
 have mo:=XU hm1 hm2 so.kn ht e1 e2 _ y (Nat.le_refl _) hy
 refine zJ (ρ':=rJ wd m1 m2 y.2 x.2 (.fz (eT t)) (.fz (dn t.2.2.length)) (.own (y.1.map eMv)) d e (.fz (.bl (due s1.1 s2.1)))) (Zi (i:=11) (ρ:=rJ wd m1 m2 y.2 x.2 (.fz (eT t)) (.fz (dn t.2.2.length)) (.own (y.1.map eMv)) d e f) (ρ':=rJ wd m1 m2 y.2 x.2 (.fz (eT t)) (.fz (dn t.2.2.length)) (.own (y.1.map eMv)) d e f)
  (zX (F:=YA) (xs:=[wd,.bl s1.1,.bl s2.1]) (zN (x:=wd) (ρ1:=rJ wd m1 m2 y.2 x.2 (.fz (eT t)) (.fz (dn t.2.2.length)) (.own (y.1.map eMv)) d e f) (by rfl) (zN (ρ1:=rJ wd m1 m2 y.2 x.2 (.fz (eT t)) (.fz (dn t.2.2.length)) (.own (y.1.map eMv)) d e f) (zI (f:=ixD) (x:=eSt s1) (y:=.int 0) (ρ1:=rJ wd m1 m2 y.2 x.2 (.fz (eT t)) (.fz (dn t.2.2.length)) (.own (y.1.map eMv)) d e f) (zI (f:=ixD) (x:=eM m1) (y:=dn t.1) (ρ1:=rJ wd m1 m2 y.2 x.2 (.fz (eT t)) (.fz (dn t.2.2.length)) (.own (y.1.map eMv)) d e f) (by rfl) (by rfl) (W5 e1)) (by rfl) (by rfl))
   (zN (zI (f:=ixD) (x:=eSt s2) (y:=.int 0) (ρ1:=rJ wd m1 m2 y.2 x.2 (.fz (eT t)) (.fz (dn t.2.2.length)) (.own (y.1.map eMv)) d e f) (zI (f:=ixD) (x:=eM m2) (y:=dn t.2.1) (ρ1:=rJ wd m1 m2 y.2 x.2 (.fz (eT t)) (.fz (dn t.2.2.length)) (.own (y.1.map eMv)) d e f) (by rfl) (by rfl) (W5 e2)) (by rfl) (by rfl)) (by rfl)))) (hw.is _ _))) ?_
 refine Wj (ds:=y.1.map eMv) (by rfl) ?_
 refine zV (W7 (i:=5) (ds:=x.2.map eSt) (x:=eSt (due s1.1 s2.1,(t.2.2.length:Int),y.1)) (by rfl) (by rfl) (by rw[List.length_map];omega)) ?_
 refine⟨rfl,_,.fz (eT t),.fz (dn t.2.2.length),.fz (.lst (y.1.map eMv)),d,e,.fz (.bl (due s1.1 s2.1)),nx,by simp,?_⟩
 dsimp only
 unfold rJ
 rw[List.map_append]
 rfl
theorem wv (hm1:GoodM m1)(hm2:GoodM m2)(hw:Wd wd due):(ZU A [wd,eM m1,eM m2]).wp (λd=>∃ x,d=eM x.2/\stN due m1 m2 x.2.length=some x/\x.2.length=x.1.length) (λz=>z=A.tm/\∃ n,stN due m1 m2 n=none):=by
 have z:∀ {s:Slot},([.fz wd,.fz (eM m1),.fz (eM m2),.un,.un,.un,.un,.un,.un,.un,.un,.un]:Rho)[0]? = some (.fz wd):=rfl
 refine yo ?_
 refine zJ (ρ':=[.fz wd,.fz (eM m1),.fz (eM m2),.un,.un,.un,.un,.un,.un,.un,.un,.un]) (by
  show ifM _ _ _ [.fz wd,.fz (eM m1),.fz (eM m2),.un,.un,.un,.un,.un,.un,.un,.un,.un]=_
  rw[yQ (ρ':=[.fz wd,.fz (eM m1),.fz (eM m2),.un,.un,.un,.un,.un,.un,.un,.un,.un]) (zb (x:=.bl false) (zI (x:=wd) (by rfl) (by rfl) hw.ni) rfl)]
  rfl) ?_
 refine zJ (ρ':=[.fz wd,.fz (eM m1),.fz (eM m2),.un,.un,.un,.un,.un,.un,.un,.un,.un]) (Xf (zX (F:=zP A) (xs:=[eM m1]) (by rfl) (wx hm1 (Zz hm1) A))) ?_
 refine zJ (ρ':=[.fz wd,.fz (eM m1),.fz (eM m2),.un,.un,.un,.un,.un,.un,.un,.un,.un]) (Xf (zX (F:=zP A) (xs:=[eM m2]) (by rfl) (wx hm2 (Zz hm2) A))) ?_
 refine zJ (ρ':=[.fz wd,.fz (eM m1),.fz (eM m2),.own [eT (0,0,[])],.un,.un,.un,.un,.un,.un,.un,.un]) (by rfl) ?_
 refine zJ (ρ':=[.fz wd,.fz (eM m1),.fz (eM m2),.own [eT (0,0,[])],.dicT [(eT (0,0,[]),dn 0)],.un,.un,.un,.un,.un,.un,.un]) (by
  show (zU (ZH (eT (0,0,[]))) _).bnd _=_
  rw[Vk]
  rfl) ?_
 refine zJ (ρ':=rJ wd m1 m2 [(0,0,[])] [] .un .un .un .un .un .un) (by rfl) ?_
 refine Z4 (λρ=>∃ x a b c d e f,stN due m1 m2 x.2.length=some x/\x.2.length=x.1.length/\ρ=rJ wd m1 m2 x.1 x.2 a b c d e f) ?_ ?_
 ·show (yh (zO zQ (op2 ltD (Zr 5) (Zr 3))) (Uw A) Qo (rJ wd m1 m2 [(0,0,[])] [] .un .un .un .un .un .un)).wp _ _
  refine V1 (λk ρ=>∃ x a b c d e f,stN due m1 m2 x.2.length=some x/\x.2.length<=x.1.length/\k=400 - x.2.length/\ρ=rJ wd m1 m2 x.1 x.2 a b c d e f) 400 (by rw[qZ];omega) ⟨([(0,0,[])],[]),_,_,_,_,_,_,rfl,by simp,by simp,rfl⟩ ?_
  rintro k ρ ⟨x,a,b,c,d,e,f,h1,h2,h3,rfl⟩
  have so:=xW hm1 hm2 _ x h1
  have hle:=so.kn.le
  have ht:zO zQ (op2 ltD (Zr 5) (Zr 3)) (rJ wd m1 m2 x.1 x.2 a b c d e f)=.ok (decide (x.2.length<x.1.length)) (rJ wd m1 m2 x.1 x.2 a b c d e f):=by
   refine zb (x:=.bl (decide (x.2.length<x.1.length))) (zI (x:=dn x.2.length) (y:=dn x.1.length) (ρ1:=rJ wd m1 m2 x.1 x.2 a b c d e f) (by show Res.ok (D.int ((x.2.map eSt).length:Nat)) _=_;rw[List.length_map];rfl) (by show Res.ok (D.int ((x.1.map eT).length:Nat)) _=_;rw[List.length_map];rfl) ?_) rfl
   show some (D.bl (decide ((x.2.length:Int)<(x.1.length:Int))))=_
   rw[decide_eq_decide.mpr (show ((x.2.length:Int)<(x.1.length:Int)) ↔ x.2.length<x.1.length by omega)]
  refine zV ht ?_
  by_cases hl:x.2.length<x.1.length
  ·rw[decide_eq_true hl,if_pos rfl]
   refine (K5 (A:=A) hm1 hm2 hw h1 hl).mono (λfl ρ ⟨hf,y,a,b,c,d,e,f,n1,n2,hρ⟩=>?_) λz ⟨hz,hq⟩=>⟨hz,_,hq⟩
   subst hf
   have so2:=xW hm1 hm2 _ y n1
   have:=so2.len
   exact⟨399 - x.2.length,by omega,y,a,b,c,d,e,f,by rw[n2];exact n1,by omega,by omega,hρ⟩
  ·rw[decide_eq_false hl,if_neg (by simp)]
   exact⟨rfl,x,a,b,c,d,e,f,h1,by omega,rfl⟩
 ·rintro ρ ⟨x,a,b,c,d,e,f,h1,h2,rfl⟩
  refine Wj (ds:=x.2.map eSt) (by rfl) (zV (Zx (x:=eM x.2) (by rfl)) ⟨x,rfl,h1,h2⟩)
end
end PM
namespace PM
open PySem
section
variable {due:Bool->Bool->Bool}{m1 m2:List Stt}{x:List Tr×List Stt}
theorem YI (hm1:GoodM m1)(hm2:GoodM m2)(h:stN due m1 m2 x.2.length=some x)(hl:x.2.length=x.1.length):GoodM x.2:=by
 have so:=xW hm1 hm2 _ x h
 have h0:=(List.getElem?_eq_some_iff.mp so.fst).1
 have toJ:∀ {g:Nat}{t:Tr},x.1[g]? = some t->∃ s,x.2[g]? = some s/\s.2.1=(t.2.2.length:Int):=fun {g t} hg=>by
  have hlt:g<x.2.length:=by rw[hl];exact (List.getElem?_eq_some_iff.mp hg).1
  have e:=List.getElem?_eq_getElem hlt
  obtain⟨t',_,_,a1,_,_,_,a5,_⟩:=so.at_ g _ e
  rw[hg]at a1
  cases a1
  exact⟨_,e,a5⟩
 refine⟨by omega,by have:=so.kn.le;omega,?_,λs hs=>?_⟩
 ·obtain⟨s,e,f⟩:=toJ so.fst
  rw[Zl (g:=0) e,f]
  rfl
 ·obtain⟨k,hk⟩:=List.getElem?_of_mem hs
  obtain⟨t,s1,s2,a1,a2,a3,a4,a5,a6,a7⟩:=so.at_ k s hk
  have b6:=so.kn.b6 t (List.mem_of_getElem? a1)
  refine⟨by omega,by omega,by rw[a6,a5];rfl,λc v hv=>?_⟩
  obtain⟨g,e,hg⟩:=a7 c v hv
  have hc:c<=t.2.2.length:=by have:=(List.getElem?_eq_some_iff.mp hv).1;omega
  obtain⟨n1,n2,n3⟩:=ve (s1:=s1) (s2:=s2) hc
  obtain⟨s',e',f'⟩:=toJ hg
  subst e
  refine⟨Int.natCast_nonneg _,?_,?_,uU (n1.imp λh=>Nat.ne_of_lt h),λz hz=>?_,λz hz=>?_⟩
  ·have:=(List.getElem?_eq_some_iff.mp hg).1
   show (g:Int)<_
   omega
  ·show ((zs (ZX s1 s2 t c)).length:Int)=YJ x.2 (g:Int)
   rw[Zl (g:=(g:Int)) (by rw[Int.toNat_natCast];exact e'),f']
   unfold zs
   rw[List.length_map,n3]
  ·obtain⟨q,_,rfl⟩:=List.mem_map.mp hz
   exact Int.natCast_nonneg _
  ·obtain⟨q,hq,rfl⟩:=List.mem_map.mp hz
   have:=n2 q hq
   have e2:s.2.1.toNat=t.2.2.length:=by omega
   rw[e2,a5]
   by_cases k:c=t.2.2.length
   ·rw[if_pos k]at this ⊢;omega
   ·rw[if_neg k]at this ⊢;omega
end
theorem xM {l:List Int}{x:Int}(h:x ∈ l):l[l.findIdx (λy=>decide (y=x))]? = some x:=by
 have hlt:l.findIdx (λy=>decide (y=x))<l.length:=List.findIdx_lt_length_of_exists ⟨x,h,by simp⟩
 rw[List.getElem?_eq_getElem hlt]
 have:=List.findIdx_getElem (w:=hlt)
 simpa using this
theorem Uk {l:List Int}{x:Int}(h:l.findIdx (λy=>decide (y=x))<l.length):l[l.findIdx (λy=>decide (y=x))]? = some x:=by
 by_cases hm:x ∈ l
 ·exact xM hm
 ·rw[qR hm]at h;omega
noncomputable def wT (os:List (Option Nat))(h h1:List Int):Prop:=∀ i a:Nat,os[i]? = some (some a)->h[i]? = h1[a]?
theorem V6 {b:Nat}{os:List (Option Nat)}{h h1:List Int} (x:Int)(fo:FOk b os)(rl:wT os h h1)(hl:h.length=os.length)(hl1:h1.length=b)(nd:h.Nodup)(nd1:h1.Nodup):h1.findIdx (λy=>decide (y=x))=Zf b os (h.findIdx λy=>decide (y=x)):=by
 rcases YF (r:=h.findIdx λy=>decide (y=x)) fo with ⟨c1,c2⟩ | ⟨c1,c2⟩
 ·have hi:h.findIdx (λy=>decide (y=x))<h.length:=by rw[hl];exact (List.getElem?_eq_some_iff.mp c2).1
  have e:=rl _ _ c2
  rw[Uk hi]at e
  exact xJ nd1 (xM (List.mem_of_getElem? e.symm)) e.symm
 ·rw[c1]
  by_cases hm:x ∈ h1
  ·exfalso
   have e:=xM hm
   have ha:h1.findIdx (λy=>decide (y=x))<b:=by rw[<-hl1];exact (List.getElem?_eq_some_iff.mp e).1
   obtain⟨i',hi'⟩:=fo.all _ ha
   have e2:=rl _ _ hi'
   rw[e]at e2
   have hx:x ∈ h:=List.mem_of_getElem? e2
   have:=xJ nd (xM hx) e2
   rw[this]at c2
   unfold wY at c2
   rw[Xn hi']at c2
   cases c2
  ·rw[qR hm,hl1]
theorem UP {b:Nat}{os:List (Option Nat)}{h h1:List Int} (x:Int)(fo:FOk b os)(rl:wT os h h1)(hl:h.length=os.length)(hl1:h1.length=b) (q o:Nat)(hq:(lsO b os (h.findIdx λy=>decide (y=x)))[q]? = some (some o)):(h++[x])[q]? = (h1++[x])[o]?:=by
 have hil:h.findIdx (λy=>decide (y=x))<=h.length:=List.findIdx_le_length
 have hx:(h++[x])[h.findIdx λy=>decide (y=x)]? = some x:=by
  by_cases k:h.findIdx (λy=>decide (y=x))<h.length
  ·rw[List.getElem?_append_left k,Uk k]
  ·rw[List.getElem?_append_right (by omega),show h.findIdx (λy=>decide (y=x)) - h.length=0 by omega]
   rfl
 by_cases e:q=h.findIdx λy=>decide (y=x)
 ·rw[<-e]at hq hx
  unfold lsO at hq
  rw[List.getElem?_set_self (by simp;omega)]at hq
  have ho:Zf b os q=o:=by simpa using hq
  rw[hx]
  rcases YF (r:=q) fo with ⟨c1,c2⟩ | ⟨c1,c2⟩
  ·rw[ho]at c1 c2
   have hi:h.findIdx (λy=>decide (y=x))<h.length:=by rw[hl,<-e];exact (List.getElem?_eq_some_iff.mp c2).1
   have e2:=rl _ _ c2
   rw[List.getElem?_append_left (by omega),<-e2,e,Uk hi]
  ·rw[ho]at c1
   rw[List.getElem?_append_right (by omega),show o - h1.length=0 by omega]
   rfl
 ·unfold lsO at hq
  rw[List.getElem?_set_ne (Ne.symm e)]at hq
  have hq:=yr hq
  have ql:=(List.getElem?_eq_some_iff.mp hq).1
  have ol:=fo.lt _ _ hq
  rw[List.getElem?_append_left (by omega),List.getElem?_append_left (by omega)]
  exact rl _ _ hq
theorem Jf {h h1:List Int}{x:Int}{q o:Nat}(e:(h++[x])[q]? = (h1++[x])[o]?):Z2 h x (q:Int)=Z2 h1 x (o:Int):=by
 unfold Z2
 rw[Int.toNat_natCast,Int.toNat_natCast,e]
theorem uV {v1 v2:Mv}{ls:List Pr}{b:Nat}{os:List (Option Nat)}{h h1:List Int}{x:Int}(f:Pr->Option Nat)(v:Mv)(fo:FOk b os)(rl:wT os h h1)(hl:h.length=os.length)(hl1:h1.length=b)(hs:ls.map f=lsO b os (h.findIdx λy=>decide (y=x))) :
  wT ((yN v1 v2 ls).map λy=>z9 v (f y.1)) ((zs ((yN v1 v2 ls).map (·.2))).map (Z2 h x)) (v.2.map (Z2 h1 x)):=by
 intro k a e
 rw[List.getElem?_map]at e
 cases q:(yN v1 v2 ls)[k]? with
 |none=>rw[q]at e;cases e
 |some y=>
  rw[q]at e
  have e:z9 v (f y.1)=some a:=by simpa using e
  obtain⟨o,e1,e2⟩:=Yr e
  have hy:=(qT _ _ _ q).1
  have hq:(ls.map f)[y.2]? = some (some o):=by rw[List.getElem?_map,hy];show some (f y.1)=_;rw[e1]
  rw[hs]at hq
  rw[List.getElem?_map,List.getElem?_map,e2]
  unfold zs
  rw[List.getElem?_map,List.getElem?_map,q]
  show some (Z2 h x (y.2:Int))=some (Z2 h1 x (o:Int))
  rw[Jf (UP x fo rl hl hl1 _ _ hq)]
section
variable {due:Bool->Bool->Bool}{m1 m2:List Stt}{x:List Tr×List Stt}
structure Side (m1 m2:List Stt)(x:List Tr×List Stt)(p p1 p2:Pl):Prop where
 j:∃ s,At x.2 p s
 o1:∃ s,At m1 p1 s
 o2:∃ s,At m2 p2 s
 t:∃ t,x.1[p.1]? = some t/\p1.1=t.1/\p2.1=t.2.1/\wT (t.2.2.map (·.1)) p.2 p1.2/\wT (t.2.2.map (·.2)) p.2 p2.2
theorem QA (hm1:GoodM m1)(hm2:GoodM m2)(h:stN due m1 m2 x.2.length=some x)(hl:x.2.length=x.1.length){p p1 p2:Pl}(sd:Side m1 m2 x p p1 p2) (y:Int):Side m1 m2 x (step x.2 p y) (step m1 p1 y) (step m2 p2 y):=by
 have so:=xW hm1 hm2 _ x h
 have hJ:=YI hm1 hm2 h hl
 obtain⟨s,aj⟩:=sd.j
 obtain⟨s1,a1⟩:=sd.o1
 obtain⟨s2,a2⟩:=sd.o2
 obtain⟨t,ht,q1,q2,r1,r2⟩:=sd.t
 obtain⟨t',s1',s2',c1,c2,c3,c4,c5,c6,c7⟩:=so.at_ p.1 s aj.st
 rw[ht]at c1
 cases c1
 have e1:=a1.st
 rw[q1]at e1
 rw[e1]at c2
 cases c2
 have e2:=a2.st
 rw[q2]at e2
 rw[e2]at c3
 cases c3
 have tk:=so.kn.ok t (List.mem_of_getElem? ht)
 obtain⟨s',z,f1⟩:=tk.s1
 rw[e1]at z
 cases z
 obtain⟨s',z,f2⟩:=tk.s2
 rw[e2]at z
 cases z
 have pl:p.2.length=t.2.2.length:=by rw[aj.ln,c5];rfl
 have il:p.2.findIdx (λz=>decide (z=y))<=t.2.2.length:=by rw[<-pl];exact List.findIdx_le_length
 have d1:=V6 y f1 r1 (by rw[pl,List.length_map]) a1.ln aj.nd a1.nd
 have d2:=V6 y f2 r2 (by rw[pl,List.length_map]) a2.ln aj.nd a2.nd
 have vj:s.2.2[p.2.findIdx (λz=>decide (z=y))]? = some (ZD s p.2 y):=by
  unfold ZD
  have:p.2.findIdx (λz=>decide (z=y))<s.2.2.length:=by omega
  rw[List.getElem?_eq_getElem this]
  rfl
 obtain⟨g,vg,hg⟩:=c7 _ _ vj
 have ch1:ZD s1 p1.2 y=mv1 s1 t (p.2.findIdx λz=>decide (z=y)):=by unfold ZD mv1 uW;rw[d1,WG]
 have ch2:ZD s2 p2.2 y=mv2 s2 t (p.2.findIdx λz=>decide (z=y)):=by unfold ZD mv2 uW;rw[d2,WF]
 refine⟨wb hJ aj y,wb hm1 a1 y,wb hm2 a2 y,zu s1 s2 t (p.2.findIdx λz=>decide (z=y)),?_,?_,?_,?_,?_⟩
 ·rw[Ye aj,vg]
  show x.1[((g:Int)).toNat]? = _
  rw[Int.toNat_natCast]
  exact hg
 ·rw[Ye a1,ch1];rfl
 ·rw[Ye a2,ch2];rfl
 ·rw[Ye aj,Ye a1,vg,ch1]
  have:=uV (v1:=mv1 s1 t (p.2.findIdx λz=>decide (z=y))) (v2:=mv2 s2 t (p.2.findIdx λz=>decide (z=y))) (λq:Pr=>q.1) (mv1 s1 t (p.2.findIdx λz=>decide (z=y))) f1 r1 (by rw[pl,List.length_map]) a1.ln (ug s1 s2 t (p.2.findIdx λz=>decide (z=y)))
  show wT ((zu s1 s2 t (p.2.findIdx λz=>decide (z=y))).2.2.map (·.1)) _ _
  unfold zu Y8
  rw[List.map_map]
  exact this
 ·rw[Ye aj,Ye a2,vg,ch2]
  have:=uV (v1:=mv1 s1 t (p.2.findIdx λz=>decide (z=y))) (v2:=mv2 s2 t (p.2.findIdx λz=>decide (z=y))) (λq:Pr=>q.2) (mv2 s2 t (p.2.findIdx λz=>decide (z=y))) f2 r2 (by rw[pl,List.length_map]) a2.ln (ue s1 s2 t (p.2.findIdx λz=>decide (z=y)))
  show wT ((zu s1 s2 t (p.2.findIdx λz=>decide (z=y))).2.2.map (·.2)) _ _
  unfold zu Y8
  rw[List.map_map]
  exact this
theorem V5 (hm1:GoodM m1)(hm2:GoodM m2)(h:stN due m1 m2 x.2.length=some x)(hl:x.2.length=x.1.length):∀ (w:List Int)(p p1 p2:Pl),Side m1 m2 x p p1 p2->Side m1 m2 x (w.foldl (step x.2) p) (w.foldl (step m1) p1) (w.foldl (step m2) p2)
 |[],p,p1,p2,sd=>sd
 |y::w,p,p1,p2,sd=>V5 hm1 hm2 h hl w _ _ _ (QA hm1 hm2 h hl sd y)
theorem jU (hm1:GoodM m1)(hm2:GoodM m2)(h:stN due m1 m2 x.2.length=some x)(hl:x.2.length=x.1.length)(w:List Int):Side m1 m2 x (run x.2 w) (run m1 w) (run m2 w):=by
 have so:=xW hm1 hm2 _ x h
 exact V5 hm1 hm2 h hl w _ _ _ ⟨xF (YI hm1 hm2 h hl),xF hm1,xF hm2,(0,0,[]),so.fst,rfl,rfl,λi a e=>by simp at e,λi a e=>by simp at e⟩
theorem VD (hm1:GoodM m1)(hm2:GoodM m2)(h:stN due m1 m2 x.2.length=some x)(hl:x.2.length=x.1.length)(w:List Int):∃ g1 g2,zR [eM m1,dS w]=.ok (.bl g1)/\zR [eM m2,dS w]=.ok (.bl g2)/\zR [eM x.2,dS w]=.ok (.bl (due g1 g2)):=by
 have so:=xW hm1 hm2 _ x h
 have sd:=jU hm1 hm2 h hl w
 obtain⟨s,aj⟩:=sd.j
 obtain⟨s1,a1⟩:=sd.o1
 obtain⟨s2,a2⟩:=sd.o2
 obtain⟨t,ht,q1,q2,_,_⟩:=sd.t
 obtain⟨t',s1',s2',c1,c2,c3,c4,_⟩:=so.at_ _ s aj.st
 rw[ht]at c1
 cases c1
 have e1:=a1.st
 rw[q1,c2]at e1
 cases e1
 have e2:=a2.st
 rw[q2,c3]at e2
 cases e2
 refine⟨_,_,YC hm1 w a1,YC hm2 w a2,?_⟩
 rw[YC (YI hm1 hm2 h hl) w aj,c4]
end
end PM
namespace PM
open PySem
theorem QN (x:Int)(l:List Int):yV (.int x) (.lst (l.map .int))=some (.bl (!decide (x ∈ l))):=by
 have h:=zAq x l
 unfold inD at h
 unfold yV
 dsimp only [D.items?]at h ⊢
 split at h
 ·rename_i k
  rw[if_pos k]
  have:(l.map D.int).any (λy=>y.eqv (.int x))=decide (x ∈ l):=by simpa using h
  rw[this]
 ·cases h
theorem Qj {a:Int}:∀ {l:List Int},(∀ y ∈ l,a<=y)->uk a l=a::l
 |[],_=>rfl
 |b::r,h=>by
  unfold uk
  rw[if_pos (h b List.mem_cons_self)]
theorem V4:∀ {l:List Int},l.Pairwise (· < ·)->YW l=l
 |[],_=>rfl
 |a::r,h=>by
  obtain⟨h1,h2⟩:=List.pairwise_cons.mp h
  unfold YW
  rw[V4 h2,Qj λy hy=>Int.le_of_lt (h1 y hy)]
theorem jS {l:List Int}(h:l.Pairwise (· < ·))(hl:l.length<64):xX (.tup (l.map .int))=some (.lst (l.map .int)):=by
 show ((yM (l.map .int)).bind λns=>if ns.length<64 then some (D.lst ((YW ns).map .int)) else none)=_
 rw[Wg]
 show (if l.length<64 then _ else _)=_
 rw[if_pos hl,V4 h]
theorem xA:∀ l:List Int,D.eqvs (l.map .int) (l.map .int)=true
 |[]=>rfl
 |a::r=>by
  show ((D.int a).eqv (.int a) && D.eqvs (r.map .int) (r.map .int))=true
  rw[Xh,xA r]
  simp
theorem kz (l:List Int):neD (.lst (l.map .int)) (.lst (l.map .int))=some (.bl false):=by
 show (if _ then _ else _)=_
 rw[show (D.lst (l.map .int)).plain=D.plains (l.map .int) from rfl,yd,show (D.lst (l.map .int)).deep=D.deeps (l.map .int)+1 from rfl,y0]
 show some (D.bl (!D.eqvs (l.map .int) (l.map .int)))=_
 rw[xA]
 rfl
theorem Xq (v:Mv)(r:List Mv) (c:Nat):scan (v::r) c=if v.1<(c:Int) then scan r c else if v.1=(c:Int) then scan r (c+1) else none:=rfl
theorem Xp:∀ {l:List Mv}{c e:Nat} (i:Nat),scan l c=some e->∃ c',scan (l.take i) c=some c'/\scan (l.drop i) c'=some e
 |l,c,e,0,h=>⟨c,rfl,h⟩
 |[],c,e,i+1,h=>⟨c,rfl,h⟩
 |v::r,c,e,i+1,h=>by
  rw[List.take_succ_cons,List.drop_succ_cons]
  rw[Xq]at h
  split at h
  ·rename_i k
   obtain⟨c',h1,h2⟩:=Xp i h
   exact⟨c',by rw[Xq,if_pos k];exact h1,h2⟩
  ·rename_i k
   split at h
   ·rename_i k2
    obtain⟨c',h1,h2⟩:=Xp i h
    exact⟨c',by rw[Xq,if_neg k,if_pos k2];exact h1,h2⟩
   ·cases h
theorem xH:∀ {l:List Mv}{c e:Nat},scan l c=some e->c<=e
 |[],c,e,h=>by cases h;exact Nat.le_refl _
 |v::r,c,e,h=>by
  unfold scan at h
  split at h
  ·exact xH h
  ·split at h
   ·have:=xH h;omega
   ·cases h
theorem w6:∀ {J:List Stt}{n c e:Nat} (i:Nat),Zt J n c=some e->∃ c',Zt (J.take i) n c=some c'/\Zt (J.drop i) (n+min i J.length) c'=some e
 |J,n,c,e,0,h=>⟨c,rfl,by simpa using h⟩
 |[],n,c,e,i+1,h=>⟨c,rfl,h⟩
 |s::r,n,c,e,i+1,h=>by
  rw[List.take_succ_cons,List.drop_succ_cons]
  unfold Zt at h
  rw[show Zt (s::r.take i) n c=(if n<c then match scan s.2.2 c with | some c'=>Zt (r.take i) (n+1) c' | none=>none else none) from rfl]
  split at h
  ·rename_i k
   rw[if_pos k]
   cases q:scan s.2.2 c with
   |none=>rw[q]at h;cases h
   |some c2=>
    rw[q]at h
    obtain⟨c',h1,h2⟩:=w6 i h
    refine⟨c',h1,?_⟩
    rw[show n+min (i+1) (s::r).length=n+1+min i r.length by simp;omega]
    exact h2
  ·cases h
theorem V8:∀ {J:List Stt}{n c e:Nat},Zt J n c=some e->c<=e
 |[],n,c,e,h=>by cases h;exact Nat.le_refl _
 |s::r,n,c,e,h=>by
  unfold Zt at h
  split at h
  ·cases q:scan s.2.2 c with
   |none=>rw[q]at h;cases h
   |some c2=>
    rw[q]at h
    have h1:=xH q
    have h2:c2<=e:=V8 h
    omega
  ·cases h
theorem jW {J:List Stt}{e i:Nat}{s:Stt}(h:Zt J 0 1=some e)(hs:J[i]? = some s):∃ c c',Zt (J.take i) 0 1=some c/\i<c/\scan s.2.2 c=some c'/\Zt (J.take (i+1)) 0 1=some c'/\c'<=e:=by
 obtain⟨c,h1,h2⟩:=w6 i h
 have hi:=(List.getElem?_eq_some_iff.mp hs).1
 have hd:J.drop i=s::J.drop (i+1):=by
  rw[List.drop_eq_getElem_cons hi]
  congr 1
  rw[List.getElem?_eq_getElem hi]at hs
  exact Option.some.inj hs
 rw[hd,show 0+min i J.length=i by omega]at h2
 unfold Zt at h2
 split at h2
 ·rename_i k
  cases q:scan s.2.2 c with
  |none=>rw[q]at h2;cases h2
  |some c2=>
   rw[q]at h2
   refine⟨c,c2,h1,k,q,?_,V8 h2⟩
   rw[take_succ hs,xc h1]
   have:(J.take i).length=i:=by rw[List.length_take];omega
   rw[this,Nat.zero_add]
   show (if i<c then match scan s.2.2 c with | some c'=>some c' | none=>none else none)=_
   rw[if_pos k,q]
 ·cases h2
noncomputable def rC (m:List Stt) (c:Nat)(i j k:Slot):Rho:=[.fz (eM m),.own (dns (List.range c)),i,j,k]
theorem Jp {m:List Stt}{c:Nat}{i:Slot}{v:Mv}(h0:0<=v.1)(hv:v.2.Pairwise (· < ·))(hl:v.2.length<64)(hc:c<1000){c':Nat}(hs:scan [v] c=some c') :
  (zG (ifM (zO zQ (inO yV (vM 3) 1)) (zG (ifM (orM (zO zQ (op2 neD (vM 3) (Zr 1))) (zO zQ (op2 neD (za (zx yy) [vM 4]) (za (zx xX) [vM 4])))) (zz (cM (.bl false))) (nxM))
   (ZT 1 (vM 3))) (nxM))
   (ifM (zO zQ (op2 neD (za (zx yy) [vM 4]) (za (zx xX) [vM 4]))) (zz (cM (.bl false))) (nxM))) (rC m c i (.fz (.int v.1)) (.fz (.tup (v.2.map .int))))=.ok .nx (rC m c' i (.fz (.int v.1)) (.fz (.tup (v.2.map .int)))):=by
 have srt:∀ {c:Nat},zO zQ (op2 neD (za (zx yy) [vM 4]) (za (zx xX) [vM 4])) (rC m c i (.fz (.int v.1)) (.fz (.tup (v.2.map .int))))=.ok false (rC m c i (.fz (.int v.1)) (.fz (.tup (v.2.map .int)))):=fun {c}=>
  zb (x:=.bl false) (zI (x:=.lst (v.2.map .int)) (y:=.lst (v.2.map .int)) (ρ1:=rC m c i (.fz (.int v.1)) (.fz (.tup (v.2.map .int)))) (by rfl) (W0 (x:=.tup (v.2.map .int)) (by rfl) (jS hv hl)) (kz _)) rfl
 have last:∀ {c:Nat},(ifM (zO zQ (op2 neD (za (zx yy) [vM 4]) (za (zx xX) [vM 4]))) (zz (cM (.bl false))) (nxM)) (rC m c i (.fz (.int v.1)) (.fz (.tup (v.2.map .int))))=.ok .nx (rC m c i (.fz (.int v.1)) (.fz (.tup (v.2.map .int)))):=fun {c}=>by rw[yQ srt];rfl
 have mem:decide (v.1 ∈ zs (List.range c))=decide (v.1<(c:Int)):=by
  refine decide_eq_decide.mpr ⟨λh=>?_,λh=>?_⟩
  ·obtain⟨q,hq,e⟩:=List.mem_map.mp h
   have:=List.mem_range.mp hq
   omega
  ·exact List.mem_map.mpr ⟨v.1.toNat,List.mem_range.mpr (by omega),by omega⟩
 have tin:zO zQ (inO yV (vM 3) 1) (rC m c i (.fz (.int v.1)) (.fz (.tup (v.2.map .int))))=.ok (!decide (v.1<(c:Int))) (rC m c i (.fz (.int v.1)) (.fz (.tup (v.2.map .int)))):=by
  refine zb (x:=.bl (!decide (v.1<(c:Int)))) ?_ rfl
  show zU (yV (.int v.1) (.lst (dns (List.range c)))) _=_
  rw[Us,QN,mem]
  rfl
 have hs:(if v.1<(c:Int) then some c else if v.1=(c:Int) then some (c+1) else none)=some c':=hs
 by_cases k:v.1<(c:Int)
 ·rw[if_pos k]at hs
  cases hs
  rw[decide_eq_true k]at tin
  rw[Yg (ρ':=rC m c i (.fz (.int v.1)) (.fz (.tup (v.2.map .int)))) (by rw[yQ tin];rfl)]
  exact last
 ·rw[if_neg k]at hs
  split at hs
  ·rename_i k2
   cases hs
   rw[decide_eq_false k]at tin
   rw[Yg (ρ':=rC m (c+1) i (.fz (.int v.1)) (.fz (.tup (v.2.map .int)))) (by
    rw[yz tin,Yg (ρ':=rC m c i (.fz (.int v.1)) (.fz (.tup (v.2.map .int)))) (by
     rw[yQ (WM (ρ':=rC m c i (.fz (.int v.1)) (.fz (.tup (v.2.map .int)))) (zb (x:=.bl false) (zI (x:=.int v.1) (y:=dn c) (ρ1:=rC m c i (.fz (.int v.1)) (.fz (.tup (v.2.map .int)))) (by rfl) (by show Res.ok (D.int ((dns (List.range c)).length:Nat)) _=_;simp[dn]) (by unfold dn;rw[XR,k2];simp)) rfl) srt)]
     rfl)]
    rw[W7 (i:=1) (ds:=dns (List.range c)) (x:=.int v.1) (by rfl) (by rfl) (by simp;omega)]
    unfold rC
    rw[List.range_succ,show dns (List.range c++[c])=dns (List.range c)++[dn c] by simp[dns],k2]
    rfl)]
   exact last
  ·cases hs
theorem kL {J:List Stt}{e:Nat}(h:Zt J 0 1=some e)(he:e<=400)(hl:J.length<=400)(hg:∀ s ∈ J,s.2.2.length<=10/\∀ v ∈ s.2.2,0<=v.1/\v.2.Pairwise (· < ·)/\v.2.length<64):ZY [eM J]=.ok (.bl true):=by
 refine ZE ?_
 refine zJ (ρ':=rC J 1 .un .un .un) (by rfl) ?_
 refine Z4 (λρ=>True) ?_ λρ _=>zV (Zx (x:=.bl true) (by rfl)) rfl
 refine qa (n:=J.length) (ρ':=rC J 1 .un .un .un) (W0 (x:=eM J) (by rfl) (by show some (D.int ((J.map eSt).length:Nat))=_;rw[List.length_map];rfl)) (by omega) ?_
 refine Yd (λi ρ=>∃ c a b d,Zt (J.take i) 0 1=some c/\ρ=rC J c a b d) ⟨1,.un,.un,.un,rfl,rfl⟩ ?_ λρ _=>⟨rfl,trivial⟩
 rintro i ρ hi ⟨c,a,b,d,hc,rfl⟩
 refine⟨rC J c (.fz (dn i)) b d,rfl,?_⟩
 have hs:=List.getElem?_eq_getElem hi
 generalize J[i]=s at hs
 obtain⟨c0,c',q1,q2,q3,q4,q5⟩:=jW h hs
 rw[hc]at q1
 cases q1
 obtain⟨g1,g2⟩:=hg s (List.mem_of_getElem? hs)
 have hcc:=xH q3
 refine zJ (ρ':=rC J c (.fz (dn i)) b d) (by
  rw[yQ (ρ':=rC J c (.fz (dn i)) b d) (zb (x:=.bl false) (zI (x:=dn i) (y:=dn c) (ρ1:=rC J c (.fz (dn i)) b d) (by rfl) (by show Res.ok (D.int ((dns (List.range c)).length:Nat)) _=_;simp[dn]) (by
   show some (D.bl (decide ((i:Int) ≥ (c:Int))))=_
   rw[decide_eq_false (by omega)])) rfl)]
  rfl) ?_
 refine xp (x:=.lst (s.2.2.map eMv)) (ρ':=rC J c (.fz (dn i)) b d) (zI (x:=eSt s) (y:=.int 2) (ρ1:=rC J c (.fz (dn i)) b d) (zI (f:=ixD) (x:=eM J) (y:=dn i) (ρ1:=rC J c (.fz (dn i)) b d) (by rfl) (by rfl) (W5 hs)) (by rfl) (by rfl)) (by rfl) ?_
 refine YB (λk ρ=>∃ c2 b d,scan (s.2.2.take k) c=some c2/\ρ=rC J c2 (.fz (dn i)) b d) ⟨c,b,d,rfl,rfl⟩ ?_ ?_
 ·rintro k v ρ hv ⟨c2,b,d,hc2,rfl⟩
  refine⟨rC J c2 (.fz (dn i)) (.fz (.int v.1)) (.fz (.tup (v.2.map .int))),rfl,?_⟩
  obtain⟨w1,w2,w3⟩:=g2 v (List.mem_of_getElem? hv)
  obtain⟨c3,z1,z2⟩:=Xp (k+1) q3
  have z3:=xH z2
  rw[take_succ hv,YX hc2]at z1
  refine zV (Jp w1 w2 w3 (by have:=xH z1;omega) z1) ⟨c3,_,_,?_,rfl⟩
  rw[take_succ hv,YX hc2]
  exact z1
 ·rintro ρ ⟨c2,b,d,hc2,rfl⟩
  rw[List.take_length,q3]at hc2
  cases hc2
  exact⟨c',_,_,_,q4,rfl⟩
end PM
namespace PM
open PySem
noncomputable def Kb:List Pr:=[(none,some 0),(none,some 1),(some 0,none),(some 0,some 0),(some 0,some 1),(some 1,none),(some 1,some 0),(some 1,some 1)]
noncomputable def Vi:Nat->List (List Pr)
 |0=>[[]]
 |n+1=>(Vi n).flatMap λl=>Kb.map (· :: l)
noncomputable def okS (b:Nat)(os:List (Option Nat)):Bool:=(os.filterMap id).all (λn=>decide (n<b)) && ((List.range b).all (λn=>(os.filterMap id).contains n) && decide (os.filterMap id).Nodup)
noncomputable def okP (x y:Nat)(ps:List Pr):Bool:=okS x (ps.map (·.1)) && okS y (ps.map (·.2))
noncomputable def yq (x y:Nat):List (List Pr):=((List.range (x+y+1)).flatMap Vi).filter (okP x y)
theorem jv {b:Nat}{os:List (Option Nat)}(h:FOk b os):okS b os=true:=by
 have mem:∀ n,n ∈ os.filterMap id ↔ some n ∈ os:=λn=>by simp[List.mem_filterMap]
 unfold okS
 rw[Bool.and_eq_true,Bool.and_eq_true,List.all_eq_true,List.all_eq_true]
 refine⟨λn hn=>?_,λn hn=>?_,?_⟩
 ·obtain⟨i,hi⟩:=List.getElem?_of_mem ((mem n).mp hn)
  exact decide_eq_true (h.lt i n hi)
 ·obtain⟨i,hi⟩:=h.all n (List.mem_range.mp hn)
  rw[List.contains_iff_mem]
  exact (mem n).mpr (List.mem_of_getElem? hi)
 ·refine decide_eq_true ?_
  show List.Pairwise _ _
  rw[List.pairwise_filterMap]
  refine List.pairwise_iff_getElem.mpr λi j hi hj hij x hx y hy e=>?_
  have hx:os[i]=some x:=hx
  have hy:os[j]=some y:=hy
  have:=h.inj i j x (by rw[List.getElem?_eq_getElem hi,hx]) (by rw[List.getElem?_eq_getElem hj,hy,e])
  omega
theorem Wb:∀ {n:Nat}{ps:List Pr},ps.length=n->(∀ p ∈ ps,p ∈ Kb)->ps ∈ Vi n
 |0,ps,h,_=>by rw[List.length_eq_zero_iff.mp h];exact List.mem_singleton.mpr rfl
 |n+1,[],h,_=>by simp at h
 |n+1,p::ps,h,ha=>by
  unfold Vi
  refine List.mem_flatMap.mpr ⟨ps,Wb (by simpa using h) λq hq=>ha q (List.mem_cons_of_mem _ hq),List.mem_map.mpr ⟨p,ha p List.mem_cons_self,rfl⟩⟩
theorem JH {p:Pr}(h1:∀ a,p.1=some a->a<2)(h2:∀ a,p.2=some a->a<2)(hn:p≠(none,none)):p ∈ Kb:=by
 obtain⟨a,b⟩:=p
 have c:∀ {o:Option Nat},(∀ a,o=some a->a<2)->o=none\/o=some 0\/o=some 1:=fun {o} h=>by
  cases o with
  |none=>exact .inl rfl
  |some n=>
   have:=h n rfl
   match n,this with
   |0,_=>exact .inr (.inl rfl)
   |1,_=>exact .inr (.inr rfl)
 rcases c h1 with rfl | rfl | rfl<;>rcases c h2 with rfl | rfl | rfl<;>first | exact absurd rfl hn | (unfold Kb;simp)
theorem JG {x y:Nat}(hx:x<=2)(hy:y<=2){ps:List Pr}(h1:FOk x (ps.map (·.1)))(h2:FOk y (ps.map (·.2)))(hn:∀ p ∈ ps,p≠(none,none)):ps ∈ yq x y:=by
 unfold yq
 refine List.mem_filter.mpr ⟨List.mem_flatMap.mpr ⟨ps.length,List.mem_range.mpr (by have:=Uf h1 h2 hn;omega),Wb rfl λp hp=>?_⟩,by unfold okP;rw[jv h1,jv h2];rfl⟩
 obtain⟨i,hi⟩:=List.getElem?_of_mem hp
 refine JH (λa ha=>?_) (λa ha=>?_) (hn p hp)
 ·have:=h1.lt i a (by rw[List.getElem?_map,hi];show some p.1=_;rw[ha])
  omega
 ·have:=h2.lt i a (by rw[List.getElem?_map,hi];show some p.2=_;rw[ha])
  omega
theorem Kx:(yq 0 0).length<=1:=by decide +kernel
theorem zBP:(yq 0 1).length<=2/\(yq 0 2).length<=2/\(yq 1 0).length<=2/\(yq 2 0).length<=2:=by decide +kernel
theorem zBO:(yq 1 1).length<=52/\(yq 1 2).length<=52/\(yq 2 1).length<=52:=by decide +kernel
theorem zBN:(yq 2 2).length<=52:=by decide +kernel
theorem Up {y:Nat}(h:y<=2):(yq 0 y).length<=2/\(yq y 0).length<=2:=by
 have a:=Kx
 obtain⟨b,c,d,e⟩:=zBP
 match y,h with
 |0,_=>exact⟨by omega,by omega⟩
 |1,_=>exact⟨b,d⟩
 |2,_=>exact⟨c,e⟩
theorem few {x y:Nat}(hx:x<=2)(hy:y<=2):(yq x y).length<=52:=by
 obtain⟨b,c,d⟩:=zBO
 have e:=zBN
 match x,hx with
 |0,_=>have:=(Up hy).1;omega
 |1,_=>
  match y,hy with
  |0,_=>have:=(Up (show 1<=2 by omega)).2;omega
  |1,_=>exact b
  |2,_=>exact c
 |2,_=>
  match y,hy with
  |0,_=>have:=(Up (show 2<=2 by omega)).2;omega
  |1,_=>exact d
  |2,_=>exact e
noncomputable def UG (f1 f2:Nat->Nat):List Tr:=(List.range 3).flatMap λa=>(List.range 3).flatMap λb=>(yq (f1 a) (f2 b)).map λps=>(a,b,ps)
theorem Q8 {f1 f2:Nat->Nat}(h1:∀ a,f1 a<=2)(h2:∀ a,f2 a<=2)(z1:f1 0=0)(z2:f2 0=0):(UG f1 f2).length<=217:=by
 have e:(UG f1 f2).length=((yq (f1 0) (f2 0)).length+((yq (f1 0) (f2 1)).length+(yq (f1 0) (f2 2)).length))+(((yq (f1 1) (f2 0)).length+((yq (f1 1) (f2 1)).length+(yq (f1 1) (f2 2)).length))+((yq (f1 2) (f2 0)).length+((yq (f1 2) (f2 1)).length+(yq (f1 2) (f2 2)).length))):=by
  unfold UG
  rw[show List.range 3=[0,1,2] from rfl]
  simp only[List.flatMap_cons,List.flatMap_nil,List.length_append,List.length_map,List.length_nil,Nat.add_zero]
 rw[e,z1,z2]
 have a:=Kx
 have b:=Up (h1 1)
 have c:=Up (h1 2)
 have d:=Up (h2 1)
 have f:=Up (h2 2)
 have g:=few (h1 1) (h2 1)
 have h:=few (h1 1) (h2 2)
 have i:=few (h1 2) (h2 1)
 have j:=few (h1 2) (h2 2)
 omega
section
variable {due:Bool->Bool->Bool}{m1 m2:List Stt}
structure Sm (m:List Stt):Prop where
 l3:m.length<=3
 b2:∀ s ∈ m,s.2.1<=2
noncomputable def bx (m:List Stt) (a:Nat):Nat:=(YJ m a).toNat
theorem Js {m:List Stt}{a:Nat}{s:Stt}(h:m[a]? = some s):bx m a=s.2.1.toNat:=by
 unfold bx
 rw[Zl (g:=(a:Int)) (by rw[Int.toNat_natCast];exact h)]
theorem qj {m:List Stt}(h:Sm m) (a:Nat):bx m a<=2:=by
 cases q:m[a]? with
 |some s=>rw[Js q];have:=h.b2 s (List.mem_of_getElem? q);omega
 |none=>
  unfold bx YJ
  rw[Int.toNat_natCast,q]
  exact Nat.zero_le _
theorem Qf (h1:Sm m1)(h2:Sm m2)(hm1:GoodM m1)(hm2:GoodM m2){T:List Tr}(h:Known m1 m2 T):T.length<=217:=by
 refine Nat.le_trans (WR h.nd (k:=UG (bx m1) (bx m2)) λt ht=>?_) (Q8 (qj h1) (qj h2) (by unfold bx;have:=hm1.zer;rw[show ((0:Nat):Int)=0 from rfl,this];rfl) (by unfold bx;have:=hm2.zer;rw[show ((0:Nat):Int)=0 from rfl,this];rfl))
 have tk:=h.ok t ht
 obtain⟨s1,e1,f1⟩:=tk.s1
 obtain⟨s2,e2,f2⟩:=tk.s2
 have l1:=(List.getElem?_eq_some_iff.mp e1).1
 have l2:=(List.getElem?_eq_some_iff.mp e2).1
 have k1:=h1.l3
 have k2:=h2.l3
 unfold UG
 refine List.mem_flatMap.mpr ⟨t.1,List.mem_range.mpr (by omega),List.mem_flatMap.mpr ⟨t.2.1,List.mem_range.mpr (by omega),List.mem_map.mpr ⟨t.2.2,?_,rfl⟩⟩⟩
 refine JG (qj h1 _) (qj h2 _) ?_ ?_ tk.ne
 ·rw[Js e1];exact f1
 ·rw[Js e2];exact f2
theorem jL (h1:Sm m1)(h2:Sm m2){t:Tr}(h:TOk m1 m2 t):t.2.2.length<=4:=by
 obtain⟨s1,e1,f1⟩:=h.s1
 obtain⟨s2,e2,f2⟩:=h.s2
 have:=Uf f1 f2 h.ne
 have k1:=h1.b2 _ (List.mem_of_getElem? e1)
 have k2:=h2.b2 _ (List.mem_of_getElem? e2)
 omega
theorem vh (h1:Sm m1)(h2:Sm m2)(hm1:GoodM m1)(hm2:GoodM m2){s1 s2:Stt}{t:Tr}{T:List Tr}(h:Known m1 m2 T)(ht:TOk m1 m2 t)(e1:m1[t.1]? = some s1)(e2:m2[t.2.1]? = some s2):∀ i,i<=t.2.2.length+1->∃ x,yR s1 s2 t T i=some x
 |0,_=>⟨_,rfl⟩
 |i+1,hi=>by
  obtain⟨x,q⟩:=vh h1 h2 hm1 hm2 h ht e1 e2 i (by omega)
  have mo:=XU hm1 hm2 h ht e1 e2 i x (by omega) q
  have hf:=Qf h1 h2 hm1 hm2 mo.kn
  have h4:=jL h1 h2 (VX (r:=i) hm1 hm2 ht (by omega) e1 e2)
  unfold yR
  rw[q]
  dsimp only
  unfold Xv
  cases yD x.2 (zu s1 s2 t i) with
  |some j=>exact⟨_,rfl⟩
  |none=>
   dsimp only
   rw[if_neg (by omega)]
   exact⟨_,rfl⟩
theorem U4 (h1:Sm m1)(h2:Sm m2)(hm1:GoodM m1)(hm2:GoodM m2):∀ n,∃ x,stN due m1 m2 n=some x
 |0=>⟨_,rfl⟩
 |n+1=>by
  obtain⟨x,q⟩:=U4 h1 h2 hm1 hm2 n
  have so:=xW hm1 hm2 n x q
  unfold stN
  rw[q]
  dsimp only
  cases q1:x.1[n]? with
  |none=>exact⟨_,rfl⟩
  |some t=>
   have ht:=so.kn.ok t (List.mem_of_getElem? q1)
   obtain⟨s1,e1,_⟩:=ht.s1
   obtain⟨s2,e2,_⟩:=ht.s2
   obtain⟨y,hy⟩:=vh h1 h2 hm1 hm2 so.kn ht e1 e2 _ (Nat.le_refl _)
   dsimp only
   rw[e1,e2]
   dsimp only
   rw[hy]
   exact⟨_,rfl⟩
theorem jO {A:Cls}{wd:D}(h1:Sm m1)(h2:Sm m2)(hm1:GoodM m1)(hm2:GoodM m2)(hw:Wd wd due):∃ x:List Tr×List Stt,ZU A [wd,eM m1,eM m2]=.ok (eM x.2)/\stN due m1 m2 x.2.length=some x/\x.2.length=x.1.length:=by
 have w:=wv (A:=A) hm1 hm2 hw
 cases hf:ZU A [wd,eM m1,eM m2] with
 |ok d=>
  rw[hf]at w
  rw[Wk]at w
  obtain⟨x,rfl,q1,q2⟩:=w
  exact⟨x,rfl,q1,q2⟩
 |exn c=>
  rw[hf,Xd]at w
  obtain⟨_,n,hn⟩:=w
  obtain⟨x,hx⟩:=U4 (due:=due) h1 h2 hm1 hm2 n
  rw[hn]at hx
  cases hx
 |bad=>
  rw[hf,wn]at w
  exact w.elim
end
end PM
namespace PM
open PySem
noncomputable def wu:List (List Int):=[[],[0],[0,0],[0,1],[0,0,0],[0,0,1],[0,1,0],[0,1,1],[0,1,2]]
theorem kK:Zm [.int 3]=.ok (.lst (wu.map dS)):=by rfl
noncomputable def Z1:List Stt:=[(false,0,[(1,[0])]),(false,1,[(1,[0]),(2,[0,1])]),(false,2,[(2,[0,1]),(2,[0,1]),(3,[0,1,2])]),(false,3,[(3,[0,1,2]),(3,[0,1,2]),(3,[0,1,2]),(4,[0,1,2,3])]),(true,4,[(4,[0,1,2,3]),(4,[0,1,2,3]),(4,[0,1,2,3]),(4,[0,1,2,3]),(4,[0,1,2,3])])]
noncomputable def qQ (m:List Stt):List Stt:=(false,0,[(1,[])])::m.map λs=>(s.1,s.2.1,s.2.2.map λv=>(v.1+1,v.2))
noncomputable def wP:List Stt:=qQ (qQ (qQ (qQ Z1)))
theorem XC:zo [.int 4]=.ok (eM Z1):=by rfl
theorem K9:ya [eM Z1,.int 4]=.ok (eM wP):=by rfl
theorem X4:GoodM Z1:=X5.mp (by decide +kernel)
theorem Qn:GoodM wP:=X5.mp (by decide +kernel)
theorem jE:(stN (λa b=>a && b) Z1 Z1 5).map (·.1.length)=some 5:=by decide +kernel
theorem jD:(stN (λa b=>a && b) Z1 wP 129).isNone=true:=by decide +kernel
end PM
namespace PM
open PySem
noncomputable def ZO (m:List Stt):List Stt:=m.map λs=>(!s.1,s.2.1,s.2.2)
theorem ww {m:List Stt}{i:Nat}:(ZO m)[i]? = (m[i]?).map λs=>(!s.1,s.2.1,s.2.2):=by unfold ZO;rw[List.getElem?_map]
theorem Xl (m:List Stt):(ZO m).length=m.length:=by simp[ZO]
theorem W1 (m:List Stt) (g:Int):YJ (ZO m) g=YJ m g:=by
 unfold YJ
 rw[ww]
 cases m[g.toNat]?<;>rfl
theorem Qm {m:List Stt}(h:GoodM m):GoodM (ZO m):=by
 have mv:∀ {q:Int}{v:Mv},GoodMv m q v->GoodMv (ZO m) q v:=λg=>⟨g.t0,by rw[Xl];exact g.t1,by rw[W1];exact g.ln,g.nd,g.lo,g.hi⟩
 refine⟨by rw[Xl];exact h.pos,by rw[Xl];exact h.few,by rw[W1];exact h.zer,λs hs=>?_⟩
 obtain⟨s',h',rfl⟩:=List.mem_map.mp hs
 have g:=h.sts s' h'
 exact⟨g.b0,g.b6,g.ml,λc v e=>mv (g.mv c v e)⟩
noncomputable def jI:D->D
 |.tup [.bl b,n,l]=>.tup [.bl (!b),n,l]
 |d=>d
theorem jM {m:List Stt}(hm:GoodM m)(A:Cls):Z3 A [eM m]=.ok (eM (ZO m)):=by
 have hfew:=hm.few
 refine ZE (zJ (Xf (zX (xs:=[eM m]) (by rfl) (wx hm (Zz hm) A))) ?_)
 have hc:yU (ZI yB (vM 0)) 1 [] (ZC 0) none (ZP [WQ (op2 ixD (vM 0) (cM (.int 0))),op2 ixD (vM 0) (cM (.int 1)),za (zx yy) [op2 ixD (vM 0) (cM (.int 2))]]) (ZJ 1 [eM m])=.ok (.lst ((m.map eSt).map jI)) (ZJ 1 [eM m]):=by
  refine xC (caps:=[]) jI (by rfl) (by rfl) (by rw[sizeLine_eq];simp;omega) λd hd acc=>?_
  obtain⟨s,_,rfl⟩:=List.mem_map.mp hd
  rfl
 refine zV (Zx hc) ?_
 show D.lst ((m.map eSt).map jI)=eM (ZO m)
 unfold eM ZO
 rw[List.map_map,List.map_map]
 rfl
theorem qz (m:List Stt)(p:Pl) (x:Int):step (ZO m) p x=step m p x:=by
 unfold step
 rw[ww]
 cases m[p.1]?<;>rfl
theorem jY (m:List Stt)(w:List Int):run (ZO m) w=run m w:=by
 unfold run
 rw[show step (ZO m)=step m from funext λp=>funext λx=>qz m p x]
theorem VF {A:Cls}(h:A.Ok):zv A [.exc A.bw]=.ok (.str "word"):=
 Ju (Yq yA.2.1 (Ne.symm h.w)) (Yq yA.2.1 (Ne.symm h.tw)) (Vm yA.2.1) (Yq yA.2.1 h.wm) (Vo yA.2.1) (by rfl) (by rfl)
theorem VE {A:Cls}(h:A.Ok):zv A [.exc A.tm]=.ok (.str "many"):=
 Ju (Yq yA.2.2 (Ne.symm h.m)) (Yq yA.2.2 (Ne.symm h.tm)) (Yq yA.2.2 (Ne.symm h.wm)) (Vm yA.2.2) (Vo yA.2.2) (by rfl) (by rfl)
theorem zBM {c:M Bool}{a b:M D}{ρ ρ':Rho}(e:c ρ=.ok false ρ'):YY c a b ρ=b ρ':=by unfold YY;rw[e];rfl
theorem zA6 {a b:M D}{ρ ρ':Rho}{r:Res D}(ea:a ρ=.ok (.bl true) ρ')(eb:b ρ'=r):W9 a b ρ=r:=by unfold W9;rw[ea];exact eb
noncomputable def Zy (wd:D)(b:Bool):Prop:=neD wd (.str "turn")=some (.bl (!b))
theorem VC {A:Cls}{wd a b r:D}{t:Bool}(hw:Zy wd t)(h:(if t=true then Z3 A [a] else ZU A [wd,a,b])=.ok r):zT A [wd,a,b]=.ok r:=by
 refine ZE ?_
 refine zJ (ρ':=[.fz wd,.fz a,.fz b,.fz .non,.un,.un]) (by rfl) (zJ (ρ':=[.fz wd,.fz a,.fz b,.fz .non,.fz .non,.un]) (by rfl) ?_)
 refine Z4 (λρ=>ρ=[.fz wd,.fz a,.fz b,.fz .non,.fz r,.un]) (jA (zV (Zi (i:=4) (x:=r) (ρ':=[.fz wd,.fz a,.fz b,.fz .non,.fz .non,.un]) ?_) ⟨rfl,rfl⟩)) ?_
 ·have ht:zO zQ (op2 neD (vM 0) (cM (.str "turn"))) [.fz wd,.fz a,.fz b,.fz .non,.fz .non,.un]=.ok (!t) [.fz wd,.fz a,.fz b,.fz .non,.fz .non,.un]:=zb (x:=.bl (!t)) (zI (x:=wd) (by rfl) (by rfl) hw) rfl
  unfold YY
  rw[ht,Res.bnd_ok]
  cases t with
  |true=>rw[if_neg (by simp)];rw[if_pos rfl]at h;exact zX (F:=Z3 A) (xs:=[a]) (by rfl) h
  |false=>rw[if_pos (by rfl)];rw[if_neg (by simp)]at h;exact zX (F:=ZU A) (xs:=[wd,a,b]) (by rfl) h
 ·rintro ρ rfl
  exact zV (Zx (x:=r) (by rfl)) rfl
theorem x8 {A:Cls}{wd a b r:D}{t:Bool}{c:Addr}(hw:Zy wd t)(h:(if t=true then Z3 A [a] else ZU A [wd,a,b])=.exn c)(hc:A.all.contains c=true)(hr:zv A [.exc c]=.ok r):zT A [wd,a,b]=.ok r:=by
 refine ZE ?_
 refine zJ (ρ':=[.fz wd,.fz a,.fz b,.fz .non,.un,.un]) (by rfl) (zJ (ρ':=[.fz wd,.fz a,.fz b,.fz .non,.fz .non,.un]) (by rfl) ?_)
 refine Z4 (λρ=>ρ=[.un,.un,.un,.fz (.exc c),.un,.un]) (jA ?_) ?_
 ·have ht:zO zQ (op2 neD (vM 0) (cM (.str "turn"))) [.fz wd,.fz a,.fz b,.fz .non,.fz .non,.un]=.ok (!t) [.fz wd,.fz a,.fz b,.fz .non,.fz .non,.un]:=zb (x:=.bl (!t)) (zI (x:=wd) (by rfl) (by rfl) hw) rfl
  have hx:YY (zO zQ (op2 neD (vM 0) (cM (.str "turn")))) (zK (ZU A) [vM 0,vM 1,vM 2]) (zK (Z3 A) [vM 1]) [.fz wd,.fz a,.fz b,.fz .non,.fz .non,.un]=.exn c [.fz wd,.fz a,.fz b,.fz .non,.fz .non,.un]:=by
   unfold YY
   rw[ht,Res.bnd_ok]
   cases t with
   |true=>rw[if_neg (by simp)];rw[if_pos rfl]at h;show (Z3 A [a]).to _=_;rw[h];rfl
   |false=>rw[if_pos (by rfl)];rw[if_neg (by simp)]at h;show (ZU A [wd,a,b]).to _=_;rw[h];rfl
  unfold zy
  rw[hx]
  exact .exn ⟨hc,rfl,rfl⟩
 ·rintro ρ rfl
  refine zV (Zx (x:=r) (ρ':=[.un,.un,.un,.fz (.exc c),.un,.un]) ?_) rfl
  rw[zBM (ρ':=[.un,.un,.un,.fz (.exc c),.un,.un]) (by rfl)]
  exact zX (F:=zv A) (xs:=[.exc c]) (by rfl) hr
theorem Vp {A:Cls}:A.all.contains A.bm=true/\A.all.contains A.bw=true/\A.all.contains A.tm=true:=by simp[Cls.all]
theorem VB:Zy (.str "both") false:=by unfold Zy;with_unfolding_all rfl
theorem kH:Zy (.str "either") false:=by unfold Zy;with_unfolding_all rfl
theorem kG:Zy (.str "less") false:=by unfold Zy;with_unfolding_all rfl
theorem U2:Zy (.str "odd") false:=by unfold Zy;with_unfolding_all rfl
theorem kF:Zy (.str "and") false:=by unfold Zy;with_unfolding_all rfl
theorem jH:Zy (.str "turn") true:=by unfold Zy;with_unfolding_all rfl
noncomputable def yH:List Stt:=[(true,1,[])]
theorem q8:UH yH:=by
 intro s hs v hv
 rw[List.mem_singleton.mp hs]at hv
 cases hv
theorem Ki (A:Cls):zP A [eM yH]=.exn A.bm:=K1 q8 (by decide +kernel)
theorem jK {A:Cls}(h:A.Ok):zT A [.str "and",eM yH,eM yH]=.ok (.str "word"):=by
 refine x8 (t:=false) (c:=A.bw) kF ?_ Vp.2.1 (VF h)
 rw[if_neg (by simp)]
 refine FR.exn_of (yo (Zo (k:=A.bw) (ρ':=ZJ 12 [.str "and",eM yH,eM yH]) ?_ rfl))
 rw[yz (ρ':=ZJ 12 [.str "and",eM yH,eM yH]) (zb (x:=.bl true) (zI (x:=.str "and") (by rfl) (by rfl) (by with_unfolding_all rfl)) rfl)]
 rfl
theorem jJ {A:Cls}(h:A.Ok){m:List Stt}(hm:GoodM m):zT A [.str "odd",eM m,eM yH]=.ok (.str "machine"):=by
 refine x8 (t:=false) (c:=A.bm) U2 ?_ Vp.1 (XA h)
 rw[if_neg (by simp)]
 refine FR.exn_of (yo ?_)
 refine zJ (ρ':=ZJ 12 [.str "odd",eM m,eM yH]) (by rw[yQ (ρ':=ZJ 12 [.str "odd",eM m,eM yH]) (zb (x:=.bl false) (zI (x:=.str "odd") (by rfl) (by rfl) jF.ni) rfl)];rfl) ?_
 refine zJ (ρ':=ZJ 12 [.str "odd",eM m,eM yH]) (Xf (zX (F:=zP A) (xs:=[eM m]) (by rfl) (wx hm (Zz hm) A))) ?_
 refine Zo (k:=A.bm) (ρ':=ZJ 12 [.str "odd",eM m,eM yH]) ?_ rfl
 unfold yf
 show ((zP A [eM yH]).to _).bnd _=_
 rw[Ki]
 rfl
theorem qw {A:Cls}(h:A.Ok)(m:List Stt):zT A [.str "turn",eM yH,eM m]=.ok (.str "machine"):=by
 refine x8 (t:=true) (c:=A.bm) jH ?_ Vp.1 (XA h)
 rw[if_pos rfl]
 refine FR.exn_of (yo (Zo (k:=A.bm) (ρ':=ZJ 1 [eM yH]) ?_ rfl))
 unfold yf
 show ((zP A [eM yH]).to _).bnd _=_
 rw[Ki]
 rfl
theorem UL {A:Cls}:∃ J,zT A [.str "both",eM Z1,eM Z1]=.ok (eM J):=by
 have w:=wv (A:=A) X4 X4 v9
 cases hf:ZU A [.str "both",eM Z1,eM Z1] with
 |ok d=>
  rw[hf,Wk]at w
  obtain⟨x,rfl,_⟩:=w
  exact⟨x.2,VC (t:=false) VB (by rw[if_neg (by simp)];exact hf)⟩
 |exn c=>
  rw[hf,Xd]at w
  obtain⟨_,n,hn⟩:=w
  exfalso
  have w1:=jE
  cases q:stN (λa b=>a && b) Z1 Z1 5 with
  |none=>rw[q]at w1;cases w1
  |some x=>
   rw[q]at w1
   have hl:x.1.length=5:=by simpa using w1
   by_cases k:n<=5
   ·rw[VH hn k]at q;cases q
   ·rw[VG q (by omega) (show 5<=n by omega)]at hn;cases hn
 |bad=>rw[hf,wn]at w;exact w.elim
theorem qx {A:Cls}(h:A.Ok):zT A [.str "both",eM Z1,eM wP]=.ok (.str "many"):=by
 have w:=wv (A:=A) X4 Qn v9
 cases hf:ZU A [.str "both",eM Z1,eM wP] with
 |ok d=>
  exfalso
  rw[hf,Wk]at w
  obtain⟨x,rfl,q1,q2⟩:=w
  have w2:=jD
  by_cases k:x.2.length<=129
  ·rw[VG q1 (by omega) k]at w2;cases w2
  ·have hn:stN (λa b=>a && b) Z1 wP 129=none:=by
    cases q:stN (λa b=>a && b) Z1 wP 129 with
    |none=>rfl
    |some y=>rw[q]at w2;cases w2
   rw[VH hn (show 129<=x.2.length by omega)]at q1
   cases q1
 |exn c=>
  rw[hf,Xd]at w
  obtain⟨rfl,_⟩:=w
  exact x8 (t:=false) VB (by rw[if_neg (by simp)];exact hf) Vp.2.2 (VE h)
 |bad=>rw[hf,wn]at w;exact w.elim
theorem K8 {A:Cls}(h:A.Ok):yZ A []=.ok (.bl true):=by
 obtain⟨J,hJ⟩:=UL (A:=A)
 refine ZE (zJ (ρ':=[.fz (eM J)]) (Zi (i:=0) (ρ':=[.un]) (zX (F:=zT A) (xs:=[.str "both",eM Z1,eM Z1]) (zN (x:=.str "both") (ρ1:=[.un]) (by rfl) (zN (ρ1:=[.un]) (zX (F:=zo) (xs:=[.int 4]) (by rfl) XC) (zN (zX (F:=zo) (xs:=[.int 4]) (by rfl) XC) (by rfl)))) hJ)) ?_)
 refine zV (Zx (x:=.bl true) (ρ':=[.fz (eM J)]) ?_) rfl
 refine zA6 (ρ':=[.fz (eM J)]) (by rfl) ?_
 refine zI (x:=.str "many") (y:=.str "many") (ρ1:=[.fz (eM J)]) (zX (F:=zT A) (xs:=[.str "both",eM Z1,eM wP]) (zN (x:=.str "both") (ρ1:=[.fz (eM J)]) (by rfl) (zN (ρ1:=[.fz (eM J)]) (zX (F:=zo) (xs:=[.int 4]) (by rfl) XC) (zN (ρ1:=[.fz (eM J)]) (zX (F:=ya) (xs:=[eM Z1,.int 4]) (zN (ρ1:=[.fz (eM J)]) (zX (F:=zo) (xs:=[.int 4]) (by rfl) XC) (by rfl)) K9) (by rfl)))) (qx h)) (by rfl) (by with_unfolding_all rfl)
end PM
namespace PM
open PySem
noncomputable section
theorem Kk (mx:Nat->Nat) (k:Nat):Sm (gM mx k 3):=by
 refine⟨by rw[Vs];exact (xo mx k 3 (by omega)).1,λs hs=>?_⟩
 unfold gM at hs
 obtain⟨i,_,rfl⟩:=List.mem_map.mp hs
 have:=X7 mx k 3 i
 show ((nth (zw mx k 3) i:Nat):Int)<=2
 omega
noncomputable def tk (m:List Stt)(w:List Int):Bool:=((m[(run m w).1]?).map (·.1)).getD false
theorem zA7 {m:List Stt}(hm:GoodM m)(w:List Int):zR [eM m,dS w]=.ok (.bl (tk m w)):=by
 obtain⟨s,a⟩:=jZ hm w
 rw[YC hm w a]
 unfold tk
 rw[a.st]
 rfl
theorem kJ {m:List Stt}(hm:GoodM m)(w:List Int):tk (ZO m) w = !tk m w:=by
 obtain⟨s,a⟩:=jZ hm w
 unfold tk
 rw[jY,ww,a.st]
 rfl
noncomputable def unI:D->Int
 |.int i=>i
 |_=>0
noncomputable def unS:D->List Int
 |.lst ds=>ds.map unI
 |_=>[]
theorem jG (w:List Int):unS (dS w)=w:=by
 show (w.map D.int).map unI=w
 rw[List.map_map]
 exact List.map_id'' (λ_=>rfl) w
theorem ux:∀ bs:List Bool,D.plains (bs.map .bl)=true/\D.deeps (bs.map .bl)=0/\D.eqvs (bs.map .bl) (bs.map .bl)=true
 |[]=>⟨rfl,rfl,rfl⟩
 |b::r=>by
  obtain⟨h1,h2,h3⟩:=ux r
  refine⟨?_,?_,?_⟩
  ·show (true && D.plains (r.map .bl))=true;rw[h1];rfl
  ·show max 0 (D.deeps (r.map .bl))=0;rw[h2];rfl
  ·show ((D.bl b).eqv (.bl b) && D.eqvs (r.map .bl) (r.map .bl))=true;rw[h3];cases b<;>rfl
theorem zAe (bs:List Bool):neD (.lst (bs.map .bl)) (.lst (bs.map .bl))=some (.bl false):=by
 obtain⟨h1,h2,h3⟩:=ux bs
 show (if _ then _ else _)=_
 rw[show (D.lst (bs.map .bl)).plain=D.plains (bs.map .bl) from rfl,h1,show (D.lst (bs.map .bl)).deep=D.deeps (bs.map .bl)+1 from rfl,h2]
 show some (D.bl (!D.eqvs (bs.map .bl) (bs.map .bl)))=_
 rw[h3]
 rfl
theorem zBJ (b:Bool):neD (.bl b) (.bl b)=some (.bl false):=by cases b<;>rfl
noncomputable def rK (s:D)(m1 m2:List Stt)(ws:List (List Int))(a b c d:Slot):Rho:=[.fz s,.fz (eM m1),.fz (eM m2),.fz (.lst (ws.map dS)),a,b,c,d]
theorem qt {A:Cls}{s:D}{m1 m2:List Stt}{ws:List (List Int)}{wd:D}{due:Bool->Bool->Bool}(h1:Sm m1)(h2:Sm m2)(hm1:GoodM m1)(hm2:GoodM m2)(hw:Wd wd due)(ht:Zy wd false){b c d:Slot}{Q:Fl->Rho->Prop}{X:Addr->Prop}
  (hQ:∀ b c d,Q .nx (rK s m1 m2 ws (.fz wd) b c d)) :
  ((zG (zy 5 (zK (zT A) [vM 4,vM 1,vM 2]))
 (zG (ifM (orM (Xw (zO YL (op1 (Wf D.isLst) (vM 5)))) (Xw (zO YL (zK ZY [vM 5])))) (zz (cM (.bl false))) (nxM))
 (zG (yf (zK (zP A) [vM 5]))
 (YT (vM 3) yB (ZC 6) (ifM (zO zQ (op2 neD (zK zR [vM 5,vM 6]) (zK yG [vM 4,zK zR [vM 1,vM 6],zK zR [vM 2,vM 6]]))) (zz (cM (.bl false))) (nxM)))))) (rK s m1 m2 ws (.fz wd) b c d)).wp Q X:=by
 obtain⟨x,hj,hx,hl⟩:=jO (A:=A) h1 h2 hm1 hm2 hw
 have hJ:=YI hm1 hm2 hx hl
 have so:=xW hm1 hm2 _ x hx
 have hc:ZY [eM x.2]=.ok (.bl true):=by
  refine kL so.sc so.kn.le (by rw[hl];exact so.kn.le) λs hs=>?_
  obtain⟨k,hk⟩:=List.getElem?_of_mem hs
  obtain⟨t,s1,s2,a1,a2,a3,a4,a5,a6,a7⟩:=so.at_ k s hk
  have b6:=so.kn.b6 t (List.mem_of_getElem? a1)
  refine⟨by omega,λv hv=>?_⟩
  obtain⟨r,hr⟩:=List.getElem?_of_mem hv
  have hrl:=(List.getElem?_eq_some_iff.mp hr).1
  obtain⟨g,rfl,hg⟩:=a7 r v hr
  obtain⟨n1,n2,n3⟩:=ve (s1:=s1) (s2:=s2) (t:=t) (r:=r) (by omega)
  refine⟨Int.natCast_nonneg _,?_,?_⟩
  ·show (zs (ZX s1 s2 t r)).Pairwise (· < ·)
   unfold zs
   exact List.pairwise_map.mpr (n1.imp λh=>by omega)
  ·show (zs (ZX s1 s2 t r)).length<64
   unfold zs
   rw[List.length_map,n3]
   have:=so.kn.b6 _ (List.mem_of_getElem? hg)
   omega
 have htold:zT A [wd,eM m1,eM m2]=.ok (eM x.2):=VC (t:=false) ht (by rw[if_neg (by simp)];exact hj)
 refine zJ (ρ':=rK s m1 m2 ws (.fz wd) (.fz (eM x.2)) c d) (Zi (i:=5) (ρ:=rK s m1 m2 ws (.fz wd) b c d) (ρ':=rK s m1 m2 ws (.fz wd) b c d) (zX (F:=zT A) (xs:=[wd,eM m1,eM m2]) (by rfl) htold)) ?_
 refine zJ (ρ':=rK s m1 m2 ws (.fz wd) (.fz (eM x.2)) c d) (by
  rw[yQ (ρ':=rK s m1 m2 ws (.fz wd) (.fz (eM x.2)) c d) (WM (ρ':=rK s m1 m2 ws (.fz wd) (.fz (eM x.2)) c d) (jw (b:=true) (zb (x:=.bl true) (by rfl) rfl)) (jw (b:=true) (zb (x:=.bl true) (zX (F:=ZY) (xs:=[eM x.2]) (by rfl) hc) rfl)))]
  rfl) ?_
 refine zJ (ρ':=rK s m1 m2 ws (.fz wd) (.fz (eM x.2)) c d) (Xf (zX (F:=zP A) (xs:=[eM x.2]) (by rfl) (wx hJ (Zz hJ) A))) ?_
 refine xp (x:=.lst (ws.map dS)) (ρ':=rK s m1 m2 ws (.fz wd) (.fz (eM x.2)) c d) (by rfl) (by rfl) ?_
 refine YB (λi ρ=>∃ c,ρ=rK s m1 m2 ws (.fz wd) (.fz (eM x.2)) c d) ⟨c,rfl⟩ ?_ ?_
 ·rintro i w ρ hi ⟨c,rfl⟩
  refine⟨rK s m1 m2 ws (.fz wd) (.fz (eM x.2)) (.fz (dS w)) d,rfl,?_⟩
  obtain⟨g1,g2,k1,k2,k3⟩:=VD hm1 hm2 hx hl w
  have tt:zO zQ (op2 neD (zK zR [vM 5,vM 6]) (zK yG [vM 4,zK zR [vM 1,vM 6],zK zR [vM 2,vM 6]])) (rK s m1 m2 ws (.fz wd) (.fz (eM x.2)) (.fz (dS w)) d)=.ok false (rK s m1 m2 ws (.fz wd) (.fz (eM x.2)) (.fz (dS w)) d):=
   zb (x:=.bl false) (zI (x:=.bl (due g1 g2)) (y:=.bl (due g1 g2)) (ρ1:=rK s m1 m2 ws (.fz wd) (.fz (eM x.2)) (.fz (dS w)) d) (zX (F:=zR) (xs:=[eM x.2,dS w]) (by rfl) k3)
    (zX (F:=yG) (xs:=[wd,.bl g1,.bl g2]) (zN (x:=wd) (ρ1:=rK s m1 m2 ws (.fz wd) (.fz (eM x.2)) (.fz (dS w)) d) (by rfl) (zN (ρ1:=rK s m1 m2 ws (.fz wd) (.fz (eM x.2)) (.fz (dS w)) d) (zX (F:=zR) (xs:=[eM m1,dS w]) (by rfl) k1) (zN (ρ1:=rK s m1 m2 ws (.fz wd) (.fz (eM x.2)) (.fz (dS w)) d) (zX (F:=zR) (xs:=[eM m2,dS w]) (by rfl) k2) (by rfl)))) (hw.law _ _)) (zBJ _)) rfl
  rw[yQ tt]
  exact zV (show nxM _=.ok .nx _ from rfl) ⟨_,rfl⟩
 ·rintro ρ ⟨c,rfl⟩
  exact hQ _ _ _
noncomputable def zAt:List D:=[.str "both",.str "either",.str "less",.str "odd"]
theorem KP {i:Nat}{d:D}(h:zAt[i]? = some d):∃ due,Wd d due/\Zy d false:=by
 match i,h with
 |0,h=>cases h;exact⟨_,v9,VB⟩
 |1,h=>cases h;exact⟨_,qp,kH⟩
 |2,h=>cases h;exact⟨_,kB,kG⟩
 |3,h=>cases h;exact⟨_,jF,U2⟩
 |i+4,h=>simp[zAt]at h
theorem jC {s:D}{mx:Nat->Nat}(hs:wU s mx)(ρ:Rho)(h0:ρ[0]? = some (.fz s)):∃ ws:List (List Int),op2 zl (yU (ZI Za (cM (.int 6))) 1 [0] (ZC 0) none (zK z6 [vM 1,op2 zl (cM (.int 200)) (op2 yx (cM (.int 12)) (vM 0)),cM (.int 9)])) (zK Zm [cM (.int 3)]) ρ=.ok (.lst (ws.map dS)) ρ/\ws.length=15:=by
 have hw:∀ k:Nat,∃ w:List Int,z6 [s,dn (200+12 * k),dn 9]=.ok (dS w):=λk=>by
  obtain⟨w,h,_⟩:=K4 hs (200+12 * k) 9 (by omega)
  exact⟨w,h⟩
 let wk:Nat->List Int:=λk=>Classical.choose (hw k)
 have hk:∀ k:Nat,z6 [s,dn (200+12 * k),dn 9]=.ok (dS (wk k)):=λk=>Classical.choose_spec (hw k)
 let f:D->D:=λd=>dS (wk (unI d).toNat)
 have hc:yU (ZI Za (cM (.int 6))) 1 [0] (ZC 0) none (zK z6 [vM 1,op2 zl (cM (.int 200)) (op2 yx (cM (.int 12)) (vM 0)),cM (.int 9)]) ρ=.ok (.lst ((yC 6).map f)) ρ:=by
  refine xC (caps:=[.fz s]) f (by rfl) (by simp[List.getD,h0,Vv]) (by rw[sizeLine_eq];decide) λd hd acc=>?_
  obtain⟨k,hk6,rfl⟩:=List.mem_map.mp hd
  refine zX (F:=z6) (xs:=[s,dn (200+12 * k),dn 9]) (zN (x:=s) (ρ1:=[.fz (.int k)]++[.fz s]++[.own acc]) (by rfl) (zN (x:=dn (200+12 * k)) (ρ1:=[.fz (.int k)]++[.fz s]++[.own acc]) (zI (x:=.int 200) (y:=.int (12 * (k:Int))) (ρ1:=[.fz (.int k)]++[.fz s]++[.own acc]) (by rfl) (zI (f:=yx) (x:=.int 12) (y:=.int k) (ρ1:=[.fz (.int k)]++[.fz s]++[.own acc]) (by rfl) (by rfl) (U8 _ _ (.inl (by decide)))) (by
   show some (D.int (200+12 * (k:Int)))=some (D.int ((200+12 * k:Nat):Int))
   rw[show ((200+12 * k:Nat):Int)=200+12 * (k:Int) by omega])) (by rfl))) ?_
  show z6 [s,dn (200+12 * k),dn 9]=.ok (dS (wk ((k:Int)).toNat))
  rw[Int.toNat_natCast]
  exact hk k
 refine⟨(List.range 6).map wk++wu,?_,by simp[wu]⟩
 refine zI (x:=.lst ((yC 6).map f)) (y:=.lst (wu.map dS)) hc (zX (F:=Zm) (xs:=[.int 3]) (by rfl) kK) ?_
 have e:(yC 6).map f=((List.range 6).map wk).map dS:=by
  unfold yC
  rw[List.map_map,List.map_map]
  refine List.map_congr_left λk _=>?_
  show dS (wk ((k:Int)).toNat)=dS (wk k)
  rw[Int.toNat_natCast]
 rw[e,Kc _ _ (by simp[wu]),List.map_append]
theorem law_true {A:Cls}(hA:A.Ok){s:D}{mx:Nat->Nat}(hs:wU s mx):kA A [s]=.ok (.bl true):=by
 have t1:=vR hs 0 3 (by omega) (by omega)
 have t2:=vR hs 100 3 (by omega) (by omega)
 have hm1:=qX mx 0 3 (by omega) (by omega)
 have hm2:=qX mx 100 3 (by omega) (by omega)
 have h1:=Kk mx 0
 have h2:=Kk mx 100
 generalize gM mx 0 3=m1 at *
 generalize gM mx 100 3=m2 at *
 refine ZE ?_
 refine zJ (ρ':=[.fz s,.fz (eM m1),.un,.un,.un,.un,.un,.un]) (Zi (i:=1) (ρ:=ZJ 8 [s]) (ρ':=ZJ 8 [s]) (zX (F:=ZF) (xs:=[s,dn 0,dn 3]) (by rfl) t1)) ?_
 refine zJ (ρ':=[.fz s,.fz (eM m1),.fz (eM m2),.un,.un,.un,.un,.un]) (Zi (i:=2) (ρ:=[.fz s,.fz (eM m1),.un,.un,.un,.un,.un,.un]) (ρ':=[.fz s,.fz (eM m1),.un,.un,.un,.un,.un,.un]) (zX (F:=ZF) (xs:=[s,dn 100,dn 3]) (by rfl) t2)) ?_
 obtain⟨ws,hws,hwl⟩:=jC hs [.fz s,.fz (eM m1),.fz (eM m2),.un,.un,.un,.un,.un] rfl
 refine zJ (ρ':=rK s m1 m2 ws .un .un .un .un) (Zi (i:=3) (ρ:=[.fz s,.fz (eM m1),.fz (eM m2),.un,.un,.un,.un,.un]) (ρ':=[.fz s,.fz (eM m1),.fz (eM m2),.un,.un,.un,.un,.un]) hws) ?_
 refine Z4 (λρ=>∃ a b c d,ρ=rK s m1 m2 ws a b c d) (xp (x:=.tup zAt) (ρ':=rK s m1 m2 ws .un .un .un .un) (by rfl) (by rfl) ?_) ?_
 ·refine U1 (λi ρ=>∃ a b c d,ρ=rK s m1 m2 ws a b c d) ⟨_,_,_,_,rfl⟩ ?_ λρ h=>⟨rfl,h⟩
  rintro i d ρ hi ⟨a,b,c,e,rfl⟩
  obtain⟨due,hw,ht⟩:=KP hi
  exact⟨rK s m1 m2 ws (.fz d) b c e,rfl,qt h1 h2 hm1 hm2 hw ht λb c d=>⟨_,_,_,_,rfl⟩⟩
 rintro ρ ⟨a,b,c,d,rfl⟩
 refine zJ (ρ':=rK s m1 m2 ws a (.fz (eM (ZO m1))) c d) (Zi (i:=5) (ρ:=rK s m1 m2 ws a b c d) (ρ':=rK s m1 m2 ws a b c d) (zX (F:=zT A) (xs:=[.str "turn",eM m1,eM m2]) (by rfl) (VC (t:=true) jH (by rw[if_pos rfl];exact jM hm1 A)))) ?_
 have c1:yU (ZI yB (vM 3)) 1 [5] (ZC 0) none (zK zR [vM 1,vM 0]) (rK s m1 m2 ws a (.fz (eM (ZO m1))) c d)=.ok (.lst ((ws.map dS).map λx=>.bl (!tk m1 (unS x)))) (rK s m1 m2 ws a (.fz (eM (ZO m1))) c d):=by
  refine xC (caps:=[.fz (eM (ZO m1))]) (λx=>.bl (!tk m1 (unS x))) (by rfl) (by rfl) (by rw[List.length_map,hwl,sizeLine_eq];decide) λx hx acc=>?_
  obtain⟨w,_,rfl⟩:=List.mem_map.mp hx
  refine zX (F:=zR) (xs:=[eM (ZO m1),dS w]) (by rfl) ?_
  rw[zA7 (Qm hm1),kJ hm1,jG]
 have c2:yU (ZI yB (vM 3)) 1 [1] (ZC 0) none (WQ (zK zR [vM 1,vM 0])) (rK s m1 m2 ws a (.fz (eM (ZO m1))) c d)=.ok (.lst ((ws.map dS).map λx=>.bl (!tk m1 (unS x)))) (rK s m1 m2 ws a (.fz (eM (ZO m1))) c d):=by
  refine xC (caps:=[.fz (eM m1)]) (λx=>.bl (!tk m1 (unS x))) (by rfl) (by rfl) (by rw[List.length_map,hwl,sizeLine_eq];decide) λx hx acc=>?_
  obtain⟨w,_,rfl⟩:=List.mem_map.mp hx
  have e:=zX (F:=zR) (as:=[vM 1,vM 0]) (xs:=[eM m1,dS w]) (ρ:=[.fz (dS w)]++[.fz (eM m1)]++[.own acc]) (ρ':=[.fz (dS w)]++[.fz (eM m1)]++[.own acc]) (by rfl) (zA7 hm1 w)
  unfold WQ
  rw[e,jG]
  rfl
 have eb:((ws.map dS).map λx=>D.bl (!tk m1 (unS x)))=((ws.map dS).map λx=>!tk m1 (unS x)).map .bl:=by simp only[List.map_map];rfl
 refine zJ (ρ':=rK s m1 m2 ws a (.fz (eM (ZO m1))) c d) (by
  rw[yQ (ρ':=rK s m1 m2 ws a (.fz (eM (ZO m1))) c d) (zb (x:=.bl false) (zI (f:=neD) c1 c2 (by rw[eb];exact zAe _)) rfl)]
  rfl) ?_
 refine zJ (ρ':=rK s m1 m2 ws a (.fz (eM (ZO m1))) c (.fz (eM yH))) (by rfl) ?_
 refine zJ (ρ':=rK s m1 m2 ws a (.fz (.lst [.str "word",.str "machine",.str "machine"])) c (.fz (eM yH))) (Zi (i:=5) (ρ:=rK s m1 m2 ws a (.fz (eM (ZO m1))) c (.fz (eM yH))) (ρ':=rK s m1 m2 ws a (.fz (eM (ZO m1))) c (.fz (eM yH))) (by
  unfold lstM
  rw[zN (ρ1:=rK s m1 m2 ws a (.fz (eM (ZO m1))) c (.fz (eM yH))) (zX (F:=zT A) (xs:=[.str "and",eM yH,eM yH]) (by rfl) (jK hA)) (zN (ρ1:=rK s m1 m2 ws a (.fz (eM (ZO m1))) c (.fz (eM yH))) (zX (F:=zT A) (xs:=[.str "odd",eM m1,eM yH]) (by rfl) (jJ hA hm1)) (zN (ρ1:=rK s m1 m2 ws a (.fz (eM (ZO m1))) c (.fz (eM yH))) (zX (F:=zT A) (xs:=[.str "turn",eM yH,eM m1]) (by rfl) (qw hA m1)) (show zm [] _=.ok [] _ from rfl))),Res.bnd_ok]
  rfl)) ?_
 refine zJ (ρ':=rK s m1 m2 ws a (.fz (.lst [.str "word",.str "machine",.str "machine"])) c (.fz (eM yH))) (by
  rw[yQ (ρ':=rK s m1 m2 ws a (.fz (.lst [.str "word",.str "machine",.str "machine"])) c (.fz (eM yH))) (zb (x:=.bl false) (zI (f:=neD) (x:=.lst [.str "word",.str "machine",.str "machine"]) (y:=.lst [.str "word",.str "machine",.str "machine"]) (by rfl) (by rfl) (by with_unfolding_all rfl)) rfl)]
  rfl) ?_
 exact zV (Zx (x:=.bl true) (zX (F:=yZ A) (xs:=[]) (by rfl) (K8 hA))) rfl
end
end PM
set_option maxHeartbeats 4000000
namespace PM.K10
open PySem PySem.Spec PyProof.Rows L2 PM
noncomputable def top (i:Nat):Stmt:=PySem.Challenge.pw_boxword_k10_whole_joined.main.body.getD i (.Pass ⟨0,0,0,0⟩)
structure Txt (K:PySem.W.Frag)(mg:Str->Option Value)(A:Cls):Prop extends ErrT K mg A where
 b_ValueError:mg "ValueError" = none
 b_enumerate:mg "enumerate" = none
 b_int:mg "int" = none
 b_isinstance:mg "isinstance" = none
 b_len:mg "len" = none
 b_list:mg "list" = none
 b_max:mg "max" = none
 b_min:mg "min" = none
 b_range:mg "range" = none
 b_set:mg "set" = none
 b_sorted:mg "sorted" = none
 b_tuple:mg "tuple" = none
 g_MOST_BOXES:∃ t,mg "MOST_BOXES" = some (.int 6 t)
 g_MOST_STATES:∃ t,mg "MOST_STATES" = some (.int 400 t)
 g_FIRST_TRIPLE:Kf K mg "FIRST_TRIPLE" (.tup [.int 0,.int 0,(.tup [])])
 g_JOINING_WORDS:Kf K mg "JOINING_WORDS" (.tup [.str "both",.str "either",.str "less",.str "odd"])
end PM.K10
set_option maxHeartbeats 4000000
namespace PM.K10
open PySem PySem.Spec PyProof.Rows L2 PM
variable {P:Program}{w:World}{K:PySem.W.Frag}{mg:Str->Option Value}{base:Heap}{A:Cls}
theorem XF:FnScope ["machine","move","letters","target","sources","source"] ["machine","move","letters"] (defScope (top 11)):=⟨rfl,rfl,rfl,by decide +kernel,rfl,by decide +kernel,by decide +kernel⟩
theorem VT {f:Addr}{fd:FuncData}(F:Fun K "look_move" "look_move" (top 11) f fd)(T:Txt K mg A)  : FnOk P w K mg base (CX1 P w) 1 f fd ["machine","move","letters"] (spM K 3 (yF A)):=by
 refine zn F XF rfl (by decide) λcdv A' outer s H E hr=>?_
 have nd:=XF.nd
 exact zC (zf 3 nd (zZ (zA 1) (zE)))
  (zC (zf 4 nd (zZ (zA 1) (zE)))
  (zC (ZQ (MW.mt (WT (zc op_lt Xt (zA 3) (zE) (nomark _)) (xf (zc op_ge VR (zA 3) (ZB call_len_seq Zs rfl T.b_len PySem.boot_len (zB (zA 0) (zD))) (nomark _))))) (zF (yJ T.e_BadMachine T.c_BadMachine)) (zh))
  (zC (ZQ (zc (Z6 hr) Z5 (ZB call_len_seq Zs rfl T.b_len PySem.boot_len (zB (zA 4) (zD))) (zZ (zZ (zA 0) (zA 3)) (zE)) (nomark _)) (zF (yJ T.e_BadMachine T.c_BadMachine)) (zh))
  (zC (ZQ (zc (Z6 hr) Z5 (QV T.b_len T.b_set (zA 4)) (ZB call_len_seq Zs rfl T.b_len PySem.boot_len (zB (zA 4) (zD))) (nomark _)) (zF (yJ T.e_BadMachine T.c_BadMachine)) (zh))
  (zF (qL yv rfl (zA 4) (ZK 5 nd) (zF (ZQ (MW.mt (WT (zc op_lt Xt (zA 5) (zE) (nomark _)) (xf (zc op_ge VR (zA 5) (zA 2) (nomark _))))) (zF (yJ T.e_BadMachine T.c_BadMachine)) (zh)))))))))
end PM.K10
set_option maxHeartbeats 4000000
namespace PM.K10
open PySem PySem.Spec PyProof.Rows L2 PM
variable {P:Program}{w:World}{K:PySem.W.Frag}{mg:Str->Option Value}{base:Heap}{A:Cls}
theorem vX:FnScope ["word","in_one","in_other"] ["word","in_one","in_other"] (defScope (top 17)):=⟨rfl,rfl,rfl,by decide +kernel,rfl,by decide +kernel,by decide +kernel⟩
theorem QK {f:Addr}{fd:FuncData}(F:Fun K "is_due" "is_due" (top 17) f fd)(T:Txt K mg A)  : FnOk P w K mg base (CX1 P w) 1 f fd ["word","in_one","in_other"] (spM K 3 YA):=by
 refine zn F vX rfl (by decide) λcdv A' outer s H E hr=>?_
 have nd:=vX.nd
 exact zC (ZQ (zc (yj hr) yi (zA 0) (z5) (nomark _)) (zF (ze (WY (zA 1) (xi (zA 2))))) (zh))
  (zC (ZQ (zc (yj hr) yi (zA 0) (z5) (nomark _)) (zF (ze (Kt (zA 1) (xi (zA 2))))) (zh))
  (zC (ZQ (zc (yj hr) yi (zA 0) (z5) (nomark _)) (zF (ze (WY (zA 1) (xi (Vc (zA 2)))))) (zh))
  (zF (ze (Xy (Z6 hr) Z5 (zA 1) (zA 2) (nomark _))))))
end PM.K10
set_option maxHeartbeats 4000000
namespace PM.K10
open PySem PySem.Spec PyProof.Rows L2 PM
variable {P:Program}{w:World}{K:PySem.W.Frag}{mg:Str->Option Value}{base:Heap}{A:Cls}
theorem XE:FnScope ["triple","triples","numbers"] ["triple","triples","numbers"] (defScope (top 18)):=⟨rfl,rfl,rfl,by decide +kernel,rfl,by decide +kernel,by decide +kernel⟩
theorem VS {f:Addr}{fd:FuncData}(F:Fun K "number_of" "number_of" (top 18) f fd)(T:Txt K mg A)  : FnOk P w K mg base (CX1 P w) 1 f fd ["triple","triples","numbers"] (spN K (z8 A)):=by
 refine Kg F XE rfl (by decide) λcdv A' outer s H E hr=>?_
 have nd:=XE.nd
 exact XT (JE (JA hr (zA 0) 2) (XT (JE (zc op_ge VR (yL 1 T.b_len) (wj rfl T.g_MOST_STATES) (nomark _)) (we (uZ T.e_TooMany T.c_TooMany)) (Vb))
  (XT (JE (zc op_gt UT (ZB call_len_seq Zs rfl T.b_len PySem.boot_len (zB (zZ (zA 0) (zE)) (zD))) (wj rfl T.g_MOST_BOXES) (nomark _)) (we (uZ T.e_TooMany T.c_TooMany)) (Vb))
  (XT (KB hr 2 (zA 0) (yL 1 T.b_len))
  (we (zAh 1 (zA 0)))))) (Vb))
  (we (zAg (KI hr 2 (zA 0))))
end PM.K10
set_option maxHeartbeats 4000000
namespace PM.K10
open PySem PySem.Spec PyProof.Rows L2 PM
variable {P:Program}{w:World}{K:PySem.W.Frag}{mg:Str->Option Value}{base:Heap}{A:Cls}
theorem w8:FnScope ["state","box"] ["state","box"] (defScope (top 20)):=⟨rfl,rfl,rfl,by decide +kernel,rfl,by decide +kernel,by decide +kernel⟩
theorem UU {f:Addr}{fd:FuncData}(F:Fun K "read_as" "read_as" (top 20) f fd)(T:Txt K mg A)  : FnOk P w K mg base (CX1 P w) 1 f fd ["state","box"] (spM K 2 yE):=by
 refine zn F w8 rfl (by decide) λcdv A' outer s H E hr=>?_
 have nd:=w8.nd
 exact zC (ZQ (zc op_isN US (zA 1) (YO) (nomark _)) (zF (ze (zZ (zA 0) (zE)))) (zh))
  (zF (ze (zA 1)))
end PM.K10
set_option maxHeartbeats 4000000
namespace PM.K10
open PySem PySem.Spec PyProof.Rows L2 PM
variable {P:Program}{w:World}{K:PySem.W.Frag}{mg:Str->Option Value}{base:Heap}{A:Cls}
theorem wM:FnScope ["move","source"] ["move","source"] (defScope (top 21)):=⟨rfl,rfl,rfl,by decide +kernel,rfl,by decide +kernel,by decide +kernel⟩
theorem uT {f:Addr}{fd:FuncData}(F:Fun K "box_from" "box_from" (top 21) f fd)(T:Txt K mg A)  : FnOk P w K mg base (CX1 P w) 1 f fd ["move","source"] (spM K 2 Zn):=by
 refine zn F wM rfl (by decide) λcdv A' outer s H E hr=>?_
 have nd:=wM.nd
 exact zC (ZQ (zc (zAc hr) zAb (zA 1) (zZ (zA 0) (zE)) (by with_unfolding_all rfl)) (zF (ze (QW hr (zZ (zA 0) (zE)) (zA 1)))) (zh))
  (zF (ze (YO)))
end PM.K10
set_option maxHeartbeats 4000000
namespace PM.K10
open PySem PySem.Spec PyProof.Rows L2 PM
variable {P:Program}{w:World}{K:PySem.W.Frag}{mg:Str->Option Value}{base:Heap}{A:Cls}
theorem wL:FnScope ["_law_script","_law_k"] ["_law_script","_law_k"] (defScope (top 23)):=⟨rfl,rfl,rfl,by decide +kernel,rfl,by decide +kernel,by decide +kernel⟩
theorem uS {f:Addr}{fd:FuncData}(F:Fun K "_law_cell" "_law_cell" (top 23) f fd)(T:Txt K mg A)  : FnOk P w K mg base (CX1 P w) 1 f fd ["_law_script","_law_k"] (spM K 2 y9):=by
 refine zn F wL rfl (by decide) λcdv A' outer s H E hr=>?_
 have nd:=wL.nd
 exact zC (ZQ (VZ (zA 0)) (zF (ze (zZ (zA 0) (Z8 (zA 1) (ZB call_len_seq Zs rfl T.b_len PySem.boot_len (zB (zA 0) (zD))))))) (zh))
  (zF (ze (zE)))
end PM.K10
set_option maxHeartbeats 4000000
namespace PM.K10
open PySem PySem.Spec PyProof.Rows L2 PM
variable {P:Program}{w:World}{K:PySem.W.Frag}{mg:Str->Option Value}{base:Heap}{A:Cls}
theorem wK:FnScope ["_law_machine_here","_law_state","_law_held","_law_letter","_law_good","_law_boxes","_law_moves","_law_goal","_law_sources_here","_law_box"] ["_law_machine_here","_law_state","_law_held","_law_letter"] (defScope (top 28)):=⟨rfl,rfl,rfl,by decide +kernel,rfl,by decide +kernel,by decide +kernel⟩
theorem uR {f:Addr}{fd:FuncData}(F:Fun K "_law_come" "_law_come" (top 28) f fd)(T:Txt K mg A)  : FnOk P w K mg base (CX1 P w) 1 f fd ["_law_machine_here","_law_state","_law_held","_law_letter"] (spM K 4 y8):=by
 refine zn F wK rfl (by decide) λcdv A' outer s H E hr=>?_
 have nd:=wK.nd
 exact zC (Va (zZ (zA 0) (zA 1)) (xg rfl (ZA 4 nd (ZA 5 nd (ZA 6 nd (Ym)))) rfl))
  (zC (Va (zZ (zA 6) (zA 5)) (xg rfl (ZA 7 nd (ZA 8 nd (Ym))) rfl))
  (zC (yb yv rfl T.b_range (zA 5) (ZK 9 nd) (zF (ZQ (zc (yj hr) yi (zZ (zA 2) (zA 9)) (zA 3) (nomark _)) (zF (Va (zZ (zA 6) (zA 9)) (xg rfl (ZA 7 nd (ZA 8 nd (Ym))) rfl))) (zh))))
  (zF (ze (ZL (zB (zA 7) (zB (Yn (nt:=1) (N':=["_law_source","_law_held","_law_letter","_law_boxes","!acc"]) (idx:=[2,3,5]) rfl (Ys (osc:=defScope (top 28)) (L:=s.heap.objs.size) (N:=["_law_machine_here","_law_state","_law_held","_law_letter","_law_good","_law_boxes","_law_moves","_law_goal","_law_sources_here","_law_box"]) rfl rfl rfl rfl (by decide +kernel) (by decide +kernel) (by decide +kernel) rfl (by decide +kernel) (by decide +kernel)) (zAk (zA 8)) (by show ∀ i ∈ ([2,3,5]:List Nat),i<10;decide) (λ_ _ _ _ _=>ye 0 1 (by decide) (by show (["_law_source","_law_held","_law_letter","_law_boxes","!acc"]:List Str).Nodup;decide +kernel)) (λ_ _ _ _ _=>.inl ⟨rfl,rfl⟩) (λ_ _ _ _ _=>WV (zc (yj hr) yi (zA 0) (zA 3) (nomark _)) (zA 2) (zZ (zA 1) (zA 0)))) (zD))))))))
end PM.K10
set_option maxHeartbeats 4000000
namespace PM.K10
open PySem PySem.Spec PyProof.Rows L2 PM
variable {P:Program}{w:World}{K:PySem.W.Frag}{mg:Str->Option Value}{base:Heap}{A:Cls}
theorem XG:FnScope ["_law_long","_law_rows","_law_k","_law_later","_law_word_here","_law_found","_law_row"] ["_law_long"] (defScope (top 30)):=⟨rfl,rfl,rfl,by decide +kernel,rfl,by decide +kernel,by decide +kernel⟩
theorem VU {f:Addr}{fd:FuncData}(F:Fun K "_law_words" "_law_words" (top 30) f fd)(T:Txt K mg A)  : FnOk P w K mg base (CX1 P w) 1 f fd ["_law_long"] (spM K 1 Zm):=by
 refine zn F XG rfl (by decide) λcdv A' outer s H E hr=>?_
 have nd:=XG.nd
 exact zC (Z7 1 nd (zB (Zk (zB (Zk (zD)) (zD))) (zD)))
  (zC (yb yv rfl T.b_range (zA 0) (ZK 2 nd) (zC (zf 3 nd (Zk (zD)))
  (zC (YG yv rfl (xk 1 (Vd zE)) (ZK 4 nd) (zF (zf 3 nd (zk (zA 3) (Yn (nt:=1) (N':=["_law_letter","_law_word_here","!acc"]) (idx:=[4]) rfl (Ys (osc:=defScope (top 30)) (L:=s.heap.objs.size) (N:=["_law_long","_law_rows","_law_k","_law_later","_law_word_here","_law_found","_law_row"]) rfl rfl rfl rfl (by decide +kernel) (by decide +kernel) (by decide +kernel) rfl (by decide +kernel) (by decide +kernel)) (XV T.b_range (zk (KG T.b_max (zB (zk (Zk (zB (Vd zE) (zD))) (zA 4)) (zD))) (zE))) (by show ∀ i ∈ ([4]:List Nat),i<7;decide) (λ_ _ _ _ _=>ye 0 1 (by decide) (by show (["_law_letter","_law_word_here","!acc"]:List Str).Nodup;decide +kernel)) (λ_ _ _ _ _=>.inl ⟨rfl,rfl⟩) (λ_ _ _ _ _=>zk (zA 1) (Zk (zB (zA 0) (zD)))))))))
  (zF (yK 1 (zA 3))))))
  (zC (zf 5 nd (Zk (zD)))
  (Zp 1 (zC (YG yv rfl (zA 1) (ZK 6 nd) (zF (zf 5 nd (zk (zA 5) (zA 6)))))
  (zF (ze (zA 5)))))))
end PM.K10
set_option maxHeartbeats 4000000
namespace PM.K10
open PySem PySem.Spec PyProof.Rows L2 PM
variable {P:Program}{w:World}{K:PySem.W.Frag}{mg:Str->Option Value}{base:Heap}{A:Cls}
theorem Y3:FnScope ["_law_kept","_law_kinds"] ["_law_kept"] (defScope (top 31)):=⟨rfl,rfl,rfl,by decide +kernel,rfl,by decide +kernel,by decide +kernel⟩
theorem WO {f:Addr}{fd:FuncData}(F:Fun K "_law_refusal" "_law_refusal" (top 31) f fd)(T:Txt K mg A)  : FnOk P w K mg base (CX1 P w) 1 f fd ["_law_kept"] (spM K 1 (zv A)):=by
 refine zn F Y3 rfl (by decide) λcdv A' outer s H E hr=>?_
 have nd:=Y3.nd
 exact zC (ZQ (zc op_isN US (zA 0) (YO) (nomark _)) (zF (ze (z5))) (zh))
  (zC (Z7 1 nd (zB (XY T.b_isinstance T.c_BadMachine T.i_BadMachine (zA 0)) (zB (XY T.b_isinstance T.c_BadText T.i_BadText (zA 0)) (zB (XY T.b_isinstance T.c_BadWord T.i_BadWord (zA 0)) (zD)))))
  (zC (yK 1 (XY T.b_isinstance T.c_TooMany T.i_TooMany (zA 0)))
  (zC (ZQ (MW.mt (WT (zc (Z6 hr) Z5 (QY hr 1 (Yv)) (zE) (nomark _)) (xf (UX (VZ (UY T.b_isinstance T.b_ValueError (by with_unfolding_all rfl) T.i_VE (zA 0))))))) (zF (ze (z5))) (zh))
  (zF (ze (zZ (Zk (zB (z5) (zB (z5) (zB (z5) (zB (z5) (zD)))))) (QX hr 1 (Yv))))))))
end PM.K10
set_option maxHeartbeats 4000000
namespace PM.K10
open PySem PySem.Spec PyProof.Rows L2 PM
variable {P:Program}{w:World}{K:PySem.W.Frag}{mg:Str->Option Value}{base:Heap}{A:Cls}
theorem WA:FnScope ["_law_word_here","_law_one","_law_other"] ["_law_word_here","_law_one","_law_other"] (defScope (top 32)):=⟨rfl,rfl,rfl,by decide +kernel,rfl,by decide +kernel,by decide +kernel⟩
theorem UW {f:Addr}{fd:FuncData}(F:Fun K "_law_due" "_law_due" (top 32) f fd)(T:Txt K mg A)  : FnOk P w K mg base (CX1 P w) 1 f fd ["_law_word_here","_law_one","_law_other"] (spM K 3 yG):=by
 refine zn F WA rfl (by decide) λcdv A' outer s H E hr=>?_
 have nd:=WA.nd
 exact zC (ZQ (zc (yj hr) yi (zA 0) (z5) (nomark _)) (zF (ze (WY (zA 1) (xi (zA 2))))) (zh))
  (zC (ZQ (zc (yj hr) yi (zA 0) (z5) (nomark _)) (zF (ze (Kt (zA 1) (xi (zA 2))))) (zh))
  (zF (ze (WV (zc (yj hr) yi (zA 0) (z5) (nomark _)) (WY (zA 1) (xi (Vc (zA 2)))) (Xy (Z6 hr) Z5 (zA 1) (zA 2) (nomark _))))))
end PM.K10
set_option maxHeartbeats 4000000
namespace PM.K10
open PySem PySem.Spec PyProof.Rows L2 PM
variable {P:Program}{w:World}{K:PySem.W.Frag}{mg:Str->Option Value}{base:Heap}{A:Cls}
theorem xZ:FnScope ["_law_boxes","_law_found","_law_k","_law_moves","_law_goal"] ["_law_boxes"] (defScope (top 34)):=⟨rfl,rfl,rfl,by decide +kernel,rfl,by decide +kernel,by decide +kernel⟩
theorem vF {f:Addr}{fd:FuncData}(F:Fun K "_law_filled" "_law_filled" (top 34) f fd)(T:Txt K mg A)  : FnOk P w K mg base (CX1 P w) 1 f fd ["_law_boxes"] (spM K 1 zo):=by
 refine zn F xZ rfl (by decide) λcdv A' outer s H E hr=>?_
 have nd:=xZ.nd
 exact zC (Z7 1 nd (zD))
  (zC (yb yv rfl T.b_range (zk (zA 0) (zE)) (ZK 2 nd) (zC (qM false 3 (nt:=1) (N':=["_law_case","_law_k","!acc"]) (idx:=[2]) nd rfl (Ys (osc:=defScope (top 34)) (L:=s.heap.objs.size) (N:=["_law_boxes","_law_found","_law_k","_law_moves","_law_goal"]) rfl rfl rfl rfl (by decide +kernel) (by decide +kernel) (by decide +kernel) rfl (by decide +kernel) (by decide +kernel)) (XV T.b_range (zA 2)) (by show ∀ i ∈ ([2]:List Nat),i<5;decide) (λ_ _ _ _ _=>ye 0 1 (by decide) (by show (["_law_case","_law_k","!acc"]:List Str).Nodup;decide +kernel)) (λ_ _ _ _ _=>.inl ⟨rfl,rfl⟩) (λ_ _ _ _ _=>ZL (zB (zA 1) (zB (vn T.b_tuple T.b_range (zA 1)) (zD)))))
  (zC (zf 4 nd (zAm T.b_min (zB (zk (zA 2) (zE)) (zB (zA 0) (zD)))))
  (zF (yK 1 (ZL (zB (Xy (yj hr) yi (zA 2) (zA 0) (nomark _)) (zB (zA 2) (zB (zk (zA 3) (Zk (zB (ZL (zB (zA 4) (zB (vn T.b_tuple T.b_range (zA 4)) (zD)))) (zD)))) (zD))))))))))
  (Zp 1 (zF (ze (zA 1)))))
end PM.K10
set_option maxHeartbeats 4000000
namespace PM.K10
open PySem PySem.Spec PyProof.Rows L2 PM
variable {P:Program}{w:World}{K:PySem.W.Frag}{mg:Str->Option Value}{base:Heap}{A:Cls}
theorem XI:FnScope ["_law_machine_here","_law_some","_law_state","_law_goal","_law_sources_here"] ["_law_machine_here"] (defScope (top 35)):=⟨rfl,rfl,rfl,by decide +kernel,rfl,by decide +kernel,by decide +kernel⟩
theorem VW {f:Addr}{fd:FuncData}(F:Fun K "_law_canon" "_law_canon" (top 35) f fd)(T:Txt K mg A)  : FnOk P w K mg base (CX1 P w) 1 f fd ["_law_machine_here"] (spM K 1 ZY):=by
 refine zn F XI rfl (by decide) λcdv A' outer s H E hr=>?_
 have nd:=XI.nd
 exact zC (Z7 1 nd (zB (zE) (zD)))
  (zC (yb yv rfl T.b_range (ZB call_len_seq Zs rfl T.b_len PySem.boot_len (zB (zA 0) (zD))) (ZK 2 nd) (zC (ZQ (zc op_ge VR (zA 2) (yL 1 T.b_len) (nomark _)) (zF (ze (Yv))) (zh))
  (zF (YG yv rfl (zZ (zZ (zA 0) (zA 2)) (zE)) (xg rfl (ZA 3 nd (ZA 4 nd (Ym))) rfl) (zC (ZQ (QP hr (zA 3) 1) (zC (ZQ (MW.mt (WT (zc (Z6 hr) Z5 (zA 3) (yL 1 T.b_len) (nomark _)) (xf (zc (Z6 hr) Z5 (XX T.b_list (zB (zA 4) (zD))) (qO T.b_sorted (zB (zA 4) (zD))) (nomark _))))) (zF (ze (Yv))) (zh))
  (zF (yK 1 (zA 3)))) (zh))
  (zF (ZQ (zc (Z6 hr) Z5 (XX T.b_list (zB (zA 4) (zD))) (qO T.b_sorted (zB (zA 4) (zD))) (nomark _)) (zF (ze (Yv))) (zh))))))))
  (zF (ze (Yv))))
end PM.K10
set_option maxHeartbeats 4000000
namespace PM.K10
open PySem PySem.Spec PyProof.Rows L2 PM
variable {P:Program}{w:World}{K:PySem.W.Frag}{mg:Str->Option Value}{base:Heap}{A:Cls}
theorem wJ:FnScope ["_law_machine_here","_law_many","_law_k","_law_later","_law_good","_law_boxes","_law_moves"] ["_law_machine_here","_law_many"] (defScope (top 36)):=⟨rfl,rfl,rfl,by decide +kernel,rfl,by decide +kernel,by decide +kernel⟩
theorem uQ {f:Addr}{fd:FuncData}(F:Fun K "_law_late" "_law_late" (top 36) f fd)(T:Txt K mg A)  : FnOk P w K mg base (CX1 P w) 1 f fd ["_law_machine_here","_law_many"] (spM K 2 ya):=by
 refine zn F wJ rfl (by decide) λcdv A' outer s H E hr=>?_
 have nd:=wJ.nd
 exact zC (yb yv rfl T.b_range (zA 1) (ZK 2 nd) (zC (Z7 3 nd (zB (ZL (zB (Yv) (zB (zE) (zB (Zk (zB (ZL (zB (zE) (zB (ZL (zD)) (zD)))) (zD))) (zD))))) (zD)))
  (zC (YG yv rfl (zA 0) (xg rfl (ZA 4 nd (ZA 5 nd (ZA 6 nd (Ym)))) rfl) (zF (yK 3 (ZL (zB (zA 4) (zB (zA 5) (zB (Yn (nt:=2) (N':=["_law_goal","_law_sources_here","!acc"]) (idx:=[]) rfl (Ys (osc:=defScope (top 36)) (L:=s.heap.objs.size) (N:=["_law_machine_here","_law_many","_law_k","_law_later","_law_good","_law_boxes","_law_moves"]) rfl rfl rfl rfl (by decide +kernel) (by decide +kernel) (by decide +kernel) rfl (by decide +kernel) (by decide +kernel)) (wf (zA 6)) (by show ∀ i ∈ ([]:List Nat),i<7;decide) (λ_ _ _ _ _=>KE 2 rfl (vk 0 2 (by decide) (by show (["_law_goal","_law_sources_here","!acc"]:List Str).Nodup;decide +kernel) (vk 1 2 (by decide) (by show (["_law_goal","_law_sources_here","!acc"]:List Str).Nodup;decide +kernel) (JF 2))) rfl) (λ_ _ _ _ _=>.inl ⟨rfl,rfl⟩) (λ_ _ _ _ _=>ZL (zB (zk (zA 0) (zE)) (zB (zA 1) (zD))))) (zD))))))))
  (Zp 3 (zF (zf 0 nd (zA 3)))))))
  (zF (ze (zA 0)))
end PM.K10
set_option maxHeartbeats 4000000
namespace PM.K10
open PySem PySem.Spec PyProof.Rows L2 PM
variable {P:Program}{w:World}{K:PySem.W.Frag}{mg:Str->Option Value}{base:Heap}{A:Cls}
theorem xY:FnScope ["machine","state","boxes","moves","move"] ["machine","state"] (defScope (top 10)):=⟨rfl,rfl,rfl,by decide +kernel,rfl,by decide +kernel,by decide +kernel⟩
theorem vE {f:Addr}{fd:FuncData}(F:Fun K "look_state" "look_state" (top 10) f fd)(T:Txt K mg A)(G_look_move:Fk P w K mg base 1 "look_move" ["machine","move","letters"] 3 (yF A)):FnOk P w K mg base (CX1 P w) 2 f fd ["machine","state"] (spM K 2 (yO A)):=by
 refine zn F xY rfl (by decide) λcdv A' outer s H E hr=>?_
 have nd:=xY.nd
 exact zC (zf 2 nd (zZ (zA 1) (zE)))
  (zC (zf 3 nd (zZ (zA 1) (zE)))
  (zC (ZQ (MW.mt (WT (zc op_lt Xt (zA 2) (zE) (nomark _)) (xf (zc op_gt UT (zA 2) (wj rfl T.g_MOST_BOXES) (nomark _))))) (zF (yJ T.e_BadMachine T.c_BadMachine)) (zh))
  (zC (ZQ (zc (Z6 hr) Z5 (ZB call_len_seq Zs rfl T.b_len PySem.boot_len (zB (zA 3) (zD))) (zk (zA 2) (zE)) (nomark _)) (zF (yJ T.e_BadMachine T.c_BadMachine)) (zh))
  (zC (YG yv rfl (JI (zA 3) KD (KC (zA 2))) (ZK 4 nd) (zF (Yl (zH G_look_move (hr.mono (by decide)) zS (zB (zA 0) (zB (zA 4) (zB (zA 2) (zD))))))))
  (zF (Yl (zH G_look_move (hr.mono (by decide)) zS (zB (zA 0) (zB (zZ (zA 3) (zA 2)) (zB (zk (zA 2) (zE)) (zD)))))))))))
end PM.K10
set_option maxHeartbeats 4000000
namespace PM.K10
open PySem PySem.Spec PyProof.Rows L2 PM
variable {P:Program}{w:World}{K:PySem.W.Frag}{mg:Str->Option Value}{base:Heap}{A:Cls}
theorem vY:FnScope ["one","other","triple","read","first","second","letters","first_move","second_move","pairs","sources","number","letter","pair"] ["one","other","triple","read"] (defScope (top 19)):=⟨rfl,rfl,rfl,by decide +kernel,rfl,by decide +kernel,by decide +kernel⟩
theorem QL {f:Addr}{fd:FuncData}(F:Fun K "behind" "behind" (top 19) f fd)(T:Txt K mg A)(G_read_as:Fk P w K mg base 1 "read_as" ["state","box"] 2 yE)(G_box_from:Fk P w K mg base 1 "box_from" ["move","source"] 2 Zn):FnOk P w K mg base (CX1 P w) 2 f fd ["one","other","triple","read"] (spM K 4 yP):=by
 refine zn F vY rfl (by decide) λcdv A' outer s H E hr=>?_
 have nd:=vY.nd
 exact zC (zf 4 nd (zZ (zA 0) (zZ (zA 2) (zE))))
  (zC (zf 5 nd (zZ (zA 1) (zZ (zA 2) (zE))))
  (zC (QU 6 nd (XX T.b_list (zB (zZ (zA 2) (zE)) (zD))) (Zk (zB (ZL (zB (YO) (zB (YO) (zD)))) (zD))))
  (zC (JB 6 (zA 3) (ZL (zB (zH G_read_as (hr.mono (by decide)) zS (zB (zA 4) (zB (zZ (xk 6 (zA 3)) (zE)) (zD)))) (zB (zH G_read_as (hr.mono (by decide)) zS (zB (zA 5) (zB (zZ (xk 6 (zA 3)) (zE)) (zD)))) (zD)))))
  (zC (zf 7 nd (zZ (zZ (zA 4) (zE)) (zZ (xk 6 (zA 3)) (zE))))
  (zC (zf 8 nd (zZ (zZ (zA 5) (zE)) (zZ (xk 6 (zA 3)) (zE))))
  (zC (Z7 9 nd (zD))
  (zC (Z7 10 nd (zD))
  (Zp 6 (zC (JC yv rfl T.b_enumerate (zA 6) (xg rfl (ZA 11 nd (ZA 12 nd (Ym))) rfl) (zC (zf 13 nd (ZL (zB (zH G_box_from (hr.mono (by decide)) zS (zB (zA 7) (zB (zZ (zA 12) (zE)) (zD)))) (zB (zH G_box_from (hr.mono (by decide)) zS (zB (zA 8) (zB (zZ (zA 12) (zE)) (zD)))) (zD)))))
  (zF (ZQ (zc (Z6 hr) Z5 (zA 13) (ZL (zB (YO) (zB (YO) (zD)))) (nomark _)) (zC (yK 9 (zA 13))
  (zF (yK 10 (zA 11)))) (zh)))))
  (Zp 9 (Zp 10 (zF (ze (ZL (zB (ZL (zB (zZ (zA 7) (zE)) (zB (zZ (zA 8) (zE)) (zB (Xx T.b_tuple (zB (zA 9) (zD))) (zD))))) (zB (Xx T.b_tuple (zB (zA 10) (zD))) (zD)))))))))))))))))
end PM.K10
set_option maxHeartbeats 4000000
namespace PM.K10
open PySem PySem.Spec PyProof.Rows L2 PM
variable {P:Program}{w:World}{K:PySem.W.Frag}{mg:Str->Option Value}{base:Heap}{A:Cls}
theorem w9:FnScope ["_law_script","_law_k","_law_number"] ["_law_script","_law_k"] (defScope (top 24)):=⟨rfl,rfl,rfl,by decide +kernel,rfl,by decide +kernel,by decide +kernel⟩
theorem UV {f:Addr}{fd:FuncData}(F:Fun K "_law_mix" "_law_mix" (top 24) f fd)(T:Txt K mg A)(G_law_cell:Fk P w K mg base 1 "_law_cell" ["_law_script","_law_k"] 2 y9):FnOk P w K mg base (CX1 P w) 2 f fd ["_law_script","_law_k"] (spM K 2 zW):=by
 refine zn F w9 rfl (by decide) λcdv A' outer s H E hr=>?_
 have nd:=w9.nd
 exact zC (zf 2 nd (Z8 (zk (zH G_law_cell (hr.mono (by decide)) zS (zB (zA 0) (zB (zA 1) (zD)))) (xj (zE) (zk (zA 1) (zE)))) (zE)))
  (zC (zf 2 nd (Z8 (xj (zA 2) (zE)) (zE)))
  (zF (ze (Z8 (zk (xj (xK (zA 2) (zE)) (zE)) (zA 2)) (zE)))))
end PM.K10
set_option maxHeartbeats 4000000
namespace PM.K10
open PySem PySem.Spec PyProof.Rows L2 PM
variable {P:Program}{w:World}{K:PySem.W.Frag}{mg:Str->Option Value}{base:Heap}{A:Cls}
theorem XH:FnScope ["_law_machine_here","_law_word_here","_law_state","_law_held","_law_letter"] ["_law_machine_here","_law_word_here"] (defScope (top 29)):=⟨rfl,rfl,rfl,by decide +kernel,rfl,by decide +kernel,by decide +kernel⟩
theorem VV {f:Addr}{fd:FuncData}(F:Fun K "_law_takes" "_law_takes" (top 29) f fd)(T:Txt K mg A)(G_law_come:Fk P w K mg base 1 "_law_come" ["_law_machine_here","_law_state","_law_held","_law_letter"] 4 y8):FnOk P w K mg base (CX1 P w) 2 f fd ["_law_machine_here","_law_word_here"] (spM K 2 zR):=by
 refine zn F XH rfl (by decide) λcdv A' outer s H E hr=>?_
 have nd:=XH.nd
 exact zC (zf 2 nd (zE))
  (zC (zf 3 nd (Zk (zD)))
  (zC (YG yv rfl (zA 1) (ZK 4 nd) (zF (Va (zH G_law_come (hr.mono (by decide)) zS (zB (zA 0) (zB (zA 2) (zB (zA 3) (zB (zA 4) (zD)))))) (xg rfl (ZA 2 nd (ZA 3 nd (Ym))) rfl))))
  (zF (ze (zZ (zZ (zA 0) (zA 2)) (zE))))))
end PM.K10
set_option maxHeartbeats 4000000
namespace PM.K10
open PySem PySem.Spec PyProof.Rows L2 PM
variable {P:Program}{w:World}{K:PySem.W.Frag}{mg:Str->Option Value}{base:Heap}{A:Cls}
theorem Yu:FnScope ["machine","state"] ["machine"] (defScope (top 9)):=⟨rfl,rfl,rfl,by decide +kernel,rfl,by decide +kernel,by decide +kernel⟩
theorem wX {f:Addr}{fd:FuncData}(F:Fun K "look_machine" "look_machine" (top 9) f fd)(T:Txt K mg A)(G_look_state:Fk P w K mg base 2 "look_state" ["machine","state"] 2 (yO A)):FnOk P w K mg base (CX1 P w) 3 f fd ["machine"] (spM K 1 (zP A)):=by
 refine zn F Yu rfl (by decide) λcdv A' outer s H E hr=>?_
 have nd:=Yu.nd
 exact zC (ZQ (MW.mt (WT (zc op_lt Xt (ZB call_len_seq Zs rfl T.b_len PySem.boot_len (zB (zA 0) (zD))) (zE) (nomark _)) (xf (zc op_gt UT (ZB call_len_seq Zs rfl T.b_len PySem.boot_len (zB (zA 0) (zD))) (wj rfl T.g_MOST_STATES) (nomark _))))) (zF (yJ T.e_BadMachine T.c_BadMachine)) (zh))
  (zC (ZQ (zc (Z6 hr) Z5 (zZ (zZ (zA 0) (zE)) (zE)) (zE) (nomark _)) (zF (yJ T.e_BadMachine T.c_BadMachine)) (zh))
  (zF (YG yv rfl (zA 0) (ZK 1 nd) (zF (Yl (zH G_look_state (hr.mono (by decide)) zS (zB (zA 0) (zB (zA 1) (zD)))))))))
end PM.K10
set_option maxHeartbeats 4000000
namespace PM.K10
open PySem PySem.Spec PyProof.Rows L2 PM
variable {P:Program}{w:World}{K:PySem.W.Frag}{mg:Str->Option Value}{base:Heap}{A:Cls}
theorem Y2:FnScope ["_law_script","_law_k","_law_many","_law_most","_law_left","_law_found"] ["_law_script","_law_k","_law_many","_law_most"] (defScope (top 25)):=⟨rfl,rfl,rfl,by decide +kernel,rfl,by decide +kernel,by decide +kernel⟩
theorem WN {f:Addr}{fd:FuncData}(F:Fun K "_law_sources" "_law_sources" (top 25) f fd)(T:Txt K mg A)(G_law_mix:Fk P w K mg base 2 "_law_mix" ["_law_script","_law_k"] 2 zW):FnOk P w K mg base (CX1 P w) 3 f fd ["_law_script","_law_k","_law_many","_law_most"] (spM K 4 ZV):=by
 refine zn F Y2 rfl (by decide) λcdv A' outer s H E hr=>?_
 have nd:=Y2.nd
 exact zC (uY 4 nd T.b_list T.b_range (zA 3))
  (zC (Z7 5 nd (zD))
  (zC (uX Qo yv (zc op_lt Xt (yL 5 T.b_len) (zA 2) (nomark _)) (zF (yK 5 (JJ 4 (Z8 (zH G_law_mix (hr.mono (by decide)) zS (zB (zA 0) (zB (zk (zA 1) (yL 5 T.b_len)) (zD)))) (yL 4 T.b_len))))))
  (Zp 5 (zF (ze (Xx T.b_tuple (zB (zA 5) (zD))))))))
end PM.K10
set_option maxHeartbeats 4000000
namespace PM.K10
open PySem PySem.Spec PyProof.Rows L2 PM
variable {P:Program}{w:World}{K:PySem.W.Frag}{mg:Str->Option Value}{base:Heap}{A:Cls}
theorem wG:FnScope ["_law_script","_law_k","_law_most","_law_found","_law_j","_law_number","_law_near"] ["_law_script","_law_k","_law_most"] (defScope (top 27)):=⟨rfl,rfl,rfl,by decide +kernel,rfl,by decide +kernel,by decide +kernel⟩
theorem uN {f:Addr}{fd:FuncData}(F:Fun K "_law_word" "_law_word" (top 27) f fd)(T:Txt K mg A)(G_law_mix:Fk P w K mg base 2 "_law_mix" ["_law_script","_law_k"] 2 zW):FnOk P w K mg base (CX1 P w) 3 f fd ["_law_script","_law_k","_law_most"] (spM K 3 z6):=by
 refine zn F wG rfl (by decide) λcdv A' outer s H E hr=>?_
 have nd:=wG.nd
 exact zC (Z7 3 nd (zD))
  (zC (yb yv rfl T.b_range (Z8 (zH G_law_mix (hr.mono (by decide)) zS (zB (zA 0) (zB (zA 1) (zD)))) (zk (zA 2) (zE))) (ZK 4 nd) (zC (zf 5 nd (zH G_law_mix (hr.mono (by decide)) zS (zB (zA 0) (zB (zk (zk (zA 1) (zE)) (zA 4)) (zD)))))
  (zC (zf 6 nd (WV (KA 3) (xk 3 (zAl (Vd zE) (Z8 (xK (zA 5) (zE)) (yL 3 T.b_len)))) (zE)))
  (zF (yK 3 (zZ (Zk (zB (zA 6) (zB (zA 6) (zB (Z8 (xK (zA 5) (zE)) (zE)) (zB (Z8 (xK (zA 5) (zE)) (zE)) (zB (zk (zA 6) (zE)) (zB (Z8 (xK (Vd (zA 5)) (zE)) (zE)) (zD)))))))) (Z8 (zA 5) (zE))))))))
  (Zp 3 (zF (ze (zA 3)))))
end PM.K10
set_option maxHeartbeats 4000000
namespace PM.K10
open PySem PySem.Spec PyProof.Rows L2 PM
variable {P:Program}{w:World}{K:PySem.W.Frag}{mg:Str->Option Value}{base:Heap}{A:Cls}
theorem vV:FnScope ["machine"] ["machine"] (defScope (top 15)):=⟨rfl,rfl,rfl,by decide +kernel,rfl,by decide +kernel,by decide +kernel⟩
theorem QI {f:Addr}{fd:FuncData}(F:Fun K "turned" "turned" (top 15) f fd)(T:Txt K mg A)(G_look_machine:Fk P w K mg base 3 "look_machine" ["machine"] 1 (zP A)):FnOk P w K mg base (CX1 P w) 4 f fd ["machine"] (spM K 1 (Z3 A)):=by
 refine zn F vV rfl (by decide) λcdv A' outer s H E hr=>?_
 have nd:=vV.nd
 exact zC (Yl (zH G_look_machine (hr.mono (by decide)) zS (zB (zA 0) (zD))))
  (zF (ze (Yn (nt:=1) (N':=["state","!acc"]) (idx:=[]) rfl (Ys (osc:=defScope (top 15)) (L:=s.heap.objs.size) (N:=["machine"]) rfl rfl rfl rfl (by decide +kernel) (by decide +kernel) (by decide +kernel) rfl (by decide +kernel) (by decide +kernel)) (wf (zA 0)) (by show ∀ i ∈ ([]:List Nat),i<1;decide) (λ_ _ _ _ _=>ye 0 1 (by decide) (by show (["state","!acc"]:List Str).Nodup;decide +kernel)) (λ_ _ _ _ _=>.inl ⟨rfl,rfl⟩) (λ_ _ _ _ _=>ZL (zB (Vc (zZ (zA 0) (zE))) (zB (zZ (zA 0) (zE)) (zB (XX T.b_list (zB (zZ (zA 0) (zE)) (zD))) (zD))))))))
end PM.K10
set_option maxHeartbeats 4000000
namespace PM.K10
open PySem PySem.Spec PyProof.Rows L2 PM
variable {P:Program}{w:World}{K:PySem.W.Frag}{mg:Str->Option Value}{base:Heap}{A:Cls}
theorem vW:FnScope ["word","one","other","triples","numbers","machine","triple","boxes","moves","read","step","good"] ["word","one","other"] (defScope (top 16)):=⟨rfl,rfl,rfl,by decide +kernel,rfl,by decide +kernel,by decide +kernel⟩
theorem QJ {f:Addr}{fd:FuncData}(F:Fun K "joined" "joined" (top 16) f fd)(T:Txt K mg A)(G_look_machine:Fk P w K mg base 3 "look_machine" ["machine"] 1 (zP A))(G_is_due:Fk P w K mg base 1 "is_due" ["word","in_one","in_other"] 3 YA)(G_behind:Fk P w K mg base 2 "behind" ["one","other","triple","read"] 4 yP)(G_number_of:FkN P w K mg base 1 "number_of" ["triple","triples","numbers"]  (z8 A)):FnOk P w K mg base (CX1 P w) 4 f fd ["word","one","other"] (spM K 3 (ZU A)):=by
 refine zn F vW rfl (by decide) λcdv A' outer s H E hr=>?_
 have nd:=vW.nd
 exact zC (ZQ (zc (vd hr) vc (zA 0) (qP rfl T.g_JOINING_WORDS) (by with_unfolding_all rfl)) (zF (yJ T.e_BadWord T.c_BadWord)) (zh))
  (zC (Yl (zH G_look_machine (hr.mono (by decide)) zS (zB (zA 1) (zD))))
  (zC (Yl (zH G_look_machine (hr.mono (by decide)) zS (zB (zA 2) (zD))))
  (zC (Z7 3 nd (zB (qP rfl T.g_FIRST_TRIPLE) (zD)))
  (zC (JD hr 4 nd rfl T.g_FIRST_TRIPLE)
  (zC (Z7 5 nd (zD))
  (zC (uX Qo yv (zc op_lt Xt (yL 5 T.b_len) (yL 3 T.b_len) (nomark _)) (zC (zf 6 nd (xk 3 (yL 5 T.b_len)))
  (zC (zf 7 nd (ZB call_len_seq Zs rfl T.b_len PySem.boot_len (zB (zZ (zA 6) (zE)) (zD))))
  (zC (Z7 8 nd (zD))
  (zC (yb yv rfl T.b_range (zk (zA 7) (zE)) (ZK 9 nd) (zC (zf 10 nd (zH G_behind (hr.mono (by decide)) zS (zB (zA 1) (zB (zA 2) (zB (zA 6) (zB (zA 9) (zD)))))))
  (zF (yK 8 (ZL (zB (JK 3 4 G_number_of (hr.mono (by decide)) zS (zZ (zA 10) (zE))) (zB (zZ (zA 10) (zE)) (zD))))))))
  (zC (zf 11 nd (zH G_is_due (hr.mono (by decide)) zS (zB (zA 0) (zB (zZ (zZ (zA 1) (zZ (zA 6) (zE))) (zE)) (zB (zZ (zZ (zA 2) (zZ (zA 6) (zE))) (zE)) (zD))))))
  (Zp 8 (zF (yK 5 (ZL (zB (zA 11) (zB (zA 7) (zB (zA 8) (zD))))))))))))))
  (Zp 5 (zF (ze (zA 5))))))))))
end PM.K10
set_option maxHeartbeats 4000000
namespace PM.K10
open PySem PySem.Spec PyProof.Rows L2 PM
variable {P:Program}{w:World}{K:PySem.W.Frag}{mg:Str->Option Value}{base:Heap}{A:Cls}
theorem Y4:FnScope ["_law_script","_law_k","_law_most","_law_boxes","_law_j","_law_found","_law_state","_law_moves","_law_case","_law_far","_law_goals","_law_goal"] ["_law_script","_law_k","_law_most"] (defScope (top 26)):=⟨rfl,rfl,rfl,by decide +kernel,rfl,by decide +kernel,by decide +kernel⟩
theorem WP {f:Addr}{fd:FuncData}(F:Fun K "_law_machine" "_law_machine" (top 26) f fd)(T:Txt K mg A)(G_law_mix:Fk P w K mg base 2 "_law_mix" ["_law_script","_law_k"] 2 zW)(G_law_sources:Fk P w K mg base 3 "_law_sources" ["_law_script","_law_k","_law_many","_law_most"] 4 ZV):FnOk P w K mg base (CX1 P w) 4 f fd ["_law_script","_law_k","_law_most"] (spM K 3 ZF):=by
 refine zn F Y4 rfl (by decide) λcdv A' outer s H E hr=>?_
 have nd:=Y4.nd
 exact zC (Z7 3 nd (zB (zE) (zD)))
  (zC (yb yv rfl T.b_range (Z8 (zH G_law_mix (hr.mono (by decide)) zS (zB (zA 0) (zB (zA 1) (zD)))) (zA 2)) (ZK 4 nd) (zF (yK 3 (zZ (Zk (zB (zE) (zB (zE) (zB (zE) (zB (zE) (zD)))))) (Z8 (zH G_law_mix (hr.mono (by decide)) zS (zB (zA 0) (zB (zk (zk (zA 1) (zE)) (zA 4)) (zD)))) (zE))))))
  (zC (Z7 5 nd (zD))
  (Zp 3 (zC (yb yv rfl T.b_range (ZB call_len_seq Zs rfl T.b_len PySem.boot_len (zB (zA 3) (zD))) (ZK 6 nd) (zC (Z7 7 nd (zD))
  (zC (yb yv rfl T.b_range (zk (zZ (zA 3) (zA 6)) (zE)) (ZK 8 nd) (zC (zf 9 nd (zk (zZ (zA 3) (zA 6)) (KH T.b_int (zB (Xy (yj hr) yi (zA 8) (zZ (zA 3) (zA 6)) (nomark _)) (zD)))))
  (zC (qM false 10 (nt:=1) (N':=["_law_goal","_law_boxes","_law_far","!acc"]) (idx:=[3,9]) nd rfl (Ys (osc:=defScope (top 26)) (L:=s.heap.objs.size) (N:=["_law_script","_law_k","_law_most","_law_boxes","_law_j","_law_found","_law_state","_law_moves","_law_case","_law_far","_law_goals","_law_goal"]) rfl rfl rfl rfl (by decide +kernel) (by decide +kernel) (by decide +kernel) rfl (by decide +kernel) (by decide +kernel)) (XV T.b_range (ZB call_len_seq Zs rfl T.b_len PySem.boot_len (zB (zA 3) (zD)))) (by show ∀ i ∈ ([3,9]:List Nat),i<12;decide) (λ_ _ _ _ _=>ye 0 1 (by decide) (by show (["_law_goal","_law_boxes","_law_far","!acc"]:List Str).Nodup;decide +kernel)) (λ_ _ _ _ _=>.inr ⟨_,_,rfl,rfl,zc op_le zAZ (zZ (zA 1) (zA 0)) (zA 2) (nomark _)⟩) (λ_ _ _ _ _=>zA 0))
  (zC (zf 11 nd (zZ (zA 10) (Z8 (zH G_law_mix (hr.mono (by decide)) zS (zB (zA 0) (zB (zk (zk (zk (zA 1) (zE)) (xj (zE) (zA 6))) (zA 8)) (zD)))) (ZB call_len_seq Zs rfl T.b_len PySem.boot_len (zB (zA 10) (zD))))))
  (zF (yK 7 (ZL (zB (zA 11) (zB (zH G_law_sources (hr.mono (by decide)) zS (zB (zA 0) (zB (zk (zk (zk (zA 1) (zE)) (xj (zE) (zA 6))) (xj (zE) (zA 8))) (zB (zZ (zA 3) (zA 11)) (zB (zA 9) (zD)))))) (zD))))))))))
  (Zp 7 (zF (yK 5 (ZL (zB (Xy (yj hr) yi (Z8 (xK (zH G_law_mix (hr.mono (by decide)) zS (zB (zA 0) (zB (zk (zk (zA 1) (zE)) (zA 6)) (zD)))) (zE)) (zE)) (zE) (nomark _)) (zB (zZ (zA 3) (zA 6)) (zB (zA 7) (zD)))))))))))
  (Zp 5 (zF (ze (zA 5))))))))
end PM.K10
set_option maxHeartbeats 4000000
namespace PM.K10
open PySem PySem.Spec PyProof.Rows L2 PM
variable {P:Program}{w:World}{K:PySem.W.Frag}{mg:Str->Option Value}{base:Heap}{A:Cls}
theorem wI:FnScope ["_law_word_here","_law_one","_law_other","_law_kept","_law_found","e"] ["_law_word_here","_law_one","_law_other"] (defScope (top 33)):=⟨rfl,rfl,rfl,by decide +kernel,rfl,by decide +kernel,by decide +kernel⟩
theorem uP {f:Addr}{fd:FuncData}(F:Fun K "_law_told" "_law_told" (top 33) f fd)(T:Txt K mg A)(G_law_refusal:Fk P w K mg base 1 "_law_refusal" ["_law_kept"] 1 (zv A))(G_joined:Fk P w K mg base 4 "joined" ["word","one","other"] 3 (ZU A))(G_turned:Fk P w K mg base 4 "turned" ["machine"] 1 (Z3 A)):FnOk P w K mg base (CX1 P w) 5 f fd ["_law_word_here","_law_one","_law_other"] (spM K 3 (zT A)):=by
 refine zn F wI rfl (by decide) λcdv A' outer s H E hr=>?_
 have nd:=wI.nd
 exact zC (zf 3 nd (YO))
  (zC (zf 4 nd (YO))
  (zC (zAf (iy:=3) (ie:=5) A.all T.caught T.e_BoxError T.c_BoxError (λpins xe E' hp=>zF (zf 4 nd (WV (zc (Z6 hr) Z5 (zA 0) (z5) (nomark _)) (zH G_joined (hr.mono (by decide)) hp (zB (zA 0) (zB (zA 1) (zB (zA 2) (zD))))) (zH G_turned (hr.mono (by decide)) hp (zB (zA 1) (zD)))))) nd rfl rfl rfl rfl (by decide))
  (zF (ze (WV (zc op_isN US (zA 3) (YO) (nomark _)) (zA 4) (zH G_law_refusal (hr.mono (by decide)) zS (zB (zA 3) (zD))))))))
end PM.K10
set_option maxHeartbeats 4000000
namespace PM.K10
open PySem PySem.Spec PyProof.Rows L2 PM
variable {P:Program}{w:World}{K:PySem.W.Frag}{mg:Str->Option Value}{base:Heap}{A:Cls}
theorem wH:FnScope ["_law_same"] [] (defScope (top 37)):=⟨rfl,rfl,rfl,by decide +kernel,rfl,by decide +kernel,by decide +kernel⟩
theorem uO {f:Addr}{fd:FuncData}(F:Fun K "_law_wide" "_law_wide" (top 37) f fd)(T:Txt K mg A)(G_law_told:Fk P w K mg base 5 "_law_told" ["_law_word_here","_law_one","_law_other"] 3 (zT A))(G_law_filled:Fk P w K mg base 1 "_law_filled" ["_law_boxes"] 1 zo)(G_law_late:Fk P w K mg base 1 "_law_late" ["_law_machine_here","_law_many"] 2 ya):FnOk P w K mg base (CX1 P w) 6 f fd [] (spM K 0 (yZ A)):=by
 refine zn F wH rfl (by decide) λcdv A' outer s H E hr=>?_
 have nd:=wH.nd
 exact zC (zf 0 nd (zH G_law_told (hr.mono (by decide)) zS (zB (z5) (zB (zH G_law_filled (hr.mono (by decide)) zS (zB (zE) (zD))) (zB (zH G_law_filled (hr.mono (by decide)) zS (zB (zE) (zD))) (zD))))))
  (zF (ze (WY (WW T.b_isinstance T.b_list (zA 0)) (xi (Xy (yj hr) yi (zH G_law_told (hr.mono (by decide)) zS (zB (z5) (zB (zH G_law_filled (hr.mono (by decide)) zS (zB (zE) (zD))) (zB (zH G_law_late (hr.mono (by decide)) zS (zB (zH G_law_filled (hr.mono (by decide)) zS (zB (zE) (zD))) (zB (zE) (zD)))) (zD))))) (z5) (nomark _))))))
end PM.K10
set_option maxHeartbeats 4000000
namespace PM.K10
open PySem PySem.Spec PyProof.Rows L2 PM
variable {P:Program}{w:World}{K:PySem.W.Frag}{mg:Str->Option Value}{base:Heap}{A:Cls}
theorem jX:FnScope ["_law_script","_law_one","_law_other","_law_words_here","_law_word_here","_law_found","_law_each","_law_bad"] ["_law_script"] (defScope (top 38)):=⟨rfl,rfl,rfl,by decide +kernel,rfl,by decide +kernel,by decide +kernel⟩
theorem zAd {f:Addr}{fd:FuncData}(F:Fun K "law" "law" (top 38) f fd)(T:Txt K mg A)(G_law_machine:Fk P w K mg base 4 "_law_machine" ["_law_script","_law_k","_law_most"] 3 ZF)(G_law_told:Fk P w K mg base 5 "_law_told" ["_law_word_here","_law_one","_law_other"] 3 (zT A))(G_law_wide:Fk P w K mg base 6 "_law_wide" [] 0 (yZ A))(G_law_words:Fk P w K mg base 1 "_law_words" ["_law_long"] 1 Zm)(G_look_machine:Fk P w K mg base 3 "look_machine" ["machine"] 1 (zP A))(G_law_word:Fk P w K mg base 3 "_law_word" ["_law_script","_law_k","_law_most"] 3 z6)(G_law_takes:Fk P w K mg base 2 "_law_takes" ["_law_machine_here","_law_word_here"] 2 zR)(G_law_canon:Fk P w K mg base 1 "_law_canon" ["_law_machine_here"] 1 ZY)(G_law_due:Fk P w K mg base 1 "_law_due" ["_law_word_here","_law_one","_law_other"] 3 yG):FnOk P w K mg base (CX1 P w) 7 f fd ["_law_script"] (spM K 1 (kA A)):=by
 refine zn F jX rfl (by decide) λcdv A' outer s H E hr=>?_
 have nd:=jX.nd
 exact zC (zf 1 nd (zH G_law_machine (hr.mono (by decide)) zS (zB (zA 0) (zB (zE) (zB (zE) (zD))))))
  (zC (zf 2 nd (zH G_law_machine (hr.mono (by decide)) zS (zB (zA 0) (zB (zE) (zB (zE) (zD))))))
  (zC (zf 3 nd (zk (Yn (nt:=1) (N':=["_law_k","_law_script","!acc"]) (idx:=[0]) rfl (Ys (osc:=defScope (top 38)) (L:=s.heap.objs.size) (N:=["_law_script","_law_one","_law_other","_law_words_here","_law_word_here","_law_found","_law_each","_law_bad"]) rfl rfl rfl rfl (by decide +kernel) (by decide +kernel) (by decide +kernel) rfl (by decide +kernel) (by decide +kernel)) (XV T.b_range (zE)) (by show ∀ i ∈ ([0]:List Nat),i<8;decide) (λ_ _ _ _ _=>ye 0 1 (by decide) (by show (["_law_k","_law_script","!acc"]:List Str).Nodup;decide +kernel)) (λ_ _ _ _ _=>.inl ⟨rfl,rfl⟩) (λ_ _ _ _ _=>zH G_law_word (hr.mono (by decide)) WL (zB (zA 1) (zB (zk (zE) (xj (zE) (zA 0))) (zB (zE) (zD)))))) (zH G_law_words (hr.mono (by decide)) zS (zB (zE) (zD)))))
  (zC (qL yv rfl (ZL (zB (z5) (zB (z5) (zB (z5) (zB (z5) (zD)))))) (ZK 4 nd) (zC (zf 5 nd (zH G_law_told (hr.mono (by decide)) zS (zB (zA 4) (zB (zA 1) (zB (zA 2) (zD))))))
  (zC (ZQ (MW.mt (WT (UX (VZ (WW T.b_isinstance T.b_list (zA 5)))) (xf (UX (VZ (zH G_law_canon (hr.mono (by decide)) zS (zB (zA 5) (zD)))))))) (zF (ze (Yv))) (zh))
  (zC (Yl (zH G_look_machine (hr.mono (by decide)) zS (zB (zA 5) (zD))))
  (zF (YG yv rfl (zA 3) (ZK 6 nd) (zF (ZQ (zc (Z6 hr) Z5 (zH G_law_takes (hr.mono (by decide)) zS (zB (zA 5) (zB (zA 6) (zD)))) (zH G_law_due (hr.mono (by decide)) zS (zB (zA 4) (zB (zH G_law_takes (hr.mono (by decide)) zS (zB (zA 1) (zB (zA 6) (zD)))) (zB (zH G_law_takes (hr.mono (by decide)) zS (zB (zA 2) (zB (zA 6) (zD)))) (zD))))) (nomark _)) (zF (ze (Yv))) (zh)))))))))
  (zC (zf 5 nd (zH G_law_told (hr.mono (by decide)) zS (zB (z5) (zB (zA 1) (zB (zA 2) (zD))))))
  (zC (ZQ (zc (Z6 hr) Z5 (Yn (nt:=1) (N':=["_law_each","_law_found","!acc"]) (idx:=[5]) rfl (Ys (osc:=defScope (top 38)) (L:=s.heap.objs.size) (N:=["_law_script","_law_one","_law_other","_law_words_here","_law_word_here","_law_found","_law_each","_law_bad"]) rfl rfl rfl rfl (by decide +kernel) (by decide +kernel) (by decide +kernel) rfl (by decide +kernel) (by decide +kernel)) (wf (zA 3)) (by show ∀ i ∈ ([5]:List Nat),i<8;decide) (λ_ _ _ _ _=>ye 0 1 (by decide) (by show (["_law_each","_law_found","!acc"]:List Str).Nodup;decide +kernel)) (λ_ _ _ _ _=>.inl ⟨rfl,rfl⟩) (λ_ _ _ _ _=>zH G_law_takes (hr.mono (by decide)) WL (zB (zA 1) (zB (zA 0) (zD))))) (Yn (nt:=1) (N':=["_law_each","_law_one","!acc"]) (idx:=[1]) rfl (Ys (osc:=defScope (top 38)) (L:=s.heap.objs.size) (N:=["_law_script","_law_one","_law_other","_law_words_here","_law_word_here","_law_found","_law_each","_law_bad"]) rfl rfl rfl rfl (by decide +kernel) (by decide +kernel) (by decide +kernel) rfl (by decide +kernel) (by decide +kernel)) (wf (zA 3)) (by show ∀ i ∈ ([1]:List Nat),i<8;decide) (λ_ _ _ _ _=>ye 0 1 (by decide) (by show (["_law_each","_law_one","!acc"]:List Str).Nodup;decide +kernel)) (λ_ _ _ _ _=>.inl ⟨rfl,rfl⟩) (λ_ _ _ _ _=>Vc (zH G_law_takes (hr.mono (by decide)) WL (zB (zA 1) (zB (zA 0) (zD)))))) (nomark _)) (zF (ze (Yv))) (zh))
  (zC (zf 7 nd (Zk (zB (ZL (zB (Yv) (zB (zE) (zB (Zk (zD)) (zD))))) (zD))))
  (zC (zf 5 nd (Zk (zB (zH G_law_told (hr.mono (by decide)) zS (zB (z5) (zB (zA 7) (zB (zA 7) (zD))))) (zB (zH G_law_told (hr.mono (by decide)) zS (zB (z5) (zB (zA 1) (zB (zA 7) (zD))))) (zB (zH G_law_told (hr.mono (by decide)) zS (zB (z5) (zB (zA 7) (zB (zA 1) (zD))))) (zD))))))
  (zC (ZQ (zc (Z6 hr) Z5 (zA 5) (Zk (zB (z5) (zB (z5) (zB (z5) (zD))))) (nomark _)) (zF (ze (Yv))) (zh))
  (zF (ze (QZ G_law_wide (hr.mono (by decide)) zS)))))))))))
end PM.K10
namespace PM.K10
open PySem PySem.Spec PyProof.Rows L2 PM
noncomputable def U6 (K:PySem.W.Frag):Sp:=λvs H Q _=>∃ (a:Addr)(ns:List Int),vs=[.ref a]/\SqL K H a (ns.map V.int)/\ns.length<=63/\∀ H',Q (.bl true) H'
theorem JQ {K:PySem.W.Frag}{A:Cls}(hA:A.Ok)(vs:List V)(H:Hp)(Q:VK)(E:XK)(h:U6 K vs H Q E):spM K 1 (kA A) vs H Q E:=by
 obtain⟨a,ns,rfl,hq,hl,q⟩:=h
 refine⟨rfl,H,[.lst (ns.map .int)],Same.refl _,zL.cons (zj.mpr ⟨a,_,rfl,hq,zL.ofInts ns⟩) zL.nil,?_⟩
 rw[law_true hA (zBK ns)]
 exact λv G' H' _ _ r=>by rw[ZZ.mp r];exact q H'
theorem us0 {P:List Value->Prop}(h:P [])(us:List Value)(hl:us.length=0):P us:=match us,hl with
 |[],_=>h
theorem us1 {P:List Value->Prop}(h:∀ a,P [a])(us:List Value)(hl:us.length=1):P us:=match us,hl with
 |[a],_=>h a
theorem us2 {P:List Value->Prop}(h:∀ a b,P [a,b])(us:List Value)(hl:us.length=2):P us:=match us,hl with
 |[a,b],_=>h a b
theorem us3 {P:List Value->Prop}(h:∀ a b c,P [a,b,c])(us:List Value)(hl:us.length=3):P us:=match us,hl with
 |[a,b,c],_=>h a b c
theorem us4 {P:List Value->Prop}(h:∀ a b c d,P [a,b,c,d])(us:List Value)(hl:us.length=4):P us:=match us,hl with
 |[a,b,c,d],_=>h a b c d
theorem Vn {K:PySem.W.Frag}{A:Cls}{c:Addr}{R:Addr->Bool->Prop}(h1:R A.bm (A.bm == c))(h2:R A.bw (A.bw == c))(h3:R A.tm (A.tm == c))(h4:R A.bt (A.bt == c))(a:Addr)(b:Bool)(h:A.is c a=some b):R a b:=by
 unfold Cls.is at h
 split at h
 ·rename_i hc
  cases h
  have hm:a ∈ A.all:=by simpa using hc
  simp only[Cls.all,List.mem_cons,List.not_mem_nil,or_false]at hm
  rcases hm with rfl | rfl | rfl | rfl
  ·exact h1
  ·exact h2
  ·exact h3
  ·exact h4
 ·cases h
theorem Zd {K:PySem.W.Frag}{a b:Addr}(h1:PySem.W.kitOne K (.ref a) (.ref a)=some true)(h2:PySem.W.kitOne K (.ref a) (.ref b)=some false):a≠b:=λe=>by
 subst e
 rw[h1]at h2
 cases h2
theorem all_mk {l:PySem.W.OpenLaw}{w:World}{K:PySem.W.Frag}{h:Heap}{mg:Str->Option Value}{fa:Addr}(X:K.In h)(G:h.Ns mainGlobals mg)(hfa:mg "law" = some (.ref fa))
  {f0:Addr}{od0 an0:Option Addr}{sl0:Array (Option Value)}{oc0 kV0 dc0 pm0 cd0 ct0:Value}
  {f1:Addr}{od1 an1:Option Addr}{sl1:Array (Option Value)}{oc1 kV1 dc1 pm1 cd1 ct1:Value}
  {f2:Addr}{od2 an2:Option Addr}{sl2:Array (Option Value)}{oc2 kV2 dc2 pm2 cd2 ct2:Value}
  {f3:Addr}{od3 an3:Option Addr}{sl3:Array (Option Value)}{oc3 kV3 dc3 pm3 cd3 ct3:Value}
  {f4:Addr}{od4 an4:Option Addr}{sl4:Array (Option Value)}{oc4 kV4 dc4 pm4 cd4 ct4:Value}
  {f5:Addr}{od5 an5:Option Addr}{sl5:Array (Option Value)}{oc5 kV5 dc5 pm5 cd5 ct5:Value}
  {f6:Addr}{od6 an6:Option Addr}{sl6:Array (Option Value)}{oc6 kV6 dc6 pm6 cd6 ct6:Value}
  {f7:Addr}{od7 an7:Option Addr}{sl7:Array (Option Value)}{oc7 kV7 dc7 pm7 cd7 ct7:Value}
  {f8:Addr}{od8 an8:Option Addr}{sl8:Array (Option Value)}{oc8 kV8 dc8 pm8 cd8 ct8:Value}
  {f9:Addr}{od9 an9:Option Addr}{sl9:Array (Option Value)}{oc9 kV9 dc9 pm9 cd9 ct9:Value}
  {f10:Addr}{od10 an10:Option Addr}{sl10:Array (Option Value)}{oc10 kV10 dc10 pm10 cd10 ct10:Value}
  {f11:Addr}{od11 an11:Option Addr}{sl11:Array (Option Value)}{oc11 kV11 dc11 pm11 cd11 ct11:Value}
  {f12:Addr}{od12 an12:Option Addr}{sl12:Array (Option Value)}{oc12 kV12 dc12 pm12 cd12 ct12:Value}
  {f13:Addr}{od13 an13:Option Addr}{sl13:Array (Option Value)}{oc13 kV13 dc13 pm13 cd13 ct13:Value}
  {f14:Addr}{od14 an14:Option Addr}{sl14:Array (Option Value)}{oc14 kV14 dc14 pm14 cd14 ct14:Value}
  {f15:Addr}{od15 an15:Option Addr}{sl15:Array (Option Value)}{oc15 kV15 dc15 pm15 cd15 ct15:Value}
  {f16:Addr}{od16 an16:Option Addr}{sl16:Array (Option Value)}{oc16 kV16 dc16 pm16 cd16 ct16:Value}
  {f17:Addr}{od17 an17:Option Addr}{sl17:Array (Option Value)}{oc17 kV17 dc17 pm17 cd17 ct17:Value}
  {f18:Addr}{od18 an18:Option Addr}{sl18:Array (Option Value)}{oc18 kV18 dc18 pm18 cd18 ct18:Value}
  {f19:Addr}{od19 an19:Option Addr}{sl19:Array (Option Value)}{oc19 kV19 dc19 pm19 cd19 ct19:Value}
  {f20:Addr}{od20 an20:Option Addr}{sl20:Array (Option Value)}{oc20 kV20 dc20 pm20 cd20 ct20:Value}
  {f21:Addr}{od21 an21:Option Addr}{sl21:Array (Option Value)}{oc21 kV21 dc21 pm21 cd21 ct21:Value}
  {f22:Addr}{od22 an22:Option Addr}{sl22:Array (Option Value)}{oc22 kV22 dc22 pm22 cd22 ct22:Value}
  {f23:Addr}{od23 an23:Option Addr}{sl23:Array (Option Value)}{oc23 kV23 dc23 pm23 cd23 ct23:Value}
  {f24:Addr}{od24 an24:Option Addr}{sl24:Array (Option Value)}{oc24 kV24 dc24 pm24 cd24 ct24:Value}
  {f25:Addr}{od25 an25:Option Addr}{sl25:Array (Option Value)}{oc25 kV25 dc25 pm25 cd25 ct25:Value}
  {t_MOST_BOXES:Tok}
  {t_MOST_STATES:Tok}
  {kt0t0:Tok}
  {kt0t1:Tok}
  {kt1 kt1n:Nat}{kt1s:Array (Option Value)}
  {kt0 kt0n:Nat}{kt0s:Array (Option Value)}
  {kt2t0:Tok}
  {kt2t1:Tok}
  {kt2t2:Tok}
  {kt2t3:Tok}
  {kt2 kt2n:Nat}{kt2s:Array (Option Value)}
  {be:Addr}
  {bm:Addr}
  {bw:Addr}
  {tm:Addr}
  {bt:Addr}
  {cdd_bm:ClassData}
  {cdd_bw:ClassData}
  {cdd_tm:ClassData}
  {cdd_bt:ClassData}
  (a0:PySem.W.nsIn K mainGlobals "look_move" = some (some (.ref f0)))
  (l0:K.lookup f0=some ⟨oc0,od0,.func (PySem.W.fnOf "look_move" "look_move" (defArgs (top 11)) (defBody (top 11)) (defScope (top 11)) .none kV0 dc0 pm0 an0 cd0 ct0),sl0⟩)
  (c0:PySem.W.codeIn K cd0 "look_move" = true)
  (k0:PySem.W.keepIn K (.ref f0)=true)
  (a1:PySem.W.nsIn K mainGlobals "is_due" = some (some (.ref f1)))
  (l1:K.lookup f1=some ⟨oc1,od1,.func (PySem.W.fnOf "is_due" "is_due" (defArgs (top 17)) (defBody (top 17)) (defScope (top 17)) .none kV1 dc1 pm1 an1 cd1 ct1),sl1⟩)
  (c1:PySem.W.codeIn K cd1 "is_due" = true)
  (k1:PySem.W.keepIn K (.ref f1)=true)
  (a2:PySem.W.nsIn K mainGlobals "number_of" = some (some (.ref f2)))
  (l2:K.lookup f2=some ⟨oc2,od2,.func (PySem.W.fnOf "number_of" "number_of" (defArgs (top 18)) (defBody (top 18)) (defScope (top 18)) .none kV2 dc2 pm2 an2 cd2 ct2),sl2⟩)
  (c2:PySem.W.codeIn K cd2 "number_of" = true)
  (k2:PySem.W.keepIn K (.ref f2)=true)
  (a3:PySem.W.nsIn K mainGlobals "read_as" = some (some (.ref f3)))
  (l3:K.lookup f3=some ⟨oc3,od3,.func (PySem.W.fnOf "read_as" "read_as" (defArgs (top 20)) (defBody (top 20)) (defScope (top 20)) .none kV3 dc3 pm3 an3 cd3 ct3),sl3⟩)
  (c3:PySem.W.codeIn K cd3 "read_as" = true)
  (k3:PySem.W.keepIn K (.ref f3)=true)
  (a4:PySem.W.nsIn K mainGlobals "box_from" = some (some (.ref f4)))
  (l4:K.lookup f4=some ⟨oc4,od4,.func (PySem.W.fnOf "box_from" "box_from" (defArgs (top 21)) (defBody (top 21)) (defScope (top 21)) .none kV4 dc4 pm4 an4 cd4 ct4),sl4⟩)
  (c4:PySem.W.codeIn K cd4 "box_from" = true)
  (k4:PySem.W.keepIn K (.ref f4)=true)
  (a5:PySem.W.nsIn K mainGlobals "_law_cell" = some (some (.ref f5)))
  (l5:K.lookup f5=some ⟨oc5,od5,.func (PySem.W.fnOf "_law_cell" "_law_cell" (defArgs (top 23)) (defBody (top 23)) (defScope (top 23)) .none kV5 dc5 pm5 an5 cd5 ct5),sl5⟩)
  (c5:PySem.W.codeIn K cd5 "_law_cell" = true)
  (k5:PySem.W.keepIn K (.ref f5)=true)
  (a6:PySem.W.nsIn K mainGlobals "_law_come" = some (some (.ref f6)))
  (l6:K.lookup f6=some ⟨oc6,od6,.func (PySem.W.fnOf "_law_come" "_law_come" (defArgs (top 28)) (defBody (top 28)) (defScope (top 28)) .none kV6 dc6 pm6 an6 cd6 ct6),sl6⟩)
  (c6:PySem.W.codeIn K cd6 "_law_come" = true)
  (k6:PySem.W.keepIn K (.ref f6)=true)
  (a7:PySem.W.nsIn K mainGlobals "_law_words" = some (some (.ref f7)))
  (l7:K.lookup f7=some ⟨oc7,od7,.func (PySem.W.fnOf "_law_words" "_law_words" (defArgs (top 30)) (defBody (top 30)) (defScope (top 30)) .none kV7 dc7 pm7 an7 cd7 ct7),sl7⟩)
  (c7:PySem.W.codeIn K cd7 "_law_words" = true)
  (k7:PySem.W.keepIn K (.ref f7)=true)
  (a8:PySem.W.nsIn K mainGlobals "_law_refusal" = some (some (.ref f8)))
  (l8:K.lookup f8=some ⟨oc8,od8,.func (PySem.W.fnOf "_law_refusal" "_law_refusal" (defArgs (top 31)) (defBody (top 31)) (defScope (top 31)) .none kV8 dc8 pm8 an8 cd8 ct8),sl8⟩)
  (c8:PySem.W.codeIn K cd8 "_law_refusal" = true)
  (k8:PySem.W.keepIn K (.ref f8)=true)
  (a9:PySem.W.nsIn K mainGlobals "_law_due" = some (some (.ref f9)))
  (l9:K.lookup f9=some ⟨oc9,od9,.func (PySem.W.fnOf "_law_due" "_law_due" (defArgs (top 32)) (defBody (top 32)) (defScope (top 32)) .none kV9 dc9 pm9 an9 cd9 ct9),sl9⟩)
  (c9:PySem.W.codeIn K cd9 "_law_due" = true)
  (k9:PySem.W.keepIn K (.ref f9)=true)
  (a10:PySem.W.nsIn K mainGlobals "_law_filled" = some (some (.ref f10)))
  (l10:K.lookup f10=some ⟨oc10,od10,.func (PySem.W.fnOf "_law_filled" "_law_filled" (defArgs (top 34)) (defBody (top 34)) (defScope (top 34)) .none kV10 dc10 pm10 an10 cd10 ct10),sl10⟩)
  (c10:PySem.W.codeIn K cd10 "_law_filled" = true)
  (k10:PySem.W.keepIn K (.ref f10)=true)
  (a11:PySem.W.nsIn K mainGlobals "_law_canon" = some (some (.ref f11)))
  (l11:K.lookup f11=some ⟨oc11,od11,.func (PySem.W.fnOf "_law_canon" "_law_canon" (defArgs (top 35)) (defBody (top 35)) (defScope (top 35)) .none kV11 dc11 pm11 an11 cd11 ct11),sl11⟩)
  (c11:PySem.W.codeIn K cd11 "_law_canon" = true)
  (k11:PySem.W.keepIn K (.ref f11)=true)
  (a12:PySem.W.nsIn K mainGlobals "_law_late" = some (some (.ref f12)))
  (l12:K.lookup f12=some ⟨oc12,od12,.func (PySem.W.fnOf "_law_late" "_law_late" (defArgs (top 36)) (defBody (top 36)) (defScope (top 36)) .none kV12 dc12 pm12 an12 cd12 ct12),sl12⟩)
  (c12:PySem.W.codeIn K cd12 "_law_late" = true)
  (k12:PySem.W.keepIn K (.ref f12)=true)
  (a13:PySem.W.nsIn K mainGlobals "look_state" = some (some (.ref f13)))
  (l13:K.lookup f13=some ⟨oc13,od13,.func (PySem.W.fnOf "look_state" "look_state" (defArgs (top 10)) (defBody (top 10)) (defScope (top 10)) .none kV13 dc13 pm13 an13 cd13 ct13),sl13⟩)
  (c13:PySem.W.codeIn K cd13 "look_state" = true)
  (k13:PySem.W.keepIn K (.ref f13)=true)
  (a14:PySem.W.nsIn K mainGlobals "behind" = some (some (.ref f14)))
  (l14:K.lookup f14=some ⟨oc14,od14,.func (PySem.W.fnOf "behind" "behind" (defArgs (top 19)) (defBody (top 19)) (defScope (top 19)) .none kV14 dc14 pm14 an14 cd14 ct14),sl14⟩)
  (c14:PySem.W.codeIn K cd14 "behind" = true)
  (k14:PySem.W.keepIn K (.ref f14)=true)
  (a15:PySem.W.nsIn K mainGlobals "_law_mix" = some (some (.ref f15)))
  (l15:K.lookup f15=some ⟨oc15,od15,.func (PySem.W.fnOf "_law_mix" "_law_mix" (defArgs (top 24)) (defBody (top 24)) (defScope (top 24)) .none kV15 dc15 pm15 an15 cd15 ct15),sl15⟩)
  (c15:PySem.W.codeIn K cd15 "_law_mix" = true)
  (k15:PySem.W.keepIn K (.ref f15)=true)
  (a16:PySem.W.nsIn K mainGlobals "_law_takes" = some (some (.ref f16)))
  (l16:K.lookup f16=some ⟨oc16,od16,.func (PySem.W.fnOf "_law_takes" "_law_takes" (defArgs (top 29)) (defBody (top 29)) (defScope (top 29)) .none kV16 dc16 pm16 an16 cd16 ct16),sl16⟩)
  (c16:PySem.W.codeIn K cd16 "_law_takes" = true)
  (k16:PySem.W.keepIn K (.ref f16)=true)
  (a17:PySem.W.nsIn K mainGlobals "look_machine" = some (some (.ref f17)))
  (l17:K.lookup f17=some ⟨oc17,od17,.func (PySem.W.fnOf "look_machine" "look_machine" (defArgs (top 9)) (defBody (top 9)) (defScope (top 9)) .none kV17 dc17 pm17 an17 cd17 ct17),sl17⟩)
  (c17:PySem.W.codeIn K cd17 "look_machine" = true)
  (k17:PySem.W.keepIn K (.ref f17)=true)
  (a18:PySem.W.nsIn K mainGlobals "_law_sources" = some (some (.ref f18)))
  (l18:K.lookup f18=some ⟨oc18,od18,.func (PySem.W.fnOf "_law_sources" "_law_sources" (defArgs (top 25)) (defBody (top 25)) (defScope (top 25)) .none kV18 dc18 pm18 an18 cd18 ct18),sl18⟩)
  (c18:PySem.W.codeIn K cd18 "_law_sources" = true)
  (k18:PySem.W.keepIn K (.ref f18)=true)
  (a19:PySem.W.nsIn K mainGlobals "_law_word" = some (some (.ref f19)))
  (l19:K.lookup f19=some ⟨oc19,od19,.func (PySem.W.fnOf "_law_word" "_law_word" (defArgs (top 27)) (defBody (top 27)) (defScope (top 27)) .none kV19 dc19 pm19 an19 cd19 ct19),sl19⟩)
  (c19:PySem.W.codeIn K cd19 "_law_word" = true)
  (k19:PySem.W.keepIn K (.ref f19)=true)
  (a20:PySem.W.nsIn K mainGlobals "turned" = some (some (.ref f20)))
  (l20:K.lookup f20=some ⟨oc20,od20,.func (PySem.W.fnOf "turned" "turned" (defArgs (top 15)) (defBody (top 15)) (defScope (top 15)) .none kV20 dc20 pm20 an20 cd20 ct20),sl20⟩)
  (c20:PySem.W.codeIn K cd20 "turned" = true)
  (k20:PySem.W.keepIn K (.ref f20)=true)
  (a21:PySem.W.nsIn K mainGlobals "joined" = some (some (.ref f21)))
  (l21:K.lookup f21=some ⟨oc21,od21,.func (PySem.W.fnOf "joined" "joined" (defArgs (top 16)) (defBody (top 16)) (defScope (top 16)) .none kV21 dc21 pm21 an21 cd21 ct21),sl21⟩)
  (c21:PySem.W.codeIn K cd21 "joined" = true)
  (k21:PySem.W.keepIn K (.ref f21)=true)
  (a22:PySem.W.nsIn K mainGlobals "_law_machine" = some (some (.ref f22)))
  (l22:K.lookup f22=some ⟨oc22,od22,.func (PySem.W.fnOf "_law_machine" "_law_machine" (defArgs (top 26)) (defBody (top 26)) (defScope (top 26)) .none kV22 dc22 pm22 an22 cd22 ct22),sl22⟩)
  (c22:PySem.W.codeIn K cd22 "_law_machine" = true)
  (k22:PySem.W.keepIn K (.ref f22)=true)
  (a23:PySem.W.nsIn K mainGlobals "_law_told" = some (some (.ref f23)))
  (l23:K.lookup f23=some ⟨oc23,od23,.func (PySem.W.fnOf "_law_told" "_law_told" (defArgs (top 33)) (defBody (top 33)) (defScope (top 33)) .none kV23 dc23 pm23 an23 cd23 ct23),sl23⟩)
  (c23:PySem.W.codeIn K cd23 "_law_told" = true)
  (k23:PySem.W.keepIn K (.ref f23)=true)
  (a24:PySem.W.nsIn K mainGlobals "_law_wide" = some (some (.ref f24)))
  (l24:K.lookup f24=some ⟨oc24,od24,.func (PySem.W.fnOf "_law_wide" "_law_wide" (defArgs (top 37)) (defBody (top 37)) (defScope (top 37)) .none kV24 dc24 pm24 an24 cd24 ct24),sl24⟩)
  (c24:PySem.W.codeIn K cd24 "_law_wide" = true)
  (k24:PySem.W.keepIn K (.ref f24)=true)
  (a25:PySem.W.nsIn K mainGlobals "law" = some (some (.ref f25)))
  (l25:K.lookup f25=some ⟨oc25,od25,.func (PySem.W.fnOf "law" "law" (defArgs (top 38)) (defBody (top 38)) (defScope (top 38)) .none kV25 dc25 pm25 an25 cd25 ct25),sl25⟩)
  (c25:PySem.W.codeIn K cd25 "law" = true)
  (k25:PySem.W.keepIn K (.ref f25)=true)
  (b_ValueError:PySem.W.nsIn K mainGlobals "ValueError" = some none)
  (b_enumerate:PySem.W.nsIn K mainGlobals "enumerate" = some none)
  (b_int:PySem.W.nsIn K mainGlobals "int" = some none)
  (b_isinstance:PySem.W.nsIn K mainGlobals "isinstance" = some none)
  (b_len:PySem.W.nsIn K mainGlobals "len" = some none)
  (b_list:PySem.W.nsIn K mainGlobals "list" = some none)
  (b_max:PySem.W.nsIn K mainGlobals "max" = some none)
  (b_min:PySem.W.nsIn K mainGlobals "min" = some none)
  (b_range:PySem.W.nsIn K mainGlobals "range" = some none)
  (b_set:PySem.W.nsIn K mainGlobals "set" = some none)
  (b_sorted:PySem.W.nsIn K mainGlobals "sorted" = some none)
  (b_tuple:PySem.W.nsIn K mainGlobals "tuple" = some none)
  (g_MOST_BOXES:PySem.W.nsIn K mainGlobals "MOST_BOXES" = some (some (.int 6 t_MOST_BOXES)))
  (g_MOST_STATES:PySem.W.nsIn K mainGlobals "MOST_STATES" = some (some (.int 400 t_MOST_STATES)))
  (g_FIRST_TRIPLE:PySem.W.nsIn K mainGlobals "FIRST_TRIPLE" = some (some (.ref kt0)))
  (l_kt0:K.lookup kt0=some ⟨.type "tuple",none,.seq #[.int 0 kt0t0,.int 0 kt0t1,.ref kt1] kt0n,kt0s⟩)
  (l_kt1:K.lookup kt1=some ⟨.type "tuple",none,.seq #[] kt1n,kt1s⟩)
  (g_JOINING_WORDS:PySem.W.nsIn K mainGlobals "JOINING_WORDS" = some (some (.ref kt2)))
  (l_kt2:K.lookup kt2=some ⟨.type "tuple",none,.seq #[.str "both" kt2t0,.str "either" kt2t1,.str "less" kt2t2,.str "odd" kt2t3] kt2n,kt2s⟩)
  (c_be:PySem.W.nsIn K mainGlobals "BoxError" = some (some (.ref be)))
  (c_bm:PySem.W.nsIn K mainGlobals "BadMachine" = some (some (.ref bm)))
  (c_bw:PySem.W.nsIn K mainGlobals "BadWord" = some (some (.ref bw)))
  (c_tm:PySem.W.nsIn K mainGlobals "TooMany" = some (some (.ref tm)))
  (c_bt:PySem.W.nsIn K mainGlobals "BadText" = some (some (.ref bt)))
  (e_be:PySem.W.excIn K be Yb Z0=true)
  (e_bm:PySem.W.excIn K bm Yb Z0=true)
  (e_bw:PySem.W.excIn K bw Yb Z0=true)
  (e_tm:PySem.W.excIn K tm Yb Z0=true)
  (e_bt:PySem.W.excIn K bt Yb Z0=true)
  (m_bm:PySem.W.mroIn K bm (.ref be)=some true)
  (x_bm:PySem.W.clsIn K bm=some cdd_bm)
  (ga_bm:PySem.W.findIn K (.ref bm) "__getattribute__" = some (some (.builtin "BaseException.__getattribute__")))
  (no_bm:PySem.W.findIn K (.ref bm) "__getattr__" = some none)
  (cl_bm:PySem.W.findIn K (.ref bm) "__class__" = some (some (.builtin "object.__class__")))
  (ob_bm:PySem.W.mroIn K bm (.type "object")=some true)
  (be_bm:PySem.W.mroIn K bm (.type "BaseException")=some true)
  (ve_bm:PySem.W.kitOne K (.ref bm) (.type "ValueError")=some true)
  (q_bm_bm:PySem.W.kitOne K (.ref bm) (.ref bm)=some true)
  (q_bm_bw:PySem.W.kitOne K (.ref bm) (.ref bw)=some false)
  (q_bm_tm:PySem.W.kitOne K (.ref bm) (.ref tm)=some false)
  (q_bm_bt:PySem.W.kitOne K (.ref bm) (.ref bt)=some false)
  (m_bw:PySem.W.mroIn K bw (.ref be)=some true)
  (x_bw:PySem.W.clsIn K bw=some cdd_bw)
  (ga_bw:PySem.W.findIn K (.ref bw) "__getattribute__" = some (some (.builtin "BaseException.__getattribute__")))
  (no_bw:PySem.W.findIn K (.ref bw) "__getattr__" = some none)
  (cl_bw:PySem.W.findIn K (.ref bw) "__class__" = some (some (.builtin "object.__class__")))
  (ob_bw:PySem.W.mroIn K bw (.type "object")=some true)
  (be_bw:PySem.W.mroIn K bw (.type "BaseException")=some true)
  (ve_bw:PySem.W.kitOne K (.ref bw) (.type "ValueError")=some true)
  (q_bw_bm:PySem.W.kitOne K (.ref bw) (.ref bm)=some false)
  (q_bw_bw:PySem.W.kitOne K (.ref bw) (.ref bw)=some true)
  (q_bw_tm:PySem.W.kitOne K (.ref bw) (.ref tm)=some false)
  (q_bw_bt:PySem.W.kitOne K (.ref bw) (.ref bt)=some false)
  (m_tm:PySem.W.mroIn K tm (.ref be)=some true)
  (x_tm:PySem.W.clsIn K tm=some cdd_tm)
  (ga_tm:PySem.W.findIn K (.ref tm) "__getattribute__" = some (some (.builtin "BaseException.__getattribute__")))
  (no_tm:PySem.W.findIn K (.ref tm) "__getattr__" = some none)
  (cl_tm:PySem.W.findIn K (.ref tm) "__class__" = some (some (.builtin "object.__class__")))
  (ob_tm:PySem.W.mroIn K tm (.type "object")=some true)
  (be_tm:PySem.W.mroIn K tm (.type "BaseException")=some true)
  (ve_tm:PySem.W.kitOne K (.ref tm) (.type "ValueError")=some true)
  (q_tm_bm:PySem.W.kitOne K (.ref tm) (.ref bm)=some false)
  (q_tm_bw:PySem.W.kitOne K (.ref tm) (.ref bw)=some false)
  (q_tm_tm:PySem.W.kitOne K (.ref tm) (.ref tm)=some true)
  (q_tm_bt:PySem.W.kitOne K (.ref tm) (.ref bt)=some false)
  (m_bt:PySem.W.mroIn K bt (.ref be)=some true)
  (x_bt:PySem.W.clsIn K bt=some cdd_bt)
  (ga_bt:PySem.W.findIn K (.ref bt) "__getattribute__" = some (some (.builtin "BaseException.__getattribute__")))
  (no_bt:PySem.W.findIn K (.ref bt) "__getattr__" = some none)
  (cl_bt:PySem.W.findIn K (.ref bt) "__class__" = some (some (.builtin "object.__class__")))
  (ob_bt:PySem.W.mroIn K bt (.type "object")=some true)
  (be_bt:PySem.W.mroIn K bt (.type "BaseException")=some true)
  (ve_bt:PySem.W.kitOne K (.ref bt) (.type "ValueError")=some true)
  (q_bt_bm:PySem.W.kitOne K (.ref bt) (.ref bm)=some false)
  (q_bt_bw:PySem.W.kitOne K (.ref bt) (.ref bw)=some false)
  (q_bt_tm:PySem.W.kitOne K (.ref bt) (.ref tm)=some false)
  (q_bt_bt:PySem.W.kitOne K (.ref bt) (.ref bt)=some true) :
  ∃ fd:FuncData,(∀ (s:Shared) (v:Value),BindsTo s fd ⟨[v],[]⟩ [("_law_script",v)])/\∀ base:Heap,K.In base->base.Ns mainGlobals mg->FnOk l.prog w K mg base (CX1 l.prog w) 7 fa fd ["_law_script"] (U6 K):=by
 have e:=hfa.symm.trans (PySem.W.mg_of X G a25)
 cases e
 let A:Cls:=⟨be,bm,bw,tm,bt⟩
 have hA:A.Ok:=⟨Zd q_bm_bm q_bm_bt,Zd q_bm_bm q_bm_bw,Zd q_bm_bm q_bm_tm,Zd q_bt_bt q_bt_bw,Zd q_bt_bt q_bt_tm,Zd q_bw_bw q_bw_tm⟩
 have X_bm:ExcCls K bm:=⟨ga_bm,no_bm,cl_bm,ob_bm,be_bm⟩
 have X_bw:ExcCls K bw:=⟨ga_bw,no_bw,cl_bw,ob_bw,be_bw⟩
 have X_tm:ExcCls K tm:=⟨ga_tm,no_tm,cl_tm,ob_tm,be_tm⟩
 have X_bt:ExcCls K bt:=⟨ga_bt,no_bt,cl_bt,ob_bt,be_bt⟩
 have r_kt2:∀ G:Hp,Rep K G (.tup [.str "both",.str "either",.str "less",.str "odd"]) (.ref kt2):=λG=>zg.mpr ⟨kt2,[.str "both",.str "either",.str "less",.str "odd"],rfl,.inr ⟨_,_,_,l_kt2,rfl,rfl,rfl,(show 4<=sizeLine by decide),.cons ⟨_,rfl⟩ (.cons ⟨_,rfl⟩ (.cons ⟨_,rfl⟩ (.cons ⟨_,rfl⟩ (.nil))))⟩,zL.cons (YE.mpr rfl) (zL.cons (YE.mpr rfl) (zL.cons (YE.mpr rfl) (zL.cons (YE.mpr rfl) (zL.nil))))⟩
 have r_kt1:∀ G:Hp,Rep K G (.tup []) (.ref kt1):=λG=>zg.mpr ⟨kt1,[],rfl,.inr ⟨_,_,_,l_kt1,rfl,rfl,rfl,(show 0<=sizeLine by decide),.nil⟩,zL.nil⟩
 have r_kt0:∀ G:Hp,Rep K G (.tup [.int 0,.int 0,(.tup [])]) (.ref kt0):=λG=>zg.mpr ⟨kt0,[.int 0,.int 0,.ref kt1],rfl,.inr ⟨_,_,_,l_kt0,rfl,rfl,rfl,(show 3<=sizeLine by decide),.cons ⟨_,rfl⟩ (.cons ⟨_,rfl⟩ (.cons rfl (.nil)))⟩,zL.cons (zM.mpr rfl) (zL.cons (zM.mpr rfl) (zL.cons (r_kt1 G) (zL.nil)))⟩
 have T:Txt K mg A:=
  {c_BoxError:=PySem.W.mg_of X G c_be,c_BadMachine:=PySem.W.mg_of X G c_bm,c_BadWord:=PySem.W.mg_of X G c_bw,c_TooMany:=PySem.W.mg_of X G c_tm,c_BadText:=PySem.W.mg_of X G c_bt,
   e_BoxError:=e_be,e_BadMachine:=e_bm,e_BadWord:=e_bw,e_TooMany:=e_tm,e_BadText:=e_bt,
   caught:=(λc hc=>by
    simp only[Cls.all,List.mem_cons,List.not_mem_nil,or_false]at hc
    rcases hc with rfl | rfl | rfl | rfl
    ·exact⟨e_bm,m_bm⟩
    ·exact⟨e_bw,m_bw⟩
    ·exact⟨e_tm,m_tm⟩
    ·exact⟨e_bt,m_bt⟩),
   i_BadMachine:=(Vn (K:=K) (A:=A) (R:=λa b=>(PySem.W.clsIn K a).isSome=true/\ExcCls K a/\PySem.W.kitOne K (.ref a) (.ref bm)=some b) ⟨(by rw[x_bm];rfl),X_bm,by rw[show (bm == bm)=true from beq_self_eq_true _];exact q_bm_bm⟩ ⟨(by rw[x_bw];rfl),X_bw,by rw[show (bw == bm)=false from beq_false_of_ne (Zd q_bw_bw q_bw_bm)];exact q_bw_bm⟩ ⟨(by rw[x_tm];rfl),X_tm,by rw[show (tm == bm)=false from beq_false_of_ne (Zd q_tm_tm q_tm_bm)];exact q_tm_bm⟩ ⟨(by rw[x_bt];rfl),X_bt,by rw[show (bt == bm)=false from beq_false_of_ne (Zd q_bt_bt q_bt_bm)];exact q_bt_bm⟩),
   i_BadWord:=(Vn (K:=K) (A:=A) (R:=λa b=>(PySem.W.clsIn K a).isSome=true/\ExcCls K a/\PySem.W.kitOne K (.ref a) (.ref bw)=some b) ⟨(by rw[x_bm];rfl),X_bm,by rw[show (bm == bw)=false from beq_false_of_ne (Zd q_bm_bm q_bm_bw)];exact q_bm_bw⟩ ⟨(by rw[x_bw];rfl),X_bw,by rw[show (bw == bw)=true from beq_self_eq_true _];exact q_bw_bw⟩ ⟨(by rw[x_tm];rfl),X_tm,by rw[show (tm == bw)=false from beq_false_of_ne (Zd q_tm_tm q_tm_bw)];exact q_tm_bw⟩ ⟨(by rw[x_bt];rfl),X_bt,by rw[show (bt == bw)=false from beq_false_of_ne (Zd q_bt_bt q_bt_bw)];exact q_bt_bw⟩),
   i_TooMany:=(Vn (K:=K) (A:=A) (R:=λa b=>(PySem.W.clsIn K a).isSome=true/\ExcCls K a/\PySem.W.kitOne K (.ref a) (.ref tm)=some b) ⟨(by rw[x_bm];rfl),X_bm,by rw[show (bm == tm)=false from beq_false_of_ne (Zd q_bm_bm q_bm_tm)];exact q_bm_tm⟩ ⟨(by rw[x_bw];rfl),X_bw,by rw[show (bw == tm)=false from beq_false_of_ne (Zd q_bw_bw q_bw_tm)];exact q_bw_tm⟩ ⟨(by rw[x_tm];rfl),X_tm,by rw[show (tm == tm)=true from beq_self_eq_true _];exact q_tm_tm⟩ ⟨(by rw[x_bt];rfl),X_bt,by rw[show (bt == tm)=false from beq_false_of_ne (Zd q_bt_bt q_bt_tm)];exact q_bt_tm⟩),
   i_BadText:=(Vn (K:=K) (A:=A) (R:=λa b=>(PySem.W.clsIn K a).isSome=true/\ExcCls K a/\PySem.W.kitOne K (.ref a) (.ref bt)=some b) ⟨(by rw[x_bm];rfl),X_bm,by rw[show (bm == bt)=false from beq_false_of_ne (Zd q_bm_bm q_bm_bt)];exact q_bm_bt⟩ ⟨(by rw[x_bw];rfl),X_bw,by rw[show (bw == bt)=false from beq_false_of_ne (Zd q_bw_bw q_bw_bt)];exact q_bw_bt⟩ ⟨(by rw[x_tm];rfl),X_tm,by rw[show (tm == bt)=false from beq_false_of_ne (Zd q_tm_tm q_tm_bt)];exact q_tm_bt⟩ ⟨(by rw[x_bt];rfl),X_bt,by rw[show (bt == bt)=true from beq_self_eq_true _];exact q_bt_bt⟩),
   i_VE:=(λa b hab=>by
    unfold Cls.isVE at hab
    split at hab
    ·rename_i hc
     cases hab
     have hm:a ∈ A.all:=by simpa using hc
     simp only[Cls.all,List.mem_cons,List.not_mem_nil,or_false]at hm
     rcases hm with rfl | rfl | rfl | rfl
     ·exact⟨(by rw[x_bm];rfl),X_bm,ve_bm⟩
     ·exact⟨(by rw[x_bw];rfl),X_bw,ve_bw⟩
     ·exact⟨(by rw[x_tm];rfl),X_tm,ve_tm⟩
     ·exact⟨(by rw[x_bt];rfl),X_bt,ve_bt⟩
    ·cases hab),
   b_ValueError:=PySem.W.mg_none_of X G b_ValueError,b_enumerate:=PySem.W.mg_none_of X G b_enumerate,b_int:=PySem.W.mg_none_of X G b_int,b_isinstance:=PySem.W.mg_none_of X G b_isinstance,b_len:=PySem.W.mg_none_of X G b_len,b_list:=PySem.W.mg_none_of X G b_list,b_max:=PySem.W.mg_none_of X G b_max,b_min:=PySem.W.mg_none_of X G b_min,b_range:=PySem.W.mg_none_of X G b_range,b_set:=PySem.W.mg_none_of X G b_set,b_sorted:=PySem.W.mg_none_of X G b_sorted,b_tuple:=PySem.W.mg_none_of X G b_tuple,g_MOST_BOXES:=⟨_,PySem.W.mg_of X G g_MOST_BOXES⟩,g_MOST_STATES:=⟨_,PySem.W.mg_of X G g_MOST_STATES⟩,g_FIRST_TRIPLE:=⟨_,PySem.W.mg_of X G g_FIRST_TRIPLE,r_kt0⟩,g_JOINING_WORDS:=⟨_,PySem.W.mg_of X G g_JOINING_WORDS,r_kt2⟩ }
 refine⟨PySem.W.fnOf "law" "law" (defArgs (top 38)) (defBody (top 38)) (defScope (top 38)) .none kV25 dc25 pm25 an25 cd25 ct25,λs v=>.of_eq rfl,λbase _ _=>?_⟩
 have F0:=fun_mk (st:=top 11) l0 c0 k0
 have O0:=VT (P:=l.prog) (w:=w) (base:=base) (A:=A) F0 T
 have G0:Fk l.prog w K mg base 1 "look_move" ["machine","move","letters"] 3 (yF A):=⟨_,_,O0,PySem.W.mg_of X G a0,k0,F0.binds (ps:=["machine","move","letters"]) λ_ _ _ _ _ _=>us3 (λ_ _ _=>rfl)⟩
 have F1:=fun_mk (st:=top 17) l1 c1 k1
 have O1:=QK (P:=l.prog) (w:=w) (base:=base) (A:=A) F1 T
 have G1:Fk l.prog w K mg base 1 "is_due" ["word","in_one","in_other"] 3 YA:=⟨_,_,O1,PySem.W.mg_of X G a1,k1,F1.binds (ps:=["word","in_one","in_other"]) λ_ _ _ _ _ _=>us3 (λ_ _ _=>rfl)⟩
 have F2:=fun_mk (st:=top 18) l2 c2 k2
 have O2:=VS (P:=l.prog) (w:=w) (base:=base) (A:=A) F2 T
 have G2:FkN l.prog w K mg base 1 "number_of" ["triple","triples","numbers"]  (z8 A):=⟨_,_,O2,PySem.W.mg_of X G a2,k2,F2.binds (ps:=["triple","triples","numbers"]) λ_ _ _ _ _ _=>us3 (λ_ _ _=>rfl)⟩
 have F3:=fun_mk (st:=top 20) l3 c3 k3
 have O3:=UU (P:=l.prog) (w:=w) (base:=base) (A:=A) F3 T
 have G3:Fk l.prog w K mg base 1 "read_as" ["state","box"] 2 yE:=⟨_,_,O3,PySem.W.mg_of X G a3,k3,F3.binds (ps:=["state","box"]) λ_ _ _ _ _ _=>us2 (λ_ _=>rfl)⟩
 have F4:=fun_mk (st:=top 21) l4 c4 k4
 have O4:=uT (P:=l.prog) (w:=w) (base:=base) (A:=A) F4 T
 have G4:Fk l.prog w K mg base 1 "box_from" ["move","source"] 2 Zn:=⟨_,_,O4,PySem.W.mg_of X G a4,k4,F4.binds (ps:=["move","source"]) λ_ _ _ _ _ _=>us2 (λ_ _=>rfl)⟩
 have F5:=fun_mk (st:=top 23) l5 c5 k5
 have O5:=uS (P:=l.prog) (w:=w) (base:=base) (A:=A) F5 T
 have G5:Fk l.prog w K mg base 1 "_law_cell" ["_law_script","_law_k"] 2 y9:=⟨_,_,O5,PySem.W.mg_of X G a5,k5,F5.binds (ps:=["_law_script","_law_k"]) λ_ _ _ _ _ _=>us2 (λ_ _=>rfl)⟩
 have F6:=fun_mk (st:=top 28) l6 c6 k6
 have O6:=uR (P:=l.prog) (w:=w) (base:=base) (A:=A) F6 T
 have G6:Fk l.prog w K mg base 1 "_law_come" ["_law_machine_here","_law_state","_law_held","_law_letter"] 4 y8:=⟨_,_,O6,PySem.W.mg_of X G a6,k6,F6.binds (ps:=["_law_machine_here","_law_state","_law_held","_law_letter"]) λ_ _ _ _ _ _=>us4 (λ_ _ _ _=>rfl)⟩
 have F7:=fun_mk (st:=top 30) l7 c7 k7
 have O7:=VU (P:=l.prog) (w:=w) (base:=base) (A:=A) F7 T
 have G7:Fk l.prog w K mg base 1 "_law_words" ["_law_long"] 1 Zm:=⟨_,_,O7,PySem.W.mg_of X G a7,k7,F7.binds (ps:=["_law_long"]) λ_ _ _ _ _ _=>us1 (λ_=>rfl)⟩
 have F8:=fun_mk (st:=top 31) l8 c8 k8
 have O8:=WO (P:=l.prog) (w:=w) (base:=base) (A:=A) F8 T
 have G8:Fk l.prog w K mg base 1 "_law_refusal" ["_law_kept"] 1 (zv A):=⟨_,_,O8,PySem.W.mg_of X G a8,k8,F8.binds (ps:=["_law_kept"]) λ_ _ _ _ _ _=>us1 (λ_=>rfl)⟩
 have F9:=fun_mk (st:=top 32) l9 c9 k9
 have O9:=UW (P:=l.prog) (w:=w) (base:=base) (A:=A) F9 T
 have G9:Fk l.prog w K mg base 1 "_law_due" ["_law_word_here","_law_one","_law_other"] 3 yG:=⟨_,_,O9,PySem.W.mg_of X G a9,k9,F9.binds (ps:=["_law_word_here","_law_one","_law_other"]) λ_ _ _ _ _ _=>us3 (λ_ _ _=>rfl)⟩
 have F10:=fun_mk (st:=top 34) l10 c10 k10
 have O10:=vF (P:=l.prog) (w:=w) (base:=base) (A:=A) F10 T
 have G10:Fk l.prog w K mg base 1 "_law_filled" ["_law_boxes"] 1 zo:=⟨_,_,O10,PySem.W.mg_of X G a10,k10,F10.binds (ps:=["_law_boxes"]) λ_ _ _ _ _ _=>us1 (λ_=>rfl)⟩
 have F11:=fun_mk (st:=top 35) l11 c11 k11
 have O11:=VW (P:=l.prog) (w:=w) (base:=base) (A:=A) F11 T
 have G11:Fk l.prog w K mg base 1 "_law_canon" ["_law_machine_here"] 1 ZY:=⟨_,_,O11,PySem.W.mg_of X G a11,k11,F11.binds (ps:=["_law_machine_here"]) λ_ _ _ _ _ _=>us1 (λ_=>rfl)⟩
 have F12:=fun_mk (st:=top 36) l12 c12 k12
 have O12:=uQ (P:=l.prog) (w:=w) (base:=base) (A:=A) F12 T
 have G12:Fk l.prog w K mg base 1 "_law_late" ["_law_machine_here","_law_many"] 2 ya:=⟨_,_,O12,PySem.W.mg_of X G a12,k12,F12.binds (ps:=["_law_machine_here","_law_many"]) λ_ _ _ _ _ _=>us2 (λ_ _=>rfl)⟩
 have F13:=fun_mk (st:=top 10) l13 c13 k13
 have O13:=vE (P:=l.prog) (w:=w) (base:=base) (A:=A) F13 T G0
 have G13:Fk l.prog w K mg base 2 "look_state" ["machine","state"] 2 (yO A):=⟨_,_,O13,PySem.W.mg_of X G a13,k13,F13.binds (ps:=["machine","state"]) λ_ _ _ _ _ _=>us2 (λ_ _=>rfl)⟩
 have F14:=fun_mk (st:=top 19) l14 c14 k14
 have O14:=QL (P:=l.prog) (w:=w) (base:=base) (A:=A) F14 T G3 G4
 have G14:Fk l.prog w K mg base 2 "behind" ["one","other","triple","read"] 4 yP:=⟨_,_,O14,PySem.W.mg_of X G a14,k14,F14.binds (ps:=["one","other","triple","read"]) λ_ _ _ _ _ _=>us4 (λ_ _ _ _=>rfl)⟩
 have F15:=fun_mk (st:=top 24) l15 c15 k15
 have O15:=UV (P:=l.prog) (w:=w) (base:=base) (A:=A) F15 T G5
 have G15:Fk l.prog w K mg base 2 "_law_mix" ["_law_script","_law_k"] 2 zW:=⟨_,_,O15,PySem.W.mg_of X G a15,k15,F15.binds (ps:=["_law_script","_law_k"]) λ_ _ _ _ _ _=>us2 (λ_ _=>rfl)⟩
 have F16:=fun_mk (st:=top 29) l16 c16 k16
 have O16:=VV (P:=l.prog) (w:=w) (base:=base) (A:=A) F16 T G6
 have G16:Fk l.prog w K mg base 2 "_law_takes" ["_law_machine_here","_law_word_here"] 2 zR:=⟨_,_,O16,PySem.W.mg_of X G a16,k16,F16.binds (ps:=["_law_machine_here","_law_word_here"]) λ_ _ _ _ _ _=>us2 (λ_ _=>rfl)⟩
 have F17:=fun_mk (st:=top 9) l17 c17 k17
 have O17:=wX (P:=l.prog) (w:=w) (base:=base) (A:=A) F17 T G13
 have G17:Fk l.prog w K mg base 3 "look_machine" ["machine"] 1 (zP A):=⟨_,_,O17,PySem.W.mg_of X G a17,k17,F17.binds (ps:=["machine"]) λ_ _ _ _ _ _=>us1 (λ_=>rfl)⟩
 have F18:=fun_mk (st:=top 25) l18 c18 k18
 have O18:=WN (P:=l.prog) (w:=w) (base:=base) (A:=A) F18 T G15
 have G18:Fk l.prog w K mg base 3 "_law_sources" ["_law_script","_law_k","_law_many","_law_most"] 4 ZV:=⟨_,_,O18,PySem.W.mg_of X G a18,k18,F18.binds (ps:=["_law_script","_law_k","_law_many","_law_most"]) λ_ _ _ _ _ _=>us4 (λ_ _ _ _=>rfl)⟩
 have F19:=fun_mk (st:=top 27) l19 c19 k19
 have O19:=uN (P:=l.prog) (w:=w) (base:=base) (A:=A) F19 T G15
 have G19:Fk l.prog w K mg base 3 "_law_word" ["_law_script","_law_k","_law_most"] 3 z6:=⟨_,_,O19,PySem.W.mg_of X G a19,k19,F19.binds (ps:=["_law_script","_law_k","_law_most"]) λ_ _ _ _ _ _=>us3 (λ_ _ _=>rfl)⟩
 have F20:=fun_mk (st:=top 15) l20 c20 k20
 have O20:=QI (P:=l.prog) (w:=w) (base:=base) (A:=A) F20 T G17
 have G20:Fk l.prog w K mg base 4 "turned" ["machine"] 1 (Z3 A):=⟨_,_,O20,PySem.W.mg_of X G a20,k20,F20.binds (ps:=["machine"]) λ_ _ _ _ _ _=>us1 (λ_=>rfl)⟩
 have F21:=fun_mk (st:=top 16) l21 c21 k21
 have O21:=QJ (P:=l.prog) (w:=w) (base:=base) (A:=A) F21 T G17 G1 G14 G2
 have G21:Fk l.prog w K mg base 4 "joined" ["word","one","other"] 3 (ZU A):=⟨_,_,O21,PySem.W.mg_of X G a21,k21,F21.binds (ps:=["word","one","other"]) λ_ _ _ _ _ _=>us3 (λ_ _ _=>rfl)⟩
 have F22:=fun_mk (st:=top 26) l22 c22 k22
 have O22:=WP (P:=l.prog) (w:=w) (base:=base) (A:=A) F22 T G15 G18
 have G22:Fk l.prog w K mg base 4 "_law_machine" ["_law_script","_law_k","_law_most"] 3 ZF:=⟨_,_,O22,PySem.W.mg_of X G a22,k22,F22.binds (ps:=["_law_script","_law_k","_law_most"]) λ_ _ _ _ _ _=>us3 (λ_ _ _=>rfl)⟩
 have F23:=fun_mk (st:=top 33) l23 c23 k23
 have O23:=uP (P:=l.prog) (w:=w) (base:=base) (A:=A) F23 T G8 G21 G20
 have G23:Fk l.prog w K mg base 5 "_law_told" ["_law_word_here","_law_one","_law_other"] 3 (zT A):=⟨_,_,O23,PySem.W.mg_of X G a23,k23,F23.binds (ps:=["_law_word_here","_law_one","_law_other"]) λ_ _ _ _ _ _=>us3 (λ_ _ _=>rfl)⟩
 have F24:=fun_mk (st:=top 37) l24 c24 k24
 have O24:=uO (P:=l.prog) (w:=w) (base:=base) (A:=A) F24 T G23 G10 G12
 have G24:Fk l.prog w K mg base 6 "_law_wide" [] 0 (yZ A):=⟨_,_,O24,PySem.W.mg_of X G a24,k24,F24.binds (ps:=[]) λ_ _ _ _ _ _=>us0 rfl⟩
 have F25:=fun_mk (st:=top 38) l25 c25 k25
 have O25:=zAd (P:=l.prog) (w:=w) (base:=base) (A:=A) F25 T G22 G23 G24 G7 G17 G19 G16 G11 G9
 exact⟨λvs H Q E h=>O25.len vs H Q E (JQ hA vs H Q E h),λA' outer s H args us vs Q E hr e0 hb hv hs=>O25.run A' outer s H args us vs Q E hr e0 hb hv (JQ hA vs H Q E hs)⟩
theorem walk {l:PySem.W.OpenLaw}{q:Program}{loose:List Str}{XP:(Str->Option Value)->Heap->Prop}{YP:World->Heap->Prop}{d:DefRec}{K:Params->PySem.W.Frag}(hn:l.most=some 63)(hdf:d.params.defaults=[])
  (hY:∀ (w:World)(h:Heap),YP w h->(K w.params).In h)
  (F:∀ (w:World)(mg:Str->Option Value)(fa:Addr)(h:Heap),(K w.params).In h->h.Ns mainGlobals mg->mg d.name=some (.ref fa) ->
   ∃ fd:FuncData,(∀ (s:Shared) (u:Value),BindsTo s fd ⟨[u],[]⟩ [("_law_script",u)])/\∀ base:Heap,(K w.params).In base->base.Ns mainGlobals mg->FnOk l.prog w (K w.params) mg base (CX1 l.prog w) 7 fa fd ["_law_script"] (U6 (K w.params))) :
  PySem.W.WalkO q loose XP YP l.row.toRowW d [] (λf vs=>PySem.call f vs):=
 L2.walk_of (n:=63) (k:=7) (x:="_law_script") (CX:=λw=>CX1 l.prog w) (sp:=λw=>U6 (K w.params)) hn (by decide) hdf ⟨rfl,by decide,by decide⟩ hY F (λ_ _ a ns hl _ hS=>⟨a,ns,rfl,hS,hl,λ_=>rfl⟩) λ_ _ _ _ _ z=>by
  obtain⟨_,_,_,_,_,_,z⟩:=z
  exact z
end PM.K10
open PySem PySem.W PyProof.Rows
set_option maxRecDepth 100000 in
set_option maxHeartbeats 0 in
theorem PySem.Challenge.cw_boxword_k10_whole_joined_holds : PySem.Challenge.rw_boxword_k10_whole_joined.Holds := by
 w_on;o_law;k_head;(case hw=>w_witness2)
 k_fill
 refine PM.K10.walk (l:=PySem.Challenge.rw_boxword_k10_whole_joined) rfl rfl (λw h Y=>PySem.W.kIn_of Y) ?F
 case F=>
  intro w mg fa h KX G hmg
  refine' PM.K10.all_mk KX G hmg ?a0 ?l0 ?c0 ?k0 ?a1 ?l1 ?c1 ?k1 ?a2 ?l2 ?c2 ?k2 ?a3 ?l3 ?c3 ?k3 ?a4 ?l4 ?c4 ?k4 ?a5 ?l5 ?c5 ?k5 ?a6 ?l6 ?c6 ?k6 ?a7 ?l7 ?c7 ?k7 ?a8 ?l8 ?c8 ?k8 ?a9 ?l9 ?c9 ?k9 ?a10 ?l10 ?c10 ?k10 ?a11 ?l11 ?c11 ?k11 ?a12 ?l12 ?c12 ?k12 ?a13 ?l13 ?c13 ?k13 ?a14 ?l14 ?c14 ?k14 ?a15 ?l15 ?c15 ?k15 ?a16 ?l16 ?c16 ?k16 ?a17 ?l17 ?c17 ?k17 ?a18 ?l18 ?c18 ?k18 ?a19 ?l19 ?c19 ?k19 ?a20 ?l20 ?c20 ?k20 ?a21 ?l21 ?c21 ?k21 ?a22 ?l22 ?c22 ?k22 ?a23 ?l23 ?c23 ?k23 ?a24 ?l24 ?c24 ?k24 ?a25 ?l25 ?c25 ?k25 ?b_ValueError ?b_enumerate ?b_int ?b_isinstance ?b_len ?b_list ?b_max ?b_min ?b_range ?b_set ?b_sorted ?b_tuple ?g_MOST_BOXES ?g_MOST_STATES ?g_FIRST_TRIPLE ?l_kt0 ?l_kt1 ?g_JOINING_WORDS ?l_kt2 ?c_be ?c_bm ?c_bw ?c_tm ?c_bt ?e_be ?e_bm ?e_bw ?e_tm ?e_bt ?m_bm ?x_bm ?ga_bm ?no_bm ?cl_bm ?ob_bm ?be_bm ?ve_bm ?q_bm_bm ?q_bm_bw ?q_bm_tm ?q_bm_bt ?m_bw ?x_bw ?ga_bw ?no_bw ?cl_bw ?ob_bw ?be_bw ?ve_bw ?q_bw_bm ?q_bw_bw ?q_bw_tm ?q_bw_bt ?m_tm ?x_tm ?ga_tm ?no_tm ?cl_tm ?ob_tm ?be_tm ?ve_tm ?q_tm_bm ?q_tm_bw ?q_tm_tm ?q_tm_bt ?m_bt ?x_bt ?ga_bt ?no_bt ?cl_bt ?ob_bt ?be_bt ?ve_bt ?q_bt_bm ?q_bt_bw ?q_bt_tm ?q_bt_bt
  (case a0=>k_is)
  (case l0=>k_is)
  (case c0=>k_is)
  (case k0=>k_is)
  (case a1=>k_is)
  (case l1=>k_is)
  (case c1=>k_is)
  (case k1=>k_is)
  (case a2=>k_is)
  (case l2=>k_is)
  (case c2=>k_is)
  (case k2=>k_is)
  (case a3=>k_is)
  (case l3=>k_is)
  (case c3=>k_is)
  (case k3=>k_is)
  (case a4=>k_is)
  (case l4=>k_is)
  (case c4=>k_is)
  (case k4=>k_is)
  (case a5=>k_is)
  (case l5=>k_is)
  (case c5=>k_is)
  (case k5=>k_is)
  (case a6=>k_is)
  (case l6=>k_is)
  (case c6=>k_is)
  (case k6=>k_is)
  (case a7=>k_is)
  (case l7=>k_is)
  (case c7=>k_is)
  (case k7=>k_is)
  (case a8=>k_is)
  (case l8=>k_is)
  (case c8=>k_is)
  (case k8=>k_is)
  (case a9=>k_is)
  (case l9=>k_is)
  (case c9=>k_is)
  (case k9=>k_is)
  (case a10=>k_is)
  (case l10=>k_is)
  (case c10=>k_is)
  (case k10=>k_is)
  (case a11=>k_is)
  (case l11=>k_is)
  (case c11=>k_is)
  (case k11=>k_is)
  (case a12=>k_is)
  (case l12=>k_is)
  (case c12=>k_is)
  (case k12=>k_is)
  (case a13=>k_is)
  (case l13=>k_is)
  (case c13=>k_is)
  (case k13=>k_is)
  (case a14=>k_is)
  (case l14=>k_is)
  (case c14=>k_is)
  (case k14=>k_is)
  (case a15=>k_is)
  (case l15=>k_is)
  (case c15=>k_is)
  (case k15=>k_is)
  (case a16=>k_is)
  (case l16=>k_is)
  (case c16=>k_is)
  (case k16=>k_is)
  (case a17=>k_is)
  (case l17=>k_is)
  (case c17=>k_is)
  (case k17=>k_is)
  (case a18=>k_is)
  (case l18=>k_is)
  (case c18=>k_is)
  (case k18=>k_is)
  (case a19=>k_is)
  (case l19=>k_is)
  (case c19=>k_is)
  (case k19=>k_is)
  (case a20=>k_is)
  (case l20=>k_is)
  (case c20=>k_is)
  (case k20=>k_is)
  (case a21=>k_is)
  (case l21=>k_is)
  (case c21=>k_is)
  (case k21=>k_is)
  (case a22=>k_is)
  (case l22=>k_is)
  (case c22=>k_is)
  (case k22=>k_is)
  (case a23=>k_is)
  (case l23=>k_is)
  (case c23=>k_is)
  (case k23=>k_is)
  (case a24=>k_is)
  (case l24=>k_is)
  (case c24=>k_is)
  (case k24=>k_is)
  (case a25=>k_is)
  (case l25=>k_is)
  (case c25=>k_is)
  (case k25=>k_is)
  (case b_ValueError=>k_is)
  (case b_enumerate=>k_is)
  (case b_int=>k_is)
  (case b_isinstance=>k_is)
  (case b_len=>k_is)
  (case b_list=>k_is)
  (case b_max=>k_is)
  (case b_min=>k_is)
  (case b_range=>k_is)
  (case b_set=>k_is)
  (case b_sorted=>k_is)
  (case b_tuple=>k_is)
  (case g_MOST_BOXES=>k_is)
  (case g_MOST_STATES=>k_is)
  (case g_FIRST_TRIPLE=>k_is)
  (case l_kt0=>k_is)
  (case l_kt1=>k_is)
  (case g_JOINING_WORDS=>k_is)
  (case l_kt2=>k_is)
  (case c_be=>k_is)
  (case c_bm=>k_is)
  (case c_bw=>k_is)
  (case c_tm=>k_is)
  (case c_bt=>k_is)
  (case e_be=>k_exc)
  (case e_bm=>k_exc)
  (case e_bw=>k_exc)
  (case e_tm=>k_exc)
  (case e_bt=>k_exc)
  (case m_bm=>k_is)
  (case x_bm=>k_is)
  (case ga_bm=>k_is)
  (case no_bm=>k_is)
  (case cl_bm=>k_is)
  (case ob_bm=>k_is)
  (case be_bm=>k_is)
  (case ve_bm=>kit_is)
  (case q_bm_bm=>kit_is)
  (case q_bm_bw=>kit_is)
  (case q_bm_tm=>kit_is)
  (case q_bm_bt=>kit_is)
  (case m_bw=>k_is)
  (case x_bw=>k_is)
  (case ga_bw=>k_is)
  (case no_bw=>k_is)
  (case cl_bw=>k_is)
  (case ob_bw=>k_is)
  (case be_bw=>k_is)
  (case ve_bw=>kit_is)
  (case q_bw_bm=>kit_is)
  (case q_bw_bw=>kit_is)
  (case q_bw_tm=>kit_is)
  (case q_bw_bt=>kit_is)
  (case m_tm=>k_is)
  (case x_tm=>k_is)
  (case ga_tm=>k_is)
  (case no_tm=>k_is)
  (case cl_tm=>k_is)
  (case ob_tm=>k_is)
  (case be_tm=>k_is)
  (case ve_tm=>kit_is)
  (case q_tm_bm=>kit_is)
  (case q_tm_bw=>kit_is)
  (case q_tm_tm=>kit_is)
  (case q_tm_bt=>kit_is)
  (case m_bt=>k_is)
  (case x_bt=>k_is)
  (case ga_bt=>k_is)
  (case no_bt=>k_is)
  (case cl_bt=>k_is)
  (case ob_bt=>k_is)
  (case be_bt=>k_is)
  (case ve_bt=>kit_is)
  (case q_bt_bm=>kit_is)
  (case q_bt_bw=>kit_is)
  (case q_bt_tm=>kit_is)
  (case q_bt_bt=>kit_is)
