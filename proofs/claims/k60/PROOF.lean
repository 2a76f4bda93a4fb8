import PyProof.Rows.All
import Wide.All
import OpenK.AllK
import Wide.FinOn
import Lean
import PyProof.EqAt
import PyProof.EqKinds
import PyProof.TupleCall
import PySem.Challenge.RW_boxword_k60_whole_watched
set_option Elab.async false
set_option linter.all false
set_option maxRecDepth 100000
theorem aR (h:0=0:=by rfl):True:=trivial
theorem aD (h:0=0:=by decide):True:=trivial
theorem aV (h:0=0:=by first | exact Or.inl rfl | exact Or.inr (Or.inl rfl) | exact Or.inr (Or.inr rfl)):True:=trivial
theorem aL (h:0=0:=by first | exact Or.inl rfl | exact Or.inr rfl):True:=trivial
theorem aF (h:0=0:=by first | exact .inl rfl | exact .inr rfl):True:=trivial
namespace L2
open PySem PySem.Spec PyProof.Rows
abbrev Key:=Sum Int Str
def keyIs:Key->Value->Bool
 |.inl k,v=>Value.isInt k v
 |.inr x,v=>Value.isStrOf x v
def keyH (w:World):Key->Int
 |.inl k=>hashInt k
 |.inr x=>hashStr w x
theorem keyIs_shape:∀ {k:Key}{v:Value},keyIs k v=true->(∃ i t,k=Sum.inl i/\v=Value.int i t)\/(∃ x t,k=Sum.inr x/\v=Value.str x t)
 |.inl i,v,h=>by
  obtain⟨t,e⟩:=Value.isInt_shape (k:=i) (v:=v) h
  exact .inl ⟨i,t,rfl,e⟩
 |.inr x,v,h=>by
  obtain⟨t,e⟩:=Value.isStrOf_shape (x:=x) (v:=v) h
  exact .inr ⟨x,t,rfl,e⟩
theorem key_ll (a b:Int):decide ((Sum.inl a:Key)=Sum.inl b)=(a == b):=by
 by_cases e:a=b
 ·subst e;simp
 ·have h:¬ (Sum.inl a:Key)=Sum.inl b:=λq=>e (Sum.inl.inj q)
  rw[decide_eq_false h]
  exact (beq_eq_false_iff_ne.mpr e).symm
theorem key_rr (a b:Str):decide ((Sum.inr a:Key)=Sum.inr b)=decide (a=b):=by
 by_cases e:a=b
 ·subst e;simp
 ·have h:¬ (Sum.inr a:Key)=Sum.inr b:=λq=>e (Sum.inr.inj q)
  rw[decide_eq_false h,decide_eq_false e]
theorem key_lr (a:Int) (b:Str):decide ((Sum.inl a:Key)=Sum.inr b)=false:=decide_eq_false (λq=>nomatch q)
theorem key_rl (a:Str) (b:Int):decide ((Sum.inr a:Key)=Sum.inl b)=false:=decide_eq_false (λq=>nomatch q)
def mixKind (prog:Program)(w:World):PySem.KeyKind prog w Key where
 is:=keyIs
 hash:=keyH w
 inj:=λv a b ha hb=>by
  rcases keyIs_shape ha with ⟨i,t,rfl,rfl⟩ | ⟨x,t,rfl,rfl⟩
  ·rcases keyIs_shape hb with ⟨j,u,rfl,e⟩ | ⟨y,u,rfl,e⟩
   ·injection e with e1 _;rw[e1]
   ·exact nomatch e
  ·rcases keyIs_shape hb with ⟨j,u,rfl,e⟩ | ⟨y,u,rfl,e⟩
   ·exact nomatch e
   ·injection e with e1 _;rw[e1]
 byValue:=λk v h=>by
  rcases keyIs_shape h with ⟨i,t,rfl,rfl⟩ | ⟨x,t,rfl,rfl⟩<;>rfl
 pyHash:=λhv h=>by
  rcases keyIs_shape hv with ⟨i,t,rfl,rfl⟩ | ⟨x,t,rfl,rfl⟩
  ·exact wpAny_pyHash_int h
  ·exact wpAny_pyHash_str h
 eqBool:=λhu hv h=>by
  rcases keyIs_shape hu with ⟨i,t,rfl,rfl⟩ | ⟨x,t,rfl,rfl⟩
  ·rcases keyIs_shape hv with ⟨j,u,rfl,rfl⟩ | ⟨y,u,rfl,rfl⟩
   ·rw[key_ll]at h;exact wpAny_eqBool_int h
   ·rw[key_lr]at h;exact SeqAt.EqAt.int_str i t y u _ _ _ _ h
  ·rcases keyIs_shape hv with ⟨j,u,rfl,rfl⟩ | ⟨y,u,rfl,rfl⟩
   ·rw[key_rl]at h;exact SeqAt.EqAt.str_int x t j u _ _ _ _ h
   ·rw[key_rr]at h;exact wpAny_eqBool_str h
 «strs»:=λk x t v h=>by
  rcases keyIs_shape h with ⟨i,u,rfl,e⟩ | ⟨y,u,rfl,e⟩
  ·exact nomatch e
  ·injection e with e1 _
   subst e1
   cases v<;>rfl
end L2
namespace L2
open PySem PySem.Spec PyProof.Rows
inductive V where
 |non | bl (b:Bool) | int (i:Int) | str (x:Str) | byt (b:Array UInt8) | flt (b:UInt64) | ref (a:Addr) | ty (n:String)
 deriving DecidableEq
def RelV:V->Value->Prop
 |.non,u=>u=Value.none
 |.bl b,u=>u=Value.bool b
 |.int i,u=>∃ t,u=Value.int i t
 |.str x,u=>∃ t,u=Value.str x t
 |.byt b,u=>∃ t,u=Value.bytes b t
 |.flt b,u=>∃ t,u=Value.float b t
 |.ref a,u=>u=Value.ref a
 |.ty n,u=>u=Value.type n
abbrev Vals:List V->List Value->Prop:=Paired RelV
theorem Vals.length {xs:List V}{us:List Value}(r:Vals xs us):xs.length=us.length:=Paired.length r
theorem Vals.get:∀ {xs:List V}{us:List Value}{i:Nat}{x:V},Vals xs us->xs[i]? = some x->∃ u,us[i]? = some u/\RelV x u
 |_,_,_,_,.nil,e=>by simp at e
 |_,_,0,_,.cons r _,e=>by simp at e;subst e;exact⟨_,rfl,r⟩
 |_,_,i+1,x,.cons _ t,e=>by
  obtain⟨u,h1,h2⟩:=Vals.get (i:=i) (x:=x) t (by simpa using e)
  exact⟨u,by simpa using h1,h2⟩
theorem Vals.set {x:V}{u:Value}(r:RelV x u):∀ {xs:List V}{us:List Value} (i:Nat),Vals xs us->Vals (xs.set i x) (us.set i u)
 |_,_,_,.nil=>.nil
 |_,_,0,.cons _ t=>.cons r t
 |_,_,i+1,.cons q t=>.cons q (Vals.set r i t)
theorem Vals.append:∀ {xs ys:List V}{us ws:List Value},Vals xs us->Vals ys ws->Vals (xs++ys) (us++ws)
 |_,_,_,_,.nil,s=>s
 |_,_,_,_,.cons r t,s=>.cons r (Vals.append t s)
theorem Vals.take:∀ {xs:List V}{us:List Value} (n:Nat),Vals xs us->Vals (xs.take n) (us.take n)
 |_,_,0,_=>.nil
 |_,_,_+1,.nil=>.nil
 |_,_,n+1,.cons r t=>.cons r (Vals.take n t)
theorem Vals.drop:∀ {xs:List V}{us:List Value} (n:Nat),Vals xs us->Vals (xs.drop n) (us.drop n)
 |_,_,0,r=>r
 |_,_,_+1,.nil=>.nil
 |_,_,n+1,.cons _ t=>Vals.drop n t
def RelO:Option V->Option Value->Prop
 |some v,some u=>RelV v u
 |none,none=>True
 |_,_=>False
def KV {κ:Type}:List (κ×V)->List (κ×Value)->Prop:=Paired λ(p:κ×V)(q:κ×Value)=>p.1=q.1/\RelV p.2 q.2
def kV:Key->V
 |.inl i=>.int i
 |.inr x=>.str x
inductive HO where
 /-- a list -/
 |lst (xs:List V)
 /-- a tuple (never changes) -/
 |tup (xs:List V)
 /-- a dict whose keys are ints and texts;one whose keys are tuples of ints and texts (the empty one is both) -/
 |dK (kvs:List (Key×V)) | dT (kvs:List (List Key×V))
 /-- a set of ints: its members,its size -/
 |set (S:Int->Bool) (n:Nat)
 /-- an instance of the class at C,its dict at dx,its attributes -/
 |ins (C dx:Addr)(fs:List (Str×V))
 /-- the dict of the instance at x -/
 |own (x:Addr)
 /-- the dict of an exception -/
 |xd (fs:List (Str×V))
 /-- a bound method,f of x -/
 |met (f x:Addr)
 /-- a range object lo,lo+1,.. below hi -/
 |rng (lo hi:Int)
 /-- a thing that is known to the object (the script;a dict while a loop walks it): read,never written while it is so -/
 |frz (o:Obj)(u:HO)
 /-- a code object's table -/
 |tbl (ps:Array Value)
 /-- any other thing,by what is true of its one object (a def of one's own: SetO a S n:=HO.ext λh=>..) -/
 |ext (φ:Heap->Prop)
abbrev Hp:=Addr->Option HO
def upd (H:Hp)(a:Addr)(o:HO):Hp:=λb=>if b=a then some o else H b
theorem upd_same {H:Hp}{a:Addr}{o:HO}:upd H a o a=some o:=by unfold upd;rw[if_pos rfl]
theorem upd_ne {H:Hp}{a b:Addr}{o:HO}(h:b≠a):upd H a o b=H b:=by unfold upd;rw[if_neg h]
theorem ne_of_none {H:Hp}{a b:Addr}{o:HO}(h:H a=some o)(h':H b=none):a≠b:=by
 intro e;subst e;rw[h]at h';cases h'
def IsTupD (h:Heap)(a:Addr)(items:Array Value):Prop:=∃ o,h.get? a=some o/\o.cls=.type "tuple"/\(∃ n,o.data=.seq items n)/\o.dict=none
theorem IsTupD.tup {h:Heap}{a:Addr}{items:Array Value}(x:IsTupD h a items):IsTup h a items:=let ⟨o,h1,h2,h3,_⟩:=x;⟨o,h1,h2,h3⟩
theorem IsTupD.new (h:Heap)(items:Array Value):IsTupD (h.push { cls:=.type "tuple",data:=.seq items }) h.objs.size items:=⟨_,Heap.get?_push_size _ rfl,rfl,⟨_,rfl⟩,rfl⟩
section
variable (P:Program)(w:World)
def ObjOk (H:Hp)(h:Heap)(a:Addr):HO->Prop
 |.lst xs=>xs.length<=sizeLine/\∃ (its:List Value) (n:Nat),Vals xs its/\h.get? a=some { cls:=.type "list",data:=.seq its.toArray n }
 |.tup xs=>xs.length<=sizeLine/\∃ its:List Value,Vals xs its/\IsTupD h a its.toArray
 |.dK kvs=>kvs.length<=sizeLine/\(a == sysModules)=false/\∃ vs,KV kvs vs/\h.DictOf (mixKind P w) a vs
 |.dT kvs=>kvs.length<=sizeLine/\(a == sysModules)=false/\∃ xs:List (List Key×Addr×Value),
   Paired (λ(p:List Key×V)(q:List Key×Addr×Value)=>p.1=q.1/\H q.2.1=some (.tup (p.1.map kV))/\RelV p.2 q.2.2) kvs xs ∧
   ∃ o es ep,h.get? a=some o/\o.ExactDict/\o.data=.dict es ep/\es.toList=xs.map (entryOfKey (tupleKind (mixKind P w)))/\(xs.map (·.1)).Nodup
 |.set S n=>h.SetOf (intKind P w) a S n
 |.ins C dx fs=>H dx=some (.own a)/\fs.length<=1000/\dx≠a/\h.get? a=some (PySem.W.instObj C dx) ∧
   ∃ mA,h.Ns1 dx mA/\(∀ f,RelO (fs.lookup f) (mA f))/\PySem.Within mA (fs.map (·.1))
 |.own _=>∃ o,h.get? a=some o
 |.xd fs=>∃ mA,h.Ns1 a mA/\∀ f,RelO (fs.lookup f) (mA f)
 |.rng lo hi=>∃ t u v,h.get? a=some { cls:=.type "range",data:=.fields #[.int lo t,.int hi u,.int 1 v] }
 |.frz o u=>h.get? a=some o/\ObjOk H h a u
 |.tbl ps=>h.get? a=some { cls:=.none,data:=.fields ps }
 |.met f x=>h.get? a=some (PySem.W.methodObj (.ref f) (.ref x))
 |.ext φ=>φ h/\(∃ o,h.get? a=some o)/\∀ h1 h2:Heap,φ h1->(∀ o,h1.get? a=some o->h2.get? a=some o)->φ h2
def HOk (H:Hp)(h:Heap):Prop:=∀ a o,H a=some o->ObjOk P w H h a o
end
section
variable {P:Program}{w:World}{H H':Hp}{h h':Heap}{a:Addr}{o:HO}
theorem ObjOk.lt (x:ObjOk P w H h a o):a<h.objs.size:=by
 cases o with
 |lst xs=>obtain⟨_,_,_,_,e⟩:=x;exact Heap.lt_size e
 |tup xs=>obtain⟨_,_,_,p⟩:=x;exact p.tup.lt
 |dK kvs=>obtain⟨_,_,_,_,o,_,_,e,_⟩:=x;exact Heap.lt_size e
 |dT kvs=>obtain⟨_,_,_,_,o,_,_,e,_⟩:=x;exact Heap.lt_size e
 |set S n=>obtain⟨o,_,_,_,e,_⟩:=x;exact Heap.lt_size e
 |ins C dx fs=>obtain⟨_,_,_,e,_⟩:=x;exact Heap.lt_size e
 |own y=>obtain⟨_,e⟩:=x;exact Heap.lt_size e
 |xd fs=>obtain⟨_,⟨_,_,_,e,_⟩,_⟩:=x;exact Heap.lt_size e
 |rng lo hi=>obtain⟨_,_,_,e⟩:=x;exact Heap.lt_size e
 |frz ob u=>obtain⟨e,_⟩:=x;exact Heap.lt_size e
 |tbl ps=>exact Heap.lt_size (show h.get? a=some _ from x)
 |met f y=>exact Heap.lt_size (show h.get? a=some _ from x)
 |ext φ=>obtain⟨_,⟨_,e⟩,_⟩:=x;exact Heap.lt_size e
theorem Paired.mapP {α β:Type}{F G:α->β->Prop}:∀ {l₁:List α}{l₂:List β},Paired F l₁ l₂->(∀ a b,F a b->G a b)->Paired G l₁ l₂
 |_,_,.nil,_=>.nil
 |_,_,.cons r t,f=>.cons (f _ _ r) (Paired.mapP t f)
theorem ObjOk.stay (x:ObjOk P w H h a o)(k:∀ b u,(b=a\/H b=some (.own a))->h.get? b=some u->h'.get? b=some u)
  (ho:∀ b,H b=some (.own a)->H' b=some (.own a))(ht:∀ b xs,H b=some (.tup xs)->H' b=some (.tup xs)):ObjOk P w H' h' a o:=by
 induction o with
 |lst xs=>obtain⟨z,its,n,r,e⟩:=x;exact⟨z,its,n,r,k _ _ (.inl rfl) e⟩
 |tup xs=>obtain⟨z,its,r,ob,e,c⟩:=x;exact⟨z,its,r,ob,k _ _ (.inl rfl) e,c⟩
 |dK kvs=>obtain⟨z,y,vs,r,ob,es,ep,e,c⟩:=x;exact⟨z,y,vs,r,ob,es,ep,k _ _ (.inl rfl) e,c⟩
 |dT kvs=>
  obtain⟨z,y,xs,r,ob,es,ep,e,c⟩:=x
  exact⟨z,y,xs,Paired.mapP r λp q z=>⟨z.1,ht _ _ z.2.1,z.2.2⟩,ob,es,ep,k _ _ (.inl rfl) e,c⟩
 |set S n=>obtain⟨ob,es,ep,t,e,c⟩:=x;exact⟨ob,es,ep,t,k _ _ (.inl rfl) e,c⟩
 |ins C dx fs=>
  obtain⟨d,z,ne,e,mA,⟨od,es,ep,e2,c⟩,r⟩:=x
  exact⟨ho _ d,z,ne,k _ _ (.inl rfl) e,mA,⟨od,es,ep,k _ _ (.inr d) e2,c⟩,r⟩
 |own y=>obtain⟨ob,e⟩:=x;exact⟨ob,k _ _ (.inl rfl) e⟩
 |xd fs=>obtain⟨mA,⟨od,es,ep,e,c⟩,r⟩:=x;exact⟨mA,⟨od,es,ep,k _ _ (.inl rfl) e,c⟩,r⟩
 |rng lo hi=>obtain⟨t,u,v,e⟩:=x;exact⟨t,u,v,k _ _ (.inl rfl) e⟩
 |frz ob u ih=>obtain⟨e,q⟩:=x;exact⟨k _ _ (.inl rfl) e,ih q⟩
 |tbl ps=>
  have e:h.get? a=some { cls:=.none,data:=.fields ps }:=x
  show h'.get? a=some { cls:=.none,data:=.fields ps }
  exact k a _ (.inl rfl) e
 |met f y=>
  have e:h.get? a=some (PySem.W.methodObj (.ref f) (.ref y)):=x
  show h'.get? a=some (PySem.W.methodObj (.ref f) (.ref y))
  exact k a _ (.inl rfl) e
 |ext φ=>obtain⟨p,⟨o,e⟩,st⟩:=x;exact⟨st _ _ p λo q=>k _ _ (.inl rfl) q,⟨o,k _ _ (.inl rfl) e⟩,st⟩
theorem HOk.lt (x:HOk P w H h)(e:H a=some o):a<h.objs.size:=(x a o e).lt
theorem HOk.fresh (x:HOk P w H h)(e:h.objs.size<=a):H a=none:=by
 cases q:H a with
 |none=>rfl
 |some u=>exact absurd (Nat.lt_of_lt_of_le (x.lt q) e) (Nat.lt_irrefl _)
theorem HOk.kept (x:HOk P w H h)(k:∀ b u,h.get? b=some u->h'.get? b=some u):HOk P w H h':=λa o e=>
 (x a o e).stay (λb u _ q=>k b u q) (λ_ q=>q) λ_ _ q=>q
theorem HOk.laid (x:HOk P w H h)(k:∀ b u,h.get? b=some u->h'.get? b=some u)(hp:h.objs.size<=a)(new:ObjOk P w (upd H a o) h' a o):HOk P w (upd H a o) h':=λb u e=>by
 have hn:=x.fresh hp
 by_cases hb:b=a
 ·subst hb;rw[upd_same]at e;cases e;exact new
 ·rw[upd_ne hb]at e
  exact (x b u e).stay (λc v _ q=>k c v q) (λc q=>by rw[upd_ne (ne_of_none q hn)];exact q) λc xs q=>by rw[upd_ne (ne_of_none q hn)];exact q
end
def Rd (H:Hp)(a:Addr)(u:HO):Prop:=H a=some u\/∃ o,H a=some (.frz o u)
theorem Rd.ok {P:Program}{w:World}{H:Hp}{h:Heap}{a:Addr}{u:HO}(r:Rd H a u)(x:HOk P w H h):ObjOk P w H h a u:=by
 rcases r with r | ⟨o,r⟩
 ·exact x a u r
 ·obtain⟨_,q⟩:=x a _ r
  exact q
def Mut:Option HO->Prop
 |some (.lst _)=>True
 |some (.dK _)=>True
 |some (.dT _)=>True
 |some (.set _ _)=>True
 |some (.ins _ _ _)=>True
 |some (.ext _)=>True
 |_=>False
section
variable {P:Program}{w:World}{H:Hp}{h h':Heap}{x e:Addr}{o':HO}
theorem HOk.write (ok:HOk P w H h)(mu:Mut (H x))(he:e=x\/H e=some (.own x))(k:∀ b u,b≠e->h.get? b=some u->h'.get? b=some u)(heo:∃ u,h'.get? e=some u)
  (new:ObjOk P w (upd H x o') h' x o'):HOk P w (upd H x o') h':=λb u q=>by
 have nown:∀ c y,H c=some (.own y)->c≠x:=λc y r z=>by subst z;rw[r]at mu;exact mu
 have ntup:∀ c xs,H c=some (.tup xs)->c≠x:=λc xs r z=>by subst z;rw[r]at mu;exact mu
 by_cases hb:b=x
 ·subst hb;rw[upd_same]at q;cases q;exact new
 ·rw[upd_ne hb]at q
  by_cases hbe:b=e
  ·have q':H b=some (.own x):=by
    rcases he with z | z
    ·exact absurd (hbe.trans z) hb
    ·rw[hbe];exact z
   rw[q]at q';cases q'
   obtain⟨v,hv⟩:=heo
   exact⟨v,by rw[hbe];exact hv⟩
  ·refine (ok b u q).stay (λc v hc r=>k c v ?_ r) (λc r=>by rw[upd_ne (nown c b r)];exact r) λc xs r=>by rw[upd_ne (ntup c xs r)];exact r
   rcases hc with rfl | hc
   ·exact hbe
   ·rintro rfl
    rcases he with z | z
    ·exact nown c b hc z
    ·rw[hc]at z;cases z;exact hb rfl
end
structure Un (fs ex:List Addr)(H H':Hp)(h h':Heap):Prop where
 keep:∀ b o,h.get? b=some o->H b=none->b ∉ fs->b ∉ ex->h'.get? b=some o
 slot:∀ b o,h.get? b=some o->H b=none->b ∈ fs->b ∉ ex->∃ sl,h'.get? b=some { o with slots:=sl }
 free:∀ b o,h.get? b=some o->H b=none->b ∉ ex->H' b=none
 there:∀ b o,h.get? b=some o->b ∉ ex->∃ o',h'.get? b=some o'
 tups:∀ b xs,H b=some (.tup xs)->H' b=some (.tup xs)
 frzs:∀ b o u,H b=some (.frz o u)->H' b=some (.frz o u)
 tbls:∀ b ps,H b=some (.tbl ps)->∃ more,H' b=some (.tbl (ps++more))
section
variable {fs fs' ex ex':List Addr}{H H1 H2:Hp}{h h1 h2 h':Heap}{a x e:Addr}{o:HO}
theorem Un.any (u:Un fs ex H H1 h h1){b:Addr}{ob:Obj}(q:h.get? b=some ob)(n:H b=none)(hx:b ∉ ex):∃ sl,h1.get? b=some { ob with slots:=sl }:=by
 by_cases hb:b ∈ fs
 ·exact u.slot b ob q n hb hx
 ·exact⟨ob.slots,u.keep b ob q n hb hx⟩
theorem Un.kept (k:∀ b u,h.get? b=some u->h'.get? b=some u):Un fs ex H H h h':=
 ⟨λb ob q _ _ _=>k b ob q,λb ob q _ _ _=>⟨ob.slots,k b ob q⟩,λ_ _ _ n _=>n,λb ob q _=>⟨ob,k b ob q⟩,λ_ _ q=>q,λ_ _ _ q=>q,λ_ ps q=>⟨#[],by rw[q];simp⟩⟩
theorem Un.refl:Un fs ex H H h h:=Un.kept λ_ _ q=>q
theorem Un.laid (k:∀ b u,h.get? b=some u->h'.get? b=some u)(hp:h.objs.size<=a)(hn:H a=none):Un fs ex H (upd H a o) h h' where
 keep:=λb u q _ _ _=>k b u q
 slot:=λb u q _ _ _=>⟨u.slots,k b u q⟩
 free:=λb u q n _=>by rw[upd_ne (Nat.ne_of_lt (Nat.lt_of_lt_of_le (Heap.lt_size q) hp))];exact n
 there:=λb u q _=>⟨u,k b u q⟩
 tups:=λb xs q=>by rw[upd_ne (ne_of_none q hn)];exact q
 frzs:=λb u xs q=>by rw[upd_ne (ne_of_none q hn)];exact q
 tbls:=λb ps q=>⟨#[],by rw[upd_ne (ne_of_none q hn),q];simp⟩
theorem Un.write (mu:Mut (H x))(he:e=x\/H e=some (.own x))(k:∀ b u,b≠e->h.get? b=some u->h'.get? b=some u)(heo:∃ u,h'.get? e=some u):Un fs ex H (upd H x o) h h':=by
 have hx:∀ b,H b=none->b≠x:=λb n z=>by subst z;rw[n]at mu;exact mu
 have hb:∀ b,H b=none->b≠e:=λb n z=>by
  subst z
  rcases he with r | r
  ·exact hx b n r
  ·rw[n]at r;cases r
 have hm:∀ b u,H b=some u->¬ Mut (some u)->b≠x:=λb u q nm z=>by subst z;rw[q]at mu;exact nm mu
 refine⟨λb u q n _ _=>k b u (hb b n) q,λb u q n _ _=>⟨u.slots,k b u (hb b n) q⟩,λb u q n _=>by rw[upd_ne (hx b n)];exact n,λb u q _=>?_,
  λb xs q=>by rw[upd_ne (hm b _ q λz=>z)];exact q,λb u xs q=>by rw[upd_ne (hm b _ q λz=>z)];exact q,λb ps q=>⟨#[],by rw[upd_ne (hm b _ q λz=>z),q];simp⟩⟩
 by_cases hbe:b=e
 ·subst hbe;exact heo
 ·exact⟨u,k b u hbe q⟩
end
def trk (h:Heap)(H:Hp):List Addr:=(List.range h.objs.size).filter λa=>(H a).isSome
def hidT (h:Heap)(H:Hp):Heap:=PySem.W.hideAll h (trk h H)
theorem hidT_size (h:Heap)(H:Hp):(hidT h H).objs.size=h.objs.size:=PySem.W.hideAll_size _ _
theorem hidT_get {h:Heap}{H:Hp}{b:Addr}{o:Obj}(e:h.get? b=some o)(n:H b=none):(hidT h H).get? b=some o:=
 PySem.W.hideAll_get _ e λhm=>by
  have q:(H b).isSome=true:=(List.mem_filter.mp hm).2
  rw[n]at q;simp at q
theorem of_hidT {h:Heap}{H:Hp}{b:Addr}{o:Obj}(e:(hidT h H).get? b=some o):h.get? b=some o/\H b=none:=by
 have e':h.get? b=some o:=PySem.W.of_hideAll (trk h H) e
 refine⟨e',?_⟩
 cases q:H b with
 |none=>rfl
 |some x=>
  have hm:b ∈ trk h H:=List.mem_filter.mpr ⟨List.mem_range.mpr (Heap.lt_size e'),by simp[q]⟩
  have z:(hidT h H).get? b=none:=PySem.W.hideAll_none (trk h H) hm
  rw[z]at e;cases e
end L2
namespace L2
open PySem PySem.Spec PyProof.Rows
structure Mod (K:PySem.W.Frag)(mg:Str->Option Value)(base:Heap):Prop where
 kin:K.In base
 glob:base.Ns mainGlobals mg
 blt:∃ mb,base.Ns builtinsNs mb/\∀ x:Str,x ≠ "__name__"->mb x=bootBuiltins x
 nolimit:base.NoLimit
structure Cx where
 prog:Program
 w:World
 K:PySem.W.Frag
 mg:Str->Option Value
 base:Heap
 A:Around
 N:List Str
 s₀:Shared
 H₀:Hp
 env:Env
 outer:List Env
 stack:List Env
 ex:List Addr
 fn:Str->Bool
 calm:Bool
 pn:List (Addr×Obj)
 xe:Value->Shared->Prop
def frs (l:List Env):List Addr:=l.filterMap (·.frame)
abbrev Cx.fs (X:Cx):List Addr:=frs X.outer
def Vis (sc:Scope) (x:Str):Prop:=sc.names.lookup x=some .local\/sc.names.lookup x=some .cell\/sc.names.lookup x=some .free
def Loc (sc:Scope) (x:Str):Prop:=sc.names.lookup x=some .local\/sc.names.lookup x=some .cell
def Look (env:Env)(h:Heap)(m:Str->Option Value) (x:Str) (u:Value):Prop:=
 (env.kindOf x=some .local/\m x=some u)\/((env.kindOf x=some .cell\/env.kindOf x=some .free)/\∃ c,env.cells.lookup x=some c/\h.IsCell c (some u))
structure Cx.Ok (X:Cx):Prop where
 mod:Mod X.K X.mg X.base
 kind:X.env.scope.kind=.function
 glob:X.env.globals=mainGlobals
 blt:X.env.builtins=builtinsNs
 above:X.s₀.heap.objs.size<=X.env.locals
 inj:∀ x y c,X.env.cells.lookup x=some c->X.env.cells.lookup y=some c->x=y
 has:∀ x,(X.env.kindOf x=some .cell\/X.env.kindOf x=some .free)->∃ c,X.env.cells.lookup x=some c
 cab:∀ x c,X.fn x=true->X.env.cells.lookup x=some c->X.s₀.heap.objs.size<=c
 hd:X.calm=true->X.A.handled=none
 frames:X.A.frames=some X.stack
 stk:X.stack=X.outer\/(X.stack=X.env::X.outer/\X.env.frame=some X.env.locals)
 exf:∀ b ∈ X.ex,b≠X.env.locals/\∀ x c,X.env.cells.lookup x=some c->c≠b
 bs:∀ b o,X.base.get? b=some o->X.s₀.heap.get? b=some o/\X.H₀ b=none
 bsz:X.base.objs.size<=X.s₀.heap.objs.size
 noex:∀ b o,X.base.get? b=some o->b ∉ X.ex
 exfs:∀ b ∈ X.ex,b ∉ X.fs
 funs:X.s₀.heap.FunFrames X.base X.outer
 frf:∀ b ∈ X.fs,X.H₀ b=none
structure Inv (X:Cx)(pins:List (Addr×Obj))(σ:List (Option V))(H:Hp)(s:Shared):Prop where
 ok:X.Ok
 os:s.os=X.s₀.os
 bare:AllBare s.gens
 base:Un X.fs X.ex X.H₀ H X.s₀.heap s.heap
 loc:∃ m,s.heap.Ns X.env.locals m/\∀ (i:Nat) (x:Str)(v:V),X.N[i]? = some x->σ[i]? = some (some v)->Vis X.env.scope x->∃ u,RelV v u/\Look X.env s.heap m x u
 cell:∀ x c,X.env.cells.lookup x=some c->∃ v,s.heap.IsCell c v
 free:H X.env.locals=none
 freeC:∀ x c,X.env.cells.lookup x=some c->H c=none
 pin:∀ p ∈ X.pn++pins,s.heap.get? p.1=some p.2/\H p.1=none/\p.1≠X.env.locals/\p.1 ∉ X.fs/\∀ v,p.2.data≠.cell v
 hok:HOk X.prog X.w H s.heap
 len:σ.length=X.N.length
section
variable {X:Cx}{pins:List (Addr×Obj)}{σ:List (Option V)}{H H':Hp}{s:Shared}{h':Heap}
theorem Cx.Ok.nofr (ok:X.Ok){b:Addr}{o:Obj}(e:X.base.get? b=some o):b ∉ X.fs:=λhb=>by
 have:=(ok.funs.mem hb).1
 rw[e]at this;cases this
theorem Inv.bs (I:Inv X pins σ H s):∀ b o,X.base.get? b=some o->s.heap.get? b=some o/\H b=none:=λb o e=>
 ⟨I.base.keep b o (I.ok.bs b o e).1 (I.ok.bs b o e).2 (I.ok.nofr e) (I.ok.noex b o e),I.base.free b o (I.ok.bs b o e).1 (I.ok.bs b o e).2 (I.ok.noex b o e)⟩
theorem Inv.bk (I:Inv X pins σ H s):∀ b o,X.base.get? b=some o->s.heap.get? b=some o:=λb o e=>(I.bs b o e).1
theorem Inv.mod (I:Inv X pins σ H s):Mod X.K X.mg X.base:=I.ok.mod
theorem Inv.kIn (I:Inv X pins σ H s):X.K.In s.heap:=I.ok.mod.kin.keeps I.bk
theorem Inv.lt (I:Inv X pins σ H s):X.env.locals<s.heap.objs.size:=let ⟨_,hn,_⟩:=I.loc;hn.lt
theorem Inv.sz (I:Inv X pins σ H s):X.s₀.heap.objs.size<=s.heap.objs.size:=Nat.le_trans I.ok.above (Nat.le_of_lt I.lt)
theorem Inv.nofs (I:Inv X pins σ H s){a:Addr}(h:s.heap.objs.size<=a):a ∉ X.fs:=λhb=>by
 obtain⟨_,o,ho,_⟩:=I.ok.funs.mem hb
 exact absurd (Nat.lt_of_lt_of_le (Heap.lt_size ho) (Nat.le_trans I.sz h)) (Nat.lt_irrefl _)
theorem Inv.cne (I:Inv X pins σ H s):∀ x c,X.env.cells.lookup x=some c->c≠X.env.locals:=λx c e z=>by
 obtain⟨v,o,ho,hd⟩:=I.cell x c e
 obtain⟨m,⟨o',es,ep,ho',hd',_⟩,_⟩:=I.loc
 rw[z,ho']at ho;cases ho;rw[hd']at hd;cases hd
theorem Inv.funs (I:Inv X pins σ H s):s.heap.FunFrames X.base X.outer:=by
 have all:∀ (l:List Env),(∀ b ∈ frs l,b ∈ X.fs)->X.s₀.heap.FunFrames X.base l->s.heap.FunFrames X.base l:=by
  intro l
  induction l with
  |nil=>intro _ _;trivial
  |cons env r ih=>
   intro hs hl
   obtain⟨hk,⟨L,o,hf,hn,ho,hd⟩,hr⟩:=hl
   have hL:L ∈ X.fs:=hs L (by unfold frs;rw[List.filterMap_cons,hf];exact List.mem_cons_self)
   obtain⟨sl,e⟩:=I.base.slot L o ho (I.ok.frf L hL) hL λz=>I.ok.exfs L z hL
   exact⟨hk,⟨L,_,hf,hn,e,hd⟩,ih (λb hb=>hs b (by unfold frs;rw[List.filterMap_cons,hf];exact List.mem_cons_of_mem _ hb)) hr⟩
 exact all X.outer (λ_ hb=>hb) I.ok.funs
theorem Inv.stack (I:Inv X pins σ H s):s.heap.FunFrames X.base X.stack:=by
 rcases I.ok.stk with e | ⟨e,hf⟩
 ·rw[e];exact I.funs
 ·rw[e]
  obtain⟨m,hn,_⟩:=I.loc
  refine .cons (by rw[I.ok.kind];decide) hf hn ?_ I.funs
  exact Heap.get?_none_of_le (Nat.le_trans I.ok.bsz I.ok.above)
theorem Inv.stkSub (I:Inv X pins σ H s):∀ b ∈ frs X.stack,b ∈ X.env.locals::X.fs:=λb hb=>by
 rcases I.ok.stk with e | ⟨e,hf⟩
 ·rw[e]at hb;exact List.mem_cons_of_mem _ hb
 ·rw[e]at hb
  unfold frs at hb
  rw[List.filterMap_cons,hf]at hb
  exact hb
theorem Inv.stkFree (I:Inv X pins σ H s):∀ b ∈ frs X.stack,H b=none:=λb hb=>by
 rcases List.mem_cons.mp (I.stkSub b hb) with e | hb
 ·rw[e];exact I.free
 ·obtain⟨_,o,ho,_⟩:=I.ok.funs.mem hb
  exact I.base.free b o ho (I.ok.frf b hb) λz=>I.ok.exfs b z hb
theorem Inv.step {g':Array GenState}{t':Nat}{d':Drawn}{ch:List Addr}(I:Inv X pins σ H s)
  (hch:∀ b ∈ ch,(b ∈ X.ex\/X.s₀.heap.objs.size<=b)/\b≠X.env.locals/\(∀ x c,X.env.cells.lookup x=some c->c≠b)/\∀ p ∈ X.pn++pins,p.1≠b)
  (keep:∀ b o,b≠X.env.locals->b ∉ X.fs->b ∉ ch->s.heap.get? b=some o->H b=none->h'.get? b=some o)
  (slot:∀ b o,b≠X.env.locals->b ∈ X.fs->b ∉ ch->s.heap.get? b=some o->H b=none->∃ sl,h'.get? b=some { o with slots:=sl })(free:∀ b o,b ∉ ch->s.heap.get? b=some o->H b=none->H' b=none)
  (there:∀ b o,b ∉ ch->s.heap.get? b=some o->∃ o',h'.get? b=some o')
  (tups:∀ b xs,H b=some (.tup xs)->H' b=some (.tup xs))(frzs:∀ b o u,H b=some (.frz o u)->H' b=some (.frz o u))(tbls:∀ b ps,H b=some (.tbl ps)->∃ more,H' b=some (.tbl (ps++more)))
  (ns:∀ m,s.heap.Ns X.env.locals m->h'.Ns X.env.locals m)(hok:HOk X.prog X.w H' h')(hg:AllBare g') :
  Inv X pins σ H' { s with heap:=h',gens:=g',drawn:=d',toks:=t' }:=by
 have neL:∀ b o,X.s₀.heap.get? b=some o->b≠X.env.locals:=λb o e=>Nat.ne_of_lt (Nat.lt_of_lt_of_le (Heap.lt_size e) I.ok.above)
 have neC:∀ b o,X.s₀.heap.get? b=some o->b ∉ X.ex->b ∉ ch:=λb o e hx hb=>by
  rcases (hch b hb).1 with z | z
  ·exact hx z
  ·exact absurd (Nat.lt_of_lt_of_le (Heap.lt_size e) z) (Nat.lt_irrefl _)
 have cellK:∀ x c,X.env.cells.lookup x=some c->∀ v,s.heap.IsCell c v->h'.IsCell c v:=λx c e v ⟨o,ho,hd⟩=>by
  have nch:c ∉ ch:=λz=>(hch c z).2.2.1 x c e rfl
  by_cases hc:c ∈ X.fs
  ·obtain⟨sl,q⟩:=slot c o (I.cne x c e) hc nch ho (I.freeC x c e)
   exact⟨_,q,hd⟩
  ·exact⟨o,keep c o (I.cne x c e) hc nch ho (I.freeC x c e),hd⟩
 refine⟨I.ok,I.os,hg,⟨λb o e n hb hx=>?_,λb o e n hb hx=>?_,λb o e n hx=>?_,λb o e hx=>?_,λb xs e=>tups b xs (I.base.tups b xs e),λb o xs e=>frzs b o xs (I.base.frzs b o xs e),λb ps e=>?_⟩,?_,λx c e=>?_,?_,λx c e=>?_,λp hp=>?_,hok,I.len⟩
 ·exact keep b o (neL b o e) hb (neC b o e hx) (I.base.keep b o e n hb hx) (I.base.free b o e n hx)
 ·obtain⟨sl,e1⟩:=I.base.slot b o e n hb hx
  obtain⟨sl',e2⟩:=slot b _ (neL b o e) hb (neC b o e hx) e1 (I.base.free b o e n hx)
  exact⟨sl',e2⟩
 ·obtain⟨o',e1⟩:=I.base.there b o e hx
  exact free b o' (neC b o e hx) e1 (I.base.free b o e n hx)
 ·obtain⟨o',e1⟩:=I.base.there b o e hx
  exact there b o' (neC b o e hx) e1
 ·obtain⟨m1,e1⟩:=I.base.tbls b ps e
  obtain⟨m2,e2⟩:=tbls b _ e1
  exact⟨m1++m2,by rw[e2,Array.append_assoc]⟩
 ·obtain⟨m,hn,hl⟩:=I.loc
  refine⟨m,ns m hn,λi x v e1 e2 e3=>?_⟩
  obtain⟨u,r,l⟩:=hl i x v e1 e2 e3
  refine⟨u,r,?_⟩
  rcases l with l | ⟨k,c,e,z⟩
  ·exact .inl l
  ·exact .inr ⟨k,c,e,cellK x c e _ z⟩
 ·obtain⟨v,z⟩:=I.cell x c e
  exact⟨v,cellK x c e v z⟩
 ·obtain⟨m,⟨o,_,_,ho,_⟩,_⟩:=I.loc
  exact free _ o (λz=>(hch _ z).2.1 rfl) ho I.free
 ·obtain⟨v,o,ho,hd⟩:=I.cell x c e
  exact free c o (λz=>(hch c z).2.2.1 x c e rfl) ho (I.freeC x c e)
 ·obtain⟨e,n,ne,nf,d⟩:=I.pin p hp
  have nch:p.1 ∉ ch:=λz=>(hch p.1 z).2.2.2 p hp rfl
  exact⟨keep p.1 p.2 ne nf nch e n,free p.1 p.2 nch e n,ne,nf,d⟩
theorem Inv.un {t':Nat}(I:Inv X pins σ H s)(u:Un X.fs [] H H' s.heap h')(hok:HOk X.prog X.w H' h'):Inv X pins σ H' { s with heap:=h',toks:=t' }:=by
 obtain⟨m,⟨o,es,ep,ho,r⟩,_⟩:=id I.loc
 obtain⟨sl,hL⟩:=u.any ho I.free (by simp)
 exact I.step (g':=s.gens) (d':=s.drawn) (ch:=[]) (λ_ z=>nomatch z) (λb o _ hb _ e n=>u.keep b o e n hb (by simp)) (λb o _ hb _ e n=>u.slot b o e n hb (by simp)) (λb o _ e n=>u.free b o e n (by simp)) (λb o _ e=>u.there b o e (by simp)) u.tups u.frzs u.tbls (λm' hm=>by
  obtain⟨o',es',ep',ho',r'⟩:=hm
  rw[ho]at ho';cases ho'
  exact⟨_,es',ep',hL,r'⟩) hok I.bare
theorem Inv.call {g':Array GenState}{t':Nat}{d':Drawn}{ch:List Addr}(I:Inv X pins σ H s)(u:Un (frs X.stack) ch H H' s.heap h')(hok:HOk X.prog X.w H' h')(hg:AllBare g')
  (hch:∀ b ∈ ch,(b ∈ X.ex\/X.s₀.heap.objs.size<=b)/\b≠X.env.locals/\(∀ x c,X.env.cells.lookup x=some c->c≠b)/\∀ p ∈ X.pn++pins,p.1≠b) :
  Inv X pins σ H' { s with heap:=h',gens:=g',drawn:=d',toks:=t' }:=by
 obtain⟨m,⟨o,es,ep,ho,r⟩,_⟩:=id I.loc
 obtain⟨sl,hL⟩:=u.any ho I.free λz=>(hch _ z).2.1 rfl
 exact I.step (ch:=ch) hch (λb o hL hb hc e n=>u.keep b o e n (λz=>(List.mem_cons.mp (I.stkSub b z)).elim hL hb) hc) (λb o _ _ hc e n=>u.any e n hc) (λb o hc e n=>u.free b o e n hc) (λb o hc e=>u.there b o e hc) u.tups u.frzs u.tbls (λm' hm=>by
  obtain⟨o',es',ep',ho',r'⟩:=hm
  rw[ho]at ho';cases ho'
  exact⟨_,es',ep',hL,r'⟩) hok hg
theorem Inv.turned {t':Nat}{it:Addr}(I:Inv X pins σ H s)(k:∀ b o,b≠it->s.heap.get? b=some o->h'.get? b=some o)(hn:H it=none)(hL:it≠X.env.locals)
  (h1:it ∈ X.ex\/X.s₀.heap.objs.size<=it)(h2:∀ x c,X.env.cells.lookup x=some c->c≠it)(h3:∀ p ∈ X.pn++pins,p.1≠it):Inv X pins σ H { s with heap:=h',toks:=t' }:=by
 have nit:∀ b u,H b=some u->b≠it:=λb u e z=>by rw[z,hn]at e;cases e
 refine I.step (g':=s.gens) (d':=s.drawn) (ch:=[it]) (λb hb=>?_) (λb o _ _ hc e _=>k b o (λz=>hc (by simp[z])) e) (λb o _ _ hc e _=>⟨o.slots,k b o (λz=>hc (by simp[z])) e⟩) (λ_ _ _ _ n=>n)
  (λb o hc e=>⟨o,k b o (λz=>hc (by simp[z])) e⟩) (λ_ _ e=>e) (λ_ _ _ e=>e) (λb ps e=>⟨#[],by rw[e];simp⟩) (λm hm=>?_) (λb u e=>?_) I.bare
 ·have e:b=it:=by simpa using hb
  subst e
  exact⟨h1,hL,h2,h3⟩
 ·obtain⟨o,es,ep,ho,r⟩:=hm
  exact⟨o,es,ep,k _ o (Ne.symm hL) ho,r⟩
 ·refine (I.hok b u e).stay (λc v hc q=>k c v ?_ q) (λ_ q=>q) λ_ _ q=>q
  rcases hc with z | z
  ·rw[z];exact nit b u e
  ·exact nit c _ z
theorem Inv.tok (I:Inv X pins σ H s) (t:Nat):Inv X pins σ H { s with toks:=t }:=I.un (h':=s.heap) (t':=t) Un.refl I.hok
theorem Inv.kept {t':Nat}(I:Inv X pins σ H s)(k:∀ b u,s.heap.get? b=some u->h'.get? b=some u):Inv X pins σ H { s with heap:=h',toks:=t' }:=I.un (Un.kept k) (I.hok.kept k)
theorem Inv.laid {a:Addr}{o:HO}{t':Nat}(I:Inv X pins σ H s)(k:∀ b u,s.heap.get? b=some u->h'.get? b=some u)(hp:s.heap.objs.size<=a)(new:ObjOk X.prog X.w (upd H a o) h' a o) :
  Inv X pins σ (upd H a o) { s with heap:=h',toks:=t' }:=I.un (Un.laid k hp (I.hok.fresh hp)) (I.hok.laid k hp new)
theorem Inv.write {x e:Addr}{o:HO}{t':Nat}(I:Inv X pins σ H s)(mu:Mut (H x))(he:e=x\/H e=some (.own x))(k:∀ b u,b≠e->s.heap.get? b=some u->h'.get? b=some u)(heo:∃ u,h'.get? e=some u)
  (new:ObjOk X.prog X.w (upd H x o) h' x o):Inv X pins σ (upd H x o) { s with heap:=h',toks:=t' }:=I.un (Un.write mu he k heo) (I.hok.write mu he k heo new)
theorem Inv.pins_of {pins':List (Addr×Obj)}(I:Inv X pins σ H s)(h:∀ p ∈ pins',s.heap.get? p.1=some p.2/\H p.1=none/\p.1≠X.env.locals/\p.1 ∉ X.fs/\∀ v,p.2.data≠.cell v):Inv X pins' σ H s:=
 ⟨I.ok,I.os,I.bare,I.base,I.loc,I.cell,I.free,I.freeC,λp hp=>(List.mem_append.mp hp).elim (λz=>I.pin p (List.mem_append_left _ z)) (h p),I.hok,I.len⟩
theorem nodup_ix {N:List Str}(hN:N.Nodup){i j:Nat}{x:Str}(a:N[i]? = some x)(b:N[j]? = some x):i=j:=by
 obtain⟨h1,e1⟩:=List.getElem?_eq_some_iff.mp a
 obtain⟨h2,e2⟩:=List.getElem?_eq_some_iff.mp b
 exact (List.getElem_inj hN).mp (e1.trans e2.symm)
theorem store_ok2 {M:Model}{A:Around}{E:Value->Shared->Prop}{i:Nat}{x:Str}{v:V}{u:Value}{Q:Unit->Shared->Prop}(I:Inv X pins σ H s)(hN:X.N.Nodup)(hi:X.N[i]? = some x)(hx:Loc X.env.scope x)(r:RelV v u)
  (h:∀ s',Inv X pins (σ.set i (some v)) H s'->(∃ a,Heap.SameBut a s.heap s'.heap/\(a=X.env.locals\/X.env.cells.lookup x=some a))->Q () s')(hf:X.fn x=true\/X.env.scope.names.lookup x=some .local:=by first | exact .inl rfl | exact .inr rfl | assumption):wpAny M A (storeName X.env x u) Q E s:=by
 obtain⟨m,hn,hl⟩:=id I.loc
 have hcls:(X.env.scope.kind == .class || (X.env.scope.kind == .module && X.env.locals != X.env.globals))=false:=by rw[I.ok.kind];rfl
 have hiσ:i<σ.length:=by rw[I.len];exact (List.getElem?_eq_some_iff.mp hi).1
 have cne:=I.cne
 have tracked:∀ {a:Addr}{h':Heap},(∃ o,s.heap.get? a=some o/\H a=none)->Heap.SameBut a s.heap h'->HOk X.prog X.w H h':=fun {a h'} ha hs b ob e=>by
  obtain⟨_,_,hfree⟩:=ha
  refine (I.hok b ob e).stay (λc w' hc q=>(hs.2 c ?_).trans q) (λ_ q=>q) λ_ _ q=>q
  rintro rfl
  rcases hc with rfl | hc
  ·rw[hfree]at e;cases e
  ·rw[hfree]at hc;cases hc
 rcases hx with hk | hk
 ·refine wpAny_storeName_local hk hn (λh' hn' hs=>?_) hcls
  obtain⟨oL,_,_,hoL,_⟩:=id hn
  refine h _ ⟨I.ok,I.os,I.bare,⟨λb o e n hb hx=>?_,λb o e n hb hx=>?_,I.base.free,λb o e hx=>?_,I.base.tups,I.base.frzs,I.base.tbls⟩,⟨_,hn',λj y v' e1 e2 e3=>?_⟩,λy c e=>?_,I.free,I.freeC,λp hp=>?_,tracked ⟨oL,hoL,I.free⟩ hs,by simpa using I.len⟩ ⟨_,hs,.inl rfl⟩
  ·exact (hs.2 b (Nat.ne_of_lt (Nat.lt_of_lt_of_le (Heap.lt_size e) I.ok.above))).trans (I.base.keep b o e n hb hx)
  ·obtain⟨sl,e1⟩:=I.base.slot b o e n hb hx
   exact⟨sl,(hs.2 b (Nat.ne_of_lt (Nat.lt_of_lt_of_le (Heap.lt_size e) I.ok.above))).trans e1⟩
  ·obtain⟨o',e1⟩:=I.base.there b o e hx
   exact⟨o',(hs.2 b (Nat.ne_of_lt (Nat.lt_of_lt_of_le (Heap.lt_size e) I.ok.above))).trans e1⟩
  ·by_cases hj:j=i
   ·subst hj
    rw[hi]at e1;cases e1
    rw[List.getElem?_set_self hiσ]at e2
    cases e2
    exact⟨u,r,.inl ⟨hk,by simp⟩⟩
   ·rw[List.getElem?_set_ne (Ne.symm hj)]at e2
    obtain⟨u',r',q⟩:=hl j y v' e1 e2 e3
    refine⟨u',r',?_⟩
    rcases q with ⟨k,e⟩ | ⟨k,c,e,z⟩
    ·refine .inl ⟨k,?_⟩
     have:y≠x:=λe=>hj (nodup_ix hN e1 (e ▸ hi))
     simp[this,e]
    ·exact .inr ⟨k,c,e,z.sameBut hs (cne y c e)⟩
  ·obtain⟨w',z⟩:=I.cell y c e
   exact⟨w',z.sameBut hs (cne y c e)⟩
  ·obtain⟨e,n,ne,nf,d⟩:=I.pin p hp
   exact⟨(hs.2 p.1 ne).trans e,n,ne,nf,d⟩
 ·have hfn:X.fn x=true:=by
   rcases hf with z | z
   ·exact z
   ·rw[z]at hk;cases hk
  obtain⟨c,hc⟩:=I.ok.has x (.inl hk)
  obtain⟨w',z⟩:=I.cell x c hc
  refine wpAny_storeName_cell I.ok.kind hk hc z (λh' hc' hs=>?_)
  obtain⟨oc,hoc,hocd⟩:=id z
  refine h { s with heap:=h' } ⟨I.ok,I.os,I.bare,⟨λb o e n hb hx=>?_,λb o e n hb hx=>?_,I.base.free,λb o e hx=>?_,I.base.tups,I.base.frzs,I.base.tbls⟩,⟨m,hn.sameBut hs (Ne.symm (cne x c hc)),λj y v' e1 e2 e3=>?_⟩,λy c' e=>?_,I.free,I.freeC,λp hp=>?_,tracked ⟨oc,hoc,I.freeC x c hc⟩ hs,by simpa using I.len⟩ ⟨c,hs,.inr hc⟩
  ·exact (hs.2 b (Nat.ne_of_lt (Nat.lt_of_lt_of_le (Heap.lt_size e) (I.ok.cab x c hfn hc)))).trans (I.base.keep b o e n hb hx)
  ·obtain⟨sl,e1⟩:=I.base.slot b o e n hb hx
   exact⟨sl,(hs.2 b (Nat.ne_of_lt (Nat.lt_of_lt_of_le (Heap.lt_size e) (I.ok.cab x c hfn hc)))).trans e1⟩
  ·obtain⟨o',e1⟩:=I.base.there b o e hx
   exact⟨o',(hs.2 b (Nat.ne_of_lt (Nat.lt_of_lt_of_le (Heap.lt_size e) (I.ok.cab x c hfn hc)))).trans e1⟩
  ·by_cases hj:j=i
   ·subst hj
    rw[hi]at e1;cases e1
    rw[List.getElem?_set_self hiσ]at e2
    cases e2
    exact⟨u,r,.inr ⟨.inl hk,c,hc,hc'⟩⟩
   ·rw[List.getElem?_set_ne (Ne.symm hj)]at e2
    obtain⟨u',r',q⟩:=hl j y v' e1 e2 e3
    refine⟨u',r',?_⟩
    rcases q with q | ⟨k,c',e,z'⟩
    ·exact .inl q
    ·refine .inr ⟨k,c',e,z'.sameBut hs ?_⟩
     rintro rfl
     exact hj (nodup_ix hN e1 (I.ok.inj _ _ _ e hc ▸ hi))
  ·by_cases hcc:c'=c
   ·subst hcc;exact⟨_,hc'⟩
   ·obtain⟨w2,z2⟩:=I.cell y c' e
    exact⟨w2,z2.sameBut hs hcc⟩
  ·obtain⟨e,n,ne,nf,d⟩:=I.pin p hp
   refine⟨(hs.2 p.1 ?_).trans e,n,ne,nf,d⟩
   intro q
   rw[q,hoc]at e
   have q':oc=p.2:=Option.some.inj e
   exact d w' (by rw[<-q'];exact hocd)
theorem store_ok {M:Model}{A:Around}{E:Value->Shared->Prop}{i:Nat}{x:Str}{v:V}{u:Value}{Q:Unit->Shared->Prop}(I:Inv X pins σ H s)(hN:X.N.Nodup)(hi:X.N[i]? = some x)(hx:Loc X.env.scope x)(r:RelV v u)
  (h:∀ s',Inv X pins (σ.set i (some v)) H s'->Q () s')(hf:X.fn x=true\/X.env.scope.names.lookup x=some .local:=by first | exact .inl rfl | exact .inr rfl | assumption):wpAny M A (storeName X.env x u) Q E s:=
 store_ok2 I hN hi hx r (λs' I' _=>h s' I') hf
theorem Inv.call' {s':Shared}{ch:List Addr}(I:Inv X pins σ H s)(ho:s'.os=s.os)(u:Un (frs X.stack) ch H H' s.heap s'.heap)(hok:HOk X.prog X.w H' s'.heap)(hg:AllBare s'.gens)
  (hch:∀ b ∈ ch,(b ∈ X.ex\/X.s₀.heap.objs.size<=b)/\b≠X.env.locals/\(∀ x c,X.env.cells.lookup x=some c->c≠b)/\∀ p ∈ X.pn++pins,p.1≠b):Inv X pins σ H' s':=by
 obtain⟨h',g',d',t',o'⟩:=s'
 have e:o'=s.os:=ho
 subst e
 exact I.call (g':=g') (t':=t') (d':=d') u hok hg hch
end
abbrev XK:=Value->Option Addr->Hp->Prop
abbrev St:=List (Option V)
abbrev VK:=V->Hp->Prop
abbrev TE:=St->Hp->VK->Prop
abbrev TT:=St->Hp->(Bool->Hp->Prop)->Prop
abbrev TA:=St->Hp->(List V->Hp->Prop)->Prop
structure Ends where
 nx:St->Hp->Prop
 rt:VK
 bk:St->Hp->Prop:=λ_ _=>False
 ct:St->Hp->Prop:=λ_ _=>False
abbrev TS:=Ends->St->Hp->Prop
def EP (X:Cx)(pins:List (Addr×Obj))(σ:St)(Q:VK) (u:Value)(s':Shared):Prop:=∃ v H',Inv X pins σ H' s'/\RelV v u/\Q v H'
def TP (X:Cx)(pins:List (Addr×Obj))(σ:St)(Q:Bool->Hp->Prop)(b:Bool)(s':Shared):Prop:=∃ H',Inv X pins σ H' s'/\Q b H'
def AP (X:Cx)(pins:List (Addr×Obj))(σ:St)(Q:List V->Hp->Prop)(us:List Value)(s':Shared):Prop:=∃ vs H',Inv X pins σ H' s'/\Vals vs us/\Q vs H'
def SP (X:Cx)(pins:List (Addr×Obj))(D:Ends)(f:Flow)(s':Shared):Prop:=
 match f with
 |.next=>∃ σ' H',Inv X pins σ' H' s'/\D.nx σ' H'
 |.brk=>∃ σ' H',Inv X pins σ' H' s'/\D.bk σ' H'
 |.cont=>∃ σ' H',Inv X pins σ' H' s'/\D.ct σ' H'
 |.ret u=>∃ v σ' H',Inv X pins σ' H' s'/\RelV v u/\D.rt v H'
def PE (X:Cx)(e:Expr)(t:TE):Prop:=
 ∀ (pins:List (Addr×Obj))(s:Shared)(σ:St)(H:Hp)(Q:VK),Inv X pins σ H s->t σ H Q->wpAny (model X.prog X.w) X.A (eval e X.env) (EP X pins σ Q) X.xe s
def PT (X:Cx)(e:Expr)(t:TT):Prop:=
 ∀ (pins:List (Addr×Obj))(s:Shared)(σ:St)(H:Hp)(Q:Bool->Hp->Prop),Inv X pins σ H s->t σ H Q->wpAny (model X.prog X.w) X.A (isTrue e X.env (eval e X.env)) (TP X pins σ Q) X.xe s
def PW (X:Cx)(e:Expr)(t:TT):Prop:=
 ∀ (whole:Sem Value)(pins:List (Addr×Obj))(s:Shared)(σ:St)(H:Hp)(Q:Bool->Hp->Prop),Inv X pins σ H s->t σ H Q->wpAny (model X.prog X.w) X.A (isTrue e X.env whole) (TP X pins σ Q) X.xe s
theorem PW.pt {X:Cx}{e:Expr}{t:TT}(h:PW X e t):PT X e t:=h _
def PA (X:Cx)(es:List Expr)(t:TA):Prop:=
 ∀ (pos:Pos)(pins:List (Addr×Obj))(s:Shared)(σ:St)(H:Hp)(Q:List V->Hp->Prop),Inv X pins σ H s->t σ H Q->wpAny (model X.prog X.w) X.A (spliced (backTo pos (starEach es X.env))) (AP X pins σ Q) X.xe s
def PS (X:Cx)(st:Stmt)(t:TS):Prop:=
 ∀ (pins:List (Addr×Obj))(s:Shared)(σ:St)(H:Hp)(D:Ends),Inv X pins σ H s->t D σ H->wpAny (model X.prog X.w) X.A (exec st X.env) (SP X pins D) X.xe s
def PSs (X:Cx)(st:List Stmt)(t:TS):Prop:=
 ∀ (pins:List (Addr×Obj))(s:Shared)(σ:St)(H:Hp)(D:Ends),Inv X pins σ H s->t D σ H->wpAny (model X.prog X.w) X.A (execs st X.env) (SP X pins D) X.xe s
theorem thn {α:Type}{t:Sem α}{Q Q':α->Shared->Prop}{M:Model}{A:Around}{E:Value->Shared->Prop}{s:Shared}(h:wpAny M A t Q E s)(hQ:∀ a s,Q a s->Q' a s):wpAny M A t Q' E s:=wpAny_mono h hQ λ_ _ x=>x
end L2
namespace L2
open PySem PySem.Spec PyProof.Rows
section
variable {X:Cx}
def tVar (i:Nat):TE:=λσ H Q=>∃ v,σ[i]? = some (some v)/\Q v H
def tC (v:V):TE:=λ_ H Q=>Q v H
theorem pe_var {i:Nat}{x:Str}{pos:Pos}(hN:X.N[i]? = some x)(hv:Vis X.env.scope x)(hd:autoParam ((x == ("__debug__" : Str))=false) aD._auto_1)(hcd:autoParam ((x == ("__classdict__" : Str))=false) aD._auto_1):PE X (.Name x pos) (tVar i):=by
 intro pins s σ H Q I h
 obtain⟨v,e,h⟩:=h
 obtain⟨m,hn,hl⟩:=I.loc
 obtain⟨u,r,l⟩:=hl i x v hN e hv
 have fin:EP X pins σ Q u s:=⟨v,H,I,r,h⟩
 rcases l with ⟨hk,hm⟩ | ⟨hk,c,hc,hcell⟩
 ·exact wpAny_Name (wpAny_loadName_local I.ok.kind hk hn hm fin) hd
 ·rcases hk with hk | hk
  ·exact wpAny_Name (wpAny_loadName_cell I.ok.kind hk hc hcell fin) hd
  ·exact wpAny_Name (wpAny_loadName_free I.ok.kind hk hc hcell fin hcd) hd
theorem pe_int {i j pos}:PE X (.Constant (.int i) j pos) (tC (.int i)):=λ_ _ _ H _ I h=>wpAny_Constant_int ⟨.int i,H,I.tok _,⟨_,rfl⟩,h⟩
theorem pe_bl {b j pos}:PE X (.Constant (.bool b) j pos) (tC (.bl b)):=λ_ _ _ H _ I h=>Constant_bool ⟨.bl b,H,I,rfl,h⟩
theorem pe_non {j pos}:PE X (.Constant .none j pos) (tC .non):=λ_ _ _ H _ I h=>Constant_none ⟨.non,H,I,rfl,h⟩
theorem pe_str {x j pos}:PE X (.Constant (.str x) j pos) (tC (.str x)):=λ_ _ _ H _ I h=>Calls.Constant_str ⟨.str x,H,I.tok _,⟨_,rfl⟩,h⟩
def Gl (X:Cx) (x:Str):Prop:=X.env.kindOf x=some .globalImplicit
theorem ld_glob {E:Value->Shared->Prop}{pins:List (Addr×Obj)}{s:Shared}{σ:St}{H:Hp}{x:Str}{u:Value}{pos:Pos}{Q:Value->Shared->Prop}(I:Inv X pins σ H s)(hg:Gl X x)(hm:X.mg x=some u)(h:Q u s)
  (hd:autoParam ((x == ("__debug__" : Str))=false) aD._auto_1):wpAny (model X.prog X.w) X.A (eval (.Name x pos) X.env) Q E s:=
 Calls.Name_function_global I.ok.kind hg (Calls.loadGlobal_global (by rw[I.ok.glob];exact I.mod.glob.keeps I.bk) hm h) hd
theorem ld_blt {E:Value->Shared->Prop}{pins:List (Addr×Obj)}{s:Shared}{σ:St}{H:Hp}{x:Str}{u:Value}{pos:Pos}{Q:Value->Shared->Prop}(I:Inv X pins σ H s)(hg:Gl X x)(hm:X.mg x=none)(hv:bootBuiltins x=some u)(h:Q u s)
  (hn:x ≠ "__name__":=by decide)(hd:autoParam ((x == ("__debug__" : Str))=false) aD._auto_1):wpAny (model X.prog X.w) X.A (eval (.Name x pos) X.env) Q E s:=by
 obtain⟨mb,h1,h2⟩:=I.mod.blt
 exact Calls.Name_function_global I.ok.kind hg (Calls.loadGlobal_builtin (by rw[I.ok.glob];exact I.mod.glob.keeps I.bk) hm (by rw[I.ok.blt];exact h1.keeps I.bk) ((h2 x hn).trans hv) h) hd
theorem pe_glob {x:Str}{v:V}{u:Value}{pos:Pos}(hg:Gl X x)(hm:X.mg x=some u)(r:RelV v u)(hd:autoParam ((x == ("__debug__" : Str))=false) aD._auto_1):PE X (.Name x pos) (tC v):=
 λ_ _ _ H _ I h=>ld_glob I hg hm ⟨v,H,I,r,h⟩ hd
theorem pe_bltn {x:Str}{v:V}{u:Value}{pos:Pos}(hg:Gl X x)(hm:X.mg x=none)(hv:bootBuiltins x=some u)(r:RelV v u)(hn:x ≠ "__name__":=by decide)(hd:autoParam ((x == ("__debug__" : Str))=false) aD._auto_1):PE X (.Name x pos) (tC v):=
 λ_ _ _ H _ I h=>ld_blt I hg hm hv ⟨v,H,I,r,h⟩ hn hd
variable {a b:Expr}{ta tb:TE}{pos:Pos}
def tB (t:TE):TT:=λσ H Q=>t σ H λx H1=>∃ c,x=.bl c/\Q c H1
variable {tA tB':TT}{rest:List Expr}
def tOr (t u:TT):TT:=λσ H Q=>t σ H λc H1=>if c=true then Q true H1 else u σ H1 Q
def tNot (t:TT):TT:=λσ H Q=>t σ H λc H1=>Q (!c) H1
theorem pw_or1 (ha:PT X a tA):PW X (.BoolOp .Or [a] pos) tA:=by
 intro wh pins s σ H Q I h
 refine isTrue_or (thn (ha pins s σ H Q I h) λc s1 e=>?_)
 cases c with
 |false=>exact isTrue_or_nil e
 |true=>exact e
theorem pw_or (ha:PT X a tA)(hb:PW X (.BoolOp .Or (b::rest) pos) tB'):PW X (.BoolOp .Or (a::b::rest) pos) (tOr tA tB'):=by
 intro wh pins s σ H Q I h
 refine isTrue_or (thn (ha pins s σ H _ I h) λc s1 ⟨H1,I1,q1⟩=>?_)
 cases c with
 |true=>exact⟨H1,I1,q1⟩
 |false=>exact hb wh pins s1 σ H1 Q I1 q1
theorem pt_not (ha:PT X a tA):PT X (.UnaryOp .Not a pos) (tNot tA):=by
 intro pins s σ H Q I h
 exact isTrue_not (ha pins s σ H (λc H1=>Q (!c) H1) I h)
def tNotV (ta:TE):TE:=λσ H Q=>ta σ H λx H1=>∃ c,x=.bl c/\Q (.bl (!c)) H1
theorem pe_not (ha:PE X a ta):PE X (.UnaryOp .Not a pos) (tNotV ta):=by
 intro pins s σ H Q I h
 refine UnaryOp_ (thn (ha pins s σ H _ I h) λv s1 ⟨x,H1,I1,r1,q1⟩=>?_)
 obtain⟨c,rfl,q1⟩:=q1
 cases r1
 exact not_of (wpAny_truthy_bool ⟨.bl (!c),H1,I1,rfl,q1⟩)
def tIf (t:TT)(ta tb:TE):TE:=λσ H Q=>t σ H λc H1=>if c=true then ta σ H1 Q else tb σ H1 Q
theorem pe_ifExp {c:Expr}(hc:PT X c tA)(ha:PE X a ta)(hb:PE X b tb):PE X (.IfExp c a b pos) (tIf tA ta tb):=by
 intro pins s σ H Q I h
 refine wpAny_IfExp (thn (hc pins s σ H _ I h) λd s1 ⟨H1,I1,q1⟩=>?_)
 cases d with
 |true=>exact ha pins s1 σ H1 Q I1 q1
 |false=>exact hb pins s1 σ H1 Q I1 q1
end
end L2
namespace L2
open PySem PySem.Spec PyProof.Rows
def SqL (K:PySem.W.Frag)(H:Hp)(a:Addr)(xs:List V):Prop:=
 Rd H a (.lst xs) ∨
  ∃ (o:Obj)(its:Array Value) (n:Nat),K.lookup a=some o/\o.cls=.type "list"/\o.dict=none/\o.data=.seq its n/\its.size<=sizeLine/\Vals xs its.toList
def SqT (K:PySem.W.Frag)(H:Hp)(a:Addr)(xs:List V):Prop:=
 Rd H a (.tup xs) ∨
  ∃ (o:Obj)(its:Array Value) (n:Nat),K.lookup a=some o/\o.cls=.type "tuple"/\o.dict=none/\o.data=.seq its n/\its.size<=sizeLine/\Vals xs its.toList
def absV:Value->Option V
 |.none=>some .non
 |.bool b=>some (.bl b)
 |.int i _=>some (.int i)
 |.str x _=>some (.str x)
 |.bytes b _=>some (.byt b)
 |.float b _=>some (.flt b)
 |.ref a=>some (.ref a)
 |.type n=>some (.ty n)
 |_=>none
theorem RelV.abs {x:V}{u:Value}(r:RelV x u):absV u=some x:=by
 cases x with
 |non=>cases r;rfl
 |bl _=>cases r;rfl
 |int _=>obtain⟨t,rfl⟩:=r;rfl
 |str _=>obtain⟨t,rfl⟩:=r;rfl
 |byt _=>obtain⟨t,rfl⟩:=r;rfl
 |flt _=>obtain⟨t,rfl⟩:=r;rfl
 |ref _=>cases r;rfl
 |ty _=>cases r;rfl
theorem RelV.inj {x y:V}{u:Value}(r:RelV x u)(q:RelV y u):x=y:=Option.some.inj (r.abs.symm.trans q.abs)
theorem Vals.inj:∀ {xs ys:List V}{us:List Value},Vals xs us->Vals ys us->xs=ys
 |_,_,_,.nil,.nil=>rfl
 |_,_,_,.cons r t,.cons r' t'=>by rw[r.inj r',Vals.inj t t']
section
variable {X:Cx}{pins:List (Addr×Obj)}{σ:St}{H:Hp}{s:Shared}{a:Addr}{xs ys:List V}
theorem SqL.of {K:PySem.W.Frag}(h:H a=some (.lst xs)):SqL K H a xs:=.inl (.inl h)
theorem SqT.of {K:PySem.W.Frag}(h:H a=some (.tup xs)):SqT K H a xs:=.inl (.inl h)
theorem Inv.list (I:Inv X pins σ H s)(h:SqL X.K H a xs):∃ its:List Value,Vals xs its/\PlainL s.heap a its.toArray/\xs.length<=sizeLine:=by
 rcases h with h | ⟨o,its,n,hk,hc,hd,hs,hz,r⟩
 ·obtain⟨z,its,n,r,e⟩:=h.ok I.hok
  exact⟨its,r,⟨_,n,e,rfl,rfl,rfl⟩,z⟩
 ·refine⟨its.toList,r,⟨o,n,I.kIn a o hk,hc,hd,by simpa using hs⟩,?_⟩
  have e:=r.length
  simp only[Array.length_toList]at e
  omega
theorem Inv.tuple (I:Inv X pins σ H s)(h:SqT X.K H a xs):∃ its:List Value,Vals xs its/\IsTup s.heap a its.toArray/\xs.length<=sizeLine:=by
 rcases h with h | ⟨o,its,n,hk,hc,_,hs,hz,r⟩
 ·obtain⟨z,its,r,p⟩:=h.ok I.hok
  exact⟨its,r,p.tup,z⟩
 ·refine⟨its.toList,r,⟨o,I.kIn a o hk,hc,n,by simpa using hs⟩,?_⟩
  have e:=r.length
  simp only[Array.length_toList]at e
  omega
theorem Inv.tupleD (I:Inv X pins σ H s)(h:SqT X.K H a xs):∃ o,s.heap.get? a=some o/\o.dict=none:=by
 rcases h with h | ⟨o,its,n,hk,hc,hd,hs,hz,r⟩
 ·obtain⟨z,its,r,o,h1,_,_,h2⟩:=h.ok I.hok
  exact⟨o,h1,h2⟩
 ·exact⟨o,I.kIn a o hk,hd⟩
theorem Inv.list_inj (I:Inv X pins σ H s)(h:SqL X.K H a xs)(h':SqL X.K H a ys):xs=ys:=by
 obtain⟨its,r,⟨o,n,e,_,_,d⟩,_⟩:=I.list h
 obtain⟨its',r',⟨o',n',e',_,_,d'⟩,_⟩:=I.list h'
 rw[e]at e';cases e'
 rw[d]at d'
 injection d' with d1 _
 have:its=its':=by simpa using congrArg Array.toList d1
 subst this
 exact r.inj r'
theorem Inv.tuple_inj (I:Inv X pins σ H s)(h:SqT X.K H a xs)(h':SqT X.K H a ys):xs=ys:=by
 obtain⟨its,r,⟨o,e,_,n,d⟩,_⟩:=I.tuple h
 obtain⟨its',r',⟨o',e',_,n',d'⟩,_⟩:=I.tuple h'
 rw[e]at e';cases e'
 rw[d]at d'
 injection d' with d1 _
 have:its=its':=by simpa using congrArg Array.toList d1
 subst this
 exact r.inj r'
end
section
variable {X:Cx}{pins:List (Addr×Obj)}{σ:St}{H:Hp}{s:Shared}{E:Value->Shared->Prop}
end
section
variable {X:Cx}{st:Stmt}{rest:List Stmt}{t u:TS}{e:Expr}{te:TE}{pos:Pos}
def tNext:TS:=λD σ H=>D.nx σ H
def tSeq (t u:TS):TS:=λD σ H=>t { D with nx:=u D } σ H
theorem pss_nil:PSs X [] tNext:=λ_ _ σ H _ I h=>wpAny_execs_nil ⟨σ,H,I,h⟩
theorem pss_cons (h1:PS X st t)(h2:PSs X rest u):PSs X (st::rest) (tSeq t u):=by
 intro pins s σ H D I h
 refine wpAny_execs_cons (thn (h1 pins s σ H { D with nx:=u D } I h) λf s1 q=>?_)
 cases f with
 |next=>
  obtain⟨σ',H',I',q⟩:=q
  exact h2 pins s1 σ' H' D I' q
 |ret v=>exact q
 |brk=>exact q
 |cont=>exact q
theorem pss_one (h1:PS X st t):PSs X [st] t:=by
 intro pins s σ H D I h
 refine wpAny_execs_cons (thn (h1 pins s σ H D I h) λf s1 q=>?_)
 cases f with
 |next=>exact wpAny_execs_nil q
 |ret v=>exact q
 |brk=>exact q
 |cont=>exact q
theorem Inv.quiet {pins:List (Addr×Obj)}{σ:St}{H:Hp}{s:Shared}(I:Inv X pins σ H s):interactive X.env=false:=by simp[interactive,I.ok.kind]
def tDrop (te:TE):TS:=λD σ H=>te σ H λ_ H1=>D.nx σ H1
theorem ps_expr (he:PE X e te)(hs:autoParam (swapsWith e none pos.line X.env=pure false) aR._auto_1):PS X (.Expr e pos) (tDrop te):=by
 intro pins s σ H D I h
 exact wpAny_Expr_any (thn (he pins s σ H _ I h) λv s1 ⟨x,H1,I1,r1,q1⟩=>⟨σ,H1,I1,q1⟩) I.quiet hs
def tRet (te:TE):TS:=λD σ H=>te σ H D.rt
theorem ps_ret (he:PE X e te):PS X (.Return (some e) pos) (tRet te):=by
 intro pins s σ H D I h
 exact wpAny_Return_some (thn (he pins s σ H _ I h) λv s1 ⟨x,H1,I1,r1,q1⟩=>⟨x,σ,H1,I1,r1,q1⟩)
def tIfS (c:TT)(t u:TS):TS:=λD σ H=>c σ H λb H1=>if b=true then t D σ H1 else u D σ H1
theorem ps_if {c:Expr}{a b:List Stmt}{tc:TT}(hc:PT X c tc)(ha:PSs X a t)(hb:PSs X b u):PS X (.If c a b pos) (tIfS tc t u):=by
 intro pins s σ H D I h
 refine wpAny_If (thn (hc pins s σ H _ I h) λd s1 ⟨H1,I1,q1⟩=>?_)
 cases d with
 |true=>exact ha pins s1 σ H1 D I1 q1
 |false=>exact hb pins s1 σ H1 D I1 q1
end
abbrev TG:=V->St->Hp->(St->Hp->Prop)->Prop
abbrev TGs:=List V->St->Hp->(St->Hp->Prop)->Prop
def PG (X:Cx)(target:Expr)(t:TG):Prop:=
 ∀ (pins:List (Addr×Obj))(s:Shared)(σ:St)(H:Hp)(v:V) (u:Value)(Q:St->Hp->Prop),Inv X pins σ H s->RelV v u->t v σ H Q ->
  wpAny (model X.prog X.w) X.A (assign target X.env u) (λ_ s'=>∃ σ' H',Inv X pins σ' H' s'/\Q σ' H') X.xe s
def PGs (X:Cx)(ts:List Expr)(t:TGs):Prop:=
 ∀ (pins:List (Addr×Obj))(s:Shared)(σ:St)(H:Hp)(vs:List V)(us:List Value)(Q:St->Hp->Prop),Inv X pins σ H s->Vals vs us->t vs σ H Q ->
  wpAny (model X.prog X.w) X.A (assignInOrder ((assignEach ts X.env).map (·.2)) us) (λ_ s'=>∃ σ' H',Inv X pins σ' H' s'/\Q σ' H') X.xe s
abbrev TSet:=V->V->V->Hp->(Hp->Prop)->Prop
def PSet (X:Cx)(t:TSet):Prop:=
 ∀ (pins:List (Addr×Obj))(s:Shared)(σ:St)(H:Hp)(o i v:V) (ov iv u:Value)(Q:Hp->Prop),Inv X pins σ H s->RelV o ov->RelV i iv->RelV v u->t o i v H Q ->
  wpAny (model X.prog X.w) X.A (setItem ov iv u) (λ_ s'=>∃ H',Inv X pins σ H' s'/\Q H') X.xe s
abbrev TIp:=V->V->Hp->VK->Prop
def PIp (X:Cx)(op:Operator)(t:TIp):Prop:=
 ∀ (pins:List (Addr×Obj))(s:Shared)(σ:St)(H:Hp)(x y:V) (v u:Value)(Q:VK),Inv X pins σ H s->RelV x v->RelV y u->t x y H Q ->
  wpAny (model X.prog X.w) X.A (inplaceOp op v u) (EP X pins σ Q) X.xe s
section
variable {X:Cx}{pos:Pos}
def gName (i:Nat):TG:=λv σ H Q=>Q (σ.set i (some v)) H
theorem pg_name {i:Nat}{x:Str}(hN:X.N.Nodup)(hi:X.N[i]? = some x)(hx:Loc X.env.scope x)(hf:X.fn x=true\/X.env.scope.names.lookup x=some .local:=by first | exact .inl rfl | exact .inr rfl | assumption):PG X (.Name x pos) (gName i):=by
 intro pins s σ H v u Q I r h
 exact wpAny_assign_Name (store_ok I hN hi hx r (λs' I'=>⟨_,H,I',h⟩) hf)
def gNil:TGs:=λvs σ H Q=>vs=[]/\Q σ H
def gCons (t:TG)(u:TGs):TGs:=λvs σ H Q=>∃ v r,vs=v::r/\t v σ H λσ' H'=>u r σ' H' Q
theorem pgs_nil:PGs X [] gNil:=by
 intro pins s σ H vs us Q I r h
 obtain⟨e,h⟩:=h
 subst e
 cases r
 exact assignInOrder_nil ⟨σ,H,I,h⟩
theorem pgs_cons {e:Expr}{es:List Expr}{t:TG}{u:TGs}(h1:PG X e t)(h2:PGs X es u)
  (hs:autoParam ((assignEach (e::es) X.env).map (·.2)=assign e X.env::(assignEach es X.env).map (·.2)) aR._auto_1):PGs X (e::es) (gCons t u):=by
 intro pins s σ H vs us Q I r h
 obtain⟨v,vr,e1,h⟩:=h
 subst e1
 cases r with
 |cons r rr=>
  rw[hs]
  refine assignInOrder_cons (thn (h1 pins s σ H _ _ _ I r h) λ_ s1 ⟨σ1,H1,I1,q1⟩=>?_)
  exact h2 pins s1 σ1 H1 _ _ Q I1 rr q1
def gTup (K:PySem.W.Frag) (n:Nat)(t:TGs):TG:=λv σ H Q=>∃ a xs,v=.ref a/\SqT K H a xs/\xs.length=n/\t xs σ H Q
theorem pg_tup {es:List Expr}{k:Nat}{t:TGs}{n:Nat}(hc:X.calm=true)(h:PGs X es t)
  (hn:autoParam ((assignEach es X.env).length=n) aR._auto_1)(hst:autoParam ((assignEach es X.env).findIdx? (·.1)=none) aR._auto_1):PG X (.Tuple es k pos) (gTup X.K n t):=by
 intro pins s σ H v u Q I r hw
 obtain⟨a,xs,e1,hq,hl,hw⟩:=hw
 subst e1
 cases r
 obtain⟨its,rv,ht,hz⟩:=I.tuple hq
 refine assign_Tuple_tuple (I.ok.hd hc) ht (by simp[hn,<-hl,rv.length]) hst λh' hx=>?_
 have I1:Inv X pins σ H { s with heap:=h' }:=I.kept (t':=s.toks) λb o e=>hx b o (Nat.ne_of_lt (Heap.lt_size e)) e
 exact h pins _ σ H xs _ Q I1 (by simpa using rv) hw
def gSub (to ti:TE)(t:TSet):TG:=λv σ H Q=>to σ H λo H1=>ti σ H1 λi H2=>t o i v H2 λH3=>Q σ H3
theorem pg_sub {o i:Expr}{to ti:TE}{t:TSet}(ho:PE X o to)(hi:PE X i ti)(hs:PSet X t)
  (ha:∀ v,assign (.Subscript o i pos) X.env v=(do
   let ov <-holding [v] (eval o X.env)
   let iv <-holding [v,ov] (eval i X.env)
   standAt pos
   holding [v,ov,iv] (setItem ov iv v)
   release [v,ov,iv] []):=by intro _;rfl):PG X (.Subscript o i pos) (gSub to ti t):=by
 intro pins s σ H v u Q I r h
 rw[ha]
 refine wpAny_bind (wpAny_holding (thn (ho pins s σ H _ I h) λov s1 ⟨x,H1,I1,r1,q1⟩=>?_))
 refine wpAny_bind (wpAny_holding (thn (hi pins s1 σ H1 _ I1 q1) λiv s2 ⟨y,H2,I2,r2,q2⟩=>?_))
 refine wpAny_bind (wpAny_standAt (wpAny_bind (wpAny_holding (thn (hs pins s2 σ H2 x y v ov iv u _ I2 r1 r2 r q2) λ_ s3 ⟨H3,I3,q3⟩=>?_))))
 exact wpAny_release ⟨σ,H3,I3,q3⟩
def tAsg (te:TE)(g:TG):TS:=λD σ H=>te σ H λx H1=>g x σ H1 D.nx
theorem ps_asg {tg e:Expr}{te:TE}{g:TG}(he:PE X e te)(hg:PG X tg g)(hs:autoParam (swapsWithSole [tg] e pos.line X.env=pure false) aR._auto_1)(hw:autoParam (swappedStores [tg] e X.env=pure none) aR._auto_1)
  (h1:autoParam ((assignEach [tg] X.env).map (·.2)=[assign tg X.env]) aR._auto_1):PS X (.Assign [tg] e pos) (tAsg te g):=by
 intro pins s σ H D I h
 refine wpAny_Assign_stores (thn (he pins s σ H _ I h) λv s1 ⟨x,H1,I1,r1,q1⟩=>?_) hs hw
 rw[h1]
 exact thn (hg pins s1 σ H1 x v _ I1 r1 q1) λ_ s2 q=>q
theorem ps_set {i:Nat}{x:Str}{e:Expr}{te:TE}{pos':Pos}(hN:X.N.Nodup)(hi:X.N[i]? = some x)(hx:Loc X.env.scope x)(he:PE X e te)(hs:autoParam (swapsWith e (some (.Name x pos')) pos.line X.env=pure false) aR._auto_1)(hf:X.fn x=true\/X.env.scope.names.lookup x=some .local:=by first | exact .inl rfl | exact .inr rfl | assumption) :
  PS X (.Assign [.Name x pos'] e pos) (tAsg te (gName i)):=by
 intro pins s σ H D I h
 refine wpAny_Assign_Name (thn (he pins s σ H _ I h) λv s1 ⟨y,H1,I1,r1,q1⟩=>?_) hs
 exact store_ok I1 hN hi hx r1 (λs2 I2=>⟨_,H1,I2,q1⟩) hf
def tAug (i:Nat)(te:TE)(ti:TIp):TS:=λD σ H=>∃ x,σ[i]? = some (some x)/\te σ H λy H1=>ti x y H1 λz H2=>D.nx (σ.set i (some z)) H2
theorem ps_aug {i:Nat}{x:Str}{e:Expr}{te:TE}{op:Operator}{ti:TIp}{pos':Pos}(hN:X.N.Nodup)(hi:X.N[i]? = some x)(hx:Loc X.env.scope x)(he:PE X e te)(ho:PIp X op ti)(hf:X.fn x=true\/X.env.scope.names.lookup x=some .local:=by first | exact .inl rfl | exact .inr rfl | assumption) :
  PS X (.AugAssign (.Name x pos') op e pos) (tAug i te ti):=by
 intro pins s σ H D I h
 obtain⟨v,e1,h⟩:=h
 obtain⟨m,hn,hl⟩:=I.loc
 have vis:Vis X.env.scope x:=by rcases hx with k | k;exact .inl k;exact .inr (.inl k)
 obtain⟨u,r,l⟩:=hl i x v hi e1 vis
 refine wpAny_AugAssign_Name ?_
 have go:wpAny (model X.prog X.w) X.A (eval e X.env) (λw s₂=>wpAny (model X.prog X.w) X.A (inplaceOp op u w) (λr s₃=>wpAny (model X.prog X.w) X.A (storeName X.env x r) (λ_=>SP X pins D .next) X.xe s₃) X.xe s₂) X.xe s:=by
  refine thn (he pins s σ H _ I h) λw s1 ⟨y,H1,I1,r1,q1⟩=>?_
  refine thn (ho pins s1 σ H1 v y u w _ I1 r r1 q1) λz s2 ⟨zv,H2,I2,r2,q2⟩=>?_
  exact store_ok I2 hN hi hx r2 (λs3 I3=>⟨_,H2,I3,q2⟩) hf
 rcases l with ⟨hk,hm⟩ | ⟨hk,c,hc,hcell⟩
 ·exact wpAny_loadName_local I.ok.kind hk hn hm go
 ·rcases hk with hk | hk
  ·exact wpAny_loadName_cell I.ok.kind hk hc hcell go
  ·rcases hx with k | k
   ·have:X.env.scope.names.lookup x=some .free:=hk
    rw[k]at this;cases this
   ·have:X.env.scope.names.lookup x=some .free:=hk
    rw[k]at this;cases this
def ipI (f:Int->Int->Int):TIp:=λx y H Q=>∃ i j,x=.int i/\y=.int j/\Q (.int (f i j)) H
theorem ip_add:PIp X .Add (ipI λi j=>i+j):=by
 intro pins s σ H x y v u Q I r1 r2 h
 obtain⟨i,j,e1,e2,q⟩:=h
 subst e1;subst e2
 obtain⟨t,rfl⟩:=r1
 obtain⟨t',rfl⟩:=r2
 exact iadd_int ⟨.int _,H,I.tok _,⟨_,rfl⟩,q⟩
end
section
variable {X:Cx}{pos:Pos}
def tWhile (c:TT)(tb:TS):TS:=λD σ H=>∃ W:Nat->St->Hp->Prop,(∃ m,W m σ H)/\∀ m σ H,W m σ H ->
 c σ H λb H1=>if b=true then ∃ N:St->Hp->Prop,(∀ σ' H',N σ' H'->∃ m',m'<m/\W m' σ' H')/\tb { D with nx:=N,ct:=N,bk:=D.nx } σ H1 else D.nx σ H1
theorem ps_while {c:Expr}{body:List Stmt}{tc:TT}{tb:TS}(hp:PassesOwn (model X.prog X.w) X.A X.env X.xe)(hc:PT X c tc)(hb:PSs X body tb):PS X (.While c body [] pos) (tWhile tc tb):=by
 intro pins s σ H D I h
 obtain⟨W,⟨m0,w0⟩,turn⟩:=h
 refine wpAny_While (codeAny_whileLoop (λn s'=>∃ σ' H',Inv X pins σ' H' s'/\W n σ' H') ?_ m0 ⟨σ,H,I,w0⟩)
 rintro n s1 ⟨σ1,H1,I1,w1⟩
 refine wpAny_passesOwn hp (thn (hc pins s1 σ1 H1 _ I1 (turn n σ1 H1 w1)) λb s2 ⟨H2,I2,q2⟩=>?_)
 cases b with
 |true=>
  obtain⟨N,hN,q2⟩:=q2
  rw[if_pos rfl]
  refine wpAny_passesOwn hp (thn (hb pins s2 σ1 H2 _ I2 q2) λf s3 q3=>?_)
  cases f with
  |next=>
   obtain⟨σ3,H3,I3,n3⟩:=q3
   obtain⟨m',hm,w3⟩:=hN σ3 H3 n3
   exact⟨m',hm,σ3,H3,I3,w3⟩
  |cont=>
   obtain⟨σ3,H3,I3,n3⟩:=q3
   obtain⟨m',hm,w3⟩:=hN σ3 H3 n3
   exact⟨m',hm,σ3,H3,I3,w3⟩
  |brk=>exact q3
  |ret v=>exact q3
 |false=>
  rw[if_neg Bool.false_ne_true]
  exact wpAny_execs_nil ⟨σ1,H2,I2,q2⟩
end
structure It where
 go:Nat->Hp->Prop
 yld:Nat->Hp->V->Hp->Prop
 stop:Nat->Hp->Prop
def FpOk (X:Cx)(pins:List (Addr×Obj))(H:Hp)(b:Addr):Prop:=
 H b=none/\b≠X.env.locals/\b ∉ X.fs/\(b ∈ X.ex\/X.s₀.heap.objs.size<=b)/\(∀ x c,X.env.cells.lookup x=some c->c≠b)/\∀ p ∈ X.pn++pins,p.1≠b
theorem Inv.fpOk {X:Cx}{pins:List (Addr×Obj)}{σ:St}{H H':Hp}{s:Shared}{b:Addr}(I:Inv X pins σ H s)(hb:s.heap.objs.size<=b)(hn:H' b=none):FpOk X pins H' b:=by
 refine⟨hn,Nat.ne_of_gt (Nat.lt_of_lt_of_le I.lt hb),I.nofs hb,.inr (Nat.le_trans I.sz hb),λx c e z=>?_,λp hp z=>?_⟩
 ·obtain⟨v,q⟩:=I.cell x c e
  exact absurd (Nat.lt_of_lt_of_le q.lt (by rw[z];exact hb)) (Nat.lt_irrefl _)
 ·exact absurd (Nat.lt_of_lt_of_le (Heap.lt_size (I.pin p hp).1) (by rw[z];exact hb)) (Nat.lt_irrefl _)
structure Turn (P:Program)(w:World)(K:PySem.W.Frag)(tg:Expr)(J:It)(fp:List Addr)(it:Addr)(tn:Nat->Heap->Prop):Prop where
 mem:it ∈ fp
 obj:∀ i h,tn i h->∀ b ∈ fp,∃ o,h.get? b=some o/\∀ v,o.data≠.cell v
 keep:∀ i h h',tn i h->(∀ b ∈ fp,∀ o,h.get? b=some o->h'.get? b=some o)->tn i h'
 item:∀ (X:Cx),X.prog=P->X.w=w->X.K=K->X.calm=true->∀ (i:Nat)(pins:List (Addr×Obj))(s:Shared)(σ:St)(H:Hp)(E:Value->Shared->Prop),Inv X pins σ H s->(∀ b ∈ fp,FpOk X pins H b)->tn i s.heap->J.go i H ->
  wpAny (model P w) X.A (pyNext (.ref it)) (λr s1=>∃ u,r=some u ∧
   wpAny (model P w) X.A (letOwnedTupleGo tg (.ref it) u) (λ_ s2=>∃ x H',Inv X pins σ H' s2/\RelV x u/\J.yld i H x H'/\tn (i+1) s2.heap/\∀ b ∈ fp,H' b=none) E s1) E s
 done:∀ (X:Cx),X.prog=P->X.w=w->X.K=K->X.calm=true->∀ (i:Nat)(pins:List (Addr×Obj))(s:Shared)(σ:St)(H:Hp)(E:Value->Shared->Prop),Inv X pins σ H s->(∀ b ∈ fp,FpOk X pins H b)->tn i s.heap->J.stop i H ->
  wpAny (model P w) X.A (pyNext (.ref it)) (λr s1=>r=none/\Inv X pins σ H s1) E s
 self:∀ (A:Around) (i:Nat)(s:Shared)(Q:Value->Shared->Prop)(E:Value->Shared->Prop),tn i s.heap->Q (.ref it) s->wpAny (model P w) A (pyIter (.ref it)) Q E s
abbrev TI:=St->Hp->(It->Hp->Prop)->Prop
def PIE (X:Cx)(pins:List (Addr×Obj))(σ:St)(tg:Expr)(R:It->Hp->Prop) (itv:Value)(s2:Shared):Prop:=
 ∃ (it:Addr)(fp:List Addr)(tn:Nat->Heap->Prop)(J:It)(H':Hp),itv=.ref it/\Inv X pins σ H' s2/\Turn X.prog X.w X.K tg J fp it tn/\tn 0 s2.heap/\(∀ b ∈ fp,FpOk X pins H' b)/\R J H'
def PI (X:Cx)(tg iter:Expr)(wi:TI):Prop:=
 ∀ (pins:List (Addr×Obj))(s:Shared)(σ:St)(H:Hp)(R:It->Hp->Prop),Inv X pins σ H s->wi σ H R ->
  wpAny (model X.prog X.w) X.A (eval iter X.env) (λv s1=>wpAny (model X.prog X.w) X.A (pyIter v) (PIE X pins σ tg R) X.xe s1) X.xe s
theorem go_of {M:Model}{A:Around}{E:Value->Shared->Prop}{s:Shared}{tg:Expr}{it:Addr}{u:Value}{o:Obj}{n:String}{vs:Array Value}{Q:Unit->Shared->Prop}(ho:s.heap.get? it=some o)(hc:o.cls=.type n)(hd:o.data=.fields vs)
  (hn:["enumerate","zip","dict_itemiterator","dict_reverseitemiterator","odict_iterator","itertools.zip_longest","itertools.pairwise"].contains n=false)(hQ:Q () s):wpAny M A (letOwnedTupleGo tg (.ref it) u) Q E s:=by
 unfold letOwnedTupleGo
 cases tg<;>first
  |exact wpAny_pure hQ
  |(cases u<;>first
    |exact wpAny_pure hQ
    |(refine wpAny_bind (wpAny_load ho ?_)
      rw[hc,hd]
      show wpAny M A (if (["enumerate","zip","dict_itemiterator","dict_reverseitemiterator","odict_iterator","itertools.zip_longest","itertools.pairwise"].contains n && vs[0]? == some (rawInt _))=true then _ else _) Q E s
      rw[if_neg (by intro h;rw[hn,Bool.false_and]at h;cases h)]
      exact wpAny_pure hQ))
def Itl (K:PySem.W.Frag)(a:Addr):It:=
 ⟨λi H=>∃ xs x,SqL K H a xs/\xs[i]? = some x,λi H x H'=>H'=H/\∀ xs,SqL K H a xs->xs[i]? = some x,λi H=>∃ xs,SqL K H a xs/\xs.length<=i⟩
def Itt (K:PySem.W.Frag)(a:Addr):It:=
 ⟨λi H=>∃ xs x,SqT K H a xs/\xs[i]? = some x,λi H x H'=>H'=H/\∀ xs,SqT K H a xs->xs[i]? = some x,λi H=>∃ xs,SqT K H a xs/\xs.length<=i⟩
def Itr (lo:Int) (n:Nat):It:=⟨λi _=>i<n,λi H x H'=>H'=H/\x=.int (lo+i),λi _=>n<=i⟩
theorem turn_list {P:Program}{w:World}{K:PySem.W.Frag}{tg:Expr}(a it:Addr):Turn P w K tg (Itl K a) [it] it (λi h=>h.IsListIter it a i) where
 mem:=by simp
 obj:=λi h st b hb=>by
  have e:b=it:=by simpa using hb
  subst e
  obtain⟨o,e,c,d⟩:=st
  exact⟨o,e,λv z=>by rw[d]at z;cases z⟩
 keep:=λi h h' st k=>st.at λo e=>k it (by simp) o e
 item:=by
  intro X hP hw hK hc i pins s σ H E I hf st hg
  subst hP hw hK
  obtain⟨xs,x,hq,hx⟩:=hg
  obtain⟨its,rv,p,hz⟩:=I.list hq
  obtain⟨u,hu,ru⟩:=rv.get hx
  obtain⟨f0,f1,f2,f3,f4,f5⟩:=hf it (by simp)
  refine wpAny_pyNext_list_item st p.isList (x:=u) (by simpa using hu) λh' st' sb=>?_
  have I1:Inv X pins σ H { s with heap:=h' }:=I.turned (t':=s.toks) (λb o hb e=>(sb.2 b hb).trans e) f0 f1 f3 f4 f5
  obtain⟨o,e,c,d⟩:=id st'
  exact⟨u,rfl,go_of (s:={ s with heap:=h' }) e c d (by decide) ⟨x,H,I1,ru,⟨rfl,λys hy=>by rw[I.list_inj hy hq];exact hx⟩,st',λb hb=>(hf b hb).1⟩⟩
 done:=by
  intro X hP hw hK hc i pins s σ H E I hf st hg
  subst hP hw hK
  obtain⟨xs,hq,hx⟩:=hg
  obtain⟨its,rv,p,hz⟩:=I.list hq
  obtain⟨f0,f1,f2,f3,f4,f5⟩:=hf it (by simp)
  have hl:=rv.length
  exact wpAny_pyNext_list_end (I.ok.hd hc) st p.isList (by simp;omega) λh' eb=>⟨rfl,I.turned (t':=s.toks) (λb o hb e=>eb b o hb e) f0 f1 f3 f4 f5⟩
 self:=λ_ _ _ _ _ st h=>wpAny_pyIter_listiter st h
theorem turn_tuple {P:Program}{w:World}{K:PySem.W.Frag}{tg:Expr}(a it:Addr):Turn P w K tg (Itt K a) [it] it (λi h=>h.IsTupleIter it a i) where
 mem:=by simp
 obj:=λi h st b hb=>by
  have e:b=it:=by simpa using hb
  subst e
  obtain⟨o,e,c,d⟩:=st
  exact⟨o,e,λv z=>by rw[d]at z;cases z⟩
 keep:=λi h h' st k=>st.at λo e=>k it (by simp) o e
 item:=by
  intro X hP hw hK hc i pins s σ H E I hf st hg
  subst hP hw hK
  obtain⟨xs,x,hq,hx⟩:=hg
  obtain⟨its,rv,p,hz⟩:=I.tuple hq
  obtain⟨u,hu,ru⟩:=rv.get hx
  obtain⟨f0,f1,f2,f3,f4,f5⟩:=hf it (by simp)
  refine wpAny_pyNext_tuple_item st (show s.heap.IsTuple a its.toArray from p) (x:=u) (by simpa using hu) λh' st' sb=>?_
  have I1:Inv X pins σ H { s with heap:=h' }:=I.turned (t':=s.toks) (λb o hb e=>(sb.2 b hb).trans e) f0 f1 f3 f4 f5
  obtain⟨o,e,c,d⟩:=id st'
  exact⟨u,rfl,go_of (s:={ s with heap:=h' }) e c d (by decide) ⟨x,H,I1,ru,⟨rfl,λys hy=>by rw[I.tuple_inj hy hq];exact hx⟩,st',λb hb=>(hf b hb).1⟩⟩
 done:=by
  intro X hP hw hK hc i pins s σ H E I hf st hg
  subst hP hw hK
  obtain⟨xs,hq,hx⟩:=hg
  obtain⟨its,rv,p,hz⟩:=I.tuple hq
  obtain⟨f0,f1,f2,f3,f4,f5⟩:=hf it (by simp)
  have hl:=rv.length
  exact wpAny_pyNext_tuple_end (I.ok.hd hc) st (show s.heap.IsTuple a its.toArray from p) (by simp;omega) λh' eb=>⟨rfl,I.turned (t':=s.toks) (λb o hb e=>eb b o hb e) f0 f1 f3 f4 f5⟩
 self:=λ_ _ _ _ _ st h=>wpAny_pyIter_tupleiter st h
theorem turn_range {P:Program}{w:World}{K:PySem.W.Frag}{tg:Expr}(it:Addr) (lo:Int) (n:Nat):Turn P w K tg (Itr lo n) [it] it (λi h=>IsRangeIter h it (lo+(i:Nat) * 1) ((n:Int) - (i:Nat)) 1) where
 mem:=by simp
 obj:=λi h st b hb=>by
  have e:b=it:=by simpa using hb
  subst e
  exact⟨_,st,λv z=>by
   have z':Data.fields _=Data.cell v:=z
   cases z'⟩
 keep:=λi h h' st k=>k it (by simp) _ st
 item:=by
  intro X hP hw hK hc i pins s σ H E I hf st hg
  subst hP hw hK
  obtain⟨f0,f1,f2,f3,f4,f5⟩:=hf it (by simp)
  have W:=Walks.range (prog:=X.prog) (w:=X.w) (I.ok.hd hc) it lo 1 n
  refine W.item i s _ _ hg st λv h' tk hv st' kk=>?_
  obtain⟨t,rfl⟩:=hv
  have I1:Inv X pins σ H { s with heap:=h',toks:=tk }:=I.turned (λb o hb e=>kk b o (by simpa using hb) e) f0 f1 f3 f4 f5
  refine⟨_,rfl,go_of (s:={ s with heap:=h',toks:=tk }) (n:="range_iterator") st' rfl rfl (by decide) ⟨.int (lo+i),H,I1,⟨t,?_⟩,⟨rfl,rfl⟩,st',λb hb=>(hf b hb).1⟩⟩
  rw[Int.mul_one]
 done:=by
  intro X hP hw hK hc i pins s σ H E I hf st hg
  subst hP hw hK
  obtain⟨f0,f1,f2,f3,f4,f5⟩:=hf it (by simp)
  exact wpAny_pyNext_range_end (I.ok.hd hc) st (by have:n<=i:=hg;omega) λh' eb=>⟨rfl,I.turned (t':=s.toks) (λb o hb e=>eb b o hb e) f0 f1 f3 f4 f5⟩
 self:=λ_ _ _ _ _ st h=>wpAny_pyIter_rangeiter st h
end L2
namespace L2
open PySem PySem.Spec PyProof.Rows
section
variable {X:Cx}{tg:Expr}
def iList (K:PySem.W.Frag)(tl:TE):TI:=λσ H R=>tl σ H λx H1=>∃ a,x=.ref a/\(∃ xs,SqL K H1 a xs)/\R (Itl K a) H1
def iTup (K:PySem.W.Frag)(tl:TE):TI:=λσ H R=>tl σ H λx H1=>∃ a,x=.ref a/\(∃ xs,SqT K H1 a xs)/\R (Itt K a) H1
theorem pi_list {l:Expr}{tl:TE}(hl:PE X l tl):PI X tg l (iList X.K tl):=by
 intro pins s σ H R I h
 refine thn (hl pins s σ H _ I h) λv s1 ⟨x,H1,I1,r1,q1⟩=>?_
 obtain⟨a,e,⟨xs,hq⟩,q⟩:=q1
 subst e
 cases r1
 obtain⟨its,rv,p,hz⟩:=I1.list hq
 refine wpAny_pyIter_list p.isList ?_
 refine⟨s1.heap.objs.size,[s1.heap.objs.size],_,_,H1,rfl,I1.kept (t':=s1.toks) λb o e=>Heap.get?_push_of_some _ e,turn_list a _,⟨_,Heap.get?_push_size _ rfl,rfl,rfl⟩,λb hb=>?_,q⟩
 have e:b=s1.heap.objs.size:=by simpa using hb
 subst e
 exact I1.fpOk (Nat.le_refl _) (I1.hok.fresh (Nat.le_refl _))
theorem pi_tup {l:Expr}{tl:TE}(hl:PE X l tl):PI X tg l (iTup X.K tl):=by
 intro pins s σ H R I h
 refine thn (hl pins s σ H _ I h) λv s1 ⟨x,H1,I1,r1,q1⟩=>?_
 obtain⟨a,e,⟨xs,hq⟩,q⟩:=q1
 subst e
 cases r1
 obtain⟨its,rv,p,hz⟩:=I1.tuple hq
 refine wpAny_pyIter_tuple (show s1.heap.IsTuple a its.toArray from p) ?_
 refine⟨s1.heap.objs.size,[s1.heap.objs.size],_,_,H1,rfl,I1.kept (t':=s1.toks) λb o e=>Heap.get?_push_of_some _ e,turn_tuple a _,⟨_,Heap.get?_push_size _ rfl,rfl,rfl⟩,λb hb=>?_,q⟩
 have e:b=s1.heap.objs.size:=by simpa using hb
 subst e
 exact I1.fpOk (Nat.le_refl _) (I1.hok.fresh (Nat.le_refl _))
theorem range_it {pins:List (Addr×Obj)}{σ:St}{H:Hp}{s:Shared}{R:It->Hp->Prop}{E:Value->Shared->Prop}{lo hi:Int}{t u v:Tok}{tk:Nat}(I:Inv X pins σ H s) (h1 : -(2 ^ 62)<=lo)(h2:lo<2 ^ 62) (h3 : -(2 ^ 62)<=hi)(h4:hi<2 ^ 62)
  (q:R (Itr lo (hi - lo).toNat) H):wpAny (model X.prog X.w) X.A (pyIter (.ref s.heap.objs.size)) (PIE X pins σ tg R) E { s with heap:=s.heap.push { cls:=.type "range",data:=.fields #[.int lo t,.int hi u,.int 1 v] },toks:=tk }:=by
 refine wpAny_pyIter_range (IsRange.new ..) (small_one h1 h2 h3 h4) ?_
 have I1:Inv X pins σ H { s with heap:=s.heap.push { cls:=.type "range",data:=.fields #[.int lo t,.int hi u,.int 1 v] },toks:=tk }:=I.kept λb o e=>Heap.get?_push_of_some _ e
 refine⟨(s.heap.push { cls:=.type "range",data:=.fields #[.int lo t,.int hi u,.int 1 v] }).objs.size,[(s.heap.push { cls:=.type "range",data:=.fields #[.int lo t,.int hi u,.int 1 v] }).objs.size],_,_,H,rfl,
  I1.kept (t':=tk) λb o e=>Heap.get?_push_of_some _ e,turn_range _ lo (hi - lo).toNat,?_,λb hb=>?_,q⟩
 ·have e1:lo+((0:Nat):Int) * 1=lo:=by simp
  have e2:(((hi - lo).toNat:Nat):Int) - ((0:Nat):Int)=Builtin.Range.rangeSize lo hi 1:=by rw[rangeSize_one];split<;>omega
  show IsRangeIter _ _ (lo+((0:Nat):Int) * 1) ((((hi - lo).toNat:Nat):Int) - ((0:Nat):Int)) 1
  rw[e1,e2]
  exact Heap.get?_push_size _ rfl
 ·have e:b=(s.heap.push { cls:=.type "range",data:=.fields #[.int lo t,.int hi u,.int 1 v] }).objs.size:=by simpa using hb
  subst e
  exact I1.fpOk (Nat.le_refl _) (I1.hok.fresh (Nat.le_refl _))
def iRng1 (ta:TA):TI:=λσ H R=>ta σ H λvs H1=>∃ j:Int,vs=[.int j]/\-(2 ^ 62)<=j/\j<2 ^ 62/\R (Itr 0 j.toNat) H1
theorem pi_range1 {a:Expr}{ta:TA}{p pos:Pos}(hg:Gl X "range")(hm:X.mg "range" = none)(ha:PA X [a] ta)(hs:autoParam (starEach [a] X.env=[(false,eval a X.env)]) aR._auto_1):PI X tg (.Call (.Name "range" p) [a] [] pos) (iRng1 ta):=by
 intro pins s σ H R I h
 refine Call_ (ld_blt I hg hm boot_range (PyProof.Rows.callWith_type1 (thn (ha pos pins s σ H _ I h) λus s1 ⟨vs,H1,I1,r1,q1⟩=>?_) hs rfl))
 obtain⟨j,e,q1,q2,q⟩:=q1
 subst e
 cases r1 with
 |cons r rr=>
  cases rr
  obtain⟨t,rfl⟩:=r
  exact call_range_1 (range_it I1 (by omega) (by omega) q1 q2 (by simpa using q))
def tFor (wi:TI)(g:TG)(tb:TS):TS:=λD σ H=>wi σ H λJ H1=>∃ W:Nat->Nat->St->Hp->Prop,(∃ m,W 0 m σ H1)/\∀ i m σ H,W i m σ H ->
 (J.stop i H/\D.nx σ H)\/(J.go i H/\∃ N:St->Hp->Prop,(∀ σ' H',N σ' H'->∃ m',m'<m/\W (i+1) m' σ' H')/\∀ x H',J.yld i H x H'->g x σ H' λσ2 H2=>tb { D with nx:=N,ct:=N,bk:=D.nx } σ2 H2)
def pinsAt (fp:List Addr)(h:Heap):List (Addr×Obj):=fp.filterMap λb=>(h.get? b).map λo=>(b,o)
theorem mem_pinsAt {fp:List Addr}{h:Heap}{b:Addr}{o:Obj}(hb:b ∈ fp)(e:h.get? b=some o):(b,o) ∈ pinsAt fp h:=List.mem_filterMap.mpr ⟨b,hb,by rw[e];rfl⟩
theorem of_pinsAt {fp:List Addr}{h:Heap}{p:Addr×Obj}(hp:p ∈ pinsAt fp h):p.1 ∈ fp/\h.get? p.1=some p.2:=by
 obtain⟨b,hb,e⟩:=List.mem_filterMap.mp hp
 cases q:h.get? b with
 |none=>rw[q]at e;cases e
 |some o=>
  rw[q]at e
  have e':(b,o)=p:=Option.some.inj e
  subst e'
  exact⟨hb,q⟩
theorem Inv.pinned {pins:List (Addr×Obj)}{σ:St}{H:Hp}{s:Shared}{fp:List Addr}(I:Inv X pins σ H s)(hf:∀ b ∈ fp,FpOk X pins H b)(ho:∀ b ∈ fp,∃ o,s.heap.get? b=some o/\∀ v,o.data≠.cell v):Inv X (pins++pinsAt fp s.heap) σ H s:=
 I.pins_of λp hp=>(List.mem_append.mp hp).elim (λz=>I.pin p (List.mem_append_right _ z)) λz=>by
  obtain⟨hb,e⟩:=of_pinsAt z
  obtain⟨f0,f1,f2,_⟩:=hf p.1 hb
  obtain⟨o,e',d⟩:=ho p.1 hb
  rw[e]at e';cases e'
  exact⟨e,f0,f1,f2,d⟩
theorem Inv.unpinned {pins pl:List (Addr×Obj)}{σ:St}{H:Hp}{s:Shared}(I:Inv X (pins++pl) σ H s):Inv X pins σ H s:=I.pins_of λp hp=>I.pin p (List.mem_append_right _ (List.mem_append_left _ hp))
theorem ps_for {iter:Expr}{body:List Stmt}{wi:TI}{g:TG}{tb:TS}{pos:Pos}(hp:PassesOwn (model X.prog X.w) X.A X.env X.xe)(hc:X.calm=true)(hi:PI X tg iter wi)(hg:PG X tg g)(hb:PSs X body tb)
  (hs:∀ x,foldedSetIterable iter X.env x=pure x:=by intro _;rfl):PS X (.For tg iter body [] pos) (tFor wi g tb):=by
 intro pins s σ H D I h
 refine wpAny_For (thn (hi pins s σ H _ I h) λv s1 h1=>thn h1 λitv s2 h2=>?_) hs
 obtain⟨it,fp,tn,J,H2,e,I2,T,st2,f2,W,⟨m0,w0⟩,turn⟩:=h2
 subst e
 -- what stays true of the iterator's objects through the loop
 have stat:∀ {H':Hp},(∀ b ∈ fp,H' b=none)->∀ b ∈ fp,FpOk X pins H' b:=λhn b hb=>⟨hn b hb,(f2 b hb).2⟩
 refine codeAny_forLoop_any (λn s'=>∃ i σ' H',Inv X pins σ' H' s'/\tn i s'.heap/\(∀ b ∈ fp,H' b=none)/\W i n σ' H') ?_ m0 ⟨0,σ,H2,I2,st2,λb hb=>(f2 b hb).1,w0⟩
 rintro n s3 ⟨i,σ3,H3,I3,st3,fr3,w3⟩
 rcases turn i n σ3 H3 w3 with ⟨stop,qn⟩ | ⟨go,N,hN,step⟩
 ·refine wpAny_passesOwn hp (thn (T.done X rfl rfl rfl hc i pins s3 σ3 H3 X.xe I3 (stat fr3) st3 stop) λr s4 ⟨hr,I4⟩=>?_)
  subst hr
  exact wpAny_execs_nil ⟨σ3,H3,I4,qn⟩
 ·refine wpAny_passesOwn hp (thn (T.item X rfl rfl rfl hc i pins s3 σ3 H3 X.xe I3 (stat fr3) st3 go) λr s4 ⟨u,hr,h4⟩=>?_)
  subst hr
  refine wpAny_passesOwn hp (thn h4 λ_ s5 ⟨x,H5,I5,r5,y5,st5,fr5⟩=>?_)
  have I5':=I5.pinned (stat fr5) (T.obj _ _ st5)
  refine wpAny_passesOwn hp (thn (hg _ s5 σ3 H5 x u _ I5' r5 (step x H5 y5)) λ_ s6 ⟨σ6,H6,I6,q6⟩=>?_)
  refine wpAny_passesOwn hp (thn (hb _ s6 σ6 H6 _ I6 q6) λf s7 q7=>?_)
  have again:∀ {σ7:St}{H7:Hp},Inv X (pins++pinsAt fp s5.heap) σ7 H7 s7->N σ7 H7->∃ m,m<n/\∃ i σ' H',Inv X pins σ' H' s7/\tn i s7.heap/\(∀ b ∈ fp,H' b=none)/\W i m σ' H':=fun {σ7 H7} I7 n7=>by
   obtain⟨m',hm,w7⟩:=hN σ7 H7 n7
   refine⟨m',hm,i+1,σ7,H7,I7.unpinned,T.keep _ _ _ st5 λb hb o e=>(I7.pin (b,o) (List.mem_append_right _ (List.mem_append_right _ (mem_pinsAt hb e)))).1,λb hb=>?_,w7⟩
   obtain⟨o,e,d⟩:=T.obj _ _ st5 b hb
   exact (I7.pin (b,o) (List.mem_append_right _ (List.mem_append_right _ (mem_pinsAt hb e)))).2.1
  cases f with
  |next=>obtain⟨σ7,H7,I7,n7⟩:=q7;exact again I7 n7
  |cont=>obtain⟨σ7,H7,I7,n7⟩:=q7;exact again I7 n7
  |brk=>obtain⟨σ7,H7,I7,q7⟩:=q7;exact⟨σ7,H7,I7.unpinned,q7⟩
  |ret v=>obtain⟨x7,σ7,H7,I7,r7,q7⟩:=q7;exact⟨x7,σ7,H7,I7.unpinned,r7,q7⟩
end
end L2
namespace L2
open PySem PySem.Spec PyProof.Rows
abbrev R2:=V->V->Hp->VK->Prop
def OpR (X:Cx)(f:Value->Value->Sem Value)(r:R2):Prop:=
 ∀ (pins:List (Addr×Obj))(s:Shared)(σ:St)(H:Hp)(x y:V) (v u:Value)(Q:VK),Inv X pins σ H s->RelV x v->RelV y u->r x y H Q ->
  wpAny (model X.prog X.w) X.A (f v u) (EP X pins σ Q) X.xe s
def UnR (X:Cx)(f:Value->Sem Value)(r:V->Hp->VK->Prop):Prop:=
 ∀ (pins:List (Addr×Obj))(s:Shared)(σ:St)(H:Hp)(x:V) (v:Value)(Q:VK),Inv X pins σ H s->RelV x v->r x H Q ->
  wpAny (model X.prog X.w) X.A (f v) (EP X pins σ Q) X.xe s
def CallR (X:Cx) (f:Value)(r:List V->Hp->VK->Prop):Prop:=
 ∀ (pins:List (Addr×Obj))(s:Shared)(σ:St)(H:Hp)(xs:List V)(us:List Value)(Q:VK),Inv X pins σ H s->Vals xs us->r xs H Q ->
  wpAny (model X.prog X.w) X.A (call f us) (EP X pins σ Q) X.xe s
def TruR (X:Cx)(r:V->Hp->(Bool->Hp->Prop)->Prop):Prop:=
 ∀ (pins:List (Addr×Obj))(s:Shared)(σ:St)(H:Hp)(x:V) (v:Value)(Q:Bool->Hp->Prop),Inv X pins σ H s->RelV x v->r x H Q ->
  wpAny (model X.prog X.w) X.A (truthy v) (TP X pins σ Q) X.xe s
def tOp (r:R2)(ta tb:TE):TE:=λσ H Q=>ta σ H λx H1=>tb σ H1 λy H2=>r x y H2 Q
def tUn (r:V->Hp->VK->Prop)(ta:TE):TE:=λσ H Q=>ta σ H λx H1=>r x H1 Q
def rI (C:Int->Int->Prop)(g:Int->Int->V):R2:=λx y H Q=>∃ i j,x=.int i/\y=.int j/\C i j/\Q (g i j) H
def rI0 (g:Int->Int->V):R2:=λx y H Q=>∃ i j,x=.int i/\y=.int j/\Q (g i j) H
def rU (g:Int->V):V->Hp->VK->Prop:=λx H Q=>∃ i,x=.int i/\Q (g i) H
section
variable {X:Cx}{a b c:Expr}{ta tb tc:TE}{pos:Pos}
theorem binT (ha:PE X a ta)(hb:PE X b tb){pins:List (Addr×Obj)}{s:Shared}{σ:St}{H:Hp}{R:V->V->Hp->Prop}(I:Inv X pins σ H s)
  (h:ta σ H λx H1=>tb σ H1 λy H2=>R x y H2){Q:Value->Shared->Prop}{f:Value->Value->Sem Value}
  (hf:∀ v u s2 x y H2,Inv X pins σ H2 s2->RelV x v->RelV y u->R x y H2->wpAny (model X.prog X.w) X.A (f v u) Q X.xe s2) :
  wpAny (model X.prog X.w) X.A (eval a X.env) (λv s₁=>wpAny (model X.prog X.w) X.A (eval b X.env) (λu s₂=>wpAny (model X.prog X.w) X.A (f v u) Q X.xe s₂) X.xe s₁) X.xe s:=by
 refine thn (ha pins s σ H _ I h) λv s1 ⟨x,H1,I1,r1,q1⟩=>?_
 refine thn (hb pins s1 σ H1 _ I1 q1) λu s2 ⟨y,H2,I2,r2,q2⟩=>?_
 exact hf v u s2 x y H2 I2 r1 r2 q2
theorem pe_op {op:Operator}{r:R2}(ho:OpR X (binaryOp op) r)(ha:PE X a ta)(hb:PE X b tb):PE X (.BinOp a op b pos) (tOp r ta tb):=by
 intro pins s σ H Q I h
 exact wpAny_BinOp (binT ha hb I h λv u s2 x y H2 I2 rx ry q=>ho pins s2 σ H2 x y v u Q I2 rx ry q)
theorem pe_un {op:UnaryOp}{r:V->Hp->VK->Prop}(ho:UnR X (unaryOp op) r)(ha:PE X a ta):PE X (.UnaryOp op a pos) (tUn r ta):=by
 intro pins s σ H Q I h
 exact UnaryOp_ (thn (ha pins s σ H _ I h) λv s1 ⟨x,H1,I1,r1,q1⟩=>ho pins s1 σ H1 x v Q I1 r1 q1)
theorem opI {f:Value->Value->Sem Value}{C:Int->Int->Prop}{g:Int->Int->Int}
  (rule:∀ (i j:Int)(t u:Tok)(s:Shared)(Q:Value->Shared->Prop)(E:Value->Shared->Prop),C i j->Q (.int (g i j) s.toks) { s with toks:=s.toks+1 }->wpAny (model X.prog X.w) X.A (f (.int i t) (.int j u)) Q E s) :
  OpR X f (rI C λi j=>.int (g i j)):=by
 intro pins s σ H x y v u Q I rx ry h
 obtain⟨i,j,rfl,rfl,hc,q⟩:=h
 obtain⟨t,rfl⟩:=rx
 obtain⟨t',rfl⟩:=ry
 exact rule i j t t' s _ _ hc ⟨.int (g i j),H,I.tok _,⟨_,rfl⟩,q⟩
theorem opI0 {f:Value->Value->Sem Value}{g:Int->Int->Int}
  (rule:∀ (i j:Int)(t u:Tok)(s:Shared)(Q:Value->Shared->Prop)(E:Value->Shared->Prop),Q (.int (g i j) s.toks) { s with toks:=s.toks+1 }->wpAny (model X.prog X.w) X.A (f (.int i t) (.int j u)) Q E s) :
  OpR X f (rI0 λi j=>.int (g i j)):=by
 intro pins s σ H x y v u Q I rx ry h
 obtain⟨i,j,rfl,rfl,q⟩:=h
 obtain⟨t,rfl⟩:=rx
 obtain⟨t',rfl⟩:=ry
 exact rule i j t t' s _ _ ⟨.int (g i j),H,I.tok _,⟨_,rfl⟩,q⟩
theorem opB0 {f:Value->Value->Sem Value}{g:Int->Int->Bool}
  (rule:∀ (i j:Int)(t u:Tok)(s:Shared)(Q:Value->Shared->Prop)(E:Value->Shared->Prop),Q (.bool (g i j)) s->wpAny (model X.prog X.w) X.A (f (.int i t) (.int j u)) Q E s) :
  OpR X f (rI0 λi j=>.bl (g i j)):=by
 intro pins s σ H x y v u Q I rx ry h
 obtain⟨i,j,rfl,rfl,q⟩:=h
 obtain⟨t,rfl⟩:=rx
 obtain⟨t',rfl⟩:=ry
 exact rule i j t t' s _ _ ⟨.bl (g i j),H,I,rfl,q⟩
def CDiv (i j:Int):Prop:=0<j/\j<1073741824
def CMul (i j:Int):Prop:=(-(2 ^ 64)<i/\i<2 ^ 64)\/(-(2 ^ 64)<j/\j<2 ^ 64)
theorem CMul.ok {i j:Int}(h:CMul i j):IntMulOk i j:=by
 rcases h with ⟨h1,h2⟩ | ⟨h1,h2⟩
 ·exact .of_left (intBits_le_64 h1 h2)
 ·exact .of_right (intBits_le_64 h1 h2)
theorem op_add:OpR X (binaryOp .Add) (rI0 λi j=>.int (i+j)):=opI0 λ_ _ _ _ _ _ _ q=>add_int q
theorem op_sub:OpR X (binaryOp .Sub) (rI0 λi j=>.int (i - j)):=opI0 λ_ _ _ _ _ _ _ q=>sub_int q
theorem op_mul:OpR X (binaryOp .Mult) (rI CMul λi j=>.int (i * j)):=opI λ_ _ _ _ _ _ _ hc q=>mul_int q hc.ok
theorem op_fdiv:OpR X (binaryOp .FloorDiv) (rI CDiv λi j=>.int (i / j)):=opI λi j _ _ _ _ _ hc q=>by
 have h1:(0:Int)<j:=hc.1
 have h2:j<1073741824:=hc.2
 exact floordiv_int (by omega) (by rw[Int.fdiv_eq_ediv_of_nonneg i (by omega)];exact q) (.inl (PyProof.noPylong_small (by omega)))
theorem op_mod:OpR X (binaryOp .Mod) (rI (λ_ j=>0<j) λi j=>.int (i % j)):=opI λi j _ _ _ _ _ hc q=>by
 have h1:(0:Int)<j:=hc
 exact mod_int' (by omega) (by rw[Int.fmod_eq_emod_of_nonneg i (by omega)];exact q)
theorem unI {f:Value->Sem Value}{g:Int->Int}
  (rule:∀ (i:Int)(t:Tok)(s:Shared)(Q:Value->Shared->Prop)(E:Value->Shared->Prop),Q (.int (g i) s.toks) { s with toks:=s.toks+1 }->wpAny (model X.prog X.w) X.A (f (.int i t)) Q E s) :
  UnR X f (rU λi=>.int (g i)):=by
 intro pins s σ H x v Q I rx h
 obtain⟨i,rfl,q⟩:=h
 obtain⟨t,rfl⟩:=rx
 exact rule i t s _ _ ⟨.int (g i),H,I.tok _,⟨_,rfl⟩,q⟩
theorem un_neg:UnR X (unaryOp .USub) (rU λi=>.int (-i)):=unI λ_ _ _ _ _ q=>neg_int q
end
section
variable {X:Cx}{a b c:Expr}{ta tb tc:TE}{pos:Pos}
theorem fin_bl {pins:List (Addr×Obj)}{σ:St}{H:Hp}{s:Shared}{Q:VK}{k k':Bool}(I:Inv X pins σ H s)(q:Q (.bl k) H)(e:k=k'):EP X pins σ Q (.bool k') s:=by
 subst e
 exact⟨.bl k,H,I,rfl,q⟩
theorem op_lt:OpR X (compareOp .Lt) (rI0 λi j=>.bl (decide (i<j))):=opB0 λ_ _ _ _ _ _ _ q=>lt_int q
theorem op_le:OpR X (compareOp .LtE) (rI0 λi j=>.bl (decide (i<=j))):=opB0 λ_ _ _ _ _ _ _ q=>le_int q
theorem op_gt:OpR X (compareOp .Gt) (rI0 λi j=>.bl (decide (j<i))):=opB0 λ_ _ _ _ _ _ _ q=>gt_int q
theorem op_ge:OpR X (compareOp .GtE) (rI0 λi j=>.bl (decide (j<=i))):=opB0 λ_ _ _ _ _ _ _ q=>ge_int q
theorem op_isN:OpR X (compareOp .Is) (λx y H Q=>y=.non/\Q (.bl (decide (x=.non))) H):=by
 intro pins s σ H x y v u Q I rx ry h
 obtain⟨rfl,q⟩:=h
 cases ry
 refine is_none_gen (fin_bl I q ?_)
 cases x<;>first
  |(cases rx;rfl)
  |(obtain⟨t,rfl⟩:=rx;rfl)
theorem OpR.or {f:Value->Value->Sem Value}{r r':R2}(h:OpR X f r)(h':OpR X f r'):OpR X f (λx y H Q=>r x y H Q\/r' x y H Q):=by
 intro pins s σ H x y v u Q I rx ry q
 rcases q with q | q
 ·exact h pins s σ H x y v u Q I rx ry q
 ·exact h' pins s σ H x y v u Q I rx ry q
theorem nomark (b:Expr){op:CmpOp}(h:autoParam (op≠.In) aD._auto_1)(h2:autoParam (op≠.NotIn) aD._auto_1):behindInMarks op b=false:=by
 have e1:(op == CmpOp.In)=false:=by cases op<;>first | rfl | exact absurd rfl h
 have e2:(op == CmpOp.NotIn)=false:=by cases op<;>first | rfl | exact absurd rfl h2
 cases b<;>simp[behindInMarks,e1,e2]
theorem pe_cmpR {op:CmpOp}{r:R2}(ho:OpR X (compareOp op) r)(ha:PE X a ta)(hb:PE X b tb)(hm:behindInMarks op b=false):PE X (.Compare a [op] [b] pos) (tOp r ta tb):=by
 intro pins s σ H Q I h
 exact wpAny_Compare1 (binT ha hb I h λv u s2 x y H2 I2 rx ry q=>ho pins s2 σ H2 x y v u Q I2 rx ry q) hm
def tTest (t:TE):TT:=λσ H Q=>t σ H λx H'=>∃ k,x=.bl k/\Q k H'
theorem pt_cmpR {op:CmpOp}{r:R2}(ho:OpR X (compareOp op) r)(ha:PE X a ta)(hb:PE X b tb)(hm:behindInMarks op b=false):PT X (.Compare a [op] [b] pos) (tTest (tOp r ta tb)):=by
 intro pins s σ H Q I h
 refine wpAny_isTrue_Compare1 (thn (ha pins s σ H _ I h) λv s1 ⟨x,H1,I1,r1,q1⟩=>thn (hb pins s1 σ H1 _ I1 q1) λu s2 ⟨y,H2,I2,r2,q2⟩=>
  thn (ho pins s2 σ H2 x y v u _ I2 r1 r2 q2) λc s3 ⟨z,H3,I3,r3,k,e,q3⟩=>?_) hm
 subst e
 cases r3
 exact wpAny_truthy_bool ⟨H3,I3,q3⟩
def TruV (K:PySem.W.Frag)(x:V)(H:Hp)(k:Bool):Prop:=
 match x with
 |.non=>k=false
 |.bl b=>k=b
 |.int i=>k=(i != 0)
 |.str y=>y.length<=sizeLine/\k=((y.length:Int) != 0)
 |.byt y=>y.size<=sizeLine/\k=((y.size:Int) != 0)
 |.ref p=>(∃ xs,SqL K H p xs/\k = !xs.isEmpty)\/(∃ xs,SqT K H p xs/\k = !xs.isEmpty)\/∃ kvs,H p=some (.dK kvs)/\k = !kvs.isEmpty
 |_=>False
theorem isEmpty_kv {κ:Type}{kvs:List (κ×V)}{vs:List (κ×Value)}(r:KV kvs vs):(!vs.isEmpty) = !kvs.isEmpty:=by
 cases r<;>rfl
theorem isEmpty_of {xs:List V}{its:List Value}(r:Vals xs its):(!its.toArray.isEmpty) = !xs.isEmpty:=by
 cases r<;>simp
theorem line63:(sizeLine:Nat)<2 ^ 63:=by rw[sizeLine_eq];decide
theorem tru_ok:TruR X (λx H Q=>∃ k,TruV X.K x H k/\Q k H):=by
 intro pins s σ H x v Q I rx h
 obtain⟨k,e,q⟩:=h
 have hl:=line63
 have hs:sizeLine=16777216:=sizeLine_eq
 cases x with
 |non=>
  cases rx
  have e':k=false:=e
  subst e'
  exact truthy_none ⟨H,I,q⟩
 |bl b=>
  cases rx
  have e':k=b:=e
  subst e'
  exact wpAny_truthy_bool ⟨H,I,q⟩
 |int i=>
  obtain⟨t,rfl⟩:=rx
  have e':k=(i != 0):=e
  subst e'
  exact PySem.P.truthy_int ⟨H,I,q⟩
 |str y=>
  obtain⟨t,rfl⟩:=rx
  obtain⟨hy,e'⟩ : y.length<=sizeLine/\k=((y.length:Int) != 0):=e
  subst e'
  exact PySem.P.truthy_str (by omega) ⟨H,I.tok _,q⟩
 |byt y=>
  obtain⟨t,rfl⟩:=rx
  obtain⟨hy,e'⟩ : y.size<=sizeLine/\k=((y.size:Int) != 0):=e
  subst e'
  exact PySem.W.truthy_bytes (by omega) ⟨H,I.tok _,q⟩
 |ref p=>
  cases rx
  have e':(∃ xs,SqL X.K H p xs/\k = !xs.isEmpty)\/(∃ xs,SqT X.K H p xs/\k = !xs.isEmpty)\/∃ kvs,H p=some (.dK kvs)/\k = !kvs.isEmpty:=e
  rcases e' with ⟨xs,hx,e'⟩ | ⟨xs,hx,e'⟩ | ⟨kvs,hx,e'⟩
  ·subst e'
   obtain⟨its,r,pl,hz⟩:=I.list hx
   have hlen:=r.length
   exact wpAny_truthy_list pl.isList (by simp only[List.size_toArray];omega) ⟨H,I.tok _,by rw[isEmpty_of r];exact q⟩
  ·subst e'
   obtain⟨its,r,pl,hz⟩:=I.tuple hx
   have hlen:=r.length
   exact truthy_tuple pl (by simp only[List.size_toArray];omega) ⟨H,I.tok _,by rw[isEmpty_of r];exact q⟩
  ·subst e'
   obtain⟨hz,hS,vs,r,m⟩ : kvs.length<=sizeLine/\(p == sysModules)=false/\∃ vs,KV kvs vs/\s.heap.DictOf (mixKind X.prog X.w) p vs:=I.hok p _ hx
   have hlen:kvs.length=vs.length:=Paired.length r
   exact wpAny_truthy_dict hS m (by omega) ⟨H,I.tok _,by rw[isEmpty_kv r];exact q⟩
 |_=>exact (show False from e).elim
theorem vals1 {x:V}{us:List Value}(r:Vals [x] us):∃ u,us=[u]/\RelV x u:=by
 cases r with
 |cons r1 r2=>cases r2;exact⟨_,rfl,r1⟩
theorem call_int1:CallR X (.type "int") (λxs H Q=>(∃ i,xs=[.int i]/\Q (.int i) H)\/∃ k,xs=[.bl k]/\Q (.int (if k then 1 else 0)) H):=by
 intro pins s σ H xs us Q I r h
 rcases h with ⟨i,rfl,q⟩ | ⟨k,rfl,q⟩
 ·obtain⟨u,rfl,t,rfl⟩:=vals1 r
  exact call_int_int ⟨.int i,H,I,⟨_,rfl⟩,q⟩
 ·obtain⟨u,rfl,r1⟩:=vals1 r
  cases r1
  exact call_int_bool ⟨.int (if k then 1 else 0),H,I.tok _,⟨_,rfl⟩,q⟩
end
end L2
namespace L2
open PySem PySem.Spec PyProof.Rows
structure ObjM (h:Heap)(x dx C:Addr)(mA:Str->Option Value):Prop where
 obj:h.get? x=some (PySem.W.instObj C dx)
 ns:h.Ns1 dx mA
 ne:dx≠x
theorem lookIn_ns {h:Heap}{dx:Addr}{mA:Str->Option Value}(n:h.Ns1 dx mA):∃ od,h.get? dx=some od/\∀ name,PySem.W.lookIn name od=some (mA name):=by
 obtain⟨o,es,ep,ho,hd,hk,_,hm⟩:=n
 refine⟨o,ho,λname=>?_⟩
 have e:=hm name
 unfold nsFind findBy at e
 rw[<-Array.find?_toList]at e
 unfold PySem.W.lookIn
 rw[hd]
 dsimp only
 split
 ·rename_i y q
  rw[q]at e
  exact congrArg some e
 ·rename_i q
  rw[q]at e
  have a:es.toList.any (·.refKey)=false:=by
   rw[List.any_eq_false]
   intro y hy
   obtain⟨z,t,hkey⟩:=hk y (Array.mem_toList_iff.mp hy)
   simp[DictEntry.refKey,hkey]
  have a':¬ es.toList.any (·.refKey)=true:=by rw[a];exact Bool.false_ne_true
  rw[if_neg a']
  exact congrArg some e
theorem ObjM.look {h:Heap}{x dx C:Addr}{mA:Str->Option Value}(I:ObjM h x dx C mA):∃ od,PySem.W.InstAt h x (PySem.W.instObj C dx) C (some od)/\∀ name,PySem.W.lookIn name od=some (mA name):=
 let ⟨od,ho,hl⟩:=lookIn_ns I.ns
 ⟨od,⟨I.obj,rfl,rfl,ho⟩,hl⟩
section
variable {prog:Program}{w:World}{A:Around}{E:Value->Shared->Prop}{s:Shared}{K:PySem.W.Frag}{x dx C f:Addr}{mA:Str->Option Value}{name:Str}{v:Value}
theorem get_map {expr:Bool}{Q:Value->Shared->Prop}(X:K.In s.heap)(I:ObjM s.heap x dx C mA)(hg:PySem.W.plainGet K C name=true)(hh:PySem.W.hasDictIn K C=true)
  (ha:PySem.W.findIn K (.ref C) name=some none)(hv:mA name=some v)(hv':PySem.W.handedIn v=true)(h:Q v { s with toks:=s.toks+1 }) :
  wpAny (model prog w) A (getAttr (.ref x) name expr) Q E s:=by
 obtain⟨od,J,hl⟩:=I.look
 exact PySem.W.get_value X J (PySem.W.plainGet_of hg).1 (PySem.W.findObj_own hh ha rfl (by rw[hl,hv])) hv' h
theorem get_meth {pl:Sem Bool}{Q:Value×List Value->Shared->Prop}(X:K.In s.heap)(I:ObjM s.heap x dx C mA)(hg:PySem.W.plainGet K C name=true)
  (hf:PySem.W.findIn K (.ref C) name=some (some (.ref f)))(ht:PySem.W.isFn K (.ref f)=true)(hv:mA name=none)(h:Q (.ref f,[.ref x]) s) :
  wpAny (model prog w) A (getMethod (.ref x) name pl) Q E s:=by
 obtain⟨od,J,hl⟩:=I.look
 exact PySem.W.method_fn X J (PySem.W.plainGet_of hg).1 (PySem.W.plainGet_of hg).2 hf (beq_iff_eq.mp ht) (by show (PySem.W.lookIn name od).map (·.isSome)=some false;rw[hl,hv];rfl) h
theorem set_map {ns:List Str}{Q:Unit->Shared->Prop}(X:K.In s.heap)(I:ObjM s.heap x dx C mA)
  (hs:PySem.W.findIn K (.ref C) "__setattr__" = some (some (.builtin "object.__setattr__")))(hp:PySem.W.plainOver K C=true)(ht:PySem.W.takerIn K C name=some none)(hh:PySem.W.hasDictIn K C=true)
  (hw:PySem.Within mA ns)(hsz:ns.length<=sizeLine)
  (h:∀ h',ObjM h' x dx C (λy=>if y=name then some v else mA y)->Heap.SameBut dx s.heap h'->Q () { s with heap:=h',toks:=s.toks+2 }) :
  wpAny (model prog w) A (setAttr (.ref x) name v) Q E s:=by
 obtain⟨od,J,hl⟩:=I.look
 refine PySem.W.set_plain X J hs (PySem.W.osa_open (s:={ s with toks:=s.toks+1 }) (r:=none) X J hp ht λb=>?_)
 obtain⟨cd,hc,hd'⟩:=PySem.W.any_some hh
 have hx:s.heap.get? x=some ⟨.ref C,some dx,.plain,#[]⟩:=I.obj
 refine wpAny_bind (wpAny_pure (wpAny_bind (wpAny_bind (wpAny_loadPart hx (wpAny_bind (PySem.W.Looks.here (s:={ s with toks:=s.toks+1 }) (PySem.W.looks_clsIn X hc) ?_))))))
 rw[hd']
 refine wpAny_pure (a:=some dx) (wpAny_bind (wpAny_pure (wpAny_bind ?_)))
 refine wpAny_nsSet1 (s:={ s with toks:=s.toks+1 }) I.ns λh' hn2 hs2=>?_
 obtain⟨oD,esD,epD,hoD,hdD,hcD⟩:=hn2.count (PySem.Within.cons name v hw)
 refine wpAny_bind (wpAny_lookBehind hoD (by rw[hdD];exact pastItsLine_dict (Nat.le_trans hcD (by rw[List.length_cons];omega))) ?_)
 exact wpAny_pure (h _ ⟨(hs2.2 _ (Ne.symm I.ne)).trans I.obj,hn2,I.ne⟩ hs2)
theorem make_map {R:Result->Shared->Prop}{vs:List Value}{kw:List (Str×Value)}(X:K.In s.heap)(hm:PySem.W.makesIn K C=true)
  (hi:PySem.W.findIn K (.ref C) "__init__" = some (some (.ref f)))(hf:PySem.W.typeIn K (.ref f)=some (.type "function"))
  (h:codeAny (model prog w) (A.under (.builtin "type.__call__" ⟨.ref C::vs,kw⟩)) (.call (.ref f) ⟨.ref (s.heap.objs.size+1)::vs,kw⟩) (PySem.W.InitBack (s.heap.objs.size+1) R)
   {s with heap:=(s.heap.push PySem.W.emptyDict).push (PySem.W.instObj C s.heap.objs.size) }) :
  codeAny (model prog w) A (.call (.ref C) ⟨vs,kw⟩) R s:=by
 obtain⟨hh,g,d,t,os⟩:=s
 exact PySem.W.make_core (PySem.W.makes_of X hm) (PySem.W.looks_findIn X hi) (λself=>PySem.W.bind_fn X self hf) (.inl rfl) h
end
def putF (f:Str)(v:V):List (Str×V)->List (Str×V)
 |[]=>[(f,v)]
 |(g,x)::r=>if g=f then (g,v)::r else (g,x)::putF f v r
theorem lookup_putF (f g:Str)(v:V):∀ fs:List (Str×V),(putF f v fs).lookup g=if g=f then some v else fs.lookup g
 |[]=>by
  show List.lookup g [(f,v)]=_
  by_cases h:g=f
  ·have hb:(g == f)=true:=beq_iff_eq.mpr h
   simp only[List.lookup,hb,if_pos h]
  ·have hb:(g == f)=false:=beq_eq_false_iff_ne.mpr h
   simp only[List.lookup,hb,if_neg h]
 |(k,x)::r=>by
  have ih:=lookup_putF f g v r
  rw[show putF f v ((k,x)::r)=(if k=f then (k,v)::r else (k,x)::putF f v r) from rfl]
  by_cases hk:k=f
  ·rw[if_pos hk]
   by_cases h:g=k
   ·have hb:(g == k)=true:=beq_iff_eq.mpr h
    simp only[List.lookup,hb,if_pos (h.trans hk)]
   ·have hb:(g == k)=false:=beq_eq_false_iff_ne.mpr h
    simp only[List.lookup,hb,if_neg (λe:g=f=>h (e.trans hk.symm))]
  ·rw[if_neg hk]
   by_cases h:g=k
   ·have hb:(g == k)=true:=beq_iff_eq.mpr h
    simp only[List.lookup,hb,if_neg (λe:g=f=>hk (h.symm.trans e))]
   ·have hb:(g == k)=false:=beq_eq_false_iff_ne.mpr h
    simp only[List.lookup,hb]
    exact ih
theorem keys_putF (f:Str)(v:V):∀ fs:List (Str×V),f ∈ (putF f v fs).map (·.1)/\∀ g,g ∈ fs.map (·.1)->g ∈ (putF f v fs).map (·.1)
 |[]=>⟨by simp[putF],λg h=>by simp at h⟩
 |(k,x)::r=>by
  obtain⟨i1,i2⟩:=keys_putF f v r
  rw[show putF f v ((k,x)::r)=(if k=f then (k,v)::r else (k,x)::putF f v r) from rfl]
  by_cases hk:k=f
  ·rw[if_pos hk]
   subst hk
   exact⟨by simp,λg h=>by simpa using h⟩
  ·rw[if_neg hk]
   refine⟨?_,λg h=>?_⟩
   ·rw[List.map_cons]
    exact List.mem_cons_of_mem _ i1
   ·rw[List.map_cons]at h ⊢
    rcases List.mem_cons.mp h with e | e
    ·exact List.mem_cons.mpr (.inl e)
    ·exact List.mem_cons_of_mem _ (i2 g e)
theorem length_putF (f:Str)(v:V):∀ fs:List (Str×V),(putF f v fs).length<=fs.length+1
 |[]=>by simp[putF]
 |(k,x)::r=>by
  have ih:=length_putF f v r
  rw[show putF f v ((k,x)::r)=(if k=f then (k,v)::r else (k,x)::putF f v r) from rfl]
  by_cases hk:k=f
  ·rw[if_pos hk,List.length_cons,List.length_cons];omega
  ·rw[if_neg hk,List.length_cons,List.length_cons];omega
theorem RelO.some_of {v:V}{o:Option Value}(r:RelO (some v) o):∃ u,o=some u/\RelV v u:=by
 cases o with
 |none=>exact (show False from r).elim
 |some u=>exact⟨u,rfl,r⟩
theorem RelO.none_of {o:Option Value}(r:RelO none o):o=none:=by
 cases o with
 |none=>rfl
 |some u=>exact (show False from r).elim
theorem handed_of {v:V}{u:Value}(r:RelV v u):PySem.W.handedIn u=true:=by
 cases v with
 |non=>cases (show u=Value.none from r);rfl
 |bl b=>cases (show u=Value.bool b from r);rfl
 |int i=>obtain⟨t,e⟩:=(show ∃ t,u=Value.int i t from r);cases e;rfl
 |str x=>obtain⟨t,e⟩:=(show ∃ t,u=Value.str x t from r);cases e;rfl
 |byt b=>obtain⟨t,e⟩:=(show ∃ t,u=Value.bytes b t from r);cases e;rfl
 |flt b=>obtain⟨t,e⟩:=(show ∃ t,u=Value.float b t from r);cases e;rfl
 |ref a=>cases (show u=Value.ref a from r);rfl
 |ty n=>cases (show u=Value.type n from r);rfl
section
variable {P:Program}{w:World}{H H':Hp}{h h':Heap}{a C dx:Addr}{fs fs':List (Str×V)}
theorem ins_get (hok:HOk P w H h)(e:H a=some (.ins C dx fs)):∃ mA,ObjM h a dx C mA/\(∀ f,RelO (fs.lookup f) (mA f))/\PySem.Within mA (fs.map (·.1))/\fs.length<=1000/\H dx=some (.own a):=by
 obtain⟨d,z,ne,ob,mA,n,r,q⟩:=(show ObjOk P w H h a (.ins C dx fs) from hok a _ e)
 exact⟨mA,⟨ob,n,ne⟩,r,q,z,d⟩
end
structure Cls (K:PySem.W.Frag)(C:Addr):Prop where
 pg:PySem.W.plainGet K C Str.empty=true
 hd:PySem.W.hasDictIn K C=true
 po:PySem.W.plainOver K C=true
 sa:PySem.W.findIn K (.ref C) "__setattr__" = some (some (.builtin "object.__setattr__"))
theorem Cls.get {K:PySem.W.Frag}{C:Addr}(c:Cls K C) (f:Str):PySem.W.plainGet K C f=true:=c.pg
def NoAttr (K:PySem.W.Frag)(C:Addr) (f:Str):Prop:=PySem.W.findIn K (.ref C) f=some none
theorem NoAttr.taker {K:PySem.W.Frag}{C:Addr}{f:Str}(n:NoAttr K C f):PySem.W.takerIn K C f=some none:=by
 unfold PySem.W.takerIn
 rw[show PySem.W.findIn K (.ref C) f=some none from n]
 rfl
structure Con (K:PySem.W.Frag)(C:Addr) (f:Str)(v:V) (u:Value):Prop where
 at_:PySem.W.findIn K (.ref C) f=some (some u)
 rel:RelV v u
 get:PySem.W.specialIn K u "__get__" = some none
 cp:PySem.W.copiedNames.contains f=false
structure Meth (K:PySem.W.Frag)(C:Addr) (m:Str)(f:Addr):Prop where
 at_:PySem.W.findIn K (.ref C) m=some (some (.ref f))
 fn:PySem.W.isFn K (.ref f)=true
 kp:PySem.W.keepIn K (.ref f)=true
section
variable {X:Cx}{pins:List (Addr×Obj)}{σ:St}{H:Hp}{s:Shared}{a C dx:Addr}{fs:List (Str×V)}{f:Str}{v:V}{A:Around}{E:Value->Shared->Prop}
theorem getattr_ok {b:Bool}{Q:Value->Shared->Prop}(I:Inv X pins σ H s)(e:H a=some (.ins C dx fs))(c:Cls X.K C)(n:NoAttr X.K C f)(l:fs.lookup f=some v)
  (h:∀ u s',Inv X pins σ H s'->RelV v u->Q u s'):wpAny (model X.prog X.w) A (getAttr (.ref a) f b) Q E s:=by
 obtain⟨mA,O,r,_,_,_⟩:=ins_get I.hok e
 obtain⟨u,hu,ru⟩:=RelO.some_of (v:=v) (o:=mA f) (by rw[<-l];exact r f)
 exact get_map I.kIn O (c.get f) c.hd n hu (handed_of ru) (h u _ (I.tok _) ru)
theorem getmeth_ok {m:Str}{g:Addr}{pl:Sem Bool}{Q:Value×List Value->Shared->Prop}(I:Inv X pins σ H s)(e:H a=some (.ins C dx fs))(c:Cls X.K C)(k:Meth X.K C m g)(l:fs.lookup m=none)
  (h:Q (.ref g,[.ref a]) s):wpAny (model X.prog X.w) A (getMethod (.ref a) m pl) Q E s:=by
 obtain⟨mA,O,r,_,_,_⟩:=ins_get I.hok e
 have hn:mA m=none:=RelO.none_of (by rw[<-l];exact r m)
 exact get_meth I.kIn O (c.get m) k.at_ k.fn hn h
theorem setattr_ok {y:V}{u:Value}{Q:Unit->Shared->Prop}(I:Inv X pins σ H s)(e:H a=some (.ins C dx fs))(c:Cls X.K C)(n:NoAttr X.K C f)(hl:fs.length<1000)(ry:RelV y u)
  (h:∀ s',Inv X pins σ (upd H a (.ins C dx (putF f y fs))) s'->Q () s'):wpAny (model X.prog X.w) A (setAttr (.ref a) f u) Q E s:=by
 obtain⟨mA,O,r,wi,_,ho⟩:=ins_get I.hok e
 have hz:(fs.map (·.1)).length<=sizeLine:=by rw[List.length_map,sizeLine_eq];omega
 refine set_map I.kIn O c.sa c.po n.taker c.hd wi hz λh' O' sb=>h _ ?_
 have hd:∃ o,h'.get? dx=some o:=let ⟨o,_,_,e',_⟩:=O'.ns;⟨o,e'⟩
 refine I.write (x:=a) (e:=dx) (by rw[e];exact True.intro) (.inr ho) (λb q hb z=>(sb.2 b hb).trans z) hd ?_
 refine⟨by rw[upd_ne O.ne];exact ho,?_,O.ne,O'.obj,_,O'.ns,λg=>?_,λg hg=>?_⟩
 ·have:=length_putF f y fs;omega
 ·show RelO ((putF f y fs).lookup g) (if g=f then some u else mA g)
  rw[lookup_putF]
  by_cases q:g=f
  ·rw[if_pos q,if_pos q];exact ry
  ·rw[if_neg q,if_neg q];exact r g
 ·by_cases q:g=f
  ·rw[q];exact (keys_putF f y fs).1
  ·refine (keys_putF f y fs).2 g (wi g λz=>hg ?_)
   show (if g=f then some u else mA g)=none
   rw[if_neg q];exact z
theorem Inv.made (I:Inv X pins σ H s):Inv X pins σ (upd (upd H s.heap.objs.size (.own (s.heap.objs.size+1))) (s.heap.objs.size+1) (.ins C s.heap.objs.size []))
  {s with heap:=(s.heap.push PySem.W.emptyDict).push (PySem.W.instObj C s.heap.objs.size) }:=by
 have e1:(s.heap.push PySem.W.emptyDict).get? s.heap.objs.size=some PySem.W.emptyDict:=Heap.get?_push_size s.heap rfl
 have e2:((s.heap.push PySem.W.emptyDict).push (PySem.W.instObj C s.heap.objs.size)).get? (s.heap.objs.size+1)=some (PySem.W.instObj C s.heap.objs.size):=by
  have:=Heap.get?_push_size (s.heap.push PySem.W.emptyDict) (o:=PySem.W.instObj C s.heap.objs.size) rfl
  rwa [Heap.size_push]at this
 have e3:(s.heap.push PySem.W.emptyDict).Ns s.heap.objs.size (λ_=>none):=⟨PySem.W.emptyDict,#[],_,e1,rfl,(λe he=>absurd he (by simp)),λ_=>rfl⟩
 have I1:=I.laid (a:=s.heap.objs.size) (o:=.own (s.heap.objs.size+1)) (h':=s.heap.push PySem.W.emptyDict) (t':=s.toks) (λb u q=>Heap.get?_push_of_some _ q) (Nat.le_refl _) ⟨_,e1⟩
 refine I1.laid (a:=s.heap.objs.size+1) (o:=.ins C s.heap.objs.size []) (t':=s.toks) (λb u q=>Heap.get?_push_of_some _ q) (Nat.le_of_eq (Heap.size_push _ _)) ?_
 have ne:s.heap.objs.size≠s.heap.objs.size+1:=Nat.ne_of_lt (Nat.lt_succ_self _)
 refine⟨by rw[upd_ne ne,upd_same],Nat.zero_le _,ne,e2,λ_=>none,(Heap.Ns1.of_empty e3).at λo q=>Heap.get?_push_of_some _ q,λ_=>True.intro,λy hy=>absurd rfl hy⟩
theorem attr_of {prog:Program}{w:World}{env:Env}{e:Expr}{f:Str}{pos:Pos}{s:Shared}{Q:Value->Shared->Prop}(hb:attributeBase e f env (eval e env)=eval e env)
  (h:wpAny (model prog w) A (eval e env) (λo s₁=>wpAny (model prog w) A (getAttr o f true) Q E s₁) E s):wpAny (model prog w) A (eval (.Attribute e f pos) env) Q E s:=
 Attribute_any_ h (by rw[arm_eval_Attribute,hb])
end
def tFld (K:PySem.W.Frag)(ta:TE) (f:Str):TE:=λσ H Q=>ta σ H λx H1=>∃ a C dx fs v,x=.ref a/\H1 a=some (.ins C dx fs)/\Cls K C/\NoAttr K C f/\fs.lookup f=some v/\Q v H1
def sFld (K:PySem.W.Frag)(ta tv:TE) (f:Str):TS:=λD σ H=>tv σ H λy H1=>ta σ H1 λx H2=>∃ a C dx fs,x=.ref a/\H2 a=some (.ins C dx fs)/\Cls K C/\NoAttr K C f/\fs.length<1000 ∧
 D.nx σ (upd H2 a (.ins C dx (putF f y fs)))
section
variable {X:Cx}{o e value:Expr}{f:Str}{pos pos' tpos:Pos}{ta tv:TE}
theorem pe_fld (he:PE X e ta)(hb:attributeBase e f X.env (eval e X.env)=eval e X.env):PE X (.Attribute e f pos) (tFld X.K ta f):=by
 intro pins s σ H Q I h
 refine attr_of hb (thn (he pins s σ H _ I h) λu s1 ⟨x,H1,I1,rx,a,C,dx,fs,v,ex,ea,c,n,l,q⟩=>?_)
 subst ex
 obtain rfl:u=Value.ref a:=rx
 exact getattr_ok I1 ea c n l λu' s2 I2 ru=>⟨v,H1,I2,ru,q⟩
theorem ps_fld (ha:PE X o ta)(hv:PE X value tv)(hs:swapsWith value (some (.Attribute o f pos')) pos.line X.env=pure false):PS X (.Assign [.Attribute o f pos'] value pos) (sFld X.K ta tv f):=by
 intro pins s σ H D I h
 refine plainObj_wpAny_Assign_Attribute (thn (hv pins s σ H _ I h) λu s1 ⟨y,H1,I1,ry,q⟩=>thn (ha pins s1 σ H1 _ I1 q) λov s2 ⟨x,H2,I2,rx,a,C,dx,fs,ex,ea,c,n,l,q2⟩=>?_) hs
 subst ex
 obtain rfl:ov=Value.ref a:=rx
 exact setattr_ok I2 ea c n l ry λs3 I3=>⟨σ,_,I3,q2⟩
end
section
variable {X:Cx}{pins:List (Addr×Obj)}{σ:St}{H:Hp}{s:Shared}{A:Around}{E:Value->Shared->Prop}{Q:Value->Shared->Prop}{c:Value}{b:Bool}
inductive TyOf (K:PySem.W.Frag)(H:Hp):V->Value->Prop where
 |non:TyOf K H .non (.type "NoneType")
 |bl (x:Bool):TyOf K H (.bl x) (.type "bool")
 |int (i:Int):TyOf K H (.int i) (.type "int")
 |str (x:Str):TyOf K H (.str x) (.type "str")
 |flt (x:UInt64):TyOf K H (.flt x) (.type "float")
 |lst {a:Addr}{xs:List V}(e:H a=some (.lst xs)):TyOf K H (.ref a) (.type "list")
 |frz {a:Addr}{o:Obj}{xs:List V}(e:H a=some (.frz o (.lst xs))):TyOf K H (.ref a) (.type "list")
 |tup {a:Addr}{xs:List V}(e:H a=some (.tup xs)):TyOf K H (.ref a) (.type "tuple")
 |dK {a:Addr}{kvs:List (Key×V)}(e:H a=some (.dK kvs)):TyOf K H (.ref a) (.type "dict")
 |dT {a:Addr}{kvs:List (List Key×V)}(e:H a=some (.dT kvs)):TyOf K H (.ref a) (.type "dict")
 |ins {a C dx:Addr}{fs:List (Str×V)}(e:H a=some (.ins C dx fs))(cl:Cls K C)(ha:PySem.W.findIn K (.ref C) "__class__" = some (some (.builtin "object.__class__")))
   (hn:PySem.W.specialIn K (.builtin "object.__class__") "__get__" = some (some (.builtin "getset_descriptor.__get__")))(htk:PySem.W.takesIn K (.builtin "object.__class__")=some true)
   (hm:PySem.W.mroIn K C (.type "object")=some true):TyOf K H (.ref a) (.ref C)
theorem isinst_ok {x:V}{u t:Value}(I:Inv X pins σ H s)(rx:RelV x u)(ty:TyOf X.K H x t)(e:PySem.W.kitOne X.K t c=some b)(h:∀ tk,Q (.bool b) { s with toks:=tk }) :
  wpAny (model X.prog X.w) A (call (.builtin "isinstance") [u,c]) Q E s:=by
 cases ty with
 |non=>cases (show u=Value.none from rx);exact PySem.W.kia_one PySem.W.kitx_none I.kIn True.intro e (λz=>nomatch z) h
 |bl y=>cases (show u=Value.bool y from rx);exact PySem.W.kia_one PySem.W.kitx_bool I.kIn True.intro e (λz=>nomatch z) h
 |int i=>obtain⟨t,q⟩:=(show ∃ t,u=Value.int i t from rx);cases q;exact PySem.W.kia_one PySem.W.kitx_int I.kIn True.intro e (λz=>nomatch z) h
 |str y=>obtain⟨t,q⟩:=(show ∃ t,u=Value.str y t from rx);cases q;exact PySem.W.kia_one PySem.W.kitx_str I.kIn True.intro e (λz=>nomatch z) h
 |flt y=>obtain⟨t,q⟩:=(show ∃ t,u=Value.float y t from rx);cases q;exact PySem.W.kia_one PySem.W.kitx_float I.kIn True.intro e (λz=>nomatch z) h
 |@lst a xs ea=>
  cases (show u=Value.ref a from rx)
  obtain⟨_,_,n,_,h1⟩:=(show ObjOk X.prog X.w H s.heap a (.lst xs) from I.hok a _ ea)
  exact PySem.W.kia_one PySem.W.kitx_list I.kIn ⟨_,h1,rfl⟩ e (λz=>nomatch z) h
 |@frz a ob xs ea=>
  cases (show u=Value.ref a from rx)
  obtain⟨_,_,_,n,_,h1⟩:=(show ObjOk X.prog X.w H s.heap a (.frz ob (.lst xs)) from I.hok a _ ea)
  exact PySem.W.kia_one PySem.W.kitx_list I.kIn ⟨_,h1,rfl⟩ e (λz=>nomatch z) h
 |@tup a xs ea=>
  cases (show u=Value.ref a from rx)
  obtain⟨_,_,_,p⟩:=(show ObjOk X.prog X.w H s.heap a (.tup xs) from I.hok a _ ea)
  obtain⟨o,h1,h2,_⟩:=p
  exact PySem.W.kia_one PySem.W.kitx_tuple I.kIn ⟨o,h1,h2⟩ e (λz=>nomatch z) h
 |@dK a kvs ea=>
  cases (show u=Value.ref a from rx)
  obtain⟨_,_,vs,_,p⟩:=(show ObjOk X.prog X.w H s.heap a (.dK kvs) from I.hok a _ ea)
  obtain⟨o,es,ep,h1,h2,_⟩:=p
  exact PySem.W.kia_one PySem.W.kitx_dict I.kIn ⟨o,h1,h2.1⟩ e (λz=>nomatch z) h
 |@dT a kvs ea=>
  cases (show u=Value.ref a from rx)
  obtain⟨_,_,xs,_,o,es,ep,h1,h2,_⟩:=(show ObjOk X.prog X.w H s.heap a (.dT kvs) from I.hok a _ ea)
  exact PySem.W.kia_one PySem.W.kitx_dict I.kIn ⟨o,h1,h2.1⟩ e (λz=>nomatch z) h
 |@ins a C dx fs ea cl ha hn htk hm=>
  cases (show u=Value.ref a from rx)
  obtain⟨mA,O,_⟩:=ins_get I.hok ea
  obtain⟨od,J,_⟩:=O.look
  exact PySem.W.kia_one (PySem.W.kitx_own (cl.get _) cl.hd ha hn htk hm) I.kIn J e (λz=>nomatch z) h
end
end L2
namespace L2
open PySem PySem.Spec PyProof.Rows
structure Room (k:Nat)(A:Around):Prop where
 hd:A.handled=none
 dp:A.depth+3 * k+5<recursionLimit
 un:A.units+16 * k+200<cLine
theorem Room.mono {j k:Nat}{A:Around}(r:Room k A)(h:j<=k):Room j A:=⟨r.hd,by have:=r.dp;omega,by have:=r.un;omega⟩
theorem Room.deeper {k:Nat}{A:Around}(r:Room (k+1) A)(env:Env):Room k (A.deeper env):=
 ⟨r.hd,by have:=r.dp;show A.depth+1+3 * k+5<_;omega,by have:=r.un;show A.units+3+16 * k+200<_;omega⟩
theorem make_depth {A:Around}{C:Addr}{us:List Value}{kw:List (Str×Value)}:(A.under (.builtin "type.__call__" ⟨.ref C::us,kw⟩)).depth=A.depth+1:=by
 first | rfl | simp[Around.under,Code.weight,Code.isCreation,Code.isGuard,Code.isCaller,Code.frames,Code.isFrame,guardIds]
theorem make_units {A:Around}{C:Addr}{us:List Value}{kw:List (Str×Value)}:(A.under (.builtin "type.__call__" ⟨.ref C::us,kw⟩)).units=A.units+1:=by
 first | rfl | simp[Around.under,Code.cUnits,Code.frames,Code.isFrame]
theorem Room.make {k:Nat}{A:Around}(r:Room (k+1) A)(C:Addr)(us:List Value)(kw:List (Str×Value)):Room k (A.under (.builtin "type.__call__" ⟨.ref C::us,kw⟩)):=
 ⟨r.hd,by have:=r.dp;rw[make_depth];omega,by have:=r.un;rw[make_units];omega⟩
theorem Room.depth {k:Nat}{A:Around}(r:Room k A):A.depth<recursionLimit:=by have:=r.dp;omega
theorem Room.units {k:Nat}{A:Around}(r:Room k A):A.units+64<cLine:=by have:=r.un;omega
def tNil:TA:=λ_ H Q=>Q [] H
def tCons (ta:TE)(tr:TA):TA:=λσ H Q=>ta σ H λx H1=>tr σ H1 λxs H2=>Q (x::xs) H2
section
variable {X:Cx}{e:Expr}{es:List Expr}{te:TE}{t:TA}{pos:Pos}
theorem pa_nil:PA X [] tNil:=λ_ _ _ _ H Q I h=>Calls.spliced_nil ⟨[],H,I,.nil,h⟩
theorem pa_cons (ha:PE X e te)(hr:PA X es t)(hs:autoParam (starEach (e::es) X.env=(false,eval e X.env)::starEach es X.env) aR._auto_1):PA X (e::es) (tCons te t):=by
 intro pos pins s σ H Q I h
 rw[hs]
 show wpAny _ _ (spliced ((false,eval e X.env)::backTo pos (starEach es X.env))) _ _ s
 refine Calls.spliced_cons (thn (ha pins s σ H _ I h) λu s1 ⟨x,H1,I1,r1,q1⟩=>?_)
 exact thn (hr pos pins s1 σ H1 _ I1 q1) λus s2 ⟨xs,H2,I2,r2,q2⟩=>⟨x::xs,H2,I2,.cons r1 r2,q2⟩
def tTup (t:TA):TE:=λσ H Q=>t σ H λxs H1=>xs.length<=sizeLine/\∀ p,H1 p=none->Q (.ref p) (upd H1 p (.tup xs))
def tLst (t:TA):TE:=λσ H Q=>t σ H λxs H1=>xs.length<=sizeLine/\∀ p,H1 p=none->Q (.ref p) (upd H1 p (.lst xs))
theorem pe_tup {x1}(h:PA X es t):PE X (.Tuple es x1 pos) (tTup t):=by
 intro pins s σ H Q I hq
 refine wpAny_Tuple_spliced (thn (h pos pins s σ H _ I hq) λus s1 ⟨xs,H1,I1,r,z,q⟩=>⟨by rw[<-r.length];exact z,?_⟩)
 have hf:H1 s1.heap.objs.size=none:=I1.hok.fresh (Nat.le_refl _)
 refine⟨.ref s1.heap.objs.size,upd H1 s1.heap.objs.size (.tup xs),I1.laid (t':=s1.toks) (λb u e=>Heap.get?_push_of_some _ e) (Nat.le_refl _) ?_,rfl,q _ hf⟩
 exact⟨z,us,r,IsTupD.new _ _⟩
theorem pe_lst (h:PA X es t):PE X (.List es pos) (tLst t):=by
 intro pins s σ H Q I hq
 refine wpAny_List_spliced (thn (h pos pins s σ H _ I hq) λus s1 ⟨xs,H1,I1,r,z,q⟩=>⟨by rw[<-r.length];exact z,?_⟩)
 have hf:H1 s1.heap.objs.size=none:=I1.hok.fresh (Nat.le_refl _)
 refine⟨.ref s1.heap.objs.size,upd H1 s1.heap.objs.size (.lst xs),I1.laid (t':=s1.toks) (λb u e=>Heap.get?_push_of_some _ e) (Nat.le_refl _) ?_,rfl,q _ hf⟩
 exact⟨z,us,0,r,Heap.get?_push_size _ rfl⟩
end
abbrev Sp:=List V->Hp->VK->XK->Prop
abbrev CXT:=List Env->Hp->Shared->XK->Value->Shared->Prop
structure Env0 (P:Program)(w:World)(K:PySem.W.Frag)(mg:Str->Option Value)(base:Heap)(A:Around)(outer:List Env)(s:Shared)(H:Hp):Prop where
 frames:A.frames=some outer
 mod:Mod K mg base
 bs:∀ b o,base.get? b=some o->s.heap.get? b=some o/\H b=none
 bsz:base.objs.size<=s.heap.objs.size
 funs:s.heap.FunFrames base outer
 frf:∀ b ∈ frs outer,H b=none
 hok:HOk P w H s.heap
 bare:AllBare s.gens
def CE (outer:List Env)(P:Program)(w:World)(H:Hp)(s:Shared)(Q:VK) (u:Value)(s':Shared):Prop:=
 ∃ v H',s'.os=s.os/\AllBare s'.gens/\Un (frs outer) [] H H' s.heap s'.heap/\HOk P w H' s'.heap/\RelV v u/\Q v H'
def CR (CX:CXT)(outer:List Env)(P:Program)(w:World)(H:Hp)(s:Shared)(Q:VK)(E:XK)(r:Result)(s':Shared):Prop:=
 match r with
 |.ok (.ret u)=>CE outer P w H s Q u s'
 |.ok _=>False
 |.error e=>CX outer H s E e s'
structure FnOk (P:Program)(w:World)(K:PySem.W.Frag)(mg:Str->Option Value)(base:Heap)(CX:CXT) (k:Nat)(f:Addr)(fd:FuncData)(ps:List Str)(sp:Sp):Prop where
 len:∀ vs H Q E,sp vs H Q E->vs.length=ps.length
 run:∀ (A:Around)(outer:List Env)(s:Shared)(H:Hp)(args:Args)(us:List Value)(vs:List V)(Q:VK)(E:XK),Room k A->Env0 P w K mg base A outer s H->BindsTo s fd args (ps.zip us)->Vals vs us->sp vs H Q E ->
  codeAny (model P w) A (.call (.ref f) args) (CR CX outer P w H s Q E) s
theorem FnOk.imp {P:Program}{w:World}{K:PySem.W.Frag}{mg:Str->Option Value}{base:Heap}{CX:CXT}{k:Nat}{f:Addr}{fd:FuncData}{ps:List Str}{sp sp':Sp}(F:FnOk P w K mg base CX k f fd ps sp)
  (h:∀ vs H Q E,sp' vs H Q E->sp vs H Q E):FnOk P w K mg base CX k f fd ps sp':=
 ⟨λvs H Q E q=>F.len vs H Q E (h _ _ _ _ q),λA outer s H args us vs Q E hr he hb hv hs=>F.run A outer s H args us vs Q E hr he hb hv (h _ _ _ _ hs)⟩
theorem Env0.make {P:Program}{w:World}{K:PySem.W.Frag}{mg:Str->Option Value}{base:Heap}{A:Around}{outer:List Env}{s:Shared}{H:Hp}(e:Env0 P w K mg base A outer s H)(C:Addr)(us:List Value)(kw:List (Str×Value)) :
  Env0 P w K mg base (A.under (.builtin "type.__call__" ⟨.ref C::us,kw⟩)) outer s H:=⟨by first | exact e.frames | (simpa[Around.under,Code.envs,Code.isFrame,pushEnvs] using e.frames),e.mod,e.bs,e.bsz,e.funs,e.frf,e.hok,e.bare⟩
section
variable {X:Cx}{pins:List (Addr×Obj)}{σ:St}{H:Hp}{s s':Shared}
theorem Inv.env0 (I:Inv X pins σ H s):Env0 X.prog X.w X.K X.mg X.base X.A X.stack s H:=
 ⟨I.ok.frames,I.ok.mod,I.bs,Nat.le_trans I.ok.bsz I.sz,I.stack,I.stkFree,I.hok,I.bare⟩
theorem Inv.after {Q:VK}{u:Value}(I:Inv X pins σ H s)(h:CE X.stack X.prog X.w H s Q u s'):EP X pins σ Q u s':=by
 obtain⟨v,H',os,bare,un,hok,r,q⟩:=h
 obtain⟨hh,g,d,t,os'⟩:=s'
 obtain rfl:os'=s.os:=os
 exact⟨v,H',I.call (h':=hh) (g':=g) (d':=d) (t':=t) (ch:=[]) un hok bare (λb z=>absurd z (by simp)),r,q⟩
end
def tCall (sp:Sp)(dvs:List V)(E:XK)(t:TA):TE:=λσ H Q=>t σ H λvs H1=>sp (vs++dvs) H1 Q E
def tMeth (C:Addr) (m:Str)(sp:Sp)(dvs:List V)(E:XK)(ta:TE)(t:TA):TE:=λσ H Q=>ta σ H λx H1=>∃ a dx fs,x=.ref a/\H1 a=some (.ins C dx fs)/\fs.lookup m=none ∧
 t σ H1 λvs H2=>sp (x::(vs++dvs)) H2 Q E
def tMake (C:Addr)(sp:Sp)(dvs:List V)(E:XK)(t:TA):TE:=λσ H Q=>t σ H λvs H1=>∀ x dx,H1 x=none->H1 dx=none->dx≠x ->
 sp (.ref x::(vs++dvs)) (upd (upd H1 dx (.own x)) x (.ins C dx [])) (λv H2=>v=.non/\Q (.ref x) H2) E
def Binds (K:PySem.W.Frag)(fd:FuncData)(ps:List Str)(ds:List Value):Prop:=
 ∀ (s:Shared)(us:List Value),K.In s.heap->(us++ds).length=ps.length->BindsTo s fd ⟨us,[]⟩ (ps.zip (us++ds))
theorem Binds.all {K:PySem.W.Frag}{fd:FuncData}{ps:List Str}(h:∀ us:List Value,us.length=ps.length->bindArgs fd ⟨us,[]⟩=pure (ps.zip us)):Binds K fd ps []:=λs us _ hl=>by
 rw[List.append_nil]at hl ⊢
 exact .of_eq (h us hl)
def Passes (CX:CXT)(X:Cx)(E:XK):Prop:=∀ (pins:List (Addr×Obj))(σ:St)(H:Hp)(s:Shared) (e:Value)(s':Shared),Inv X pins σ H s->CX X.stack H s E e s'->X.xe e s'
section
variable {X:Cx}{CX:CXT}{k:Nat}{f C:Addr}{fd:FuncData}{ps:List Str}{sp:Sp}{dvs:List V}{ds:List Value}{E:XK}{x m:Str}{p pos apos:Pos}{e o:Expr}{es:List Expr}{ta:TE}{t:TA}
theorem run_fn {pins:List (Addr×Obj)}{σ:St}{H:Hp}{s:Shared}{Q:VK}{us:List Value}{vs:List V}(F:FnOk X.prog X.w X.K X.mg X.base CX k f fd ps sp)(hr:Room k X.A)(hb:Binds X.K fd ps ds)(hd:Vals dvs ds)(hx:Passes CX X E)
  (I:Inv X pins σ H s)(r:Vals vs us)(h:sp (vs++dvs) H Q E):wpAny (model X.prog X.w) X.A (call (.ref f) us) (EP X pins σ Q) X.xe s:=by
 have r2:Vals (vs++dvs) (us++ds):=r.append hd
 have hl:(us++ds).length=ps.length:=by rw[<-r2.length];exact F.len _ _ _ _ h
 refine wpAny_call (codeAny_mono (F.run X.A X.stack s H ⟨us,[]⟩ (us++ds) (vs++dvs) Q E hr I.env0 (hb s us I.kIn hl) r2 h) λr s' hq=>?_)
 cases r with
 |error e=>exact hx pins σ H s e s' I hq
 |ok fl=>
  cases fl with
  |ret u=>exact I.after hq
  |next=>exact False.elim hq
  |brk=>exact False.elim hq
  |cont=>exact False.elim hq
theorem pe_call (F:FnOk X.prog X.w X.K X.mg X.base CX k f fd ps sp)(hr:Room k X.A)(hg:Gl X x)(hm:X.mg x=some (.ref f))(hk:PySem.W.keepIn X.K (.ref f)=true)(hb:Binds X.K fd ps ds)(hd:Vals dvs ds)(hx:Passes CX X E)
  (ha:PA X (e::es) t)(hdb:autoParam ((x == ("__debug__" : Str))=false) aD._auto_1)(he:autoParam (starEach (e::es) X.env=(false,eval e X.env)::starEach es X.env) aR._auto_1)(hpl:autoParam ((backTo pos (starEach es X.env)).any (·.1)=false) aR._auto_1) :
  PE X (.Call (.Name x p) (e::es) [] pos) (tCall sp dvs E t):=by
 intro pins s σ H Q I h
 refine wpAny_Call_Name_kw (ld_glob I hg hm ?_ hdb)
 refine PySem.W.callWith_K (h₀:=X.base) I.ok.mod.kin hk (thn (ha pos pins s σ H _ I h) λus s1 ⟨vs,H1,I1,r,q⟩=>⟨I1.kIn,?_⟩) he hpl
 exact run_fn F hr hb hd hx I1 r q
theorem pe_meth {pl:Sem Bool}(he:PE X o ta)(c:Cls X.K C)(hm:Meth X.K C m f)(F:FnOk X.prog X.w X.K X.mg X.base CX k f fd ps sp)(hr:Room k X.A)(hb:Binds X.K fd ps ds)(hd:Vals dvs ds)(hx:Passes CX X E)(ha:PA X (e::es) t)
  (hst:autoParam (starEach (e::es) X.env=(false,eval e X.env)::starEach es X.env) aR._auto_1)(hpl:autoParam ((backTo pos (starEach es X.env)).any (·.1)=false) aR._auto_1)
  (ht:eval (.Call (.Attribute o m apos) (e::es) [] pos) X.env=(do
   let ov <-eval o X.env
   standAt apos.atName
   let (f,first) <-holding [ov] (getMethod ov m pl)
   callWith pos f first (backTo pos (starEach (e::es) X.env)) (backToKw pos (keywordEach [] X.env))):=by rfl) :
  PE X (.Call (.Attribute o m apos) (e::es) [] pos) (tMeth C m sp dvs E ta t):=by
 intro pins s σ H Q I h
 refine PySem.W.methodCall_KW (pl:=pl) (thn (he pins s σ H _ I h) λu s1 ⟨x,H1,I1,rx,a,dx,fs,ex,ea,l,q⟩=>?_) ht
 subst ex
 obtain rfl:u=Value.ref a:=rx
 refine getmeth_ok I1 ea c hm l ?_
 refine PySem.W.callWith_K (first:=[.ref a]) (h₀:=X.base) I.ok.mod.kin hm.kp (thn (ha pos pins s1 σ H1 _ I1 q) λus s2 ⟨vs,H2,I2,r,q2⟩=>⟨I2.kIn,?_⟩) hst hpl
 exact run_fn (us:=.ref a::us) (vs:=.ref a::vs) F hr hb hd hx I2 (.cons rfl r) q2
theorem pe_meth0 {pl:Sem Bool}(he:PE X o ta)(c:Cls X.K C)(hm:Meth X.K C m f)(F:FnOk X.prog X.w X.K X.mg X.base CX k f fd ps sp)(hr:Room k X.A)(hb:Binds X.K fd ps ds)(hd:Vals dvs ds)(hx:Passes CX X E)
  (ht:eval (.Call (.Attribute o m apos) [] [] pos) X.env=(do
   let ov <-eval o X.env
   standAt apos.atName
   let (f,first) <-holding [ov] (getMethod ov m pl)
   callWith pos f first (backTo pos (starEach [] X.env)) (backToKw pos (keywordEach [] X.env))):=by rfl) :
  PE X (.Call (.Attribute o m apos) [] [] pos) (tMeth C m sp dvs E ta tNil):=by
 intro pins s σ H Q I h
 refine PySem.W.methodCall_KW (pl:=pl) (thn (he pins s σ H _ I h) λu s1 ⟨x,H1,I1,rx,a,dx,fs,ex,ea,l,q⟩=>?_) ht
 subst ex
 obtain rfl:u=Value.ref a:=rx
 refine getmeth_ok I1 ea c hm l ?_
 exact PySem.W.callWith_K0 (first:=[.ref a]) I1.kIn hm.kp (run_fn (us:=[.ref a]) (vs:=[.ref a]) F hr hb hd hx I1 (.cons rfl .nil) q)
structure Mk (K:PySem.W.Frag)(C f:Addr):Prop where
 makes:PySem.W.makesIn K C=true
 init:PySem.W.findIn K (.ref C) "__init__" = some (some (.ref f))
 fn:PySem.W.isFn K (.ref f)=true
 kp:PySem.W.keepIn K (.ref C)=true
theorem run_make {pins:List (Addr×Obj)}{σ:St}{H:Hp}{s:Shared}{Q:VK}{us:List Value}{vs:List V}(M:Mk X.K C f)(F:FnOk X.prog X.w X.K X.mg X.base CX k f fd ps sp)(hr:Room (k+1) X.A)(hb:Binds X.K fd ps ds)(hd:Vals dvs ds)
  (hx:Passes CX X E)(I:Inv X pins σ H s)(r:Vals vs us)
  (h:∀ x dx,H x=none->H dx=none->dx≠x->sp (.ref x::(vs++dvs)) (upd (upd H dx (.own x)) x (.ins C dx [])) (λv H2=>v=.non/\Q (.ref x) H2) E) :
  wpAny (model X.prog X.w) X.A (call (.ref C) us) (EP X pins σ Q) X.xe s:=by
 have hq:=h (s.heap.objs.size+1) s.heap.objs.size (I.hok.fresh (Nat.le_succ _)) (I.hok.fresh (Nat.le_refl _)) (Nat.ne_of_lt (Nat.lt_succ_self _))
 have I2:=Inv.made (C:=C) I
 have r2:Vals (V.ref (s.heap.objs.size+1)::(vs++dvs)) (Value.ref (s.heap.objs.size+1)::(us++ds)):=.cons rfl (r.append hd)
 have hl:(Value.ref (s.heap.objs.size+1)::us++ds).length=ps.length:=by
  have e:=r2.length
  rw[F.len _ _ _ _ hq]at e
  exact e.symm
 refine wpAny_call (make_map (f:=f) I.kIn M.makes M.init (beq_iff_eq.mp M.fn) (codeAny_mono (F.run _ X.stack _ _ ⟨Value.ref (s.heap.objs.size+1)::us,[]⟩ (Value.ref (s.heap.objs.size+1)::(us++ds)) _ _ E (hr.make C us [])
  (I2.env0.make C us []) (hb _ (Value.ref (s.heap.objs.size+1)::us) I2.kIn hl) r2 hq) λr s' hq'=>?_))
 cases r with
 |error e=>exact hx pins σ _ _ e s' I2 hq'
 |ok fl=>
  cases fl with
  |ret u=>
   obtain⟨v,H',I3,rv,ev,q3⟩:=I2.after hq'
   subst ev
   exact⟨rv,⟨V.ref (s.heap.objs.size+1),H',I3,rfl,q3⟩⟩
  |next=>exact False.elim hq'
  |brk=>exact False.elim hq'
  |cont=>exact False.elim hq'
theorem pe_make (M:Mk X.K C f)(F:FnOk X.prog X.w X.K X.mg X.base CX k f fd ps sp)(hr:Room (k+1) X.A)(hg:Gl X x)(hm:X.mg x=some (.ref C))(hb:Binds X.K fd ps ds)(hd:Vals dvs ds)(hx:Passes CX X E)
  (ha:PA X (e::es) t)(hdb:autoParam ((x == ("__debug__" : Str))=false) aD._auto_1)(he:autoParam (starEach (e::es) X.env=(false,eval e X.env)::starEach es X.env) aR._auto_1)(hpl:autoParam ((backTo pos (starEach es X.env)).any (·.1)=false) aR._auto_1) :
  PE X (.Call (.Name x p) (e::es) [] pos) (tMake C sp dvs E t):=by
 intro pins s σ H Q I h
 refine wpAny_Call_Name_kw (ld_glob I hg hm ?_ hdb)
 refine PySem.W.callWith_K (h₀:=X.base) I.ok.mod.kin M.kp (thn (ha pos pins s σ H _ I h) λus s1 ⟨vs,H1,I1,r,q⟩=>⟨I1.kIn,?_⟩) he hpl
 exact run_make M F hr hb hd hx I1 r q
end
section
variable {X:Cx}{CX:CXT}{k:Nat}{f C:Addr}{fd:FuncData}{ps ks:List Str}{sp:Sp}{E:XK}{x m:Str}{p pos apos kpos:Pos}{e o:Expr}{es:List Expr}{kws:List Keyword}{te ta:TE}{t tk:TA}{nm:Option Str}
structure KBinds (K:PySem.W.Frag)(fd:FuncData)(ps ks:List Str)(g:List Value->List Value->List Value)(gV:List V->List V->List V):Prop where
 to:∀ (s:Shared)(us ws:List Value),K.In s.heap->(g us ws).length=ps.length->BindsTo s fd ⟨us,ks.zip ws⟩ (ps.zip (g us ws))
 rel:∀ {vs:List V}{us:List Value}{zs:List V}{ws:List Value},Vals vs us->Vals zs ws->Vals (gV vs zs) (g us ws)
variable {g:List Value->List Value->List Value}{gV:List V->List V->List V}
end
structure FnScope (N P:List Str)(sc:Scope):Prop where
 kind:sc.kind=.function
 co:sc.isCoroutine=false
 gen:sc.isGenerator=false
 nd:N.Nodup
 pre:N.take P.length=P
 par:∀ x ∈ P,sc.names.lookup x=some .local\/sc.names.lookup x=some .cell
 nofree:∀ y ∈ sc.names,y.2≠.free
theorem bindL_out {kindOf:Str->Option NameKind}{x:Str}:∀ {binds:List (Str×Value)}{m:Str->Option Value},(∀ v,(x,v) ∉ binds)->bindL kindOf binds m x=m x
 |[],_,_=>rfl
 |(n,v)::r,m,h=>by
  unfold bindL
  rw[bindL_out λw hw=>h w (List.mem_cons_of_mem _ hw)]
  split
  ·have:x≠n:=by rintro rfl;exact h v List.mem_cons_self
   simp[this]
  ·rfl
theorem bindC_out {kindOf:Str->Option NameKind}{x:Str}:∀ {binds:List (Str×Value)}{m:Str->Option Value},(∀ v,(x,v) ∉ binds)->bindC kindOf binds m x=m x
 |[],_,_=>rfl
 |(n,v)::r,m,h=>by
  unfold bindC
  rw[bindC_out λw hw=>h w (List.mem_cons_of_mem _ hw)]
  split
  ·rfl
  ·have:x≠n:=by rintro rfl;exact h v List.mem_cons_self
   simp[this]
theorem bindL_get {kindOf:Str->Option NameKind}{x:Str}{v:Value}:∀ {P:List Str}{vs:List Value}{i:Nat}{m:Str->Option Value},P.Nodup->P[i]? = some x->vs[i]? = some v->kindOf x=some .local ->
  bindL kindOf (P.zip vs) m x=some v
 |[],_,_,_,_,h,_,_=>by simp at h
 |_::_,[],_,_,_,_,h,_=>by simp at h
 |p::P,w::vs,0,m,nd,h1,h2,hk=>by
  simp at h1 h2;subst h1;subst h2
  show bindL kindOf ((p,w)::P.zip vs) m p=_
  unfold bindL
  rw[bindL_out λv hv=>(List.nodup_cons.mp nd).1 (List.of_mem_zip hv).1,if_pos hk]
  simp
 |p::P,w::vs,i+1,m,nd,h1,h2,hk=>by
  show bindL kindOf ((p,w)::P.zip vs) m x=_
  unfold bindL
  exact bindL_get (i:=i) (List.nodup_cons.mp nd).2 (by simpa using h1) (by simpa using h2) hk
theorem bindC_get {kindOf:Str->Option NameKind}{x:Str}{v:Value}:∀ {P:List Str}{vs:List Value}{i:Nat}{m:Str->Option Value},P.Nodup->P[i]? = some x->vs[i]? = some v->kindOf x≠some .local ->
  bindC kindOf (P.zip vs) m x=some v
 |[],_,_,_,_,h,_,_=>by simp at h
 |_::_,[],_,_,_,_,h,_=>by simp at h
 |p::P,w::vs,0,m,nd,h1,h2,hk=>by
  simp at h1 h2;subst h1;subst h2
  show bindC kindOf ((p,w)::P.zip vs) m p=_
  unfold bindC
  rw[bindC_out λv hv=>(List.nodup_cons.mp nd).1 (List.of_mem_zip hv).1,if_neg hk]
  simp
 |p::P,w::vs,i+1,m,nd,h1,h2,hk=>by
  show bindC kindOf ((p,w)::P.zip vs) m x=_
  unfold bindC
  exact bindC_get (i:=i) (List.nodup_cons.mp nd).2 (by simpa using h1) (by simpa using h2) hk
def start (N:List Str)(vs:List V):St:=vs.map some++List.replicate (N.length - vs.length) none
def cxOf (CX:CXT)(P:Program)(w:World)(K:PySem.W.Frag)(mg:Str->Option Value)(base:Heap)(N:List Str) (qual:Str)(scope:Scope)(f:Addr) (cd:Value)(A:Around)(outer:List Env)(s:Shared)(H:Hp)(E:XK):Cx where
 prog:=P
 w:=w
 K:=K
 mg:=mg
 base:=base
 A:=A.deeper (envOfC qual scope s.heap.objs.size f cd)
 N:=N
 s₀:=s
 H₀:=H
 env:=envOfC qual scope s.heap.objs.size f cd
 outer:=outer
 stack:=envOfC qual scope s.heap.objs.size f cd::outer
 ex:=[]
 calm:=true
 fn:=λ_=>true
 pn:=[]
 xe:=λe s'=>wpAny (model P w) (A.deeper (envOfC qual scope s.heap.objs.size f cd)) (leaving (envOfC qual scope s.heap.objs.size f cd) e) (λ_ s''=>CX outer H s E e s'') (λe' s''=>CX outer H s E e' s'') s'
theorem cell_has {sc:Scope}{n:Nat}{x:Str}(h:sc.names.lookup x=some .cell):∃ c,(cellsFrom n sc.names []).lookup x=some c:=by
 have q:=PySem.W.cellsFrom_some sc.names n [] (.inl h)
 exact Option.isSome_iff_exists.mp q
theorem inv_start {CX:CXT}{P:Program}{w:World}{K:PySem.W.Frag}{mg:Str->Option Value}{base:Heap}{N ps:List Str}{qual:Str}{scope:Scope}{f:Addr}{cd:Value}{A:Around}{outer:List Env}{s s1:Shared}{H:Hp}{E:XK}{us:List Value}{vs:List V}
  (S:FnScope N ps scope)(hd:A.handled=none)(e0:Env0 P w K mg base A outer s H)(hl:vs.length=ps.length)(r:Vals vs us)
  (x:InCallC s s.heap.objs.size (bindL (envOfC qual scope s.heap.objs.size f cd).kindOf (ps.zip us) λ_=>none) (cellsFrom (s.heap.objs.size+1) scope.names []) (bindC (envOfC qual scope s.heap.objs.size f cd).kindOf (ps.zip us) λ_=>none) s1) :
  Inv (cxOf CX P w K mg base N qual scope f cd A outer s H E) [] (start N vs) H s1:=by
 have hpl:ps.length<=N.length:=by have:=congrArg List.length S.pre;rw[List.length_take]at this;omega
 obtain⟨h1,tk,rfl,hk⟩:=x.done
 have noA:∀ b:Addr,b ∉ (cxOf CX P w K mg base N qual scope f cd A outer s H E).ex:=λb z=>absurd (show b ∈ ([]:List Addr) from z) (by simp)
 refine⟨⟨e0.mod,S.kind,rfl,rfl,Nat.le_refl _,λy z c h1 h2=>?_,λy hy=>?_,λy c _ h=>?_,λ_=>hd,Around.frames_deeper e0.frames,.inr ⟨rfl,rfl⟩,λb z=>absurd z (noA b),e0.bs,e0.bsz,λb _ _=>noA b,λb z=>absurd z (noA b),e0.funs,e0.frf⟩,
  rfl,e0.bare,Un.kept hk,⟨_,x.toInCall.ns,λi y v h1 h2 h3=>?_⟩,λy c h=>⟨_,x.cell y c h⟩,e0.hok.fresh (Nat.le_refl _),λy c h=>?_,λp hp=>absurd (show p ∈ ([]:List (Addr×Obj)) from hp) (by simp),e0.hok.kept hk,?_⟩
 ·exact name_of_addr x.apart (PySem.mem_of_lookup h1) (PySem.mem_of_lookup h2)
 ·have hy:scope.names.lookup y=some .cell\/scope.names.lookup y=some .free:=hy
  rcases hy with hy | hy
  ·exact cell_has hy
  ·exact absurd rfl (S.nofree _ (PySem.mem_of_lookup hy))
 ·exact Nat.le_of_lt (x.above y c (PySem.mem_of_lookup h))
 ·have hi:i<vs.length:=by
   unfold start at h2
   by_cases hi:i<vs.length
   ·exact hi
   ·rw[List.getElem?_append_right (by simpa using hi)]at h2
    rw[List.getElem?_replicate]at h2
    split at h2<;>cases h2
  have ha:vs[i]? = some v:=by
   unfold start at h2
   rw[List.getElem?_append_left (by simpa using hi),List.getElem?_map]at h2
   cases e:vs[i]? with
   |none=>rw[e]at h2;cases h2
   |some a=>rw[e]at h2;cases h2;rfl
  obtain⟨u,hu,rv⟩:=r.get ha
  have hp:ps[i]? = some y:=by
   rw[<-S.pre,List.getElem?_take_of_lt (by omega)];exact h1
  have ndP:ps.Nodup:=by rw[<-S.pre];exact S.nd.sublist (List.take_sublist _ _)
  refine⟨u,rv,?_⟩
  rcases S.par y (List.mem_of_getElem? hp) with k | k
  ·exact .inl ⟨k,bindL_get ndP hp hu k⟩
  ·obtain⟨c,e⟩:=cell_has (n:=s.heap.objs.size+1) k
   refine .inr ⟨.inl k,c,e,?_⟩
   have q:=x.cell y c e
   rw[bindC_get ndP hp hu (by show scope.names.lookup y≠_;rw[k];decide)]at q
   exact q
 ·exact e0.hok.fresh (Nat.le_of_lt (x.above y c (PySem.mem_of_lookup h)))
 ·unfold start
  show _=N.length
  rw[List.length_append,List.length_map,List.length_replicate]
  omega
theorem fn_of {CX:CXT}{P:Program}{w:World}{K:PySem.W.Frag}{mg:Str->Option Value}{base:Heap}{k:Nat}{f:Addr}{name qual:Str}{params:Arguments}{body:List Stmt}{scope:Scope}{dV kV doc pm cdv ct oc:Value}{an od:Option Addr}
  {osl:Array (Option Value)}{N ps:List Str}{sp:Sp}(lk:K.lookup f=some ⟨oc,od,.func (PySem.W.fnOf name qual params body scope dV kV doc pm an cdv ct),osl⟩)(hcd:PySem.W.codeIn K cdv qual=true)(S:FnScope N ps scope)
  (len:∀ vs H Q E,sp vs H Q E->vs.length=ps.length)
  (hbody:∀ (A:Around)(outer:List Env)(s:Shared)(H:Hp)(vs:List V)(Q:VK)(E:XK),Room k (A.deeper (envOfC qual scope s.heap.objs.size f cdv))->sp vs H Q E ->
   ∃ t,PSs (cxOf CX P w K mg base N qual scope f cdv A outer s H E) body t/\t { nx:=λ_ H'=>Q .non H',rt:=Q } (start N vs) H) :
  FnOk P w K mg base CX (k+1) f (PySem.W.fnOf name qual params body scope dV kV doc pm an cdv ct) ps sp:=by
 refine⟨len,λA outer s H args us vs Q E hr e0 hb r hsp=>?_⟩
 have hl:=len _ _ _ _ hsp
 have KX:K.In s.heap:=e0.mod.kin.keeps λb o e=>(e0.bs b o e).1
 have lim:s.heap.NoLimit:=e0.mod.nolimit.keeps λb o e=>(e0.bs b o e).1
 have hkind:∀ y ∈ ps.zip us,scope.names.lookup y.1=some .local\/(scope.names.lookup y.1=some .cell/\((cellsFrom (s.heap.objs.size+1) scope.names []).lookup y.1).isSome=true):=λ⟨n,v⟩ hy=>by
  rcases S.par n (List.of_mem_zip hy).1 with q | q
  ·exact .inl q
  ·exact .inr ⟨q,PySem.W.cellsFrom_some _ _ _ (.inl q)⟩
 refine codeAny_call_function hr.depth (KX _ _ lk) rfl S.co S.gen rfl (PySem.W.codeRec_of KX hcd) (hb _ _ _ _ ?_)
 refine wpAny_newFunctionEnv_cells S.kind hkind λenv he s1 x=>?_
 subst he
 refine⟨lim.keeps x.toInCall.keep,codeAny_func ?_⟩
 obtain⟨t,ht,hq⟩:=hbody A outer s H vs Q E (hr.deeper _) hsp
 have I:Inv (cxOf CX P w K mg base N qual scope f cdv A outer s H E) [] (start N vs) H s1:=inv_start S hr.hd e0 hl r x
 refine wpAny_mono (ht [] s1 (start N vs) H _ I hq) (λfl s' hs=>?_) λe s' hs=>hs
 have fin:∀ {σ':St}{H':Hp}{v:V}{u:Value},Inv (cxOf CX P w K mg base N qual scope f cdv A outer s H E) [] σ' H' s'->RelV v u->Q v H'->CE outer P w H s Q u s':=
  fun {σ' H' v u} J rv q=>⟨v,H',J.os,J.bare,J.base,J.hok,rv,q⟩
 cases fl with
 |ret u=>
  obtain⟨v,σ',H',J,rv,q⟩:=hs
  exact fin J rv q
 |next=>
  obtain⟨σ',H',J,q⟩:=hs
  exact fin (v:=V.non) (u:=Value.none) J rfl q
 |brk=>
  obtain⟨_,_,_,q⟩:=hs
  exact False.elim q
 |cont=>
  obtain⟨_,_,_,q⟩:=hs
  exact False.elim q
end L2
namespace L2
open PySem PySem.Spec PyProof.Rows
section
variable {X:Cx}{x:Str}{p pos:Pos}{e:Expr}{es:List Expr}{t:TA}{id T:String}{r:List V->Hp->VK->Prop}
def tCB (r:List V->Hp->VK->Prop)(t:TA):TE:=λσ H Q=>t σ H λvs H1=>r vs H1 Q
theorem pe_callB (hc:CallR X (.builtin id) r)(hg:Gl X x)(hm:X.mg x=none)(hv:bootBuiltins x=some (.builtin id))(ha:PA X (e::es) t)(hn:x ≠ "__name__":=by decide)(hdb:autoParam ((x == ("__debug__" : Str))=false) aD._auto_1)
  (he:autoParam (starEach (e::es) X.env=(false,eval e X.env)::starEach es X.env) aR._auto_1)(hpl:autoParam ((backTo pos (starEach es X.env)).any (·.1)=false) aR._auto_1):PE X (.Call (.Name x p) (e::es) [] pos) (tCB r t):=by
 intro pins s σ H Q I h
 refine wpAny_Call_Name_kw (ld_blt I hg hm hv ?_ hn hdb)
 exact PyProof.Rows.callWith_builtin1 (thn (ha pos pins s σ H _ I h) λus s1 ⟨vs,H1,I1,r1,q1⟩=>hc pins s1 σ H1 vs us Q I1 r1 q1) he hpl
theorem pe_callTy (hc:CallR X (.type T) r)(hg:Gl X x)(hm:X.mg x=none)(hv:bootBuiltins x=some (.type T))(ha:PA X (e::es) t)(hn:x ≠ "__name__":=by decide)(hdb:autoParam ((x == ("__debug__" : Str))=false) aD._auto_1)
  (he:autoParam (starEach (e::es) X.env=(false,eval e X.env)::starEach es X.env) aR._auto_1)(hpl:autoParam ((backTo pos (starEach es X.env)).any (·.1)=false) aR._auto_1):PE X (.Call (.Name x p) (e::es) [] pos) (tCB r t):=by
 intro pins s σ H Q I h
 refine wpAny_Call_Name_kw (ld_blt I hg hm hv ?_ hn hdb)
 exact PyProof.Rows.callWith_type1 (thn (ha pos pins s σ H _ I h) λus s1 ⟨vs,H1,I1,r1,q1⟩=>hc pins s1 σ H1 vs us Q I1 r1 q1) he hpl
end
end L2
namespace HT
open PySem PyProof.Rows
section
open PySem.SeqAt
open PySem.AutoSeq1 (wpAny_loadPart')
open PySem.MeetsSeq PySem.MeetsSeq2 PySem.MeetsSeq3
end
section
variable {prog:Program}{w:World}{A:Around}{E:Value->Shared->Prop}{s:Shared}
theorem cat_tup {t b:Addr}{vs ws:List Value}{Q:Value->Shared->Prop}(ht:IsTup s.heap t vs.toArray)(hb:IsTup s.heap b ws.toArray)(hv:vs≠[])
  (h1:ws=[]->Q (.ref t) s)(h2:ws≠[]->Q (.ref s.heap.objs.size) { s with heap:=s.heap.push { cls:=.type "tuple",data:=.seq (vs++ws).toArray } })
  (hsz:vs.length+ws.length<=sizeLine):wpAny (model prog w) A (binaryOp .Add (.ref t) (.ref b)) Q E s:=by
 obtain⟨⟨cls,dd,data,sl⟩,ho,hc,n,hd⟩:=id ht
 obtain⟨⟨cls2,dd2,data2,sl2⟩,ho2,hc2,n2,hd2⟩:=id hb
 simp only at hc hd hc2 hd2
 subst hc hd hc2 hd2
 have e:vs.toArray++ws.toArray=(vs++ws).toArray:=by simp
 by_cases hw:ws=[]
 ·exact concat_meets ⟨_,ho,rfl⟩ ⟨_,ho2,rfl⟩ noFill_tuple_add seq_tuple_add PySem.F.slot_tuple_add PySem.F.entry_tuple_add (PySem.F.args_tuple_add_2 _ _)
   (tuple_addW1 t b vs.toArray ws.toArray n n2 dd dd2 sl sl2 (by simpa using hv) (by simp[hw])) ⟨ho,ho2,h1 hw⟩
 ·refine concat_meets ⟨_,ho,rfl⟩ ⟨_,ho2,rfl⟩ noFill_tuple_add seq_tuple_add PySem.F.slot_tuple_add PySem.F.entry_tuple_add (PySem.F.args_tuple_add_2 _ _)
   (tuple_addW2 t b vs.toArray ws.toArray n n2 dd dd2 sl sl2 (by simpa using hv) (by simpa using hw) (by rw[List.size_toArray,List.size_toArray];exact hsz)) ⟨ho,ho2,?_⟩
  rw[e]
  exact h2 hw
def sIx (n d:Nat):Option Int->Nat
 |none=>d
 |some v=>if v<0 then (v+(n:Int)).toNat else min v.toNat n
theorem sIx_le (n d:Nat)(hd:d<=n)(o:Option Int):sIx n d o<=n:=by
 cases o with
 |none=>exact hd
 |some v=>
  show (if v<0 then (v+(n:Int)).toNat else min v.toNat n)<=n
  by_cases hv:v<0
  ·rw[if_pos hv];omega
  ·rw[if_neg hv];exact Nat.min_le_right _ _
theorem clip_eq (v:Int) (n d:Nat):(if v<0 then max (v+(n:Int)) 0 else min v (n:Int))=((sIx n d (some v):Nat):Int):=by
 show (if v<0 then max (v+(n:Int)) 0 else min v (n:Int))=(((if v<0 then (v+(n:Int)).toNat else min v.toNat n):Nat):Int)
 by_cases hv:v<0
 ·simp only[if_pos hv];omega
 ·simp only[if_neg hv];omega
theorem adjust_gen (lo hi:Option Int) (n:Nat):Builtin.Slice.sliceAdjust lo hi 1 (n:Int)=(((sIx n 0 lo:Nat):Int),((sIx n n hi:Nat):Int)):=by
 have h1:¬ ((1:Int)<0):=by omega
 unfold Builtin.Slice.sliceAdjust
 simp only[h1,if_false]
 refine Prod.ext ?_ ?_
 ·cases lo with
  |none=>rfl
  |some v=>exact clip_eq v n 0
 ·cases hi with
  |none=>rfl
  |some v=>exact clip_eq v n n
theorem places_gen (i j:Nat):Builtin.Slice.slicePlaces (i:Int) (j:Int) 1=j - i:=by
 unfold Builtin.Slice.slicePlaces
 have h1:(1:Int) > 0:=by omega
 simp only[h1,if_true,Int.ediv_one]
 split<;>omega
theorem slicePart_ {v:Value}{o:Option Int}{Q:Option Int->Shared->Prop}(p:IsPart v o)(h:Q o s):wpAny (model prog w) A (Builtin.Slice.slicePartIndex v) Q E s:=by
 cases p with
 |none=>exact slicePart_none h
 |int i t=>exact slicePart_int h
theorem sliceApplied_gen {sl:Addr}{vl vu:Value}{lo hi:Option Int}{n:Nat}{Q:Int×Int×Nat->Shared->Prop}(hs:s.heap.IsSliceOf sl vl vu .none)(pl:IsPart vl lo)(pu:IsPart vu hi)
  (h:Q (((sIx n 0 lo:Nat):Int),1,sIx n n hi - sIx n 0 lo) s):wpAny (model prog w) A (Builtin.Slice.sliceApplied (.ref sl) (pure (n:Int))) Q E s:=by
 obtain⟨os,hos,hcs,hds⟩:=id hs
 unfold Builtin.Slice.sliceApplied Builtin.Slice.sliceFields
 refine wpAny_bind (wpAny_bind (wpAny_field hos hds (x:=vl) rfl (wpAny_bind (wpAny_field hos hds (x:=vu) rfl (wpAny_bind (wpAny_field hos hds (x:=.none) rfl (wpAny_pure ?_)))))))
 refine wpAny_bind (slicePart_none ?_)
 show wpAny _ _ (if ((1:Int) == 0)=true then _ else _) _ _ s
 rw[if_neg (by decide)]
 refine wpAny_bind (slicePart_ pl (wpAny_bind (slicePart_ pu (wpAny_bind (wpAny_pure ?_)))))
 show wpAny _ _ (match Builtin.Slice.sliceAdjust lo hi 1 (n:Int) with | (lo,hi)=>pure (lo,(1:Int),Builtin.Slice.slicePlaces lo hi 1)) _ _ s
 rw[adjust_gen lo hi n]
 show wpAny _ _ (pure (((sIx n 0 lo:Nat):Int),(1:Int),Builtin.Slice.slicePlaces ((sIx n 0 lo:Nat):Int) ((sIx n n hi:Nat):Int) 1)) _ _ s
 rw[places_gen]
 exact wpAny_pure h
theorem pick_gen (xs:Array Value) (i k:Nat):((List.range k).filterMap λ(m:Nat)=>xs[((i:Int)+(m:Int) * 1).toNat]?).toArray=((xs.toList.drop i).take k).toArray:=by
 have e:(λ(m:Nat)=>xs[((i:Int)+(m:Int) * 1).toNat]?)=λm=>xs[i+m]?:=by
  funext m
  have:((i:Int)+(m:Int) * 1).toNat=i+m:=by omega
  rw[this]
 rw[e]
 have:=pick_run xs i k
 rw[List.filterMap_map]at this
 have e2:((λx=>xs[x]?) ∘ λx=>i+x)=λm=>xs[i+m]?:=rfl
 rw[e2]at this
 rw[this]
theorem getItem_tuple_cut {t sl:Addr}{items:Array Value}{vl vu:Value}{lo hi:Option Int}{Q:Value->Shared->Prop}(ht:IsTup s.heap t items)(hs:s.heap.IsSliceOf sl vl vu .none)(pl:IsPart vl lo)(pu:IsPart vu hi)
  (hw:¬ (sIx items.size 0 lo=0/\sIx items.size items.size hi=items.size))
  (h:Q (.ref s.heap.objs.size) { s with heap:=s.heap.push { cls:=.type "tuple",data:=.seq ((items.toList.drop (sIx items.size 0 lo)).take (sIx items.size items.size hi - sIx items.size 0 lo)).toArray } })
  (hsz:items.size<=sizeLine):wpAny (model prog w) A (getItem (.ref t) (.ref sl)) Q E s:=by
 have htake:sizeOk (.seq ((items.toList.drop (sIx items.size 0 lo)).take (sIx items.size items.size hi - sIx items.size 0 lo)).toArray):=by
  show ((items.toList.drop (sIx items.size 0 lo)).take (sIx items.size items.size hi - sIx items.size 0 lo)).toArray.size<=sizeLine
  rw[List.size_toArray,List.length_take,List.length_drop,Array.length_toList]
  omega
 have hj:sIx items.size items.size hi<=items.size:=sIx_le _ _ (Nat.le_refl _) hi
 obtain⟨os,hos,hcs,hds⟩:=id hs
 have hTs:s.TypeIs (.ref sl) "slice":=⟨os,hos,hcs⟩
 unfold getItem
 try with_reducible refine wpAny_holding ?_
 first | refine wpAny_bind (wpAny_pure ?_) | skip
 refine wpAny_bind (wpAny_sequenceKey ht.typeIs (by decide) ?_)
 refine wpAny_bind (wpAny_callSpecial?_slot (name:=Str.ofString "__getitem__") ht.typeIs PyProof.Rows.slot_tuple_getitem
  (wpAny_call_entry PyProof.Rows.slot_tuple_getitem ht.typeIs entry_tuple_getitem ?_ (args_tuple_getitem _ _)))
 show wpAny _ _ (Builtin.Tuple.tupleItemsOf (.ref t) >>= _) _ _ s
 refine wpAny_bind (tupleItemsOf_ ht ?_)
 refine wpAny_bind (wpAny_typeOf hTs ?_)
 rw[if_pos (by decide)]
 refine wpAny_bind (sliceApplied_gen hs pl pu ?_)
 have hno:¬ ((((sIx items.size 0 lo:Nat):Int) == 0 && (1:Int) == 1 && (sIx items.size items.size hi - sIx items.size 0 lo) == items.size)=true):=by
  intro q
  rw[Bool.and_eq_true,Bool.and_eq_true]at q
  have q1:((sIx items.size 0 lo:Nat):Int)=0:=eq_of_beq q.1.1
  have q2:sIx items.size items.size hi - sIx items.size 0 lo=items.size:=eq_of_beq q.2
  exact hw ⟨by omega,by omega⟩
 show wpAny _ _ (if (((sIx items.size 0 lo:Nat):Int) == 0 && (1:Int) == 1 && (sIx items.size items.size hi - sIx items.size 0 lo) == items.size)=true then _ else _) _ _ s
 rw[if_neg hno,pick_gen]
 first
  |exact wpAny_bind (m:=Builtin.Tuple.tupleExact _) (wpAny_newObj_type (wpAny_pure ⟨_,rfl,wpAny_pure h⟩) htake)
  |exact wpAny_bind (m:=Builtin.Tuple.tupleExact _) (wpAny_newObj_type (wpAny_bind (wpAny_pure (wpAny_pure ⟨_,rfl,wpAny_pure h⟩))) htake)
  |exact wpAny_bind (wpAny_bind (m:=Builtin.Tuple.tupleExact _) (wpAny_newObj_type (wpAny_pure (wpAny_pure ⟨_,rfl,wpAny_pure h⟩)) htake))
  |exact wpAny_bind (wpAny_bind (m:=Builtin.Tuple.tupleExact _) (wpAny_newObj_type (wpAny_pure ⟨_,rfl,wpAny_pure h⟩) htake))
end
end HT
namespace L2
open PySem PySem.Spec PyProof.Rows
abbrev TO:=St->Hp->(Option Int->Hp->Prop)->Prop
def PO (X:Cx)(e:Option Expr)(t:TO):Prop:=
 ∀ (pins:List (Addr×Obj))(s:Shared)(σ:St)(H:Hp)(Q:Option Int->Hp->Prop),Inv X pins σ H s->t σ H Q ->
  wpAny (model X.prog X.w) X.A (evalPart e X.env) (λu s'=>∃ o H',Inv X pins σ H' s'/\IsPart u o/\Q o H') X.xe s
def tNoPart:TO:=λ_ H Q=>Q none H
def tPart (t:TE):TO:=λσ H Q=>t σ H λx H1=>∃ i,x=.int i/\Q (some i) H1
section
variable {X:Cx}{e:Expr}{te:TE}{lo hi:Option Expr}{tl th:TO}{pos p2:Pos}
theorem po_none:PO X none tNoPart:=by
 intro pins s σ H Q I h
 rw[evalPart_none]
 exact wpAny_pure ⟨none,H,I,.none,h⟩
theorem po_some (h:PE X e te):PO X (some e) (tPart te):=by
 intro pins s σ H Q I hw
 rw[evalPart_some]
 refine thn (h pins s σ H _ I hw) λu s1 ⟨x,H1,I1,r1,q1⟩=>?_
 obtain⟨i,rfl,q⟩:=q1
 obtain⟨t,rfl⟩:=r1
 exact⟨some i,H1,I1,.int i t,q⟩
def SlR (X:Cx)(r:V->Option Int->Option Int->Hp->VK->Prop):Prop:=
 ∀ (pins:List (Addr×Obj))(s:Shared)(σ:St)(H:Hp)(x:V) (v vl vu:Value)(lo hi:Option Int)(sl:Addr)(Q:VK),Inv X pins σ H s->RelV x v->s.heap.IsSliceOf sl vl vu .none->IsPart vl lo->IsPart vu hi->r x lo hi H Q ->
  ∃ T id,typeLookup (.type T) "__getitem__" = pure (some (.builtin id))/\s.TypeIs v T/\wpAny (model X.prog X.w) X.A (getItem v (.ref sl)) (EP X pins σ Q) X.xe s
theorem SlR.or {r r':V->Option Int->Option Int->Hp->VK->Prop}(h:SlR X r)(h':SlR X r'):SlR X (λx lo hi H Q=>r x lo hi H Q\/r' x lo hi H Q):=by
 intro pins s σ H x v vl vu lo hi sl Q I rx hs pl pu q
 rcases q with q | q
 ·exact h pins s σ H x v vl vu lo hi sl Q I rx hs pl pu q
 ·exact h' pins s σ H x v vl vu lo hi sl Q I rx hs pl pu q
def tSl (r:V->Option Int->Option Int->Hp->VK->Prop)(te:TE)(tl th:TO):TE:=λσ H Q=>te σ H λx H1=>tl σ H1 λl H2=>th σ H2 λu H3=>r x l u H3 Q
theorem pe_slice {r:V->Option Int->Option Int->Hp->VK->Prop}(hr:SlR X r)(he:PE X e te)(hl:PO X lo tl)(hu:PO X hi th):PE X (.Subscript e (.Slice lo hi none p2) pos) (tSl r te tl th):=by
 intro pins s σ H Q I h
 refine Subscript_ (thn (he pins s σ H _ I h) λv s1 ⟨x,H1,I1,r1,q1⟩=>?_)
 refine wpAny_Slice (thn (hl pins s1 σ H1 _ I1 q1) λvl s2 ⟨l,H2,I2,pl,q2⟩=>thn (hu pins s2 σ H2 _ I2 q2) λvu s3 ⟨u,H3,I3,pu,q3⟩=>?_)
 rw[evalPart_none]
 refine wpAny_pure ?_
 have I4:Inv X pins σ H3 { s3 with heap:=s3.heap.push { cls:=.type "slice",data:=.fields #[vl,vu,.none] } }:=I3.kept (t':=s3.toks) λb ob q=>Heap.get?_push_of_some _ q
 obtain⟨T,id,hT,ht,hg⟩:=hr pins { s3 with heap:=s3.heap.push { cls:=.type "slice",data:=.fields #[vl,vu,.none] } } σ H3 x v vl vu l u s3.heap.objs.size Q I4 r1 (Heap.IsSliceOf.new ..) pl pu q3
 show wpAny (model X.prog X.w) X.A (subscriptTail e (.Slice lo hi none p2) v (.ref s3.heap.objs.size)) (EP X pins σ Q) X.xe { s3 with heap:=s3.heap.push { cls:=.type "slice",data:=.fields #[vl,vu,.none] } }
 exact tail_any (ops:=[.ref s3.heap.objs.size,v]) ht hT hg (by with_unfolding_all rfl)
def cutV (xs:List V)(lo hi:Option Int):List V:=(xs.drop (HT.sIx xs.length 0 lo)).take (HT.sIx xs.length xs.length hi - HT.sIx xs.length 0 lo)
theorem cutV_length (xs:List V)(lo hi:Option Int):(cutV xs lo hi).length<=xs.length:=by
 unfold cutV
 rw[List.length_take,List.length_drop]
 omega
def rSlT (K:PySem.W.Frag):V->Option Int->Option Int->Hp->VK->Prop:=λx lo hi H Q=>∃ a xs,x=.ref a/\SqT K H a xs ∧
 ¬ (HT.sIx xs.length 0 lo=0/\HT.sIx xs.length xs.length hi=xs.length)/\∀ p,H p=none->Q (.ref p) (upd H p (.tup (cutV xs lo hi)))
theorem sl_tup:SlR X (rSlT X.K):=by
 intro pins s σ H x v vl vu lo hi sl Q I rx hs pl pu h
 obtain⟨a,xs,rfl,hx,hw,q⟩:=h
 cases rx
 obtain⟨its,r,ht,hz⟩:=I.tuple hx
 have hlen:its.toArray.size=xs.length:=by rw[List.size_toArray];exact r.length.symm
 refine⟨"tuple",_,PyProof.Rows.slot_tuple_getitem.lookup,ht.typeIs,?_⟩
 refine HT.getItem_tuple_cut ht hs pl pu (by rw[hlen];exact hw) ?_ (by rw[hlen];exact hz)
 rw[hlen]
 refine⟨.ref s.heap.objs.size,_,I.laid (t':=s.toks) (o:=.tup (cutV xs lo hi)) (λb ob q=>Heap.get?_push_of_some _ q) (Nat.le_refl _) ?_,rfl,q _ (I.hok.fresh (Nat.le_refl _))⟩
 exact⟨Nat.le_trans (cutV_length xs lo hi) hz,_,(r.drop (HT.sIx xs.length 0 lo)).take (HT.sIx xs.length xs.length hi - HT.sIx xs.length 0 lo),IsTupD.new _ _⟩
def rCatT (K:PySem.W.Frag):R2:=λx y H Q=>∃ a b xs ys,x=.ref a/\y=.ref b/\SqT K H a xs/\SqT K H b ys/\xs≠[]/\xs.length+ys.length<=sizeLine ∧
 (ys=[]->Q (.ref a) H)/\(ys≠[]->∀ p,H p=none->Q (.ref p) (upd H p (.tup (xs++ys))))
theorem Vals.nil_iff {xs:List V}{us:List Value}(r:Vals xs us):us=[] ↔ xs=[]:=by
 cases r with
 |nil=>simp
 |cons _ _=>simp
theorem op_catT:OpR X (binaryOp .Add) (rCatT X.K):=by
 intro pins s σ H x y v u Q I rx ry h
 obtain⟨a,b,xs,ys,rfl,rfl,ha,hb,hx,hz,q1,q2⟩:=h
 cases rx
 cases ry
 obtain⟨its,r1,p1,_⟩:=I.tuple ha
 obtain⟨its2,r2,p2,_⟩:=I.tuple hb
 refine HT.cat_tup p1 p2 (λz=>hx (r1.nil_iff.mp z)) (λz=>⟨.ref a,H,I,rfl,q1 (r2.nil_iff.mp z)⟩) (λz=>?_) (by rw[<-r1.length,<-r2.length];exact hz)
 refine⟨.ref s.heap.objs.size,_,I.laid (t':=s.toks) (o:=.tup (xs++ys)) (λb ob q=>Heap.get?_push_of_some _ q) (Nat.le_refl _) ?_,rfl,q2 (λw=>z (r2.nil_iff.mpr w)) _ (I.hok.fresh (Nat.le_refl _))⟩
 exact⟨by rw[List.length_append];exact hz,_,r1.append r2,IsTupD.new _ _⟩
end
end L2
namespace L2
open PySem PySem.Spec PyProof.Rows
def ixN (n:Nat) (i:Int):Option Nat:=if 0<=i then (if i<n then some i.toNat else none) else if -(n:Int)<=i then some (i+n).toNat else none
def atI {α:Type}(xs:List α) (i:Int):Option α:=(ixN xs.length i).bind λj=>xs[j]?
theorem ixN_seq {n:Nat}{i:Int}{j:Nat}(h:ixN n i=some j):seqIndex? i n=some j/\j<n/\-(n:Int)<=i/\i<n:=by
 unfold ixN at h
 by_cases h0:0<=i
 ·rw[if_pos h0]at h
  by_cases h1:i<n
  ·rw[if_pos h1]at h
   have e:i.toNat=j:=Option.some.inj h
   exact⟨by rw[seqIndex_of h0 h1,e],by omega,by omega,h1⟩
  ·rw[if_neg h1]at h;cases h
 ·rw[if_neg h0]at h
  by_cases h1 : -(n:Int)<=i
  ·rw[if_pos h1]at h
   have e:(i+n).toNat=j:=Option.some.inj h
   exact⟨by rw[seqIndex_neg (by omega) h1,e],by omega,h1,by omega⟩
  ·rw[if_neg h1]at h;cases h
theorem atI_get {α:Type}{xs:List α}{i:Int}{v:α}(h:atI xs i=some v):∃ j,seqIndex? i xs.length=some j/\xs[j]? = some v/\j<xs.length/\-(xs.length:Int)<=i/\i<xs.length:=by
 unfold atI at h
 cases e:ixN xs.length i with
 |none=>rw[e]at h;cases h
 |some j=>
  rw[e]at h
  obtain⟨h1,h2,h3,h4⟩:=ixN_seq e
  exact⟨j,h1,h,h2,h3,h4⟩
def PlainIx (b:Expr):Prop:=∀ o i,subscripted b false o i=operate [o,i] (getItem o i)
def IxR (X:Cx)(r:R2):Prop:=
 ∀ (value slice:Expr)(pins:List (Addr×Obj))(s:Shared)(σ:St)(H:Hp)(x y:V) (v u:Value)(Q:VK),Inv X pins σ H s->RelV x v->RelV y u->r x y H Q ->
  subscripted slice false v u=operate [v,u] (getItem v u)->wpAny (model X.prog X.w) X.A (subscriptTail value slice v u) (EP X pins σ Q) X.xe s
def MtR (X:Cx) (id:String)(r:V->List V->Hp->VK->Prop):Prop:=
 ∀ (pins:List (Addr×Obj))(s:Shared)(σ:St)(H:Hp)(x:V)(xs:List V) (v:Value)(us:List Value)(Q:VK),Inv X pins σ H s->RelV x v->Vals xs us->r x xs H Q ->
  wpAny (model X.prog X.w) X.A (call (.builtin id) (v::us)) (EP X pins σ Q) X.xe s
section
variable {X:Cx}{a b:Expr}{ta tb:TE}{pos:Pos}
theorem IxR.or {r r':R2}(h:IxR X r)(h':IxR X r'):IxR X (λx y H Q=>r x y H Q\/r' x y H Q):=by
 intro value slice pins s σ H x y v u Q I rx ry q hs
 rcases q with q | q
 ·exact h value slice pins s σ H x y v u Q I rx ry q hs
 ·exact h' value slice pins s σ H x y v u Q I rx ry q hs
theorem pe_ix {r:R2}(hr:IxR X r)(ha:PE X a ta)(hb:PE X b tb)(hs:PlainIx b):PE X (.Subscript a b pos) (tOp r ta tb):=by
 intro pins s σ H Q I h
 exact Subscript_ (binT ha hb I h λv u s2 x y H2 I2 rx ry q=>hr a b pins s2 σ H2 x y v u Q I2 rx ry q (hs _ _))
def rIxL (K:PySem.W.Frag):R2:=λx y H Q=>∃ p xs i v,x=.ref p/\y=.int i/\SqL K H p xs/\atI xs i=some v/\Q v H
def rIxT (K:PySem.W.Frag):R2:=λx y H Q=>∃ p xs i v,x=.ref p/\y=.int i/\SqT K H p xs/\atI xs i=some v/\Q v H
def rIxS:R2:=λx y H Q=>∃ z i c,x=.str z/\y=.int i/\z.length<=sizeLine/\atI z.cps.toList i=some c/\Q (.str ⟨#[c]⟩) H
theorem ix_list:IxR X (rIxL X.K):=by
 intro value slice pins s σ H x y v u Q I rx ry h hs
 obtain⟨p,xs,i,z,rfl,rfl,hq,he,q⟩:=h
 cases rx
 obtain⟨t,rfl⟩:=ry
 obtain⟨its,r,pl,hz⟩:=I.list hq
 obtain⟨j,h1,h2,h3,h4,h5⟩:=atI_get he
 obtain⟨w,ew,rw'⟩:=r.get h2
 have hl:=r.length
 have hn:=line63
 have fin:EP X pins σ Q w s:=⟨z,H,I,rw',q⟩
 by_cases h0:0<=i
 ·have hj:i.toNat=j:=by
   rw[seqIndex_of h0 h5]at h1
   exact Option.some.inj h1
  exact item_listR pl.isList h0 (by omega) (by rw[hj];simpa using ew) fin hs
 ·have hj:(i+(its.toArray.size:Int)).toNat=j:=by
   rw[seqIndex_neg (by omega) h4]at h1
   rw[List.size_toArray,<-hl]
   exact Option.some.inj h1
  exact subscriptTail_builtinR (x:=w) pl.isList.typeIs slot_list_getitem.lookup
   (wpAny_getItem_list_neg (Q:=λr s'=>r=w/\EP X pins σ Q r s') pl.isList (by omega) (by rw[List.size_toArray]<;>omega) (by omega) (by rw[hj];simpa using ew) ⟨rfl,fin⟩) hs
theorem ix_tup:IxR X (rIxT X.K):=by
 intro value slice pins s σ H x y v u Q I rx ry h hs
 obtain⟨p,xs,i,z,rfl,rfl,hq,he,q⟩:=h
 cases rx
 obtain⟨t,rfl⟩:=ry
 obtain⟨its,r,pl,hz⟩:=I.tuple hq
 obtain⟨j,h1,h2,h3,h4,h5⟩:=atI_get he
 obtain⟨w,ew,rw'⟩:=r.get h2
 have hl:=r.length
 have hn:=line63
 have fin:EP X pins σ Q w s:=⟨z,H,I,rw',q⟩
 exact subscriptTail_builtinR (x:=w) pl.typeIs slot_tuple_getitem.lookup
  (getItem_tuple (j:=j) (Q:=λr s'=>r=w/\EP X pins σ Q r s') pl (by omega) (by omega) (by rw[List.size_toArray,<-hl];exact h1) (by simpa using ew) ⟨rfl,fin⟩) hs
theorem ix_str:IxR X rIxS:=by
 intro value slice pins s σ H x y v u Q I rx ry h hs
 obtain⟨z,i,c,rfl,rfl,hz,he,q⟩:=h
 obtain⟨t,rfl⟩:=rx
 obtain⟨t',rfl⟩:=ry
 obtain⟨j,h1,h2,h3,h4,h5⟩:=atI_get he
 have hl:z.cps.toList.length=z.length:=by simp[Str.length]
 rw[hl]at h1 h4 h5
 have hn:=line63
 exact tail_any (typeIs_str s z t) slot_str_getitem.lookup (getItem_str (c:=c) (by
  have e1:decide (i < -(2 ^ 63:Int))=false:=decide_eq_false (by omega)
  have e2:decide (i ≥ 2 ^ 63)=false:=decide_eq_false (by omega)
  rw[e1,e2,Bool.or_false]) (by rw[h1];simpa using h2) ⟨.str ⟨#[c]⟩,H,I.tok _,⟨_,rfl⟩,q⟩) hs
def rIx (K:PySem.W.Frag):R2:=λx y H Q=>rIxL K x y H Q\/rIxT K x y H Q\/rIxS x y H Q
theorem ix_seq:IxR X (rIx X.K):=ix_list.or (ix_tup.or ix_str)
theorem mapSeq_set (its:List Value) (n j:Nat) (u:Value):Obj.mapSeq (·.setIfInBounds j u) { cls:=.type "list",data:=.seq its.toArray n }={ cls:=.type "list",data:=.seq (its.set j u).toArray n }:=by
 simp[Obj.mapSeq]
theorem Inv.lst {pins:List (Addr×Obj)}{σ:St}{H:Hp}{s:Shared}{p:Addr}{xs:List V}(I:Inv X pins σ H s)(h:H p=some (.lst xs)) :
  ∃ (its:List Value) (n:Nat),Vals xs its/\s.heap.get? p=some { cls:=.type "list",data:=.seq its.toArray n }/\xs.length<=sizeLine:=by
 obtain⟨z,its,n,r,e⟩:=I.hok p _ h
 exact⟨its,n,r,e,z⟩
theorem Inv.lstUpd {pins:List (Addr×Obj)}{σ:St}{H:Hp}{s:Shared}{p:Addr}{xs ys:List V}{its its':List Value}{n n':Nat}{f:Obj->Obj}(I:Inv X pins σ H s)(h:H p=some (.lst xs))
  (ho:s.heap.get? p=some { cls:=.type "list",data:=.seq its.toArray n })(hf:f { cls:=.type "list",data:=.seq its.toArray n }={ cls:=.type "list",data:=.seq its'.toArray n' })(r:Vals ys its')(hz:ys.length<=sizeLine) (t:Nat) :
  Inv X pins σ (upd H p (.lst ys)) { s with heap:=s.heap.update p f,toks:=t }:=by
 have e:(s.heap.update p f).get? p=some { cls:=.type "list",data:=.seq its'.toArray n' }:=by
  rw[Heap.get?_update_self f ho (by rw[hf]<;>rfl),hf]
 refine I.write (x:=p) (e:=p) (by rw[h];trivial) (.inl rfl) (λb u hb q=>(Heap.get?_update_other _ _ (Ne.symm hb)).trans q) ⟨_,e⟩ ?_
 exact⟨hz,its',n',r,e⟩
def rSetL:V->V->V->Hp->(Hp->Prop)->Prop:=λo i v H Q=>∃ p xs k j,o=.ref p/\i=.int k/\H p=some (.lst xs)/\ixN xs.length k=some j/\Q (upd H p (.lst (xs.set j v)))
theorem set_list:PSet X rSetL:=by
 intro pins s σ H o i v ov iv u Q I ro ri rv h
 obtain⟨p,xs,k,j,rfl,rfl,hp,hj,q⟩:=h
 cases ro
 obtain⟨t,rfl⟩:=ri
 obtain⟨its,n,r,ho,hz⟩:=I.lst hp
 obtain⟨h1,h2,h3,h4⟩:=ixN_seq hj
 have hl:=r.length
 have hn:=line63
 have I':Inv X pins σ (upd H p (.lst (xs.set j v))) { s with heap:=s.heap.update p (Obj.mapSeq (·.setIfInBounds j u)) }:=
  I.lstUpd hp ho (mapSeq_set its n j u) (r.set rv j) (by rw[List.length_set];exact hz) s.toks
 by_cases h0:0<=k
 ·have hk:k.toNat=j:=by
   rw[seqIndex_of h0 h4]at h1
   exact Option.some.inj h1
  exact PySem.W.ki_setAt ho h0 (by omega) (by rw[List.size_toArray,<-hl];exact h4) (by rw[hk];exact⟨_,I',q⟩)
 ·have hk:(k+(its.toArray.size:Int)).toNat=j:=by
   rw[seqIndex_neg (by omega) h3]at h1
   rw[List.size_toArray,<-hl]
   exact Option.some.inj h1
  exact PySem.W.ki_setBack ho (by omega) (by rw[List.size_toArray,<-hl];exact h3) (by omega) (by rw[hk];exact⟨_,I',q⟩)
theorem slice_bounds (lo hi:Option Int) (n:Nat):(sliceBounds lo hi none n).1=((HT.sIx n 0 lo:Nat):Int)/\(sliceBounds lo hi none n).2.1=((HT.sIx n n hi:Nat):Int)/\(sliceBounds lo hi none n).2.2=1:=by
 refine⟨?_,?_,rfl⟩
 ·cases lo with
  |none=>simp[sliceBounds,HT.sIx]
  |some i=>
   simp only[sliceBounds,HT.sIx,Option.getD_none,show (1:Int) > 0 by decide,if_true]
   by_cases h:i<0
   ·simp only[h,if_true]<;>omega
   ·simp only[h,if_false]<;>omega
 ·cases hi with
  |none=>simp[sliceBounds,HT.sIx]
  |some i=>
   simp only[sliceBounds,HT.sIx,Option.getD_none,show (1:Int) > 0 by decide,if_true]
   by_cases h:i<0
   ·simp only[h,if_true]<;>omega
   ·simp only[h,if_false]<;>omega
theorem slicePick_cut (its:List Value)(lo hi:Option Int):slicePick its.toArray lo hi none=((its.drop (HT.sIx its.length 0 lo)).take (HT.sIx its.length its.length hi - HT.sIx its.length 0 lo)).toArray:=by
 obtain⟨h1,h2,h3⟩:=slice_bounds lo hi its.toArray.size
 unfold slicePick
 rw[h1,h2,h3]
 simp only[sliceRange_one,pick_run,List.size_toArray]<;>rfl
def rSlL (K:PySem.W.Frag):V->Option Int->Option Int->Hp->VK->Prop:=λx lo hi H Q=>∃ a xs,x=.ref a/\SqL K H a xs/\∀ p,H p=none->Q (.ref p) (upd H p (.lst (cutV xs lo hi)))
theorem sl_list:SlR X (rSlL X.K):=by
 intro pins s σ H x v vl vu lo hi sl Q I rx hs pl pu h
 obtain⟨a,xs,rfl,hx,q⟩:=h
 cases rx
 obtain⟨its,r,ht,hz⟩:=I.list hx
 have hlen:=r.length
 refine⟨"list",_,slot_list_getitem.lookup,ht.isList.typeIs,?_⟩
 refine wpAny_getItem_list_slice ht.isList hs pl pu .none (by simp) ?_ (by rw[List.size_toArray]<;>omega)
 rw[slicePick_cut,<-hlen]
 refine⟨.ref s.heap.objs.size,_,I.laid (t':=s.toks) (o:=.lst (cutV xs lo hi)) (λb ob q=>Heap.get?_push_of_some _ q) (Nat.le_refl _) ?_,rfl,q _ (I.hok.fresh (Nat.le_refl _))⟩
 exact⟨Nat.le_trans (cutV_length xs lo hi) hz,_,0,(r.drop (HT.sIx xs.length 0 lo)).take (HT.sIx xs.length xs.length hi - HT.sIx xs.length 0 lo),Heap.get?_push_size _ rfl⟩
theorem call_len_seq:CallR X (.builtin "len") (λxs H Q=>∃ p ys,xs=[.ref p]/\(SqL X.K H p ys\/SqT X.K H p ys)/\Q (.int ys.length) H):=by
 intro pins s σ H xs us Q I r h
 obtain⟨p,ys,rfl,hq,q⟩:=h
 obtain⟨u,rfl,rx⟩:=vals1 r
 cases rx
 have hn:=line63
 rcases hq with hq | hq
 ·obtain⟨its,r',pl,hz⟩:=I.list hq
  have hlen:=r'.length
  exact Calls.call_len_list pl.isList (by simp only[List.size_toArray]<;>omega) ⟨.int ys.length,H,I.tok _,⟨s.toks+1,by rw[List.size_toArray,hlen]⟩,q⟩
 ·obtain⟨its,r',pl,hz⟩:=I.tuple hq
  have hlen:=r'.length
  exact len_tuple pl (by simp only[List.size_toArray]<;>omega) ⟨.int ys.length,H,I.tok _,⟨s.toks+1,by rw[List.size_toArray,hlen]⟩,q⟩
theorem call_list_of:CallR X (.type "list") (λxs H Q=>∃ p ys,xs=[.ref p]/\(SqL X.K H p ys\/SqT X.K H p ys)/\∀ l,H l=none->Q (.ref l) (upd H l (.lst ys))):=by
 intro pins s σ H xs us Q I r h
 obtain⟨p,ys,rfl,hq,q⟩:=h
 obtain⟨u,rfl,rx⟩:=vals1 r
 cases rx
 have fin:∀ (its:List Value),Vals ys its->ys.length<=sizeLine->∀ (h':Heap) (c':Nat),(∀ b o',s.heap.get? b=some o'->h'.get? b=some o') ->
   h'.get? s.heap.objs.size=some { cls:=.type "list",dict:=none,data:=.seq its.toArray c',slots:=#[] }->EP X pins σ Q (.ref s.heap.objs.size) { s with heap:=h' }:=λits r' hz h' c' kp e=>
  ⟨.ref s.heap.objs.size,_,I.laid (t':=s.toks) kp (Nat.le_refl _) (show ObjOk X.prog X.w _ h' _ (.lst ys) from ⟨hz,its,c',r',e⟩),rfl,q _ (I.hok.fresh (Nat.le_refl _))⟩
 rcases hq with hq | hq
 ·obtain⟨its,r',pl,hz⟩:=I.list hq
  have hlen:=r'.length
  obtain⟨o,ho,hc,n,hd⟩:=pl.isList
  exact call_list_seq p (.inl rfl) ho hc hd (λh' c' kp e=>fin its r' hz h' c' kp e) (by simp only[List.size_toArray]<;>omega)
 ·obtain⟨its,r',pl,hz⟩:=I.tuple hq
  have hlen:=r'.length
  obtain⟨o,ho,hc,n,hd⟩:=pl
  exact call_list_seq p (.inr rfl) ho hc hd (λh' c' kp e=>fin its r' hz h' c' kp e) (by simp only[List.size_toArray]<;>omega)
theorem call_tuple_of:CallR X (.type "tuple") (λxs H Q=>∃ p ys,xs=[.ref p]/\((SqL X.K H p ys/\∀ l,H l=none->Q (.ref l) (upd H l (.tup ys)))\/(SqT X.K H p ys/\Q (.ref p) H))):=by
 intro pins s σ H xs us Q I r h
 obtain⟨p,ys,rfl,h⟩:=h
 obtain⟨u,rfl,rx⟩:=vals1 r
 cases rx
 rcases h with ⟨hq,q⟩ | ⟨hq,q⟩
 ·obtain⟨its,r',pl,hz⟩:=I.list hq
  have hlen:=r'.length
  refine call_tuple_list pl.isList (λh' kp=>?_) (by simp only[List.size_toArray]<;>omega)
  have I1:Inv X pins σ H { s with heap:=h' }:=I.kept (t':=s.toks) kp
  have I2:Inv X pins σ (upd H h'.objs.size (.tup ys)) { s with heap:=h'.push { cls:=.type "tuple",data:=.seq its.toArray } }:=
   I1.laid (t':=s.toks) (λb o e=>Heap.get?_push_of_some _ e) (Nat.le_refl _) (show ObjOk X.prog X.w _ _ _ (.tup ys) from ⟨hz,its,r',IsTupD.new _ _⟩)
  exact⟨.ref h'.objs.size,_,I2,rfl,q _ (I1.hok.fresh (Nat.le_refl _))⟩
 ·obtain⟨its,r',pl,hz⟩:=I.tuple hq
  exact call_tuple_same pl ⟨.ref p,H,I,rfl,q⟩
def tyV (K:PySem.W.Frag) (T:String)(x:V)(H:Hp):Prop:=match x with
 |.str _=>T = "str"
 |.int _=>T = "int"
 |.ref p=>(T = "list"/\∃ xs,SqL K H p xs)\/(T = "tuple"/\∃ o,K.lookup p=some o/\o.cls=.type "tuple"/\o.dict=none) ∨
   (T = "dict"/\((∃ kvs,H p=some (.dK kvs))\/∃ kvs,H p=some (.dT kvs)))\/(T = "set"/\∃ S n,H p=some (.set S n))
 |_=>False
theorem tyV_is {pins:List (Addr×Obj)}{σ:St}{H:Hp}{s:Shared}{T:String}{x:V}{v:Value}(I:Inv X pins σ H s)(r:RelV x v)(ty:tyV X.K T x H) :
  s.TypeIs v T/\∀ a,v=.ref a->∃ ob,s.heap.get? a=some ob/\ob.dict=none:=by
 cases x with
 |str z=>
  obtain⟨t,rfl⟩:=r
  cases (show T = "str" from ty)
  exact⟨typeIs_str s z t,λ_ e=>nomatch e⟩
 |int i=>
  obtain⟨t,rfl⟩:=r
  cases (show T = "int" from ty)
  exact⟨typeIs_int s i t,λ_ e=>nomatch e⟩
 |ref p=>
  cases r
  rcases ty with ⟨rfl,xs,hq⟩ | ⟨rfl,o,hk,hc,hd⟩ | ⟨rfl,hk⟩ | ⟨rfl,S,n,hk⟩
  ·obtain⟨its,_,pl,_⟩:=I.list hq
   refine⟨pl.isList.typeIs,λa e=>?_⟩
   cases e
   obtain⟨o,n,e,c,hd,_⟩:=pl
   exact⟨o,e,hd⟩
  ·refine⟨⟨o,I.kIn p o hk,hc⟩,λa e=>?_⟩
   cases e
   exact⟨o,I.kIn _ o hk,hd⟩
  ·have z:∃ o,s.heap.get? p=some o/\o.ExactDict:=by
    rcases hk with ⟨kvs,hk⟩ | ⟨kvs,hk⟩
    ·obtain⟨_,_,_,_,o,_,_,e,ex,_⟩:=I.hok p _ hk
     exact⟨o,e,ex⟩
    ·obtain⟨_,_,_,_,o,_,_,e,ex,_⟩:=I.hok p _ hk
     exact⟨o,e,ex⟩
   obtain⟨o,e,ex⟩:=z
   refine⟨⟨o,e,ex.1⟩,λa e2=>?_⟩
   cases e2
   exact⟨o,e,ex.2.1⟩
  ·obtain⟨o,_,_,_,e,ex,_⟩:=I.hok p _ hk
   refine⟨⟨o,e,ex.1⟩,λa e2=>?_⟩
   cases e2
   exact⟨o,e,ex.2.1⟩
 |_=>exact False.elim ty
def tBM (K:PySem.W.Frag) (T:String)(r:V->List V->Hp->VK->Prop)(to:TE)(t:TA):TE:=λσ H Q=>to σ H λx H1=>tyV K T x H1/\t σ H1 λxs H2=>r x xs H2 Q
variable {o e:Expr}{es:List Expr}{to:TE}{t:TA}{name:Str}{apos cpos:Pos}{T id:String}{r:V->List V->Hp->VK->Prop}
theorem pe_bm (pa:PlainAttrs T)(slot:Slot T name id)(hty:typeOf (.builtin id)=pure (.type "method_descriptor"))(hm:MtR X id r)(ho:PE X o to)(ha:PA X (e::es) t)
  (hbase:autoParam (attributeBase o name X.env (eval o X.env)=eval o X.env) aR._auto_1)
  (hfew:((backTo cpos (starEach (e::es) X.env)).all (λx=>!x.1) && (backToKw cpos (keywordEach [] X.env)).all (λx=>x.1.isSome)
   && decide ((e::es).length+([]:List Keyword).length+(if ([]:List Keyword).isEmpty then 0 else 1)<30))=true:=by rfl)
  (hline:autoParam ((apos.endLine == cpos.line)=true) aR._auto_1)(hs:autoParam (starEach (e::es) X.env=(false,eval e X.env)::starEach es X.env) aR._auto_1)(hplain:autoParam ((backTo cpos (starEach es X.env)).any (·.1)=false) aR._auto_1) :
  PE X (.Call (.Attribute o name apos) (e::es) [] cpos) (tBM X.K T r to t):=by
 intro pins s σ H Q I h
 refine wpAny_Call_method_late hbase hfew hline rfl (thn (ho pins s σ H _ I h) λv s1 ⟨x,H1,I1,r1,ty,q1⟩=>?_)
 obtain⟨h1,h2⟩:=tyV_is I1 r1 ty
 refine⟨T,id,pa,slot,hty,h1,h2,?_⟩
 have hA:=ha cpos pins s1 σ H1 _ I1 q1
 rw[hs]at hA ⊢
 refine Calls.callWith_builtin (by show (false || (backTo cpos (starEach es X.env)).any (·.1))=false;rw[hplain]<;>rfl) (Calls.evalArgs_plain ?_)
 exact thn hA λus s2 ⟨vs,H2,I2,r2,q2⟩=>hm pins s2 σ H2 x vs v us Q I2 r1 r2 q2
end
end L2
namespace L2
open PySem PySem.Spec PyProof.Rows
def MtM (X:Cx) (id:String)(r:V->List V->Hp->VK->Prop):Prop:=
 ∀ (pins:List (Addr×Obj))(s:Shared)(σ:St)(H:Hp)(x:V)(xs:List V) (v:Value)(us:List Value)(Q:VK),Inv X pins σ H s->RelV x v->Vals xs us->r x xs H Q ->
  wpAny (model X.prog X.w) X.A (call (.builtin id) (v::us)) (EP X pins σ Q) X.xe s
theorem Vals.one:∀ {x:V}{us:List Value},Vals [x] us->∃ u,us=[u]/\RelV x u
 |_,_,.cons r .nil=>⟨_,rfl,r⟩
theorem Vals.eraseIdx:∀ {xs:List V}{us:List Value} (i:Nat),Vals xs us->Vals (xs.eraseIdx i) (us.eraseIdx i)
 |_,_,_,.nil=>.nil
 |_,_,0,.cons _ t=>t
 |_,_,i+1,.cons r t=>.cons r (Vals.eraseIdx i t)
theorem Vals.rep {xs:List V}{us:List Value}(h:Vals xs us):∀ k:Nat,Vals (List.replicate k xs).flatten (List.replicate k us).flatten
 |0=>.nil
 |k+1=>by
  rw[List.replicate_succ,List.replicate_succ,List.flatten_cons,List.flatten_cons]
  exact Vals.append h (Vals.rep h k)
theorem len_erase {α:Type}:∀ (l:List α) (i:Nat),(l.eraseIdx i).length<=l.length
 |[],_=>Nat.le_refl _
 |_::_,0=>Nat.le_succ _
 |_::r,i+1=>Nat.succ_le_succ (len_erase r i)
section
variable {X:Cx}{pins:List (Addr×Obj)}{σ:St}{H:Hp}{s:Shared}{l b:Addr}{xs ys zs:List V}
theorem Inv.lset {its its':List Value}{n:Nat}{f:Array Value->Array Value}{t':Nat}(I:Inv X pins σ H s)(hH:H l=some (.lst xs))
  (e:s.heap.get? l=some { cls:=.type "list",data:=.seq its.toArray n })(hf:f its.toArray=its'.toArray)(hv:Vals ys its')(hz:ys.length<=sizeLine) :
  Inv X pins σ (upd H l (.lst ys)) { s with heap:=s.heap.update l (Obj.mapSeq f),toks:=t' }:=by
 have q:=PySem.IsL.update e f
 rw[hf]at q
 refine I.write (x:=l) (e:=l) (by rw[hH];exact trivial) (.inl rfl) (λb' u hb hu=>(Heap.get?_update_other s.heap (Obj.mapSeq f) (Ne.symm hb)).trans hu) ⟨_,q⟩ ?_
 exact⟨hz,its',_,hv,q⟩
theorem Inv.lnew {its:List Value}{t':Nat}(I:Inv X pins σ H s)(hv:Vals ys its)(hz:ys.length<=sizeLine) :
  Inv X pins σ (upd H s.heap.objs.size (.lst ys)) { s with heap:=s.heap.push { cls:=.type "list",data:=.seq its.toArray },toks:=t' }:=
 I.laid (λ_ _ q=>Heap.get?_push_of_some _ q) (Nat.le_refl _) ⟨hz,its,0,hv,Heap.get?_push_size _ rfl⟩
theorem Inv.fresh (I:Inv X pins σ H s):H s.heap.objs.size=none:=I.hok.fresh (Nat.le_refl _)
theorem Inv.lstM (I:Inv X pins σ H s)(hH:H l=some (.lst xs)):xs.length<=sizeLine/\∃ (its:List Value) (n:Nat),Vals xs its/\xs.length=its.length/\s.heap.get? l=some { cls:=.type "list",data:=.seq its.toArray n }:=by
 obtain⟨z,its,n,r,e⟩:=I.hok l _ hH
 exact⟨z,its,n,r,r.length,e⟩
theorem notLongL {n:Nat}(h:n<=sizeLine):Builtin.List.listTooLong n=false:=by
 unfold Builtin.List.listTooLong
 exact decide_eq_false (by omega)
end
section
variable {X:Cx}
def rAppend:V->List V->Hp->VK->Prop:=λx vs H Q=>∃ l xs y,x=.ref l/\vs=[y]/\H l=some (.lst xs)/\xs.length<sizeLine/\Q .non (upd H l (.lst (xs++[y])))
theorem mt_append:MtM X "list.append" rAppend:=by
 intro pins s σ H x vs v us Q I rx rv h
 obtain⟨l,xs,y,rfl,rfl,hH,hz,q⟩:=h
 cases rx
 obtain⟨u,rfl,ru⟩:=rv.one
 obtain⟨z,its,n,r,hl,e⟩:=I.lstM hH
 refine call_meets F.slot_list_append ⟨_,e,rfl⟩ F.entry_list_append (F.args_list_append_2 _ _) (PySem.list_append l its.toArray n u (by rw[List.size_toArray];omega)) ⟨e,?_⟩
 refine⟨.non,_,I.lset (its':=its++[u]) hH e (by simp) (r.append (.cons ru .nil)) ?_,rfl,q⟩
 rw[List.length_append,List.length_singleton]
 omega
def rPopAt:V->List V->Hp->VK->Prop:=λx vs H Q=>∃ l xs i k y,x=.ref l/\vs=[.int i]/\H l=some (.lst xs)/\-(2 ^ 63)<=i/\i<2 ^ 63/\seqIndex? i xs.length=some k/\xs[k]? = some y/\Q y (upd H l (.lst (xs.eraseIdx k)))
theorem mt_popAt:MtM X "list.pop" rPopAt:=by
 intro pins s σ H x vs v us Q I rx rv h
 obtain⟨l,xs,i,k,y,rfl,rfl,hH,h1,h2,hk,hy,q⟩:=h
 cases rx
 obtain⟨u,rfl,ru⟩:=rv.one
 obtain⟨t,rfl⟩:=ru
 obtain⟨z,its,n,r,hl,e⟩:=I.lstM hH
 obtain⟨w,hw,rw'⟩:=r.get hy
 refine call_meets F.slot_list_pop ⟨_,e,rfl⟩ F.entry_list_pop (F.args_list_pop_2 _ _)
  (MeetsSeq.list_pop_at l its.toArray n i t k w (fitsIndex_both h1 h2) (by rw[List.size_toArray,<-hl];exact hk) (by rw[<-Array.getElem?_toList];exact hw) (by rw[List.size_toArray];omega)) ⟨e,?_⟩
 refine⟨y,_,I.lset (its':=its.eraseIdx k) hH e ?_ (r.eraseIdx k) ?_,rw',q⟩
 ·show its.toArray.eraseIdxIfInBounds k=(its.eraseIdx k).toArray
  rw[List.eraseIdxIfInBounds_toArray]
 ·have:=len_erase xs k
  omega
theorem len_rep {α:Type}(xs:List α) (k:Nat):(List.replicate k xs).flatten.length=k * xs.length:=by
 induction k with
 |zero=>simp
 |succ k ih=>rw[List.replicate_succ,List.flatten_cons,List.length_append,ih,Nat.succ_mul,Nat.add_comm]
end
section
variable {prog:Program}{w:World}{A:Around}{E:Value->Shared->Prop}{s:Shared}
end
section
variable {X:Cx}
end
end L2
namespace L2
open PySem PySem.Spec PyProof.Rows
section
variable {κ:Type} [DecidableEq κ]
end
section
variable {P:Program}{w:World}{H:Hp}{h:Heap}{a:Addr}
end
section
variable {X:Cx}{pins:List (Addr×Obj)}{σ:St}{H:Hp}{s:Shared}{a:Addr}{y v:V}{u r:Value}{o:Option V}{A:Around}{E:Value->Shared->Prop}
end
section
variable {X:Cx}{pins:List (Addr×Obj)}{σ:St}{H:Hp}{s:Shared}{a:Addr}{kvs:List (Key×V)}{k:Key}{u:Value}{A:Around}{E:Value->Shared->Prop}
end
section
variable {X:Cx}{o i e value:Expr}{pos pos' tpos:Pos}{td ty tv:TE}
end
section
variable {X:Cx}{pos:Pos}
end
structure M1 (X:Cx)(o:Expr) (m:Str)(apos:Pos)(e:Expr)(cpos:Pos):Prop where
 base:attributeBase o m X.env (eval o X.env)=eval o X.env
 few:((backTo cpos (starEach [e] X.env)).all (λx=>!x.1) && (backToKw cpos (keywordEach [] X.env)).all (λx=>x.1.isSome)
  && decide (([e]:List Expr).length+([]:List Keyword).length+(if ([]:List Keyword).isEmpty then 0 else 1)<30))=true
 line:(apos.endLine == cpos.line)=true
 trees:backTo cpos (starEach [e] X.env)=[(false,eval e X.env)]
structure M2 (X:Cx)(o:Expr) (m:Str)(apos:Pos)(e f:Expr)(cpos:Pos):Prop where
 base:attributeBase o m X.env (eval o X.env)=eval o X.env
 few:((backTo cpos (starEach [e,f] X.env)).all (λx=>!x.1) && (backToKw cpos (keywordEach [] X.env)).all (λx=>x.1.isSome)
  && decide (([e,f]:List Expr).length+([]:List Keyword).length+(if ([]:List Keyword).isEmpty then 0 else 1)<30))=true
 line:(apos.endLine == cpos.line)=true
 trees:backTo cpos (starEach [e,f] X.env)=[(false,eval e X.env),(false,eval f X.env)]
section
variable {X:Cx}{pins:List (Addr×Obj)}{σ:St}{H:Hp}{s:Shared}{a:Addr}{y d:V}{u r:Value}{o:Option V}{A:Around}{E:Value->Shared->Prop}
end
section
variable {X:Cx}{o e f:Expr}{apos cpos:Pos}{td ty tx:TE}
end
section
variable {X:Cx}{pins:List (Addr×Obj)}{σ:St}{H:Hp}{s:Shared}{a:Addr}{kvs:List (Key×V)}{A:Around}{E:Value->Shared->Prop}
end
section
variable {X:Cx}{pins:List (Addr×Obj)}{σ:St}{H:Hp}{s:Shared}{a:Addr}{y:V}{u:Value}{A:Around}{E:Value->Shared->Prop}
end
end L2
namespace Att
open PySem PySem.W PySem.Calls PyProof.Rows
theorem ints_of_wellAll {P:Params}{h:Heap}:∀ (ns:List Int)(vs:List Value),WellAll P h vs (ns.map WData.int)->IntsAre vs ns:=by
 intro ns
 induction ns with
 |nil=>
  intro vs w
  rw[List.map_nil]at w
  cases w
  exact .nil
 |cons n ns ih=>
  intro vs w
  rw[List.map_cons]at w
  cases w with
  |cons a b=>
   cases a
   exact .cons _ _ (ih _ b)
theorem script_of {l:OpenLaw}{n:Nat}(hn:l.most=some n){P:Params}{h:Heap}{args:List WData}{vals:List Value}
  (hpre:l.row.toRowW.claim.pre args=true)(hwl:WellAll P h vals args) :
  ∃ a vs ns,vals=[Value.ref a]/\args=[WData.list (ns.map WData.int)]/\h.get? a=some { cls:=.type "list",data:=.seq vs.toArray }/\IntsAre vs ns/\ns.length<=n:=by
 have hsh:WShape.hasAll [] args [.list .int]=true:=(pre_splitW hpre).1
 have hc:l.pre.holds [] { args:=args }=true:=(pre_splitW hpre).2
 obtain⟨d,r,rfl,h1,h2⟩:=hasAllW_cons hsh
 obtain rfl:=hasAllW_nil h2
 obtain⟨xs,rfl,h3⟩:=hasW_list h1
 obtain⟨ns,rfl⟩:=items_int h3
 have hlen:ns.length<=n:=by
  unfold OpenLaw.pre at hc
  have h4:(WTm.not (.lt (.lit (.int (n:Int))) (.len (.arg 0)))).holds [] { args:=[.list (ns.map .int)] }=true:=by
   have h4:=(holds_andW hc).1
   rw[hn]at h4
   exact h4
  have h5:=condW_of h4 (w_not (w_lt w_lit (w_len_list (w_arg rfl))))
  rw[List.length_map]at h5
  refine Nat.le_of_not_lt λq=>?_
  have q':(n:Int)<((ns.length:Nat):Int):=by omega
  first
   |(rw[decide_eq_true q']at h5;exact absurd h5 (by decide))
   |(simp at h5;omega)
 cases hwl with
 |cons w1 w2=>
  cases w2
  cases w1 with
  |list ho hall=>exact⟨_,_,ns,rfl,rfl,ho,ints_of_wellAll ns _ hall,hlen⟩
theorem post_true (l:OpenLaw)(args:List WData):l.row.toRowW.claim.post args (.bool true) args=true:=
 postW_of (r:=l.row.toRowW) (X:=(true == true))
  (show WShape.has [] (.bool true) .bool=true by first | rfl | decide | simp[WShape.has,WShape.arms,WShape.armsAll])
  (show (WTm.eq .res (.lit (.bool true))).value [] { args:=args,res:=some (.bool true),after:=args }=some (.bool (true == true)) from w_eq_bool (w_res rfl) w_lit) rfl
theorem attach_call {l:OpenLaw}{n:Nat}{q:Program}{loose:List Str}{XP:(Str->Option Value)->Heap->Prop}{YP:World->Heap->Prop}{d:DefRec}
  (hn:l.most=some n)(hdf:d.params.defaults=[])
  (call:∀ (w:World)(s₀ s₁:Shared)(mg mb:Str->Option Value)(fa:Addr)(o:Obj) (pm cd doc:Value)(a:Addr)(vs:List Value)(ns:List Int),
   Ground q loose [] XP w s₀ mg mb s₁.heap->YP w s₁.heap ->
   s₁.heap.get? fa=some o->o.data=.func (docDef d.name d.params d.body d.scope pm cd doc)->s₁.heap.CodeRec cd d.name->mg d.name=some (.ref fa) ->
   s₁.heap.get? a=some { cls:=.type "list",data:=.seq vs.toArray }->IntsAre vs ns->ns.length<=n->s₁.gens=#[] ->
   codeAny (model l.prog w) callerA (.call (.ref fa) ⟨[.ref a],[]⟩) (λr s'=>r=.ok (.ret (.bool true))/\OldK s₁.heap s'.heap/\s'.os=s₁.os/\AllBare s'.gens) s₁) :
  WalkO q loose XP YP l.row.toRowW d [] (λf vs=>PySem.call f vs):=by
 intro w s₀ s₁ mg mb G Y fa o pm cd doc dV kV ho hd hcd hD hmg hg args vals as hpre hlay hrd hwl hlo
 obtain rfl:dV=.none:=Dflts.none hD hdf
 obtain rfl:kV=.none:=Dflts.noKw hD
 obtain⟨a,vs,ns,rfl,rfl,hobj,hints,hlen⟩:=script_of hn hpre hwl
 refine enter_call (codeAny_mono (call w s₀ s₁ mg mb fa o pm cd doc a vs ns G Y ho (fd_plain hd) hcd hmg hobj hints hlen hg) λr s' hq=>?_)
 obtain⟨rfl,h2,h3,h4⟩:=hq
 exact⟨.inl ⟨.bool true,.bool true,[],rfl,λ_=>rfl,.bool true,post_true l _,λ_=>⟨List.Pairwise.nil,λ_ hm=>(nomatch hm)⟩⟩,h2,h3,h4⟩
section
variable {prog:Program}{w:World}{A:Around}{E:Value->Shared->Prop}{s:Shared}{K:Frag}
end
end Att
namespace L2
open PySem PySem.Spec PyProof.Rows
theorem xT:∀ {vs:List Value}{ns:List Int},IntsAre vs ns->Vals (ns.map V.int) vs
 |_,_,.nil=>.nil
 |_,_,.cons n t h=>.cons ⟨t,rfl⟩ (xT h)
def Only (H:Hp):Prop:=∀ b,H b=none\/∃ o xs,H b=some (.frz o (.lst xs))
theorem law_call {P:Program}{w:World}{K:PySem.W.Frag}{mg mb:Str->Option Value}{CX:CXT}{k:Nat}{fa a:Addr}{fd:FuncData}{x:Str}{sp:Sp}{s₁:Shared}{vs:List Value}{ns:List Int}
  (KX:K.In s₁.heap)(hns:s₁.heap.Ns mainGlobals mg)(hb:s₁.heap.Ns builtinsNs mb)(hbb:∀ x:Str,x ≠ "__name__"->mb x=bootBuiltins x)(hlim:s₁.heap.NoLimit)(hg:s₁.gens=#[])
  (ha:s₁.heap.get? a=some { cls:=.type "list",data:=.seq vs.toArray })(hi:IntsAre vs ns)(hl:ns.length<=sizeLine)(hr:Room k callerA)
  (F:∀ base:Heap,K.In base->base.Ns mainGlobals mg->FnOk P w K mg base CX k fa fd [x] sp)(hbind:∀ (s:Shared) (u:Value),BindsTo s fd ⟨[u],[]⟩ [(x,u)])
  (hsp:∀ H:Hp,Only H->SqL K H a (ns.map V.int)->sp [.ref a] H (λv _=>v=.bl true) λ_ _ _=>False)
  (hCX:∀ H e s',CX [] H s₁ (λ_ _ _=>False) e s'->False) :
  codeAny (model P w) callerA (.call (.ref fa) ⟨[.ref a],[]⟩) (λr s'=>r=.ok (.ret (.bool true))/\OldK s₁.heap s'.heap/\s'.os=s₁.os/\AllBare s'.gens) s₁:=by
 have rv:=xT hi
 have lenV:=hi.length
 -- from an abstract heap in which nothing but the script may be tracked
 have core:∀ H:Hp,Only H->SqL K H a (ns.map V.int)->HOk P w H s₁.heap->(∀ b,H b≠none->b=a)->(H a≠none->K.lookup a=none) ->
   codeAny (model P w) callerA (.call (.ref fa) ⟨[.ref a],[]⟩) (λr s'=>r=.ok (.ret (.bool true))/\OldK s₁.heap s'.heap/\s'.os=s₁.os/\AllBare s'.gens) s₁:=by
  intro H hO hS hok hA hK
  have base_of:∀ {b:Addr}{o:Obj},s₁.heap.get? b=some o->H b=none->(hidT s₁.heap H).get? b=some o:=λe n=>hidT_get e n
  have noA:∀ {b:Addr}{o:Obj}{es:Array DictEntry}{ep:Nat},s₁.heap.get? b=some o->o.data=.dict es ep->H b=none:=fun {b o es ep} e d=>by
   cases q:H b with
   |none=>rfl
   |some u=>
    have e':b=a:=hA b (by rw[q];simp)
    subst e'
    rw[ha]at e;cases e
    have d':Data.seq vs.toArray _=Data.dict es ep:=d
    cases d'
  have nsK:∀ {b:Addr}{m:Str->Option Value},s₁.heap.Ns b m->(hidT s₁.heap H).Ns b m:=fun {b m} ⟨o,es,ep,e,d,r⟩=>⟨o,es,ep,base_of e (noA e d),d,r⟩
  have hKb:K.In (hidT s₁.heap H):=λb o e=>base_of (KX b o e) (by
   cases q:H b with
   |none=>rfl
   |some u=>
    have e':b=a:=hA b (by rw[q];simp)
    subst e'
    rw[hK (by rw[q];simp)]at e;cases e)
  have hM:Mod K mg (hidT s₁.heap H):=⟨hKb,nsK hns,⟨mb,nsK hb,hbb⟩,let ⟨mc,h1,h2⟩:=hlim;⟨mc,nsK h1,h2⟩⟩
  have e0:Env0 P w K mg (hidT s₁.heap H) callerA [] s₁ H:=⟨rfl,hM,λb o e=>of_hidT e,Nat.le_of_eq (hidT_size _ _),trivial,λb hb=>absurd (show b ∈ ([]:List Addr) from hb) (by simp),hok,.of_eq hg⟩
  refine codeAny_mono ((F _ hKb (nsK hns)).run callerA [] s₁ H ⟨[.ref a],[]⟩ [.ref a] [.ref a] _ _ hr e0 (hbind s₁ (.ref a)) (.cons rfl .nil) (hsp H hO hS)) λr s' h=>?_
  cases r with
  |error e=>exact (hCX H e s' h).elim
  |ok fl=>
   cases fl with
   |next=>exact False.elim h
   |brk=>exact False.elim h
   |cont=>exact False.elim h
   |ret u=>
    obtain⟨v,H',os,bare,un,hok',r',q⟩:=h
    have q':v=.bl true:=q
    subst q'
    obtain rfl:u=Value.bool true:=r'
    refine⟨rfl,OldK.of_keep λb o e=>?_,os,bare⟩
    cases q:H b with
    |none=>exact un.keep b o e q (by intro z;exact absurd (show b ∈ ([]:List Addr) from z) (by simp)) (by simp)
    |some u=>
     rcases hO b with z | ⟨ob,xs,z⟩
     ·rw[q]at z;cases z
     ·have z2:=un.frzs b ob _ z
      obtain⟨e1,_⟩:=hok b _ z
      obtain⟨e2,_⟩:=hok' b _ z2
      rw[e]at e1;cases e1
      exact e2
 cases hk:K.lookup a with
 |some o=>
  -- the script is one of the module's own objects
  have e:=KX a o hk
  rw[ha]at e
  cases e
  refine core (λ_=>none) (λ_=>.inl rfl) (.inr ⟨_,vs.toArray,_,hk,rfl,rfl,rfl,by rw[List.size_toArray,lenV];exact hl,by simpa using rv⟩) (λb u z=>by have z':(none:Option HO)=some u:=z;cases z') (λb z=>absurd rfl z) λz=>absurd rfl z
 |none=>
  refine core (λb=>if b=a then some (.frz { cls:=.type "list",data:=.seq vs.toArray } (.lst (ns.map V.int))) else none) (λb=>?_) (.inl (.inr ⟨{ cls:=.type "list",data:=.seq vs.toArray },if_pos rfl⟩)) (λb u z=>?_) (λb z=>?_) λ_=>hk
  ·by_cases hb:b=a
   ·exact .inr ⟨_,_,if_pos hb⟩
   ·exact .inl (if_neg hb)
  ·by_cases hb:b=a
   ·have z':=(if_pos hb).symm.trans z
    cases z'
    subst hb
    exact⟨ha,by rw[List.length_map];exact hl,vs,_,rv,ha⟩
   ·have z':=(if_neg hb).symm.trans z
    cases z'
  ·by_cases hb:b=a
   ·exact hb
   ·exact absurd (if_neg hb) z
end L2
namespace L2
open PySem PySem.Spec PyProof.Rows
theorem walk_of {l:PySem.W.OpenLaw}{n k:Nat}{q:Program}{loose:List Str}{XP:(Str->Option Value)->Heap->Prop}{YP:World->Heap->Prop}{d:DefRec}{K:Params->PySem.W.Frag}{CX:World->CXT}{sp:World->Sp}{x:Str}
  (hn:l.most=some n)(hn2:n<=sizeLine)(hdf:d.params.defaults=[])(hr:Room k callerA)
  (hY:∀ (w:World)(h:Heap),YP w h->(K w.params).In h)
  (F:∀ (w:World)(mg:Str->Option Value)(fa:Addr)(h:Heap),(K w.params).In h->h.Ns mainGlobals mg->mg d.name=some (.ref fa) ->
   ∃ fd:FuncData,(∀ (s:Shared) (u:Value),BindsTo s fd ⟨[u],[]⟩ [(x,u)]) ∧
    ∀ base:Heap,(K w.params).In base->base.Ns mainGlobals mg->FnOk l.prog w (K w.params) mg base (CX w) k fa fd [x] (sp w))
  (hsp:∀ (w:World)(H:Hp)(a:Addr)(ns:List Int),ns.length<=n->Only H->SqL (K w.params) H a (ns.map V.int)->sp w [.ref a] H (λv _=>v=.bl true) λ_ _ _=>False)
  (hCX:∀ (w:World)(H:Hp)(s:Shared) (e:Value)(s':Shared),CX w [] H s (λ_ _ _=>False) e s'->False) :
  PySem.W.WalkO q loose XP YP l.row.toRowW d [] (λf vs=>PySem.call f vs):=by
 refine Att.attach_call hn hdf λw s₀ s₁ mg mb fa o pm cd doc a vs ns G Y ho hd hcd hmg hobj hints hlen hg=>?_
 have KX:=hY w _ Y
 obtain⟨fd,hb,hF⟩:=F w mg fa _ KX G.T.g hmg
 exact law_call KX G.T.g G.T.b G.T.builtins G.T.nolimit hg hobj hints (Nat.le_trans hlen hn2) hr hF hb (λH hO hS=>hsp w H a ns hlen hO hS) λH e s'=>hCX w H s₁ e s'
end L2
namespace L2
open PySem PySem.Spec PyProof.Rows
def defArgs (s:Stmt):Arguments:=match s with
 |.FunctionDef _ a _ _ _ _ _ _ _ _=>a
 |_=>{ posonlyargs:=[],args:=[],vararg:=none,kwonlyargs:=[],kw_defaults:=[],kwarg:=none,defaults:=[] }
def defBody (s:Stmt):List Stmt:=match s with
 |.FunctionDef _ _ b _ _ _ _ _ _ _=>b
 |_=>[]
def defScope (s:Stmt):Scope:=match s with
 |.FunctionDef _ _ _ _ _ _ sc _ _ _=>sc
 |_=>{ kind:=.function,names:=[],isGenerator:=false,isCoroutine:=false }
abbrev E0:XK:=λ_ _ _=>False
structure Fun (K:PySem.W.Frag) (x qual:Str)(st:Stmt)(f:Addr)(fd:FuncData):Prop where
 ex:∃ (oc:Value)(od:Option Addr) (kV doc pm:Value)(an:Option Addr) (cdv ct:Value)(osl:Array (Option Value)),
  fd=PySem.W.fnOf x qual (defArgs st) (defBody st) (defScope st) .none kV doc pm an cdv ct/\K.lookup f=some ⟨oc,od,.func fd,osl⟩/\PySem.W.codeIn K cdv qual=true
 kp:PySem.W.keepIn K (.ref f)=true
section
variable {P:Program}{w:World}{K:PySem.W.Frag}{mg:Str->Option Value}{base:Heap}
theorem Fun.binds {x qual:Str}{st:Stmt}{f:Addr}{fd:FuncData}{ps:List Str}(F:Fun K x qual st f fd)
  (h:∀ (kV doc pm:Value)(an:Option Addr) (cdv ct:Value)(us:List Value),us.length=ps.length->bindArgs (PySem.W.fnOf x qual (defArgs st) (defBody st) (defScope st) .none kV doc pm an cdv ct) ⟨us,[]⟩=pure (ps.zip us)):Binds K fd ps []:=by
 obtain⟨oc,od,kV,doc,pm,an,cdv,ct,osl,rfl,lk,hcd⟩:=F.ex
 exact .all (h kV doc pm an cdv ct)
theorem fun_mk {x qual:Str}{st:Stmt}{f:Addr}{oc:Value}{od an:Option Addr}{osl:Array (Option Value)}{kV doc pm cdv ct:Value}(l:K.lookup f=some ⟨oc,od,.func (PySem.W.fnOf x qual (defArgs st) (defBody st) (defScope st) .none kV doc pm an cdv ct),osl⟩)
  (c:PySem.W.codeIn K cdv qual=true)(k:PySem.W.keepIn K (.ref f)=true):Fun K x qual st f (PySem.W.fnOf x qual (defArgs st) (defBody st) (defScope st) .none kV doc pm an cdv ct):=⟨⟨oc,od,kV,doc,pm,an,cdv,ct,osl,rfl,l,c⟩,k⟩
end
section
variable {X:Cx}
end
def Same (H H':Hp):Prop:=∀ b o,H b=some o->H' b=some o
theorem Same.refl (H:Hp):Same H H:=λ_ _ h=>h
theorem Same.trans {H H1 H2:Hp}(a:Same H H1)(b:Same H1 H2):Same H H2:=λc o h=>b c o (a c o h)
theorem Same.free {H H':Hp}(e:Same H H'){l:Addr}(h:H' l=Option.none):H l=Option.none:=by
 cases q:H l with
 |none=>rfl
 |some o=>
  rw[e l o q]at h
  cases h
theorem Same.seq {K:PySem.W.Frag}{H H':Hp}{a:Addr}{xs:List V}(e:Same H H')(h:SqL K H a xs):SqL K H' a xs:=by
 rcases h with (h | ⟨o,h⟩) | h
 ·exact .inl (.inl (e _ _ h))
 ·exact .inl (.inr ⟨o,e _ _ h⟩)
 ·exact .inr h
section
variable {κ:Type} [DecidableEq κ]
end
end L2
namespace PM
open PySem
inductive D where
 |non | bl (b:Bool) | int (i:Int) | str (x:Str) | tup (xs:List D) | lst (xs:List D)
 |exc (c:Addr)
 |dct (ks:List Int)(vs:List D)
 |dcT (ks:List (List Int))(vs:List D)
 deriving Inhabited
inductive Slot where
 |un | fz (d:D) | own (ds:List D) | dic (kvs:List (Int×D)) | own2 (dss:List (List D)) | dicT (kvs:List (List Int×D))
 |ownM (ms:List (Bool×Int×List D)) | obj (C:Addr)(fs:List (Str×Bool×D)) | junk (n:Nat)
noncomputable abbrev Rho:=List Slot
inductive Res (α:Type) where
 |ok (a:α)(ρ:Rho) | exn (c:Addr)(ρ:Rho) | bad
noncomputable abbrev M (α:Type):=Rho->Res α
noncomputable def Res.bnd {α β:Type}(r:Res α)(k:α->Rho->Res β):Res β:=match r with
 |.ok a ρ'=>k a ρ'
 |.exn c ρ'=>.exn c ρ'
 |.bad=>.bad
theorem Res.bnd_ok {α β:Type}(a:α)(ρ:Rho)(k:α->Rho->Res β):(Res.ok a ρ).bnd k=k a ρ:=rfl
noncomputable def zO {α:Type}(o:Option α)(ρ:Rho):Res α:=match o with
 |some a=>.ok a ρ
 |none=>.bad
theorem zT {α:Type}(a:α)(ρ:Rho):zO (some a) ρ=.ok a ρ:=rfl
inductive Fl where
 |nx | ret (d:D) | brk | cont
mutual
noncomputable def D.eqv:D->D->Bool
 |.non,.non=>true
 |.bl a,.bl b=>a == b
 |.bl a,.int b=>(if a then 1 else 0) == b
 |.int a,.bl b=>a == (if b then 1 else 0)
 |.int a,.int b=>a == b
 |.str a,.str b=>a == b
 |.tup a,.tup b=>D.eqvs a b
 |.lst a,.lst b=>D.eqvs a b
 |_,_=>false
noncomputable def D.eqvs:List D->List D->Bool
 |[],[]=>true
 |a::r,b::s=>D.eqv a b && D.eqvs r s
 |_,_=>false
end
mutual
noncomputable def D.plain:D->Bool
 |.exc _=>false
 |.tup a=>D.plains a
 |.lst a=>D.plains a
 |.dct _ _=>false
 |.dcT _ _=>false
 |.str x=>x.cps.all (· < 0x110000)
 |_=>true
noncomputable def D.plains:List D->Bool
 |[]=>true
 |a::r=>D.plain a && D.plains r
end
mutual
noncomputable def D.deep:D->Nat
 |.tup a=>D.deeps a+1
 |.lst a=>D.deeps a+1
 |_=>0
noncomputable def D.deeps:List D->Nat
 |[]=>0
 |a::r=>max (D.deep a) (D.deeps r)
end
noncomputable def ZC:D->D->Option D
 |.int a,.int b=>some (.int (a+b))
 |.lst a,.lst b=>if a.length+b.length<=sizeLine then some (.lst (a++b)) else none
 |.tup a,.tup b=>if a.length+b.length<=sizeLine then some (.tup (a++b)) else none
 |_,_=>none
noncomputable def Vw:D->D->Option D
 |.int a,.int b=>some (.int (a - b))
 |_,_=>none
noncomputable def Yd:D->D->Option D
 |.int a,.int b=>if (-(2 ^ 64)<a/\a<2 ^ 64)\/(-(2 ^ 64)<b/\b<2 ^ 64) then some (.int (a * b)) else none
 |.lst a,.int k=>if -(2 ^ 63)<=k/\k<2 ^ 63/\a.length * k.toNat<=sizeLine then some (.lst (List.replicate k.toNat a).flatten) else none
 |_,_=>none
noncomputable def Z3:D->D->Option D
 |.int a,.int b=>if 0<b/\b<1073741824 then some (.int (a / b)) else none
 |_,_=>none
noncomputable def Zo:D->D->Option D
 |.int a,.int b=>if 0<b then some (.int (a % b)) else none
 |_,_=>none
noncomputable def VQ:D->Option D
 |.int a=>some (.int (-a))
 |_=>none
noncomputable def ltD:D->D->Option D
 |.int a,.int b=>some (.bl (decide (a<b)))
 |_,_=>none
noncomputable def leD:D->D->Option D
 |.int a,.int b=>some (.bl (decide (a<=b)))
 |_,_=>none
noncomputable def gtD:D->D->Option D
 |.int a,.int b=>some (.bl (decide (b<a)))
 |_,_=>none
noncomputable def geD:D->D->Option D
 |.int a,.int b=>some (.bl (decide (b<=a)))
 |_,_=>none
noncomputable def eqD (a b:D):Option D:=if a.plain && b.plain && decide (a.deep<=30) then some (.bl (a.eqv b)) else none
noncomputable def neD (a b:D):Option D:=if a.plain && b.plain && decide (a.deep<=30) then some (.bl (!a.eqv b)) else none
noncomputable def D.items? : D->Option (List D)
 |.tup a=>some a
 |.lst a=>some a
 |_=>none
noncomputable def inD (x y:D):Option D:=match y.items? with
 |some ys=>if x.plain && D.plains ys && decide (D.deeps ys<=30) then some (.bl (ys.any λy=>y.eqv x)) else none
 |none=>none
noncomputable def X8:D->Bool
 |.non=>true
 |_=>false
noncomputable def Zc:D->Option Bool
 |.non=>some false
 |.bl b=>some b
 |.int i=>some (i != 0)
 |.tup a=>some (!a.isEmpty)
 |.lst a=>some (!a.isEmpty)
 |_=>none
noncomputable def zV:D->Option Bool
 |.bl b=>some b
 |_=>none
noncomputable def Z8:D->Option D
 |.tup a=>some (.int a.length)
 |.lst a=>some (.int a.length)
 |_=>none
noncomputable def yf (n:Nat) (i:Int):Option Nat:=if 0<=i then (if i<n then some i.toNat else none) else if -(n:Int)<=i then some (i+n).toNat else none
noncomputable def atD (xs:List D) (i:Int):Option D:=(yf xs.length i).bind λj=>xs[j]?
noncomputable def ixD:D->D->Option D
 |.tup a,.int i=>atD a i
 |.lst a,.int i=>atD a i
 |_,_=>none
noncomputable def uW (n d:Nat):Option Int->Nat
 |none=>d
 |some v=>if v<0 then (v+(n:Int)).toNat else min v.toNat n
noncomputable def cut {α:Type}(xs:List α)(lo hi:Option Int):List α:=(xs.drop (uW xs.length 0 lo)).take (uW xs.length xs.length hi - uW xs.length 0 lo)
noncomputable def slD (x:D)(lo hi:Option Int):Option D:=match x with
 |.tup a=>some (.tup (cut a lo hi))
 |.lst a=>some (.lst (cut a lo hi))
 |_=>none
noncomputable def YC:D->Option Int
 |.int i=>some i
 |_=>none
noncomputable def Xr:D->Option D
 |.int i=>some (.int i)
 |.bl b=>some (.int (if b then 1 else 0))
 |_=>none
noncomputable def Wn:D->Option D
 |.tup a=>some (.lst a)
 |.lst a=>some (.lst a)
 |_=>none
noncomputable def tupleD:D->Option D
 |.tup a=>some (.tup a)
 |.lst a=>some (.tup a)
 |_=>none
noncomputable def yw (n:Nat):List D:=(List.range n).map λk:Nat=>D.int (k:Int)
noncomputable def Zv:List D->Option (List Int)
 |[]=>some []
 |.int b::r=>(Zv r).map (b :: ·)
 |_::_=>none
noncomputable def UU:Option Slot->Option D
 |some (.fz d)=>some d
 |_=>none
noncomputable def zl:Option Slot->Option (List D)
 |some (.own d)=>some d
 |_=>none
noncomputable def yD:Option Slot->Option (List (List D))
 |some (.own2 d)=>some d
 |_=>none
noncomputable def Zd:Option Slot->Option (List (Bool×Int×List D))
 |some (.ownM d)=>some d
 |_=>none
noncomputable def Z7:Option Slot->Option (Addr×List (Str×Bool×D))
 |some (.obj C fs)=>some (C,fs)
 |_=>none
theorem xW (d:List D):zl (some (.own d))=some d:=rfl
noncomputable def vM (i:Nat):M D:=λρ=>zO (UU ρ[i]?) ρ
noncomputable def cM (d:D):M D:=λρ=>.ok d ρ
noncomputable def op2 (f:D->D->Option D)(a b:M D):M D:=λρ=>(a ρ).bnd λx ρ=>(b ρ).bnd λy ρ=>zO (f x y) ρ
noncomputable def op1 (f:D->Option D)(a:M D):M D:=λρ=>(a ρ).bnd λx ρ=>zO (f x) ρ
noncomputable def zk:List (M D)->M (List D)
 |[]=>λρ=>.ok [] ρ
 |a::r=>λρ=>(a ρ).bnd λx ρ=>(zk r ρ).bnd λxs ρ=>.ok (x::xs) ρ
noncomputable def zL (f:D->Option Bool)(e:M D):M Bool:=λρ=>(e ρ).bnd λx ρ=>zO (f x) ρ
noncomputable def orM (a b:M Bool):M Bool:=λρ=>(a ρ).bnd λx ρ=>if x=true then .ok true ρ else b ρ
noncomputable def X3 (a:M Bool):M Bool:=λρ=>(a ρ).bnd λx ρ=>.ok (!x) ρ
noncomputable def ym (c:M Bool)(a b:M D):M D:=λρ=>(c ρ).bnd λx ρ=>if x=true then a ρ else b ρ
noncomputable def XV (p:Option (M D)):M (Option Int):=match p with
 |none=>λρ=>.ok none ρ
 |some a=>λρ=>(a ρ).bnd λx ρ=>(zO (YC x) ρ).bnd λi ρ=>.ok (some i) ρ
noncomputable def Xu (a:M D)(lo hi:Option (M D)):M D:=λρ=>(a ρ).bnd λx ρ=>(XV lo ρ).bnd λl ρ=>(XV hi ρ).bnd λh ρ=>zO (slD x l h) ρ
noncomputable def ZU (as:List (M D)):M D:=λρ=>(zk as ρ).bnd λxs ρ=>if xs.length<=sizeLine then .ok (.tup xs) ρ else .bad
noncomputable def lstM (as:List (M D)):M D:=λρ=>(zk as ρ).bnd λxs ρ=>if xs.length<=sizeLine then .ok (.lst xs) ρ else .bad
noncomputable def ZK (i:Nat)(e:M D):M Fl:=λρ=>(e ρ).bnd λx ρ=>.ok .nx (ρ.set i (.fz x))
noncomputable def ZQ (e:M D):M Fl:=λρ=>(e ρ).bnd λx ρ=>.ok (.ret x) ρ
noncomputable def yJ (e:M D):M Fl:=λρ=>(e ρ).bnd λ_ ρ=>.ok .nx ρ
noncomputable def nxM:M Fl:=λρ=>.ok .nx ρ
noncomputable def x8 (i:Nat)(as:List (M D)):M Fl:=λρ=>(zk as ρ).bnd λxs ρ=>if xs.length<=sizeLine then .ok .nx (ρ.set i (.own xs)) else .bad
noncomputable def xI (i:Nat)(b:M Fl):M Fl:=λρ=>(zO (zl ρ[i]?) ρ).bnd λds ρ=>b (ρ.set i (.fz (.lst ds)))
noncomputable def Zx (i:Nat)(e:M D):M Fl:=λρ=>(zO (zl ρ[i]?) ρ).bnd λ_ ρ=>(e ρ).bnd λx ρ=>(zO (zl ρ[i]?) ρ).bnd λds ρ=>if ds.length<sizeLine then .ok .nx (ρ.set i (.own (ds++[x]))) else .bad
noncomputable def Yh (i:Nat):M D:=λρ=>(zO (zl ρ[i]?) ρ).bnd λds ρ=>.ok (.int ds.length) ρ
noncomputable def ixO (i:Nat)(e:M D):M D:=λρ=>(zO (zl ρ[i]?) ρ).bnd λ_ ρ=>(e ρ).bnd λx ρ=>(zO (zl ρ[i]?) ρ).bnd λds ρ=>zO (ixD (.lst ds) x) ρ
noncomputable def qN (i:Nat):M Bool:=λρ=>(zO (zl ρ[i]?) ρ).bnd λds ρ=>.ok (!ds.isEmpty) ρ
noncomputable def YE (i:Nat)(e:M D):M D:=λρ=>(zO (zl ρ[i]?) ρ).bnd λ_ ρ=>(e ρ).bnd λx ρ=>(zO (zl ρ[i]?) ρ).bnd λds ρ=>(zO (YC x) ρ).bnd λk ρ=>(zO (if ds.length<=sizeLine then yf ds.length k else none) ρ).bnd λj ρ=>
 (zO (ds[j]?) ρ).bnd λy ρ=>.ok y (ρ.set i (.own (ds.eraseIdx j)))
noncomputable def Y2 (i:Nat)(e v:M D):M Fl:=λρ=>(v ρ).bnd λy ρ=>(zO (zl ρ[i]?) ρ).bnd λ_ ρ=>(e ρ).bnd λx ρ=>(zO (zl ρ[i]?) ρ).bnd λds ρ=>(zO (YC x) ρ).bnd λk ρ=>(zO (yf ds.length k) ρ).bnd λj ρ=>
 .ok .nx (ρ.set i (.own (ds.set j y)))
noncomputable def Fl.isNx:Fl->Bool
 |.nx=>true
 |_=>false
noncomputable def zH (a b:M Fl):M Fl:=λρ=>(a ρ).bnd λf ρ=>if f.isNx=true then b ρ else .ok f ρ
noncomputable def ifM (c:M Bool)(a b:M Fl):M Fl:=λρ=>(c ρ).bnd λx ρ=>if x=true then a ρ else b ρ
noncomputable def Ym (f:Fl)(ρ:Rho)(go:M Fl):Res Fl:=match f with
 |.nx=>go ρ
 |.cont=>go ρ
 |.brk=>.ok .nx ρ
 |.ret d=>.ok (.ret d) ρ
noncomputable abbrev GM:=D->Rho->Option Rho
noncomputable def zj (g:GM)(b:M Fl):List D->M Fl
 |[]=>λρ=>.ok .nx ρ
 |d::ds=>λρ=>(zO (g d ρ) ρ).bnd λρ _=>(b ρ).bnd λf ρ=>Ym f ρ (zj g b ds)
noncomputable def xJ (it:M D)(items:D->Option (List D))(g:GM)(b:M Fl):M Fl:=λρ=>(it ρ).bnd λx ρ=>(zO (items x) ρ).bnd λds ρ=>zj g b ds ρ
noncomputable def yo (c:M Bool)(b:M Fl):Nat->M Fl
 |0=>λ_=>.bad
 |n+1=>λρ=>(c ρ).bnd λx ρ=>if x=true then (b ρ).bnd λf ρ=>Ym f ρ (yo c b n) else .ok .nx ρ
noncomputable def zz (i:Nat):GM:=λd ρ=>some (ρ.set i (.fz d))
noncomputable def xH:List Nat->List D->Rho->Option Rho
 |[],[],ρ=>some ρ
 |i::r,d::ds,ρ=>xH r ds (ρ.set i (.fz d))
 |_,_,_=>none
noncomputable def Zi (is:List Nat):GM:=λd ρ=>match d with
 |.tup ds=>xH is ds ρ
 |_=>none
noncomputable def yM:D->Option (List D)
 |.int j=>if -(2 ^ 62)<=j/\j<2 ^ 62 then some (yw j.toNat) else none
 |_=>none
noncomputable def Zg:D->Option (List D)
 |.lst a=>some a
 |_=>none
noncomputable def YH:D->Option (List D)
 |.tup a=>some a
 |_=>none
noncomputable def XM (e:M D)(g:GM):M Fl:=λρ=>(e ρ).bnd λx ρ=>(zO (g x ρ) ρ).bnd λρ _=>.ok .nx ρ
inductive FR where
 |ok (d:D) | exn (c:Addr) | bad
noncomputable def FR.of:Res Fl->FR
 |.ok .nx _=>.ok .non
 |.ok (.ret d) _=>.ok d
 |.ok _ _=>.bad
 |.exn c _=>.exn c
 |.bad=>.bad
noncomputable def FR.to:FR->Rho->Res D
 |.ok d,ρ=>.ok d ρ
 |.exn c,ρ=>.exn c ρ
 |.bad,_=>.bad
noncomputable def Zm (n:Nat)(args:List D):Rho:=args.map .fz++List.replicate (n - args.length) .un
noncomputable def Z4 (n:Nat)(b:M Fl)(args:List D):FR:=FR.of (b (Zm n args))
noncomputable def zR (F:List D->FR)(as:List (M D)):M D:=λρ=>(zk as ρ).bnd λds ρ=>(F ds).to ρ
end PM
namespace PM
open PySem
noncomputable def Vu (cs:List Addr) (iy:Nat)(m:M Fl):M Fl:=λρ=>match m ρ with
 |.exn c _=>if cs.contains c then .ok .nx ((List.replicate ρ.length Slot.un).set iy (.fz (.exc c))) else .bad
 |r=>r
noncomputable def yd (c:Addr):M Fl:=λρ=>.exn c ρ
end PM
namespace PM
open PySem
noncomputable def Vj:Slot->Slot
 |.fz d=>.fz d
 |_=>.un
noncomputable def yh (nt:Nat)(idx:List Nat)(ρ:Rho):Rho:=List.replicate nt .un++(idx.map λi=>Vj (ρ.getD i .un))++[.own []]
noncomputable def yA (k:Nat)(c:Option (M Bool))(e:M D):M Fl:=match c with
 |none=>Zx k e
 |some c=>ifM c (Zx k e) nxM
noncomputable def ZO (acc:Slot) (nt:Nat)(idx:List Nat)(ρ:Rho):Rho:=List.replicate nt .un++(idx.map λi=>Vj (ρ.getD i .un))++[acc]
noncomputable def yE (c:Option (M Bool))(bm:M Fl):M Fl:=match c with
 |none=>bm
 |some c=>ifM c bm nxM
theorem jw (k:Nat)(c:Option (M Bool))(e:M D):yA k c e=yE c (Zx k e):=by cases c<;>rfl
noncomputable def xN (k:Nat):Res Fl->Option (List D)
 |.ok .nx ρ'=>zl ρ'[k]?
 |_=>none
noncomputable def yS (mi:M (List D)) (nt:Nat)(idx:List Nat)(g:GM)(c:Option (M Bool))(e:M D):M D:=λρ=>(mi ρ).bnd λds ρ=>
 (zO (xN (nt+idx.length) (zj g (yA (nt+idx.length) c e) ds (yh nt idx ρ))) ρ).bnd λys ρ=>.ok (.lst ys) ρ
noncomputable def zq (f:D->Option (List D))(e:M D):M (List D):=λρ=>(e ρ).bnd λx ρ=>zO (f x) ρ
end PM
namespace PM
open PySem
noncomputable def ZP (own:Bool) (i:Nat)(mi:M (List D)) (nt:Nat)(idx:List Nat)(g:GM)(c:Option (M Bool))(e:M D):M Fl:=λρ=>(mi ρ).bnd λds ρ=>
 (zO (xN (nt+idx.length) (zj g (yA (nt+idx.length) c e) ds (yh nt idx ρ))) ρ).bnd λys ρ=>.ok .nx (ρ.set i (if own then .own ys else .fz (.lst ys)))
end PM
namespace PM
open PySem
noncomputable def zY (f:List D->Option D)(as:List (M D)):M D:=λρ=>(zk as ρ).bnd λds ρ=>zO (f ds) ρ
noncomputable def qo (a:M D):M D:=λρ=>(a ρ).bnd λx ρ=>(zO (zV x) ρ).bnd λk ρ=>.ok (.bl (!k)) ρ
noncomputable def YQ (e:M D)(g:GM)(b:M Fl):M Fl:=λρ=>(zk [e] ρ).bnd λxs ρ=>(zO (match xs with | [x]=>yM x | _=>none) ρ).bnd λds ρ=>zj g b ds ρ
noncomputable def isD (x y:D):Option D:=if X8 y=true then some (.bl (X8 x)) else none
noncomputable def ZB (f:D->Option D):List D->Option D
 |[x]=>f x
 |_=>none
noncomputable def xP:List D->Option (List Bool)
 |[]=>some []
 |.bl b::r=>(xP r).map (b :: ·)
 |_=>none
noncomputable def JD:D->Option D
 |.lst ds=>(xP ds).map λbs=>.bl (bs.all id)
 |_=>none
noncomputable def ZA:List Int->List Int
 |[]=>[]
 |a::r=>a::(ZA r).filter (· != a)
noncomputable def xY:D->Option D
 |.tup ds=>(Zv ds).bind λns=>if ns.length<1000 then some (.int (ZA ns).length) else none
 |.lst ds=>(Zv ds).bind λns=>if ns.length<1000 then some (.int (ZA ns).length) else none
 |_=>none
noncomputable def Xk (a:Int):List Int->List Int
 |[]=>[a]
 |b::r=>if a<b then a::b::r else if a=b then b::r else b::Xk a r
noncomputable def ZF:List Int->List Int
 |[]=>[]
 |a::r=>Xk a (ZF r)
noncomputable def YI:D->Option D
 |.lst ds=>(Zv ds).bind λns=>if ns.length<64 then some (.lst ((ZF ns).map .int)) else none
 |_=>none
noncomputable def uQ (ys:List D)(x:D):Option Nat:=ys.findIdx? λy=>y.eqv x
noncomputable def Yi (s x:D):Option D:=match s.items? with
 |some ys=>if x.plain && D.plains ys && decide (D.deeps ys<=30) then (uQ ys x).map λj=>.int (j:Nat) else none
 |none=>none
noncomputable def W0 (s x:D):Option D:=match s with
 |.lst ys=>if x.plain && D.plains ys && decide (D.deeps ys<=30) then some (.int ((ys.filter λy=>y.eqv x).length:Nat)) else none
 |_=>none
noncomputable def yX (i:Nat)(e:M D):M Fl:=λρ=>(e ρ).bnd λx ρ=>(zO (yM x) ρ).bnd λds ρ=>if ds.length<=sizeLine then .ok .nx (ρ.set i (.own ds)) else .bad
noncomputable def Xd (f:D->D->Option D) (i:Nat)(e:M D):M D:=λρ=>(zO (zl ρ[i]?) ρ).bnd λ_ ρ=>(e ρ).bnd λx ρ=>(zO (zl ρ[i]?) ρ).bnd λds ρ=>zO (f (.lst ds) x) ρ
noncomputable def Wf (f:D->D->Option D)(a b:M D):M D:=λρ=>(a ρ).bnd λx ρ=>(zO (YH x) ρ).bnd λ_ ρ=>(b ρ).bnd λy ρ=>zO (f x y) ρ
noncomputable def X9 (f:D->Bool):D->Option D
 |.dct _ _=>none
 |.dcT _ _=>none
 |.exc _=>none
 |d=>some (.bl (f d))
noncomputable def D.isBl:D->Bool
 |.bl _=>true
 |_=>false
noncomputable def yQ (f:Addr->Option Bool):D->Option D
 |.exc c=>(f c).map .bl
 |_=>none
end PM
namespace PM
open PySem
theorem U2:∃ n:Nat,n=1000000000:=⟨_,rfl⟩
noncomputable def jo:Nat:=Classical.choose U2
theorem U3:jo=1000000000:=Classical.choose_spec U2
structure Cls where
 be:Addr
 bm:Addr
 bw:Addr
 tm:Addr
 bt:Addr
noncomputable def Cls.all (A:Cls):List Addr:=[A.bm,A.bw,A.tm,A.bt]
noncomputable def Cls.is (A:Cls)(c x:Addr):Option Bool:=if A.all.contains x then some (x == c) else none
noncomputable def Cls.isVE (A:Cls)(x:Addr):Option Bool:=if A.all.contains x then some true else none
noncomputable def JC:D->Option D
 |.lst ds=>(xP ds).map λbs=>.bl (bs.any id)
 |_=>none
end PM
namespace PM
open PySem
noncomputable def xR (k:Nat):M Fl:=λρ=>(zO (yD ρ[k]?) ρ).bnd λdss ρ=>if dss.length<sizeLine then .ok .nx (ρ.set k (.own2 (dss++[[]]))) else .bad
noncomputable def Vh (k:Nat):Res Fl->Option (List (List D))
 |.ok .nx ρ'=>yD ρ'[k]?
 |_=>none
noncomputable def YJ (i:Nat)(mi:M (List D)) (nt:Nat)(idx:List Nat)(g:GM):M Fl:=λρ=>(mi ρ).bnd λds ρ=>
 (zO (Vh (nt+idx.length) (zj g (xR (nt+idx.length)) ds (ZO (.own2 []) nt idx ρ))) ρ).bnd λdss ρ=>.ok .nx (ρ.set i (.own2 dss))
noncomputable def WE (i:Nat)(e:M D) (n:Nat):M Fl:=λρ=>(zO (yD ρ[i]?) ρ).bnd λ_ ρ=>(e ρ).bnd λx ρ=>(zO (yD ρ[i]?) ρ).bnd λdss ρ=>(zO (YC x) ρ).bnd λk ρ=>(zO (yf dss.length k) ρ).bnd λj ρ=>
 (zO (dss[j]?) ρ).bnd λds ρ=>(zO (UU ρ[n]?) ρ).bnd λy ρ=>if ds.length<sizeLine then .ok .nx (ρ.set i (.own2 (dss.set j (ds++[y])))) else .bad
noncomputable def jp (i:Nat)(b:M Fl):M Fl:=λρ=>(zO (yD ρ[i]?) ρ).bnd λdss ρ=>b (ρ.set i (.fz (.lst (dss.map .lst))))
end PM
namespace PM
open PySem
end PM
namespace PM
open PySem PySem.Spec PyProof.Rows L2
noncomputable abbrev St:=L2.St
noncomputable def Vg (a c:Addr):HO:=.ext λh=>∃ o vs,h.get? a=some o/\o.cls=.ref c/\o.data=.fields vs
section
variable (K:PySem.W.Frag)
mutual
noncomputable def Rep (G:Hp):D->V->Prop
 |.non,v=>v=.non
 |.bl b,v=>v=.bl b
 |.int i,v=>v=.int i
 |.str x,v=>v=.str x
 |.tup ds,v=>∃ a vs,v=.ref a/\G a=some (.tup vs)/\zF G ds vs
 |.lst ds,v=>∃ a vs,v=.ref a/\SqL K G a vs/\zF G ds vs
 |.exc c,v=>∃ a,v=.ref a/\G a=some (Vg a c)
 |.dct ks ds,v=>∃ a vs,v=.ref a/\ks.length=ds.length/\zF G ds vs/\G a=some (.dK ((ks.map Sum.inl).zip vs))
 |.dcT ks ds,v=>∃ a o vs,v=.ref a/\ks.length=ds.length/\zF G ds vs/\G a=some (.frz o (.dT ((ks.map (List.map (Sum.inl:Int->Key))).zip vs)))
noncomputable def zF (G:Hp):List D->List V->Prop
 |[],vs=>vs=[]
 |d::ds,vs=>∃ v r,vs=v::r/\Rep G d v/\zF G ds r
end
end
theorem SqT.same {K:PySem.W.Frag}{H H':Hp}{a:Addr}{xs:List V}(e:Same H H')(h:SqT K H a xs):SqT K H' a xs:=by
 rcases h with (h | ⟨o,h⟩) | h
 ·exact .inl (.inl (e _ _ h))
 ·exact .inl (.inr ⟨o,e _ _ h⟩)
 ·exact .inr h
instance sqtCoe {K:PySem.W.Frag}{H:Hp}{a:Addr}{xs:List V}:Coe (H a=some (HO.tup xs)) (SqT K H a xs):=⟨SqT.of⟩
section
variable {K:PySem.W.Frag}{G G' H H':Hp}
mutual
theorem Rep.mono (e:Same G G'):∀ {d:D}{v:V},Rep K G d v->Rep K G' d v
 |.non,_,h=>h
 |.bl _,_,h=>h
 |.int _,_,h=>h
 |.str _,_,h=>h
 |.tup ds,v,h=>by
  unfold Rep at h ⊢
  obtain⟨a,vs,h1,h2,h3⟩:=h
  exact⟨a,vs,h1,e _ _ h2,zF.mono e h3⟩
 |.lst ds,v,h=>by
  unfold Rep at h ⊢
  obtain⟨a,vs,h1,h2,h3⟩:=h
  exact⟨a,vs,h1,e.seq h2,zF.mono e h3⟩
 |.exc c,v,h=>by
  unfold Rep at h ⊢
  obtain⟨a,h1,h2⟩:=h
  exact⟨a,h1,e _ _ h2⟩
 |.dct ks ds,v,h=>by
  unfold Rep at h ⊢
  obtain⟨a,vs,h1,h2,h3,h4⟩:=h
  exact⟨a,vs,h1,h2,zF.mono e h3,e _ _ h4⟩
 |.dcT ks ds,v,h=>by
  unfold Rep at h ⊢
  obtain⟨a,o,vs,h1,h2,h3,h4⟩:=h
  exact⟨a,o,vs,h1,h2,zF.mono e h3,e _ _ h4⟩
theorem zF.mono (e:Same G G'):∀ {ds:List D}{vs:List V},zF K G ds vs->zF K G' ds vs
 |[],_,h=>h
 |d::ds,vs,h=>by
  unfold zF at h ⊢
  obtain⟨v,r,h1,h2,h3⟩:=h
  exact⟨v,r,h1,Rep.mono e h2,zF.mono e h3⟩
end
theorem zF.nil:zF K G [] []:=by unfold zF;rfl
theorem zF.cons {d:D}{v:V}{ds:List D}{vs:List V}(h:Rep K G d v)(t:zF K G ds vs):zF K G (d::ds) (v::vs):=by
 unfold zF
 exact⟨v,vs,rfl,h,t⟩
theorem zF.nil_inv {vs:List V}(h:zF K G [] vs):vs=[]:=by unfold zF at h;exact h
theorem zF.cons_inv {d:D}{ds:List D}{vs:List V}(h:zF K G (d::ds) vs):∃ v r,vs=v::r/\Rep K G d v/\zF K G ds r:=by unfold zF at h;exact h
theorem zF.len:∀ {ds:List D}{vs:List V},zF K G ds vs->ds.length=vs.length
 |[],_,h=>by rw[h.nil_inv];rfl
 |d::ds,_,h=>by
  obtain⟨v,r,rfl,_,t⟩:=h.cons_inv
  simp[t.len]
theorem zF.get:∀ {ds:List D}{vs:List V}{i:Nat}{d:D},zF K G ds vs->ds[i]? = some d->∃ v,vs[i]? = some v/\Rep K G d v
 |[],_,_,_,_,e=>by simp at e
 |d::ds,_,0,_,h,e=>by
  obtain⟨v,r,rfl,h1,t⟩:=h.cons_inv
  simp at e
  subst e
  exact⟨v,rfl,h1⟩
 |d::ds,_,i+1,_,h,e=>by
  obtain⟨v,r,rfl,h1,t⟩:=h.cons_inv
  simp at e
  simpa using t.get e
theorem zF.app:∀ {ds es:List D}{vs ws:List V},zF K G ds vs->zF K G es ws->zF K G (ds++es) (vs++ws)
 |[],_,_,_,h,k=>by rw[h.nil_inv];exact k
 |d::ds,_,_,_,h,k=>by
  obtain⟨v,r,rfl,h1,t⟩:=h.cons_inv
  exact zF.cons h1 (t.app k)
theorem zF.take:∀ {ds:List D}{vs:List V} (n:Nat),zF K G ds vs->zF K G (ds.take n) (vs.take n)
 |_,_,0,_=>by simpa using zF.nil
 |[],_,n+1,h=>by rw[h.nil_inv];simpa using zF.nil
 |d::ds,_,n+1,h=>by
  obtain⟨v,r,rfl,h1,t⟩:=h.cons_inv
  exact zF.cons h1 (t.take n)
theorem zF.drop:∀ {ds:List D}{vs:List V} (n:Nat),zF K G ds vs->zF K G (ds.drop n) (vs.drop n)
 |_,_,0,h=>h
 |[],_,n+1,h=>by rw[h.nil_inv];simpa using zF.nil
 |d::ds,_,n+1,h=>by
  obtain⟨v,r,rfl,h1,t⟩:=h.cons_inv
  exact t.drop n
theorem zF.set {d:D}{v:V}(k:Rep K G d v):∀ {ds:List D}{vs:List V} (n:Nat),zF K G ds vs->zF K G (ds.set n d) (vs.set n v)
 |[],_,n,h=>by rw[h.nil_inv];simpa using zF.nil
 |d::ds,_,0,h=>by
  obtain⟨v,r,rfl,h1,t⟩:=h.cons_inv
  exact zF.cons k t
 |d::ds,_,n+1,h=>by
  obtain⟨v,r,rfl,h1,t⟩:=h.cons_inv
  exact zF.cons h1 (t.set k n)
theorem zF.erase:∀ {ds:List D}{vs:List V} (n:Nat),zF K G ds vs->zF K G (ds.eraseIdx n) (vs.eraseIdx n)
 |[],_,n,h=>by rw[h.nil_inv];simpa using zF.nil
 |d::ds,_,0,h=>by
  obtain⟨v,r,rfl,h1,t⟩:=h.cons_inv
  exact t
 |d::ds,_,n+1,h=>by
  obtain⟨v,r,rfl,h1,t⟩:=h.cons_inv
  exact zF.cons h1 (t.erase n)
theorem zF.rep {ds:List D}{vs:List V}(h:zF K G ds vs):∀ n:Nat,zF K G (List.replicate n ds).flatten (List.replicate n vs).flatten
 |0=>by simpa using zF.nil
 |n+1=>by
  rw[List.replicate_succ,List.replicate_succ,List.flatten_cons,List.flatten_cons]
  exact h.app (zF.rep h n)
theorem zF.ofInts (ns:List Int):zF K G (ns.map D.int) (ns.map V.int):=by
 induction ns with
 |nil=>exact zF.nil
 |cons n r ih=>exact zF.cons (by unfold Rep;rfl) ih
noncomputable def NT (o:Option HO):Prop:=o≠none/\∀ xs,o≠some (.tup xs)
theorem NT.lst {o:Option HO}{xs:List V}(h:o=some (.lst xs)):NT o:=by rw[h];exact⟨λz=>(by cases z),λ_ z=>by cases z⟩
theorem NT.dK {o:Option HO}{xs:List (Key×V)}(h:o=some (.dK xs)):NT o:=by rw[h];exact⟨λz=>(by cases z),λ_ z=>by cases z⟩
theorem NT.ins {o:Option HO}{C dx:Addr}{fs:List (Str×V)}(h:o=some (.ins C dx fs)):NT o:=by rw[h];exact⟨λz=>(by cases z),λ_ z=>by cases z⟩
theorem NT.dT {o:Option HO}{xs:List (List Key×V)}(h:o=some (.dT xs)):NT o:=by rw[h];exact⟨λz=>(by cases z),λ_ z=>by cases z⟩
structure Ext (G H G' H':Hp):Prop where
 g:Same G G'
 s:Same G' H'
 n:∀ b,NT (H b)->G b=none->G' b=none
 t:Same H H'
theorem NT.same (h:NT (H b))(s:Same H H'):NT (H' b):=by
 cases q:H b with
 |none=>exact absurd q h.1
 |some o=>rw[s _ _ q,<-q];exact h
theorem Ext.refl (h:Same G H):Ext G H G H:=⟨Same.refl _,h,λ_ _ e=>e,Same.refl _⟩
theorem Ext.trans {G1 H1 G2 H2:Hp}(a:Ext G H G1 H1)(b:Ext G1 H1 G2 H2):Ext G H G2 H2:=
 ⟨a.g.trans b.g,b.s,λc h e=>b.n c (h.same a.t) (a.n c h e),a.t.trans b.t⟩
theorem Same.upd {p:Addr}{o:HO}(h:H p=none):Same H (upd H p o):=λb u e=>by rw[upd_ne (ne_of_none e h)];exact e
theorem Ext.new {p:Addr}{o:HO}(h:Same G H)(hp:H p=none):Ext G H (upd G p o) (upd H p o):=by
 have gp:G p=none:=h.free hp
 refine⟨Same.upd gp,λb u e=>?_,λb hb e=>?_,Same.upd hp⟩
 ·by_cases q:b=p
  ·subst q;rw[upd_same]at e ⊢;exact e
  ·rw[upd_ne q]at e ⊢;exact h _ _ e
 ·rw[upd_ne (λq=>hb.1 (by rw[q];exact hp))];exact e
end
noncomputable def Slot.mut:Slot->Bool
 |.own _=>true
 |.dic _=>true
 |.dicT _=>true
 |.obj _ _=>true
 |.junk _=>true
 |_=>false
noncomputable def Xp (G H0:Hp):Hp:=λb=>match H0 b with
 |some (.lst _)=>none
 |_=>G b
theorem xZ {G H0:Hp}{b:Addr}{u:HO}(h:Xp G H0 b=some u):G b=some u/\∀ ws,H0 b≠some (.lst ws):=by
 unfold Xp at h
 split at h
 ·cases h
 ·rename_i n;exact⟨h,λws q=>n ws q⟩
theorem WB {G H0:Hp}{b:Addr}{u:HO}(h:G b=some u)(n:∀ ws,H0 b≠some (.lst ws)):Xp G H0 b=some u:=by
 unfold Xp
 split
 ·rename_i ws q;exact absurd q (n ws)
 ·exact h
theorem kW {G H0:Hp}:Same (Xp G H0) G:=λb u q=>(xZ q).1
theorem QO {G G' H0:Hp}(h:Same G G'):Same (Xp G H0) (Xp G' H0):=λb u q=>WB (h _ _ (xZ q).1) (xZ q).2
noncomputable def YW (K:PySem.W.Frag)(H0 G:Hp)(fs:List (Str×Bool×D))(ws:List (Str×V)):Prop:=Paired (λ(p:Str×Bool×D)(q:Str×V)=>q.1=p.1/\Rep K (if p.2.1=true then Xp G H0 else G) p.2.2 q.2) fs ws
theorem YW.mono {K:PySem.W.Frag}{H0 G G':Hp}{fs:List (Str×Bool×D)}{ws:List (Str×V)}(e:Same G G')(h:YW K H0 G fs ws):YW K H0 G' fs ws:=Paired.mapP h λp q z=>⟨z.1,by
 by_cases c:p.2.1=true
 ·rw[if_pos c];have:=z.2;rw[if_pos c]at this;exact this.mono (QO e)
 ·rw[if_neg c];have:=z.2;rw[if_neg c]at this;exact this.mono e⟩
noncomputable def km (K:PySem.W.Frag)(G:Hp)(kvs:List (Int×D))(ws:List (Key×V)):Prop:=Paired (λ(p:Int×D)(q:Key×V)=>q.1=Sum.inl p.1/\Rep K G p.2 q.2) kvs ws
noncomputable def qG (K:PySem.W.Frag)(G:Hp)(kvs:List (List Int×D))(ws:List (List Key×V)):Prop:=Paired (λ(p:List Int×D)(q:List Key×V)=>q.1=p.1.map (Sum.inl:Int->Key)/\Rep K G p.2 q.2) kvs ws
noncomputable def InR (K:PySem.W.Frag)(H0 G H:Hp)(ds:List D)(b:Addr):Prop:=∃ vs,H b=some (.lst vs)/\G b=none/\H0 b=none/\zF K G ds vs
noncomputable def YV (K:PySem.W.Frag)(H0 G H:Hp)(s:Slot)(o:Option (Option V)):Prop:=match s with
 |.un=>True
 |.fz d=>∃ v,o=some (some v)/\Rep K G d v
 |.own ds=>∃ a vs,o=some (some (.ref a))/\H a=some (.lst vs)/\G a=none/\H0 a=none/\zF K G ds vs
 |.dic kvs=>∃ a ws,o=some (some (.ref a))/\H a=some (.dK ws)/\G a=none/\H0 a=none/\km K G kvs ws
 |.dicT kvs=>∃ a ws,o=some (some (.ref a))/\H a=some (.dT ws)/\G a=none/\H0 a=none/\qG K G kvs ws
 |.own2 dss=>∃ (a:Addr)(as:List Addr),o=some (some (.ref a))/\H a=some (.lst (as.map V.ref))/\G a=none/\H0 a=none/\a ∉ as/\as.Nodup/\as.length=dss.length/\∀ (k:Nat)(b:Addr)(ds:List D),as[k]? = some b->dss[k]? = some ds->InR K H0 G H ds b
 |.ownM ms=>∃ (a:Addr)(ts as:List Addr),o=some (some (.ref a))/\H a=some (.lst (ts.map V.ref))/\G a=none/\H0 a=none/\a ∉ as/\as.Nodup/\ts.length=ms.length/\as.length=ms.length ∧
   ∀ (k:Nat)(t b:Addr)(g:Bool) (n:Int)(ds:List D),ts[k]? = some t->as[k]? = some b->ms[k]? = some (g,n,ds)->H t=some (.tup [.bl g,.int n,.ref b])/\InR K H0 G H ds b
 |.obj C fs=>∃ (a dx:Addr)(ws:List (Str×V)),o=some (some (.ref a))/\H a=some (.ins C dx ws)/\G a=none/\H0 a=none/\YW K H0 G fs ws
 |.junk n=>∃ (a:Addr)(vs:List V),o=some (some (.ref a))/\H a=some (.lst vs)/\G a=none/\H0 a=none/\vs.length=n
theorem km.mono {K:PySem.W.Frag}{G G':Hp}{kvs:List (Int×D)}{ws:List (Key×V)}(e:Same G G')(h:km K G kvs ws):km K G' kvs ws:=Paired.mapP h λ_ _ q=>⟨q.1,q.2.mono e⟩
theorem qG.mono {K:PySem.W.Frag}{G G':Hp}{kvs:List (List Int×D)}{ws:List (List Key×V)}(e:Same G G')(h:qG K G kvs ws):qG K G' kvs ws:=Paired.mapP h λ_ _ q=>⟨q.1,q.2.mono e⟩
noncomputable def Slot.foot (H:Hp)(s:Slot)(o:Option (Option V))(b:Addr):Prop:=match s with
 |.own _=>o=some (some (.ref b))
 |.dic _=>o=some (some (.ref b))
 |.dicT _=>o=some (some (.ref b))
 |.own2 _=>o=some (some (.ref b))\/∃ a vs,o=some (some (.ref a))/\H a=some (.lst vs)/\V.ref b ∈ vs
 |.obj _ _=>o=some (some (.ref b))
 |.junk _=>o=some (some (.ref b))
 |.ownM _=>o=some (some (.ref b))\/∃ a vs t ws,o=some (some (.ref a))/\H a=some (.lst vs)/\V.ref t ∈ vs/\H t=some (.tup ws)/\V.ref b ∈ ws
 |_=>False
theorem Wu {H:Hp}{s:Slot}{o:Option (Option V)}{b:Addr}(m:s.mut=true)(h:s.foot H o b):o=some (some (.ref b)):=by
 cases s<;>first | exact h | cases m
theorem Wc {H:Hp}{s:Slot}{o:Option (Option V)}{b:Addr}(m:s.mut=true)(h:o=some (some (.ref b))):s.foot H o b:=by
 cases s<;>first | exact h | cases m
structure Hold (K:PySem.W.Frag)(G0 H0:Hp)(ρ:Rho)(σ:St)(G H:Hp):Prop where
 e:Ext G0 H0 G H
 b:Same H0 H
 sl:∀ (i:Nat)(s:Slot),ρ[i]? = some s->YV K H0 G H s σ[i]?
 ds:∀ (i j:Nat)(si sj:Slot)(a:Addr),ρ[i]? = some si->ρ[j]? = some sj->si.foot H σ[i]? a->sj.foot H σ[j]? a->i=j
 len:ρ.length=σ.length
section
variable {K:PySem.W.Frag}{G0 H0:Hp}{ρ:Rho}{σ σ':St}{G H G' H':Hp}
theorem YV.foot_in {s:Slot}{o:Option (Option V)}{b:Addr}(r:YV K H0 G H s o)(f:s.foot H o b):NT (H b)/\G b=none/\H0 b=none:=by
 cases s with
 |un=>exact f.elim
 |fz d=>exact f.elim
 |own ds=>
  obtain⟨a,vs,e1,e2,e3,e4,_⟩:=r
  have f:o=some (some (.ref b)):=f
  rw[e1]at f
  cases f
  exact⟨NT.lst e2,e3,e4⟩
 |dic ds=>
  obtain⟨a,vs,e1,e2,e3,e4,_⟩:=r
  have f:o=some (some (.ref b)):=f
  rw[e1]at f
  cases f
  exact⟨NT.dK e2,e3,e4⟩
 |dicT ds=>
  obtain⟨a,vs,e1,e2,e3,e4,_⟩:=r
  have f:o=some (some (.ref b)):=f
  rw[e1]at f
  cases f
  exact⟨NT.dT e2,e3,e4⟩
 |own2 dss=>
  obtain⟨a,as,e1,e2,e3,e4,_,_,hl,r⟩:=r
  rcases f with f | ⟨a',vs,f1,f2,f3⟩
  ·rw[e1]at f
   cases f
   exact⟨NT.lst e2,e3,e4⟩
  ·rw[e1]at f1
   cases f1
   rw[e2]at f2
   cases f2
   obtain⟨b',hb,eb⟩:=List.mem_map.mp f3
   cases eb
   obtain⟨k,hk⟩:=List.getElem?_of_mem hb
   have hk':k<dss.length:=by rw[<-hl];exact (List.getElem?_eq_some_iff.mp hk).1
   obtain⟨vs,g1,g2,g3,_⟩:=r k b _ hk (List.getElem?_eq_getElem hk')
   exact⟨NT.lst g1,g2,g3⟩
 |obj C fs=>
  obtain⟨a,dx,ws,e1,e2,e3,e4,_⟩:=r
  have f:o=some (some (.ref b)):=f
  rw[e1]at f
  cases f
  exact⟨NT.ins e2,e3,e4⟩
 |junk n=>
  obtain⟨a,vs,e1,e2,e3,e4,_⟩:=r
  have f:o=some (some (.ref b)):=f
  rw[e1]at f
  cases f
  exact⟨NT.lst e2,e3,e4⟩
 |ownM ms=>
  obtain⟨a,ts,as,e1,e2,e3,e4,_,_,hl1,hl2,r⟩:=r
  rcases f with f | ⟨a',vs,t,ws,f1,f2,f3,f4,f5⟩
  ·rw[e1]at f
   cases f
   exact⟨NT.lst e2,e3,e4⟩
  ·rw[e1]at f1
   cases f1
   rw[e2]at f2
   cases f2
   obtain⟨t',ht,et⟩:=List.mem_map.mp f3
   cases et
   obtain⟨k,hk⟩:=List.getElem?_of_mem ht
   have hk':k<ms.length:=by rw[<-hl1];exact (List.getElem?_eq_some_iff.mp hk).1
   obtain⟨g1,vs,g2,g3,g4,_⟩:=r k t as[k] ms[k].1 ms[k].2.1 ms[k].2.2 hk (List.getElem?_eq_getElem (by omega)) (List.getElem?_eq_getElem hk')
   rw[f4]at g1
   cases g1
   have:b=as[k]:=by simpa using f5
   rw[this]
   exact⟨NT.lst g2,g3,g4⟩
theorem yI {s:Slot}{o:Option (Option V)}{b:Addr}(r:YV K H0 G H s o)(tp:∀ t ws,H t=some (.tup ws)->H' t=some (.tup ws))(hk:∀ b,s.foot H o b->H' b=H b)(f:s.foot H' o b):s.foot H o b:=by
 cases s with
 |un=>exact f
 |fz d=>exact f
 |own ds=>exact f
 |dic ds=>exact f
 |dicT ds=>exact f
 |obj C fs=>exact f
 |junk n=>exact f
 |ownM ms=>
  rcases f with f | ⟨a,vs,t,ws,f1,f2,f3,f4,f5⟩
  ·exact .inl f
  ·have f2:=(hk a (.inl f1)).symm.trans f2
   obtain⟨a',ts,as,e1,e2,e3,e4,_,_,hl1,hl2,r⟩:=r
   rw[e1]at f1
   cases f1
   rw[e2]at f2
   cases f2
   obtain⟨t',ht,et⟩:=List.mem_map.mp f3
   cases et
   obtain⟨k,hk⟩:=List.getElem?_of_mem ht
   have hk':k<ms.length:=by rw[<-hl1];exact (List.getElem?_eq_some_iff.mp hk).1
   obtain⟨g1,_⟩:=r k t as[k] ms[k].1 ms[k].2.1 ms[k].2.2 hk (List.getElem?_eq_getElem (by omega)) (List.getElem?_eq_getElem hk')
   have:=tp _ _ g1
   rw[f4]at this
   cases this
   exact .inr ⟨a,_,t,_,e1,e2,f3,g1,f5⟩
 |own2 dss=>
  rcases f with f | ⟨a,vs,f1,f2,f3⟩
  ·exact .inl f
  ·exact .inr ⟨a,vs,f1,(hk a (.inl f1)).symm.trans f2,f3⟩
theorem YV.keep {s:Slot}{o:Option (Option V)}(r:YV K H0 G H s o)(tp:∀ t ws,H t=some (.tup ws)->H' t=some (.tup ws))(sg:Same G G')(hk:∀ b,s.foot H o b->H' b=H b/\G' b=none):YV K H0 G' H' s o:=by
 cases s with
 |un=>exact trivial
 |fz d=>obtain⟨v,e1,r⟩:=r;exact⟨v,e1,r.mono sg⟩
 |own ds=>
  obtain⟨a,vs,e1,e2,e3,e4,r⟩:=r
  obtain⟨k1,k2⟩:=hk a e1
  exact⟨a,vs,e1,k1.trans e2,k2,e4,r.mono sg⟩
 |dic ds=>
  obtain⟨a,vs,e1,e2,e3,e4,r⟩:=r
  obtain⟨k1,k2⟩:=hk a e1
  exact⟨a,vs,e1,k1.trans e2,k2,e4,r.mono sg⟩
 |dicT ds=>
  obtain⟨a,vs,e1,e2,e3,e4,r⟩:=r
  obtain⟨k1,k2⟩:=hk a e1
  exact⟨a,vs,e1,k1.trans e2,k2,e4,r.mono sg⟩
 |own2 dss=>
  obtain⟨a,as,e1,e2,e3,e4,n1,n2,hl,r⟩:=r
  obtain⟨k1,k2⟩:=hk a (.inl e1)
  refine⟨a,as,e1,k1.trans e2,k2,e4,n1,n2,hl,λk b ds h1 h2=>?_⟩
  obtain⟨vs,g1,g2,g3,g4⟩:=r k b ds h1 h2
  obtain⟨j1,j2⟩:=hk b (.inr ⟨a,_,e1,e2,List.mem_map_of_mem (List.mem_of_getElem? h1)⟩)
  exact⟨vs,j1.trans g1,j2,g3,g4.mono sg⟩
 |obj C fs=>
  obtain⟨a,dx,ws,e1,e2,e3,e4,r⟩:=r
  obtain⟨k1,k2⟩:=hk a e1
  exact⟨a,dx,ws,e1,k1.trans e2,k2,e4,r.mono sg⟩
 |junk n=>
  obtain⟨a,vs,e1,e2,e3,e4,e5⟩:=r
  obtain⟨k1,k2⟩:=hk a e1
  exact⟨a,vs,e1,k1.trans e2,k2,e4,e5⟩
 |ownM ms=>
  obtain⟨a,ts,as,e1,e2,e3,e4,n1,n2,hl1,hl2,r⟩:=r
  obtain⟨k1,k2⟩:=hk a (.inl e1)
  refine⟨a,ts,as,e1,k1.trans e2,k2,e4,n1,n2,hl1,hl2,λk t b g n ds h1 h2 h3=>?_⟩
  obtain⟨g0,vs,g1,g2,g3,g4⟩:=r k t b g n ds h1 h2 h3
  obtain⟨j1,j2⟩:=hk b (.inr ⟨a,_,t,_,e1,e2,List.mem_map_of_mem (List.mem_of_getElem? h1),g0,by simp⟩)
  exact⟨tp _ _ g0,vs,j1.trans g1,j2,g3,g4.mono sg⟩
theorem xU {α:Type}{l:List α}{i j:Nat}{x y:α}(h:(l.set i x)[j]? = some y):(j=i/\i<l.length/\y=x)\/(j≠i/\l[j]? = some y):=by
 by_cases e:j=i
 ·subst e
  rw[List.getElem?_set_self']at h
  cases q:l[j]? with
  |none=>rw[q]at h;simp at h
  |some z=>
   rw[q]at h
   simp at h
   exact .inl ⟨rfl,(List.getElem?_eq_some_iff.mp q).1,h.symm⟩
 ·rw[List.getElem?_set_ne (Ne.symm e)]at h
  exact .inr ⟨e,h⟩
theorem ZV {α:Type}{l:List α}{i:Nat}{x:α}(h:i<l.length):(l.set i x)[i]? = some x:=by
 rw[List.getElem?_set_self h]
theorem Hold.grow (h:Hold K G0 H0 ρ σ G H)(x:Ext G H G' H')(hs:Same H H'):Hold K G0 H0 ρ σ G' H':=by
 have kp:∀ (i:Nat)(s:Slot),ρ[i]? = some s->∀ b,s.foot H σ[i]? b->H' b=H b/\G' b=none:=λi s e b f=>by
  obtain⟨g1,g2,g3⟩:=(h.sl i s e).foot_in f
  refine⟨?_,x.n b g1 g2⟩
  cases q:H b with
  |none=>exact absurd q g1.1
  |some o=>exact hs _ _ q
 have tp:∀ t ws,H t=some (.tup ws)->H' t=some (.tup ws):=λ_ _ q=>hs _ _ q
 refine⟨h.e.trans x,h.b.trans hs,λi s e=>(h.sl i s e).keep tp x.g (kp i s e),λi j si sj a e1 e2 f1 f2=>?_,h.len⟩
 exact h.ds i j si sj a e1 e2 (yI (h.sl i si e1) tp (λb f=>(kp i si e1 b f).1) f1) (yI (h.sl j sj e2) tp (λb f=>(kp j sj e2 b f).1) f2)
theorem Hold.put {i:Nat}{s':Slot}(h:Hold K G0 H0 ρ σ G H)(tp:∀ t ws,H t=some (.tup ws)->H' t=some (.tup ws))(x:Ext G0 H0 G' H')(b:Same H0 H')(sg:Same G G')
  (keep:∀ (j:Nat)(t:Slot)(c:Addr),j≠i->ρ[j]? = some t->t.foot H σ[j]? c->H' c=H c/\G' c=none)(hσ:∀ j,j≠i->σ'[j]? = σ[j]?)(hl:σ'.length=σ.length)
  (r:i<ρ.length->YV K H0 G' H' s' σ'[i]?)(f:∀ (c:Addr),s'.foot H' σ'[i]? c->∀ (j:Nat)(t:Slot),j≠i->ρ[j]? = some t->¬ t.foot H σ[j]? c):Hold K G0 H0 (ρ.set i s') σ' G' H':=by
 refine⟨x,b,λj t e=>?_,λj k sj sk a e1 e2 f1 f2=>?_,by rw[List.length_set,hl];exact h.len⟩
 ·rcases xU e with ⟨rfl,hl,rfl⟩ | ⟨ne,e⟩
  ·exact r hl
  ·rw[hσ j ne]
   exact (h.sl j t e).keep tp sg λc fc=>keep j t c ne e fc
 ·rcases xU e1 with ⟨rfl,hl1,rfl⟩ | ⟨n1,q1⟩
  ·rcases xU e2 with ⟨rfl,_,rfl⟩ | ⟨n2,e2⟩
   ·rfl
   ·rw[hσ k n2]at f2
    exact absurd (yI (h.sl k sk e2) tp (λc fc=>(keep k sk c n2 e2 fc).1) f2) (f a f1 k sk n2 e2)
  ·skip
   rw[hσ j n1]at f1
   have f1:=yI (h.sl j sj q1) tp (λc fc=>(keep j sj c n1 q1 fc).1) f1
   rcases xU e2 with ⟨rfl,_,rfl⟩ | ⟨n2,e2⟩
   ·exact absurd f1 (f a f2 j sj n1 q1)
   ·rw[hσ k n2]at f2
    exact h.ds j k sj sk a q1 e2 f1 (yI (h.sl k sk e2) tp (λc fc=>(keep k sk c n2 e2 fc).1) f2)
theorem Hold.setFz {i:Nat}{d:D}{v:V}(h:Hold K G0 H0 ρ σ G H)(r:Rep K G d v):Hold K G0 H0 (ρ.set i (.fz d)) (σ.set i (some v)) G H:=
 h.put (λ_ _ q=>q) h.e h.b (Same.refl _) (λj t c _ e f=>⟨rfl,((h.sl j t e).foot_in f).2.1⟩) (λj n=>List.getElem?_set_ne (Ne.symm n)) (by rw[List.length_set]) (λhl=>⟨v,ZV (by rw[<-h.len];exact hl),r⟩) λc f=>f.elim
theorem Hold.unk {i:Nat}{o:Option V}(h:Hold K G0 H0 ρ σ G H):Hold K G0 H0 (ρ.set i .un) (σ.set i o) G H:=
 h.put (λ_ _ q=>q) h.e h.b (Same.refl _) (λj t c _ e f=>⟨rfl,((h.sl j t e).foot_in f).2.1⟩) (λj n=>List.getElem?_set_ne (Ne.symm n)) (by rw[List.length_set]) (λ_=>trivial) λc f=>f.elim
theorem Hold.mutAt {j:Nat}{s:Slot}{a:Addr}(h:Hold K G0 H0 ρ σ G H)(e:ρ[j]? = some s)(m:s.foot H σ[j]? a):H a≠none:=((h.sl j s e).foot_in m).1.1
theorem Hold.setNew {i:Nat}{s:Slot}{p:Addr}{o:HO}(h:Hold K G0 H0 ρ σ G H)(hp:H p=none)
  (r:YV K H0 G (upd H p o) s (some (some (.ref p))))(m:s.mut=true):Hold K G0 H0 (ρ.set i s) (σ.set i (some (.ref p))) G (upd H p o):=by
 have hs:Same H (upd H p o):=Same.upd hp
 refine h.put (λ_ _ q=>hs _ _ q) ⟨h.e.g,λb u e=>hs _ _ (h.e.s _ _ e),h.e.n,h.b.trans hs⟩ (h.b.trans hs) (Same.refl _) (λj t c _ e f=>⟨upd_ne λz=>h.mutAt e f (by rw[z];exact hp),((h.sl j t e).foot_in f).2.1⟩) (λj n=>List.getElem?_set_ne (Ne.symm n)) (by rw[List.length_set])
  (λhl=>by rw[ZV (by rw[<-h.len];exact hl)];exact r) λc f j t n e f'=>?_
 ·by_cases hl:i<σ.length
  ·rw[ZV hl]at f
   have:=Wu m f
   cases this
   exact h.mutAt e f' hp
  ·rw[List.getElem?_eq_none (by rw[List.length_set];omega)]at f
   have:=Wu m f
   cases this
theorem Hold.setAt {i:Nat}{s s':Slot}{a:Addr}{o:HO}(h:Hold K G0 H0 ρ σ G H)(e:ρ[i]? = some s)(fa:s.foot H σ[i]? a)
  (r:YV K H0 G (upd H a o) s' σ[i]?)(f':∀ c,s'.foot (upd H a o) σ[i]? c->s.foot H σ[i]? c):Hold K G0 H0 (ρ.set i s') σ G (upd H a o):=by
 obtain⟨na,ga,h0⟩:=(h.sl i s e).foot_in fa
 have keep:∀ b u,b≠a->H b=some u->upd H a o b=some u:=λb u n q=>by rw[upd_ne n];exact q
 refine h.put (λt ws q=>keep t _ (λz=>na.2 ws (by rw[<-z];exact q)) q) ⟨h.e.g,λb u q=>keep b u (ne_of_none q ga) (h.e.s _ _ q),h.e.n,λb u q=>keep b u (ne_of_none q h0) (h.b _ _ q)⟩ (λb u q=>keep b u (ne_of_none q h0) (h.b _ _ q)) (Same.refl _)
  (λj t c n q f=>⟨upd_ne λz=>n (h.ds j i t s c q e f (by rw[z];exact fa)),((h.sl j t q).foot_in f).2.1⟩) (λ_ _=>rfl) rfl (λ_=>r) λc fc j t n q f=>n (h.ds j i t s c q e f (f' c fc))
theorem Hold.setMut {i:Nat}{s s':Slot}{a:Addr}{o:HO}(h:Hold K G0 H0 ρ σ G H)(e:ρ[i]? = some s)(m:s.mut=true)(ea:σ[i]? = some (some (.ref a)))(ga:G a=none)(h0:H0 a=none)
  (r:YV K H0 G (upd H a o) s' (some (some (.ref a))))(m':s'.mut=true):Hold K G0 H0 (ρ.set i s') σ G (upd H a o):=
 h.setAt e (Wc m ea) (by rw[ea];exact r) λc fc=>Wc m (Wu m' fc)
theorem Hold.freeze {i:Nat}{s:Slot}{d:D}{a:Addr}{o:HO}(h:Hold K G0 H0 ρ σ G H)(e:ρ[i]? = some s)(m:s.mut=true)(ea:σ[i]? = some (some (.ref a)))(ha:H a=some o)(ga:G a=none)(h0:H0 a=none)
  (r:Rep K (upd G a o) d (.ref a)):Hold K G0 H0 (ρ.set i (.fz d)) σ (upd G a o) H/\Same G (upd G a o):=by
 have hg:Same G (upd G a o):=Same.upd ga
 refine⟨h.put (λ_ _ q=>q) ⟨h.e.g.trans hg,λb u q=>?_,λb hb q=>?_,h.e.t⟩ h.b hg (λj t c n q f=>⟨rfl,?_⟩) (λ_ _=>rfl) rfl (λ_=>⟨_,ea,r⟩) λc f=>f.elim,hg⟩
 ·by_cases z:b=a
  ·subst z;rw[upd_same]at q;rw[ha];exact q
  ·rw[upd_ne z]at q;exact h.e.s _ _ q
 ·rw[upd_ne (λz=>hb.1 (by rw[z];exact h0))];exact h.e.n b hb q
 ·rw[upd_ne λz=>n (h.ds j i t s c q e f (by rw[z];exact Wc m ea))]
  exact ((h.sl j t q).foot_in f).2.1
theorem Hold.freezeAll {i:Nat}{s:Slot}{d:D}{v:V}(h:Hold K G0 H0 ρ σ G H)(e:ρ[i]? = some s)(ev:σ[i]? = some (some v))(sg:Same G G')(sh:Same G' H)(hn:∀ b,G' b≠none->G b=none->s.foot H σ[i]? b)
  (r:Rep K G' d v):Hold K G0 H0 (ρ.set i (.fz d)) σ G' H:=by
 refine h.put (λ_ _ q=>q) ⟨h.e.g.trans sg,sh,λb hb q=>?_,h.e.t⟩ h.b sg (λj t c n q f=>⟨rfl,?_⟩) (λ_ _=>rfl) rfl (λ_=>⟨v,ev,r⟩) λc f=>f.elim
 ·cases z:G' b with
  |none=>rfl
  |some u=>exact absurd (((h.sl i s e).foot_in (hn b (by rw[z];intro y;cases y) (h.e.n b hb q))).2.2) hb.1
 ·cases z:G' c with
  |none=>rfl
  |some u=>exact absurd (h.ds j i t s c q e f (hn c (by rw[z];intro y;cases y) ((h.sl j t q).foot_in f).2.1)) n
end
end PM
namespace PM
open PySem PySem.Spec PyProof.Rows L2
noncomputable abbrev TX (β:Type):=St->Hp->(β->Hp->Prop)->Prop
section
variable (K:PySem.W.Frag)(E:XK)
noncomputable def Vo {α β:Type}(rel:Hp->α->β->Prop)(G0 H0:Hp)(σ:St)(G:Hp)(r:Res α)(Q:β->Hp->Prop):Prop:=match r with
 |.ok a ρ'=>∀ b G' H',Same G G'->Hold K G0 H0 ρ' σ G' H'->rel G' a b->Q b H'
 |.exn c ρ'=>∀ G' H',Same G G'->Hold K G0 H0 ρ' σ G' H'->E (.ref c) none H'
 |.bad=>False
noncomputable def RAt {α β:Type}(rel:Hp->α->β->Prop)(t:TX β)(r:Res α)(G0 H0:Hp)(σ:St)(G H:Hp):Prop:=∀ Q,Vo K E rel G0 H0 σ G r Q->t σ H Q
noncomputable def RA {α β:Type}(rel:Hp->α->β->Prop)(t:TX β)(m:M α):Prop:=∀ G0 H0 ρ σ G H,Hold K G0 H0 ρ σ G H->RAt K E rel t (m ρ) G0 H0 σ G H
noncomputable def RE (t:TE)(m:M D):Prop:=RA K E (λG d v=>Rep K G d v) t m
noncomputable def RT (t:TT)(m:M Bool):Prop:=RA K E (λ_ a b=>b=a) t m
noncomputable def RL (t:TA)(m:M (List D)):Prop:=RA K E (λG ds vs=>zF K G ds vs) t m
noncomputable def zo (G0 H0 G:Hp)(r:Res Fl)(D:Ends):Prop:=match r with
 |.ok .nx ρ'=>∀ σ' G' H',Same G G'->Hold K G0 H0 ρ' σ' G' H'->D.nx σ' H'
 |.ok (.ret d) ρ'=>∀ v σ' G' H',Same G G'->Hold K G0 H0 ρ' σ' G' H'->Rep K G' d v->D.rt v H'
 |.ok .brk ρ'=>∀ σ' G' H',Same G G'->Hold K G0 H0 ρ' σ' G' H'->D.bk σ' H'
 |.ok .cont ρ'=>∀ σ' G' H',Same G G'->Hold K G0 H0 ρ' σ' G' H'->D.ct σ' H'
 |.exn c ρ'=>∀ σ' G' H',Same G G'->Hold K G0 H0 ρ' σ' G' H'->E (.ref c) none H'
 |.bad=>False
noncomputable def RSt (t:TS)(r:Res Fl)(G0 H0:Hp)(σ:St)(G H:Hp):Prop:=∀ D,zo K E G0 H0 G r D->t D σ H
noncomputable def RS (t:TS)(m:M Fl):Prop:=∀ G0 H0 ρ σ G H,Hold K G0 H0 ρ σ G H->RSt K E t (m ρ) G0 H0 σ G H
noncomputable def RG (g:TG)(gm:GM):Prop:=∀ G0 H0 ρ σ G H d v (Q:St->Hp->Prop),Hold K G0 H0 ρ σ G H->Rep K G d v ->
 (∃ ρ',gm d ρ=some ρ'/\∀ σ' G' H',Same G G'->Hold K G0 H0 ρ' σ' G' H'->Q σ' H')->g v σ H Q
noncomputable def OpM (r:R2)(f:D->D->Option D):Prop:=∀ (G H:Hp)(x y:V)(dx dy d:D)(Q:VK),Same G H->Rep K G dx x->Rep K G dy y->f dx dy=some d ->
 (∀ v G' H',Ext G H G' H'->Same H H'->Rep K G' d v->Q v H')->r x y H Q
noncomputable def UnM (r:V->Hp->VK->Prop)(f:D->Option D):Prop:=∀ (G H:Hp)(x:V)(dx d:D)(Q:VK),Same G H->Rep K G dx x->f dx=some d ->
 (∀ v G' H',Ext G H G' H'->Same H H'->Rep K G' d v->Q v H')->r x H Q
noncomputable def ClM (r:List V->Hp->VK->Prop)(f:List D->Option D):Prop:=∀ (G H:Hp)(xs:List V)(ds:List D)(d:D)(Q:VK),Same G H->zF K G ds xs->f ds=some d ->
 (∀ v G' H',Ext G H G' H'->Same H H'->Rep K G' d v->Q v H')->r xs H Q
noncomputable def spM (n:Nat)(F:List D->FR):Sp:=λvs H Q E=>vs.length=n/\∃ G ds,Same G H/\zF K G ds vs/\(match F ds with
 |.ok d=>∀ v G' H',Ext G H G' H'->Same H H'->Rep K G' d v->Q v H'
 |.exn c=>∀ G' H',Ext G H G' H'->Same H H'->E (.ref c) none H'
 |.bad=>False)
end
section
variable {K:PySem.W.Frag}{E:XK}{G0 H0:Hp}{ρ:Rho}{σ:St}{G H:Hp}
theorem Vo.mono {α β:Type}{rel:Hp->α->β->Prop}{r:Res α}{Q:β->Hp->Prop}{G':Hp}(s:Same G G')(h:Vo K E rel G0 H0 σ G r Q):Vo K E rel G0 H0 σ G' r Q:=by
 cases r with
 |ok a ρ'=>exact λb G2 H2 s2=>h b G2 H2 (s.trans s2)
 |exn c ρ'=>exact λG2 H2 s2=>h G2 H2 (s.trans s2)
 |bad=>exact h
theorem zo.mono {r:Res Fl}{D:Ends}{G':Hp}(s:Same G G')(h:zo K E G0 H0 G r D):zo K E G0 H0 G' r D:=by
 cases r with
 |ok f ρ'=>
  cases f with
  |nx=>exact λσ2 G2 H2 s2=>h σ2 G2 H2 (s.trans s2)
  |ret d=>exact λv σ2 G2 H2 s2=>h v σ2 G2 H2 (s.trans s2)
  |brk=>exact λσ2 G2 H2 s2=>h σ2 G2 H2 (s.trans s2)
  |cont=>exact λσ2 G2 H2 s2=>h σ2 G2 H2 (s.trans s2)
 |exn c ρ'=>exact λσ2 G2 H2 s2=>h σ2 G2 H2 (s.trans s2)
 |bad=>exact h
theorem RAt.bind {α β γ δ:Type}{r1:Hp->α->β->Prop}{r2:Hp->δ->γ->Prop}{r:Res α}{k:α->Rho->Res δ}{t1:TX β}{t2:β->TX γ}(h1:RAt K E r1 t1 r G0 H0 σ G H)
  (h2:∀ a ρ' b G' H',Same G G'->Hold K G0 H0 ρ' σ G' H'->r1 G' a b->RAt K E r2 (t2 b) (k a ρ') G0 H0 σ G' H') :
  RAt K E r2 (λσ H Q=>t1 σ H λb H1=>t2 b σ H1 Q) (r.bnd k) G0 H0 σ G H:=by
 intro Q hQ
 apply h1
 cases r with
 |ok a ρ'=>exact λb G' H' s ho rl=>h2 a ρ' b G' H' s ho rl Q (Vo.mono s hQ)
 |exn c ρ'=>exact hQ
 |bad=>exact hQ
theorem RSt.bind {α β:Type}{r1:Hp->α->β->Prop}{r:Res α}{k:α->Rho->Res Fl}{t1:TX β}{t2:β->TS}(h1:RAt K E r1 t1 r G0 H0 σ G H)
  (h2:∀ a ρ' b G' H',Same G G'->Hold K G0 H0 ρ' σ G' H'->r1 G' a b->RSt K E (t2 b) (k a ρ') G0 H0 σ G' H') :
  RSt K E (λD σ H=>t1 σ H λb H1=>t2 b D σ H1) (r.bnd k) G0 H0 σ G H:=by
 intro D hD
 apply h1
 cases r with
 |ok a ρ'=>exact λb G' H' s ho rl=>h2 a ρ' b G' H' s ho rl D (zo.mono s hD)
 |exn c ρ'=>exact λG' H' s ho=>hD σ G' H' s ho
 |bad=>exact hD
theorem RAt.done {α β:Type}{rel:Hp->α->β->Prop}{a:α}{b:β}(h:Hold K G0 H0 ρ σ G H)(r:rel G a b):RAt K E rel (λ_ H Q=>Q b H) (.ok a ρ) G0 H0 σ G H:=
 λQ hQ=>hQ b G H (Same.refl _) h r
theorem RAt.opt {α β δ:Type}{rel:Hp->δ->β->Prop}{t:TX β}{o:Option α}{k:α->Rho->Res δ}(h:∀ a,o=some a->RAt K E rel t (k a ρ) G0 H0 σ G H):RAt K E rel t ((zO o ρ).bnd k) G0 H0 σ G H:=by
 cases o with
 |none=>exact λQ hQ=>hQ.elim
 |some a=>exact h a rfl
theorem RAt.opt1 {β α:Type}{rel:Hp->α->β->Prop}{t:TX β}{o:Option α}(h:∀ a,o=some a->RAt K E rel t (.ok a ρ) G0 H0 σ G H):RAt K E rel t (zO o ρ) G0 H0 σ G H:=by
 cases o with
 |none=>exact λQ hQ=>hQ.elim
 |some a=>exact h a rfl
theorem RSt.opt {α:Type}{t:TS}{o:Option α}{k:α->Rho->Res Fl}(h:∀ a,o=some a->RSt K E t (k a ρ) G0 H0 σ G H):RSt K E t ((zO o ρ).bnd k) G0 H0 σ G H:=by
 cases o with
 |none=>exact λQ hQ=>hQ.elim
 |some a=>exact h a rfl
theorem Ws {o:Option Slot}{d:D}(h:UU o=some d):o=some (.fz d):=by
 cases o with
 |none=>cases h
 |some s=>cases s<;>first | (cases h;rfl) | cases h
theorem Z0 {o:Option Slot}{d:List D}(h:zl o=some d):o=some (.own d):=by
 cases o with
 |none=>cases h
 |some s=>cases s<;>first | (cases h;rfl) | cases h
end
section
variable {K:PySem.W.Frag}{E:XK}
theorem Kk {i:Nat}:RE K E (tVar i) (vM i):=by
 intro G0 H0 ρ σ G H ho
 refine RAt.opt1 λd e=>?_
 obtain⟨v,e1,r⟩:=ho.sl i _ (Ws e)
 intro Q hQ
 exact⟨v,e1,hQ v G H (Same.refl _) ho r⟩
theorem Q6 {v:V}{d:D}(r:∀ G,Rep K G d v):RE K E (tC v) (cM d):=λG0 H0 ρ σ G H ho=>RAt.done ho (r G)
theorem Ur {r:R2}{f:D->D->Option D}{ta tb:TE}{ma mb:M D}(hr:OpM K r f)(ha:RE K E ta ma)(hb:RE K E tb mb):RE K E (tOp r ta tb) (op2 f ma mb):=by
 intro G0 H0 ρ σ G H ho
 refine RAt.bind (t2:=λx σ H1 Q=>tb σ H1 λy H2=>r x y H2 Q) (ha G0 H0 ρ σ G H ho) λdx ρ1 x G1 H1 s1 h1 r1=>?_
 refine RAt.bind (t2:=λy σ H2 Q=>r x y H2 Q) (hb G0 H0 ρ1 σ G1 H1 h1) λdy ρ2 y G2 H2 s2 h2 r2=>?_
 refine RAt.opt1 λd e=>?_
 intro Q hQ
 exact hr G2 H2 x y dx dy d Q h2.e.s (r1.mono s2) r2 e λv G' H' x' hs rv=>hQ v G' H' x'.g (h2.grow x' hs) rv
theorem zAW {r:V->Hp->VK->Prop}{f:D->Option D}{ta:TE}{ma:M D}(hr:UnM K r f)(ha:RE K E ta ma):RE K E (tUn r ta) (op1 f ma):=by
 intro G0 H0 ρ σ G H ho
 refine RAt.bind (t2:=λx σ H1 Q=>r x H1 Q) (ha G0 H0 ρ σ G H ho) λdx ρ1 x G1 H1 s1 h1 r1=>?_
 refine RAt.opt1 λd e=>?_
 intro Q hQ
 exact hr G1 H1 x dx d Q h1.e.s r1 e λv G' H' x' hs rv=>hQ v G' H' x'.g (h1.grow x' hs) rv
theorem ut:RL K E tNil (zk []):=λG0 H0 ρ σ G H ho=>RAt.done ho zF.nil
theorem Uq {ta:TE}{tr:TA}{ma:M D}{mr:List (M D)}(ha:RE K E ta ma)(hr:RL K E tr (zk mr)):RL K E (tCons ta tr) (zk (ma::mr)):=by
 intro G0 H0 ρ σ G H ho
 refine RAt.bind (t2:=λx σ H1 Q=>tr σ H1 λxs H2=>Q (x::xs) H2) (ha G0 H0 ρ σ G H ho) λdx ρ1 x G1 H1 s1 h1 r1=>?_
 refine RAt.bind (t2:=λxs σ H2 Q=>Q (x::xs) H2) (hr G0 H0 ρ1 σ G1 H1 h1) λds ρ2 xs G2 H2 s2 h2 r2=>?_
 exact RAt.done h2 (zF.cons (r1.mono s2) r2)
theorem xf:∀ {as:List (M D)}{ρ ρ':Rho}{ds:List D},zk as ρ=.ok ds ρ'->ds.length=as.length
 |[],_,_,_,h=>by cases h;rfl
 |a::r,ρ,ρ',ds,h=>by
  unfold zk at h
  cases e:a ρ with
  |ok x ρ1=>
   rw[e]at h
   simp only[Res.bnd]at h
   cases e2:zk r ρ1 with
   |ok xs ρ2=>
    rw[e2]at h
    cases h
    simp[xf e2]
   |exn c ρ2=>rw[e2]at h;cases h
   |bad=>rw[e2]at h;cases h
  |exn c ρ1=>rw[e]at h;cases h
  |bad=>rw[e]at h;cases h
theorem zF.ln {G:Hp}{ds:List D}{vs:List V}(h:zF K G ds vs):vs.length=ds.length:=h.len.symm
theorem Jh {n:Nat}{F:List D->FR}{ta:TA}{as:List (M D)}(ha:RL K E ta (zk as))(hn:as.length=n):RE K E (tCall (spM K n F) [] E ta) (zR F as):=by
 intro G0 H0 ρ σ G H ho
 intro Q hQ
 unfold zR at hQ
 refine ha G0 H0 ρ σ G H ho _ ?_
 cases e:zk as ρ with
 |ok ds ρ1=>
  rw[e]at hQ
  intro vs G1 H1 s1 h1 r1
  refine⟨by rw[List.append_nil,r1.ln,xf e];exact hn,G1,ds,h1.e.s,by rw[List.append_nil];exact r1,?_⟩
  have hQ':Vo K E (λG d v=>Rep K G d v) G0 H0 σ G ((F ds).to ρ1) Q:=hQ
  cases q:F ds with
  |ok d=>rw[q]at hQ';exact λv G' H' x hs rv=>hQ' v G' H' (s1.trans x.g) (h1.grow x hs) rv
  |exn c=>rw[q]at hQ';exact λG' H' x hs=>hQ' G' H' (s1.trans x.g) (h1.grow x hs)
  |bad=>rw[q]at hQ';exact hQ'
 |exn c ρ1=>rw[e]at hQ;exact hQ
 |bad=>rw[e]at hQ;exact hQ
theorem V5 {r:List V->Hp->VK->Prop}{f:List D->Option D}{ta:TA}{as:List (M D)}(hr:ClM K r f)(ha:RL K E ta (zk as)):RE K E (tCB r ta) (zY f as):=by
 intro G0 H0 ρ σ G H ho
 refine RAt.bind (t2:=λvs σ H1 Q=>r vs H1 Q) (ha G0 H0 ρ σ G H ho) λds ρ1 vs G1 H1 s1 h1 r1=>?_
 refine RAt.opt1 λd e=>?_
 intro Q hQ
 exact hr G1 H1 vs ds d Q h1.e.s r1 e λv G' H' x' hs rv=>hQ v G' H' x'.g (h1.grow x' hs) rv
theorem Kl {ta:TA}{as:List (M D)}(ha:RL K E ta (zk as)):RE K E (tTup ta) (ZU as):=by
 intro G0 H0 ρ σ G H ho
 refine RAt.bind (t2:=λxs σ H1 (Q:VK)=>xs.length<=sizeLine/\∀ p,H1 p=none->Q (V.ref p) (upd H1 p (.tup xs))) (ha G0 H0 ρ σ G H ho) λds ρ1 vs G1 H1 s1 h1 r1=>?_
 intro Q hQ
 split at hQ
 ·rename_i hz
  refine⟨by rw[r1.ln];exact hz,λp hp=>?_⟩
  have x:=Ext.new (o:=.tup vs) h1.e.s hp
  refine hQ _ (upd G1 p (.tup vs)) _ x.g (h1.grow x (Same.upd hp)) ?_
  unfold Rep
  exact⟨p,vs,rfl,upd_same,r1.mono x.g⟩
 ·exact hQ.elim
theorem Km {ta:TA}{as:List (M D)}(ha:RL K E ta (zk as)):RE K E (tLst ta) (lstM as):=by
 intro G0 H0 ρ σ G H ho
 refine RAt.bind (t2:=λxs σ H1 (Q:VK)=>xs.length<=sizeLine/\∀ p,H1 p=none->Q (V.ref p) (upd H1 p (.lst xs))) (ha G0 H0 ρ σ G H ho) λds ρ1 vs G1 H1 s1 h1 r1=>?_
 intro Q hQ
 split at hQ
 ·rename_i hz
  refine⟨by rw[r1.ln];exact hz,λp hp=>?_⟩
  have x:=Ext.new (o:=.lst vs) h1.e.s hp
  refine hQ _ (upd G1 p (.lst vs)) _ x.g (h1.grow x (Same.upd hp)) ?_
  unfold Rep
  exact⟨p,vs,rfl,SqL.of upd_same,r1.mono x.g⟩
 ·exact hQ.elim
theorem JT {t:TE}{m:M D}(h:RE K E t m):RT K E (tB t) (zL zV m):=by
 intro G0 H0 ρ σ G H ho
 refine RAt.bind (t2:=λx σ H1 Q=>∃ c,x=.bl c/\Q c H1) (h G0 H0 ρ σ G H ho) λd ρ1 v G1 H1 s1 h1 r1=>?_
 refine RAt.opt1 λb e=>?_
 intro Q hQ
 cases d<;>first | cases e | skip
 unfold Rep at r1
 exact⟨_,r1,hQ _ G1 H1 (Same.refl _) h1 rfl⟩
theorem JS {t:TE}{m:M D}(h:RE K E t m):RT K E (tTest t) (zL zV m):=JT h
theorem zAU {t u:TT}{a b:M Bool}(ha:RT K E t a)(hb:RT K E u b):RT K E (tOr t u) (orM a b):=by
 intro G0 H0 ρ σ G H ho
 refine RAt.bind (t2:=λc σ H1 Q=>if c=true then Q true H1 else u σ H1 Q) (ha G0 H0 ρ σ G H ho) λx ρ1 c G1 H1 s1 h1 r1=>?_
 subst r1
 intro Q hQ
 cases c with
 |true=>rw[if_pos rfl]at hQ ⊢;exact hQ _ G1 H1 (Same.refl _) h1 rfl
 |false=>rw[if_neg (by simp)]at hQ ⊢;exact hb G0 H0 ρ1 σ G1 H1 h1 Q hQ
theorem Ka {t:TT}{a:M Bool}(ha:RT K E t a):RT K E (tNot t) (X3 a):=by
 intro G0 H0 ρ σ G H ho
 refine RAt.bind (t2:=λc σ H1 Q=>Q (!c) H1) (ha G0 H0 ρ σ G H ho) λx ρ1 c G1 H1 s1 h1 r1=>?_
 subst r1
 exact RAt.done h1 rfl
theorem Ko {t:TT}{ta tb:TE}{c:M Bool}{a b:M D}(hc:RT K E t c)(ha:RE K E ta a)(hb:RE K E tb b):RE K E (tIf t ta tb) (ym c a b):=by
 intro G0 H0 ρ σ G H ho
 refine RAt.bind (t2:=λc σ H1 Q=>if c=true then ta σ H1 Q else tb σ H1 Q) (hc G0 H0 ρ σ G H ho) λx ρ1 c G1 H1 s1 h1 r1=>?_
 subst r1
 intro Q hQ
 cases c with
 |true=>rw[if_pos rfl]at hQ ⊢;exact ha G0 H0 ρ1 σ G1 H1 h1 Q hQ
 |false=>rw[if_neg (by simp)]at hQ ⊢;exact hb G0 H0 ρ1 σ G1 H1 h1 Q hQ
theorem Je {ta:TE}{a:M D}(ha:RE K E ta a):RE K E (tNotV ta) (qo a):=by
 intro G0 H0 ρ σ G H ho
 refine RAt.bind (t2:=λx σ H1 (Q:VK)=>∃ c,x=V.bl c/\Q (V.bl (!c)) H1) (ha G0 H0 ρ σ G H ho) λd ρ1 v G1 H1 s1 h1 r1=>?_
 refine RAt.opt λk e=>?_
 intro Q hQ
 cases d<;>first | cases e | skip
 unfold Rep at r1
 exact⟨_,r1,hQ _ G1 H1 (Same.refl _) h1 (by unfold Rep;rfl)⟩
theorem JU:RS K E tNext nxM:=λG0 H0 ρ σ G H ho D hD=>hD σ G H (Same.refl _) ho
theorem Kc {t u:TS}{a b:M Fl}(ha:RS K E t a)(hb:RS K E u b):RS K E (tSeq t u) (zH a b):=by
 intro G0 H0 ρ σ G H ho D hD
 refine ha G0 H0 ρ σ G H ho _ ?_
 unfold zH at hD
 cases e:a ρ with
 |ok f ρ1=>
  rw[e]at hD
  cases f with
  |nx=>
   have hD':zo K E G0 H0 G (b ρ1) D:=by simpa[Res.bnd,Fl.isNx] using hD
   exact λσ1 G1 H1 s1 h1=>hb G0 H0 ρ1 σ1 G1 H1 h1 D (zo.mono s1 hD')
  |ret d=>exact hD
  |brk=>exact hD
  |cont=>exact hD
 |exn c ρ1=>rw[e]at hD;exact hD
 |bad=>rw[e]at hD;exact hD
theorem Ja {te:TE}{m:M D}(he:RE K E te m):RS K E (tDrop te) (yJ m):=by
 intro G0 H0 ρ σ G H ho
 refine RSt.bind (t2:=λ_ D σ H1=>D.nx σ H1) (he G0 H0 ρ σ G H ho) λd ρ1 v G1 H1 s1 h1 r1=>?_
 exact λD hD=>hD σ G1 H1 (Same.refl _) h1
theorem Kd {te:TE}{m:M D}(he:RE K E te m):RS K E (tRet te) (ZQ m):=by
 intro G0 H0 ρ σ G H ho
 refine RSt.bind (t2:=λv D σ H1=>D.rt v H1) (he G0 H0 ρ σ G H ho) λd ρ1 v G1 H1 s1 h1 r1=>?_
 exact λD hD=>hD v σ G1 H1 (Same.refl _) h1 r1
theorem zAV {t:TT}{u w:TS}{c:M Bool}{a b:M Fl}(hc:RT K E t c)(ha:RS K E u a)(hb:RS K E w b):RS K E (tIfS t u w) (ifM c a b):=by
 intro G0 H0 ρ σ G H ho
 refine RSt.bind (t2:=λb D σ H1=>if b=true then u D σ H1 else w D σ H1) (hc G0 H0 ρ σ G H ho) λx ρ1 k G1 H1 s1 h1 r1=>?_
 subst r1
 intro D hD
 cases k with
 |true=>rw[if_pos rfl]at hD ⊢;exact ha G0 H0 ρ1 σ G1 H1 h1 D hD
 |false=>rw[if_neg (by simp)]at hD ⊢;exact hb G0 H0 ρ1 σ G1 H1 h1 D hD
theorem Jd {i:Nat}:RG K (gName i) (zz i):=λG0 H0 ρ σ G H d v Q ho r ⟨ρ',e,hQ⟩=>by cases e;exact hQ _ G H (Same.refl _) (ho.setFz r)
theorem Kh {te:TE}{m:M D}{g:TG}{gm:GM}(he:RE K E te m)(hg:RG K g gm):RS K E (tAsg te g) (XM m gm):=by
 intro G0 H0 ρ σ G H ho
 refine RSt.bind (t2:=λv D σ H1=>g v σ H1 D.nx) (he G0 H0 ρ σ G H ho) λd ρ1 v G1 H1 s1 h1 r1=>?_
 refine RSt.opt λρ2 e=>?_
 intro D hD
 exact hg G0 H0 ρ1 σ G1 H1 d v _ h1 r1 ⟨ρ2,e,λσ' G' H' s h=>hD σ' G' H' s h⟩
noncomputable def RGs (K:PySem.W.Frag)(g:TGs)(is:List Nat):Prop:=∀ G0 H0 ρ σ G H ds vs (Q:St->Hp->Prop),Hold K G0 H0 ρ σ G H->zF K G ds vs ->
 (∃ ρ',xH is ds ρ=some ρ'/\∀ σ' G' H',Same G G'->Hold K G0 H0 ρ' σ' G' H'->Q σ' H')->g vs σ H Q
theorem Jc:RGs K gNil []:=by
 intro G0 H0 ρ σ G H ds vs Q ho r ⟨ρ',e,hQ⟩
 cases ds with
 |nil=>cases e;exact⟨r.nil_inv,hQ σ G H (Same.refl _) ho⟩
 |cons d ds=>cases e
theorem Q1 {i:Nat}{is:List Nat}{g:TGs}(h:RGs K g is):RGs K (gCons (gName i) g) (i::is):=by
 intro G0 H0 ρ σ G H ds vs Q ho r ⟨ρ',e,hQ⟩
 cases ds with
 |nil=>cases e
 |cons d ds=>
  obtain⟨v,vr,rfl,r1,r2⟩:=r.cons_inv
  exact⟨v,vr,rfl,h G0 H0 _ _ G H ds vr Q (ho.setFz r1) r2 ⟨ρ',e,hQ⟩⟩
theorem wE:∀ {is:List Nat}{ds:List D}{ρ ρ':Rho},xH is ds ρ=some ρ'->ds.length=is.length
 |[],[],_,_,_=>rfl
 |i::r,d::ds,ρ,ρ',h=>by simp[wE (is:=r) (ds:=ds) h]
 |[],_::_,_,_,h=>by cases h
 |_::_,[],_,_,h=>by cases h
theorem Kj {n:Nat}{is:List Nat}{g:TGs}(h:RGs K g is)(hn:is.length=n):RG K (gTup K n g) (Zi is):=by
 intro G0 H0 ρ σ G H d v Q ho r ⟨ρ',e,hQ⟩
 cases d<;>first | (cases e;done) | skip
 rename_i ds
 unfold Rep at r
 obtain⟨a,vs,rfl,hq,rl⟩:=r
 have e':xH is ds ρ=some ρ':=e
 exact⟨a,vs,rfl,SqT.same ho.e.s hq,by rw[rl.ln,wE e'];exact hn,h G0 H0 ρ σ G H ds vs Q ho rl ⟨ρ',e',hQ⟩⟩
theorem Kb {i:Nat}{te:TE}{m:M D}(he:RE K E te m):RS K E (tAsg te (gName i)) (ZK i m):=by
 intro G0 H0 ρ σ G H ho
 refine RSt.bind (t2:=λv D σ H1=>D.nx (σ.set i (some v)) H1) (he G0 H0 ρ σ G H ho) λd ρ1 v G1 H1 s1 h1 r1=>?_
 exact λD hD=>hD _ G1 H1 (Same.refl _) (h1.setFz r1)
theorem Ke {i:Nat}{ta:TA}{as:List (M D)}(ha:RL K E ta (zk as)):RS K E (tAsg (tLst ta) (gName i)) (x8 i as):=by
 intro G0 H0 ρ σ G H ho
 refine RSt.bind (t2:=λxs D σ H1=>xs.length<=sizeLine/\∀ p,H1 p=none->D.nx (σ.set i (some (.ref p))) (upd H1 p (.lst xs))) (ha G0 H0 ρ σ G H ho) λds ρ1 vs G1 H1 s1 h1 r1=>?_
 intro D hD
 split at hD
 ·rename_i hz
  refine⟨by rw[r1.ln];exact hz,λp hp=>?_⟩
  refine hD _ G1 _ (Same.refl _) (h1.setNew hp (s:=.own ds) ?_ rfl)
  exact⟨p,vs,rfl,upd_same,h1.e.s.free hp,h1.b.free hp,r1⟩
 ·exact hD.elim
theorem Kf {i:Nat}{t:TS}{m:M Fl}(h:RS K E t m):RS K E t (xI i m):=by
 intro G0 H0 ρ σ G H ho
 refine RSt.opt λds e=>?_
 obtain⟨a,vs,e1,e2,e3,e4,r⟩:=ho.sl i _ (Z0 e)
 obtain⟨h1,s1⟩:=ho.freeze (d:=.lst ds) (Z0 e) rfl e1 e2 e3 e4 (by unfold Rep;exact⟨a,vs,rfl,SqL.of upd_same,r.mono (Same.upd e3)⟩)
 exact λD hD=>h G0 H0 _ σ _ H h1 D (zo.mono s1 hD)
theorem wG {J:It}{g:TG}{tb:TS}{gm:GM}{b:M Fl}{ds:List D}{vs:List V}{G0 H0:Hp}{ρ:Rho}{σ:St}{G H:Hp}{D:Ends}(ho:Hold K G0 H0 ρ σ G H)(hg:RG K g gm)(hb:RS K E tb b)(r:zF K G ds vs)
  (hgo:∀ G' H' i v,Same G G'->Same G' H'->vs[i]? = some v->J.go i H'/\∀ x H'',J.yld i H' x H''->H''=H'/\x=v)(hst:∀ G' H',Same G G'->Same G' H'->J.stop vs.length H')
  (hD:zo K E G0 H0 G (zj gm b ds ρ) D) :
  ∃ W:Nat->Nat->St->Hp->Prop,(∃ m,W 0 m σ H)/\∀ i m σ H,W i m σ H ->
   (J.stop i H/\D.nx σ H)\/(J.go i H/\∃ N:St->Hp->Prop,(∀ σ' H',N σ' H'->∃ m',m'<m/\W (i+1) m' σ' H')/\∀ x H',J.yld i H x H'->g x σ H' λσ2 H2=>tb { D with nx:=N,ct:=N,bk:=D.nx } σ2 H2):=by
 refine⟨λi m σ H=>m=ds.length - i/\i<=ds.length/\∃ ρ G',Same G G'/\Hold K G0 H0 ρ σ G' H/\zo K E G0 H0 G' (zj gm b (ds.drop i) ρ) D,
  ⟨ds.length,by simp,Nat.zero_le _,ρ,G,Same.refl _,ho,by simpa using hD⟩,?_⟩
 rintro i m σ H ⟨rfl,hi,ρ,G',sg,h,hp⟩
 by_cases hlt:i<ds.length
 ·refine .inr ?_
  have hd:ds[i]? = some ds[i]:=List.getElem?_eq_getElem hlt
  obtain⟨v,hv,rv⟩:=r.get hd
  obtain⟨go,yl⟩:=hgo G' H i v sg h.e.s hv
  rw[List.drop_eq_getElem_cons hlt]at hp
  unfold zj at hp
  refine⟨go,λσ' H'=>∃ ρ2 G2,Same G G2/\Hold K G0 H0 ρ2 σ' G2 H'/\zo K E G0 H0 G2 (zj gm b (ds.drop (i+1)) ρ2) D,λσ' H' ⟨ρ2,G2,s2,h2,p2⟩=>⟨ds.length - (i+1),by omega,rfl,hlt,ρ2,G2,s2,h2,p2⟩,λx H' y=>?_⟩
  obtain⟨rfl,rfl⟩:=yl x H' y
  refine hg G0 H0 ρ σ G' H' ds[i] x _ h (rv.mono sg) ?_
  cases q:gm ds[i] ρ with
  |some ρ1=>
   rw[q]at hp
   refine⟨ρ1,rfl,λσ1 G1 H1 s1 h1=>?_⟩
   refine hb G0 H0 ρ1 σ1 G1 H1 h1 _ ?_
   have hp':zo K E G0 H0 G' ((b ρ1).bnd λf ρ=>Ym f ρ (zj gm b (ds.drop (i+1)))) D:=hp
   cases q2:b ρ1 with
   |ok f ρ2=>
    rw[q2]at hp'
    cases f with
    |nx=>exact λσ2 G2 H2 s2 h2=>⟨ρ2,G2,sg.trans (s1.trans s2),h2,zo.mono (s1.trans s2) hp'⟩
    |cont=>exact λσ2 G2 H2 s2 h2=>⟨ρ2,G2,sg.trans (s1.trans s2),h2,zo.mono (s1.trans s2) hp'⟩
    |brk=>exact λσ2 G2 H2 s2 h2=>hp' σ2 G2 H2 (s1.trans s2) h2
    |ret d=>exact λv σ2 G2 H2 s2 h2=>hp' v σ2 G2 H2 (s1.trans s2) h2
   |exn c ρ2=>rw[q2]at hp';exact λσ2 G2 H2 s2 h2=>hp' σ2 G2 H2 (s1.trans s2) h2
   |bad=>rw[q2]at hp';exact hp'
  |none=>rw[q]at hp;exact hp.elim
 ·have e:i=ds.length:=by omega
  subst e
  rw[List.drop_length]at hp
  exact .inl ⟨by rw[r.len];exact hst G' H sg h.e.s,hp σ G' H (Same.refl _) h⟩
theorem JZ {tl:TE}{m:M D}{g:TG}{gm:GM}{tb:TS}{b:M Fl}(hl:RE K E tl m)(hg:RG K g gm)(hb:RS K E tb b):RS K E (tFor (iList K tl) g tb) (xJ m Zg gm b):=by
 intro G0 H0 ρ σ G H ho
 refine RSt.bind (t2:=λx D σ H1=>∃ a,x=.ref a/\(∃ xs,SqL K H1 a xs)/\∃ W:Nat->Nat->St->Hp->Prop,(∃ m,W 0 m σ H1)/\∀ i m σ H,W i m σ H ->
  ((Itl K a).stop i H/\D.nx σ H)\/((Itl K a).go i H/\∃ N:St->Hp->Prop,(∀ σ' H',N σ' H'->∃ m',m'<m/\W (i+1) m' σ' H')/\∀ x H',(Itl K a).yld i H x H'->g x σ H' λσ2 H2=>tb { D with nx:=N,ct:=N,bk:=D.nx } σ2 H2)) (hl G0 H0 ρ σ G H ho) λd ρ1 v G1 H1 s1 h1 r1=>?_
 refine RSt.opt λds e=>?_
 intro D hD
 cases d<;>first | (cases e;done) | skip
 cases e
 unfold Rep at r1
 obtain⟨a,vs,rfl,hq,rl⟩:=r1
 refine⟨a,rfl,⟨vs,h1.e.s.seq hq⟩,wG h1 hg hb rl (λG' H' i v sg sh hv=>?_) (λG' H' sg sh=>⟨vs,sh.seq (sg.seq hq),Nat.le_refl _⟩) hD⟩
 have q:SqL K H' a vs:=sh.seq (sg.seq hq)
 refine⟨⟨vs,v,q,hv⟩,λx H'' ⟨e1,e2⟩=>⟨e1,?_⟩⟩
 have:=e2 vs q
 rw[hv]at this
 cases this
 rfl
theorem JX {tl:TE}{m:M D}{g:TG}{gm:GM}{tb:TS}{b:M Fl}(hl:RE K E tl m)(hg:RG K g gm)(hb:RS K E tb b):RS K E (tFor (iTup K tl) g tb) (xJ m YH gm b):=by
 intro G0 H0 ρ σ G H ho
 refine RSt.bind (t2:=λx D σ H1=>∃ a,x=.ref a/\(∃ xs,SqT K H1 a xs)/\∃ W:Nat->Nat->St->Hp->Prop,(∃ m,W 0 m σ H1)/\∀ i m σ H,W i m σ H ->
  ((Itt K a).stop i H/\D.nx σ H)\/((Itt K a).go i H/\∃ N:St->Hp->Prop,(∀ σ' H',N σ' H'->∃ m',m'<m/\W (i+1) m' σ' H')/\∀ x H',(Itt K a).yld i H x H'->g x σ H' λσ2 H2=>tb { D with nx:=N,ct:=N,bk:=D.nx } σ2 H2)) (hl G0 H0 ρ σ G H ho) λd ρ1 v G1 H1 s1 h1 r1=>?_
 refine RSt.opt λds e=>?_
 intro D hD
 cases d<;>first | (cases e;done) | skip
 cases e
 unfold Rep at r1
 obtain⟨a,vs,rfl,hq,rl⟩:=r1
 refine⟨a,rfl,⟨vs,SqT.same h1.e.s hq⟩,wG h1 hg hb rl (λG' H' i v sg sh hv=>?_) (λG' H' sg sh=>⟨vs,SqT.same sh (SqT.same sg hq),Nat.le_refl _⟩) hD⟩
 have q:SqT K H' a vs:=SqT.same sh (SqT.same sg hq)
 refine⟨⟨vs,v,q,hv⟩,λx H'' ⟨e1,e2⟩=>⟨e1,?_⟩⟩
 have:=e2 vs q
 rw[hv]at this
 cases this
 rfl
theorem Xx (G:Hp) (n:Nat):zF K G (yw n) ((List.range n).map λk:Nat=>V.int (k:Int)):=by
 unfold yw
 generalize List.range n=l
 induction l with
 |nil=>exact zF.nil
 |cons k r ih=>exact zF.cons (by unfold Rep;rfl) ih
theorem xz {x:D}{ds:List D}(h:yM x=some ds):∃ j:Int,x=.int j/\(-(2 ^ 62)<=j/\j<2 ^ 62)/\ds=yw j.toNat:=by
 cases x with
 |int j=>
  by_cases hj : -(2 ^ 62)<=j/\j<2 ^ 62
  ·have:yM (.int j)=some (yw j.toNat):=by show (if _ then _ else _)=_;rw[if_pos hj]
   rw[this]at h
   exact⟨j,rfl,hj,(Option.some.inj h).symm⟩
  ·have:yM (.int j)=none:=by show (if _ then _ else _)=_;rw[if_neg hj]
   rw[this]at h
   cases h
 |_=>cases h
theorem JY {te:TE}{m:M D}{g:TG}{gm:GM}{tb:TS}{b:M Fl}(hl:RE K E te m)(hg:RG K g gm)(hb:RS K E tb b):RS K E (tFor (iRng1 (tCons te tNil)) g tb) (YQ m gm b):=by
 intro G0 H0 ρ σ G H ho
 refine RSt.bind (t2:=λvs D σ H1=>∃ j:Int,vs=[.int j]/\-(2 ^ 62)<=j/\j<2 ^ 62/\∃ W:Nat->Nat->St->Hp->Prop,(∃ m,W 0 m σ H1)/\∀ i m σ H,W i m σ H ->
  ((Itr 0 j.toNat).stop i H/\D.nx σ H)\/((Itr 0 j.toNat).go i H/\∃ N:St->Hp->Prop,(∀ σ' H',N σ' H'->∃ m',m'<m/\W (i+1) m' σ' H')/\∀ x H',(Itr 0 j.toNat).yld i H x H'->g x σ H' λσ2 H2=>tb { D with nx:=N,ct:=N,bk:=D.nx } σ2 H2)) (Uq hl ut G0 H0 ρ σ G H ho) λxs ρ1 vs G1 H1 s1 h1 r1=>?_
 refine RSt.opt λds e=>?_
 intro D hD
 cases xs with
 |nil=>cases e
 |cons x r=>
  cases r with
  |cons _ _=>cases e
  |nil=>
   obtain⟨v,vr,rfl,rv,rr⟩:=r1.cons_inv
   obtain⟨j,rfl,hj,rfl⟩:=xz (show yM x=some ds from e)
   unfold Rep at rv
   subst rv
   rw[rr.nil_inv]
   have el:((List.range j.toNat).map λk:Nat=>V.int (k:Int)).length=j.toNat:=by simp
   refine⟨j,rfl,hj.1,hj.2,wG h1 hg hb (Xx G1 j.toNat) (λG' H' i v sg sh hv=>?_) (λG' H' sg sh=>by rw[el];exact Nat.le_refl _) hD⟩
   have hi:i<j.toNat:=by rw[<-el];exact (List.getElem?_eq_some_iff.mp hv).1
   refine⟨hi,λx H'' ⟨e1,e2⟩=>⟨e1,?_⟩⟩
   rw[List.getElem?_map,List.getElem?_range hi]at hv
   cases hv
   rw[e2]
   simp
theorem Qw {t:TT}{tb:TS}{c:M Bool}{b:M Fl} (n:Nat)(hc:RT K E t c)(hb:RS K E tb b):RS K E (tWhile t tb) (yo c b n):=by
 intro G0 H0 ρ σ G H ho D hD
 refine⟨λm σ H=>∃ ρ G',Same G G'/\Hold K G0 H0 ρ σ G' H/\zo K E G0 H0 G' (yo c b m ρ) D,⟨n,ρ,G,Same.refl _,ho,hD⟩,?_⟩
 rintro m σ H ⟨ρ,G',sg,h,hp⟩
 cases m with
 |zero=>exact hp.elim
 |succ m=>
  unfold yo at hp
  refine hc G0 H0 ρ σ G' H h _ ?_
  cases q:c ρ with
  |ok x ρ1=>
   rw[q]at hp
   intro k G1 H1 s1 h1 rk
   subst rk
   have hp':zo K E G0 H0 G' (if k=true then (b ρ1).bnd λf ρ=>Ym f ρ (yo c b m) else .ok .nx ρ1) D:=hp
   cases k with
   |true=>
    rw[if_pos rfl]at hp' ⊢
    refine⟨λσ' H'=>∃ ρ2 G2,Same G G2/\Hold K G0 H0 ρ2 σ' G2 H'/\zo K E G0 H0 G2 (yo c b m ρ2) D,λσ' H' z=>⟨m,Nat.lt_succ_self _,z⟩,hb G0 H0 ρ1 σ G1 H1 h1 _ ?_⟩
    cases q2:b ρ1 with
    |ok f ρ2=>
     rw[q2]at hp'
     cases f with
     |nx=>exact λσ2 G2 H2 s2 h2=>⟨ρ2,G2,sg.trans (s1.trans s2),h2,zo.mono (s1.trans s2) hp'⟩
     |cont=>exact λσ2 G2 H2 s2 h2=>⟨ρ2,G2,sg.trans (s1.trans s2),h2,zo.mono (s1.trans s2) hp'⟩
     |brk=>exact λσ2 G2 H2 s2 h2=>hp' σ2 G2 H2 (s1.trans s2) h2
     |ret d=>exact λv σ2 G2 H2 s2 h2=>hp' v σ2 G2 H2 (s1.trans s2) h2
    |exn c ρ2=>rw[q2]at hp';exact λσ2 G2 H2 s2 h2=>hp' σ2 G2 H2 (s1.trans s2) h2
    |bad=>rw[q2]at hp';exact hp'
   |false=>
    rw[if_neg (by simp)]at hp' ⊢
    exact hp' σ G1 H1 s1 h1
  |exn c ρ1=>rw[q]at hp;exact λG1 H1 s1 h1=>hp σ G1 H1 s1 h1
  |bad=>rw[q]at hp;exact hp
end
end PM
namespace PM
open PySem PySem.Spec PyProof.Rows L2
section
variable {X:Cx}
noncomputable def KB (K:PySem.W.Frag):R2:=λx y H Q=>∃ l b xs zs,x=.ref l/\y=.ref b/\SqL K H l xs/\SqL K H b zs/\xs.length+zs.length<=sizeLine/\∀ p,H p=none->Q (.ref p) (upd H p (.lst (xs++zs)))
theorem Ju:OpR X (binaryOp .Add) (KB X.K):=by
 intro pins s σ H x y v u Q I rx ry h
 obtain⟨l,b,xs,zs,rfl,rfl,hH,hB,hz,q⟩:=h
 cases rx
 cases ry
 obtain⟨its,r,p1,z1⟩:=I.list hH
 obtain⟨its2,r2,p2,z2⟩:=I.list hB
 have hl:=r.length
 have hl2:=r2.length
 obtain⟨⟨cls,dd,data,sl⟩,ho,hc,n,hd⟩:=p1.isList
 obtain⟨⟨cls2,dd2,data2,sl2⟩,ho2,hc2,n2,hd2⟩:=p2.isList
 simp only at hc hd hc2 hd2
 subst hc hd hc2 hd2
 have e:its.toArray++its2.toArray=(its++its2).toArray:=by simp
 refine concat_meets ⟨_,ho,rfl⟩ ⟨_,ho2,rfl⟩ noFill_list_add seq_list_add PySem.F.slot_list_add PySem.F.entry_list_add (PySem.F.args_list_add_2 _ _) (list_addW l b its.toArray its2.toArray n n2 dd dd2 sl sl2 (by simp only[List.size_toArray];omega)) ⟨ho,ho2,?_⟩
 rw[e]
 exact⟨.ref _,_,I.lnew (t':=s.toks) (r.append r2) (by rw[List.length_append];omega),rfl,q _ I.fresh⟩
noncomputable def kx (K:PySem.W.Frag):R2:=λx y H Q=>∃ l k xs,x=.ref l/\y=.int k/\SqL K H l xs/\-(2 ^ 63)<=k/\k<2 ^ 63/\xs.length * k.toNat<=sizeLine ∧
 ∀ p,H p=none->Q (.ref p) (upd H p (.lst (List.replicate k.toNat xs).flatten))
theorem Jr:OpR X (binaryOp .Mult) (kx X.K):=by
 intro pins s σ H x y v u Q I rx ry h
 obtain⟨l,k,xs,rfl,rfl,hH,h1,h2,hz,q⟩:=h
 cases rx
 obtain⟨t,rfl⟩:=ry
 obtain⟨its,r,p1,z1⟩:=I.list hH
 have hl:=r.length
 obtain⟨⟨cls,dd,data,sl⟩,ho,hc,n,hd⟩:=p1.isList
 simp only at hc hd
 subst hc hd
 have hsz:its.toArray.size * k.toNat<=sizeLine:=by rw[List.size_toArray,<-hl];exact hz
 have hcap:¬ its.toArray.size * k.toNat > (2 ^ 63 - 1) / 8:=by
  have:(sizeLine:Nat)<=(2 ^ 63 - 1) / 8:=by decide
  omega
 have hfit:¬ (!Builtin.List.listFitsIndex k)=true:=by
  rw[fitsIndex_both h1 h2]
  exact Bool.false_ne_true
 have hlong:¬ Builtin.List.listTooLong (its.toArray.size * k.toNat)=true:=by
  rw[notLongL hsz]
  exact Bool.false_ne_true
 refine wpAny_binaryOp_repeat_ref (T:="list") (U:="int") (by decide) ⟨_,ho,rfl⟩ (λs'=>typeIs_int s' k t) noFill_list_mul F.fills_int_mul F.slot_int_rmul repeat_list F.slot_int_index.lookup
  (call_meets F.slot_int_rmul (typeIs_int s k t) F.entry_int_rmul (F.args_int_rmul_2 _ _) (lm_int_rmul_list_any k t l its.toArray n dd sl)
   ⟨ho,rfl,⟨_,ho,rfl⟩,call_meets F.slot_list_mul ⟨_,ho,rfl⟩ F.entry_list_mul (F.args_list_mul_2 _ _) (lm_list_mul_any l its.toArray n dd sl k t hfit hcap hlong) ⟨ho,?_⟩⟩)
 rw[listMul_foldl_if]
 exact⟨.ref _,_,I.lnew (t':=s.toks) (r.rep k.toNat) (by rw[len_rep,Nat.mul_comm];exact hz),rfl,q _ I.fresh⟩
noncomputable def KA (K:PySem.W.Frag):R2:=λx y H Q=>∃ a b xs ys,x=.ref a/\y=.ref b/\SqT K H a xs/\SqT K H b ys/\xs.length+ys.length<=sizeLine ∧
 (xs=[]->Q (.ref b) H)/\(xs≠[]->ys=[]->Q (.ref a) H)/\(xs≠[]->ys≠[]->∀ p,H p=none->Q (.ref p) (upd H p (.tup (xs++ys))))
theorem Jt:OpR X (binaryOp .Add) (KA X.K):=by
 intro pins s σ H x y v u Q I rx ry h
 obtain⟨a,b,xs,ys,rfl,rfl,ha,hb,hz,q0,q1,q2⟩:=h
 by_cases hx:xs=[]
 ·subst hx
  cases rx
  cases ry
  obtain⟨its,r1,p1,_⟩:=I.tuple ha
  obtain⟨its2,r2,p2,_⟩:=I.tuple hb
  have e0:its=[]:=r1.nil_iff.mpr rfl
  subst e0
  obtain⟨⟨cls,dd,data,sl⟩,ho,hc,n,hd⟩:=p1
  obtain⟨⟨cls2,dd2,data2,sl2⟩,ho2,hc2,n2,hd2⟩:=p2
  simp only at hc hd hc2 hd2
  subst hc hd hc2 hd2
  exact concat_meets ⟨_,ho,rfl⟩ ⟨_,ho2,rfl⟩ noFill_tuple_add seq_tuple_add PySem.F.slot_tuple_add PySem.F.entry_tuple_add (PySem.F.args_tuple_add_2 _ _)
   (tuple_addW0 a b ([]:List Value).toArray its2.toArray n n2 dd dd2 sl sl2 (by simp)) ⟨ho,ho2,.ref b,H,I,rfl,q0 rfl⟩
 ·exact op_catT pins s σ H _ _ v u Q I rx ry ⟨a,b,xs,ys,rfl,rfl,ha,hb,hx,hz,q1 hx,q2 hx⟩
end
section
variable {K:PySem.W.Frag}
theorem zJ {G:Hp}{i:Int}{v:V}:Rep K G (.int i) v ↔ v=.int i:=by unfold Rep;exact Iff.rfl
theorem ZL {G:Hp}{i:Bool}{v:V}:Rep K G (.bl i) v ↔ v=.bl i:=by unfold Rep;exact Iff.rfl
theorem wx {G:Hp}{i:Str}{v:V}:Rep K G (.str i) v ↔ v=.str i:=by unfold Rep;exact Iff.rfl
theorem ya {G:Hp}{v:V}:Rep K G .non v ↔ v=.non:=by unfold Rep;exact Iff.rfl
theorem zh {G:Hp}{ds:List D}{v:V}:Rep K G (.tup ds) v ↔ ∃ a vs,v=.ref a/\G a=some (.tup vs)/\zF K G ds vs:=by conv=>lhs;unfold Rep
theorem zQ {G:Hp}{ds:List D}{v:V}:Rep K G (.lst ds) v ↔ ∃ a vs,v=.ref a/\SqL K G a vs/\zF K G ds vs:=by conv=>lhs;unfold Rep
theorem Uw {C:Int->Int->Prop}{g:Int->Int->V}{f:D->D->Option D}(h:∀ dx dy d,f dx dy=some d->∃ i j,dx=.int i/\dy=.int j/\C i j/\∀ G,Rep K G d (g i j)):OpM K (rI C g) f:=by
 intro G H x y dx dy d Q s rx ry e q
 obtain⟨i,j,rfl,rfl,c,r⟩:=h dx dy d e
 exact⟨i,j,zJ.mp rx,zJ.mp ry,c,q _ G H (Ext.refl s) (Same.refl _) (r G)⟩
theorem xA {g:Int->Int->V}{f:D->D->Option D}(h:∀ dx dy d,f dx dy=some d->∃ i j,dx=.int i/\dy=.int j/\∀ G,Rep K G d (g i j)):OpM K (rI0 g) f:=by
 intro G H x y dx dy d Q s rx ry e q
 obtain⟨i,j,rfl,rfl,r⟩:=h dx dy d e
 exact⟨i,j,zJ.mp rx,zJ.mp ry,q _ G H (Ext.refl s) (Same.refl _) (r G)⟩
theorem Jn:OpM K (rI0 λi j=>.int (i - j)) Vw:=xA λdx dy d e=>by
 cases dx<;>first | (cases e;done) | (cases dy<;>first | (cases e;done) | skip)
 cases e
 exact⟨_,_,rfl,rfl,λG=>zJ.mpr rfl⟩
theorem Xz:OpM K (rI0 λi j=>.bl (decide (i<j))) ltD:=xA λdx dy d e=>by
 cases dx<;>first | (cases e;done) | (cases dy<;>first | (cases e;done) | skip)
 cases e
 exact⟨_,_,rfl,rfl,λG=>ZL.mpr rfl⟩
theorem Kt:OpM K (rI0 λi j=>.bl (decide (i<=j))) leD:=xA λdx dy d e=>by
 cases dx<;>first | (cases e;done) | (cases dy<;>first | (cases e;done) | skip)
 cases e
 exact⟨_,_,rfl,rfl,λG=>ZL.mpr rfl⟩
theorem u0:OpM K (rI0 λi j=>.bl (decide (j<i))) gtD:=xA λdx dy d e=>by
 cases dx<;>first | (cases e;done) | (cases dy<;>first | (cases e;done) | skip)
 cases e
 exact⟨_,_,rfl,rfl,λG=>ZL.mpr rfl⟩
theorem u8:OpM K (rI0 λi j=>.bl (decide (j<=i))) geD:=xA λdx dy d e=>by
 cases dx<;>first | (cases e;done) | (cases dy<;>first | (cases e;done) | skip)
 cases e
 exact⟨_,_,rfl,rfl,λG=>ZL.mpr rfl⟩
theorem jD:OpM K (rI CDiv λi j=>.int (i / j)) Z3:=Uw λdx dy d e=>by
 cases dx<;>first | (cases e;done) | (cases dy<;>first | (cases e;done) | skip)
 rename_i a b
 by_cases h:0<b/\b<1073741824
 ·have e':Z3 (.int a) (.int b)=some (.int (a / b)):=by show (if _ then _ else _)=_;rw[if_pos h]
  rw[e']at e
  cases e
  exact⟨_,_,rfl,rfl,h,λG=>zJ.mpr rfl⟩
 ·have e':Z3 (.int a) (.int b)=none:=by show (if _ then _ else _)=_;rw[if_neg h]
  rw[e']at e
  cases e
theorem Jp:OpM K (rI (λ_ j=>0<j) λi j=>.int (i % j)) Zo:=Uw λdx dy d e=>by
 cases dx<;>first | (cases e;done) | (cases dy<;>first | (cases e;done) | skip)
 rename_i a b
 by_cases h:0<b
 ·have e':Zo (.int a) (.int b)=some (.int (a % b)):=by show (if _ then _ else _)=_;rw[if_pos h]
  rw[e']at e
  cases e
  exact⟨_,_,rfl,rfl,h,λG=>zJ.mpr rfl⟩
 ·have e':Zo (.int a) (.int b)=none:=by show (if _ then _ else _)=_;rw[if_neg h]
  rw[e']at e
  cases e
noncomputable def KC (K:PySem.W.Frag):R2:=λx y H Q=>rI0 (λi j=>.int (i+j)) x y H Q\/KB K x y H Q\/KA K x y H Q
theorem Jq:OpM K (KC K) ZC:=by
 intro G H x y dx dy d Q s rx ry e q
 cases dx<;>first | (cases e;done) | (cases dy<;>first | (cases e;done) | skip)
 ·cases e
  exact .inl ⟨_,_,zJ.mp rx,zJ.mp ry,q _ G H (Ext.refl s) (Same.refl _) (zJ.mpr rfl)⟩
 ·rename_i a b
  obtain⟨p,vs,rfl,h1,r1⟩:=zh.mp rx
  obtain⟨p2,ws,rfl,h2,r2⟩:=zh.mp ry
  by_cases h:a.length+b.length<=sizeLine
  ·have e':ZC (.tup a) (.tup b)=some (.tup (a++b)):=by show (if _ then _ else _)=_;rw[if_pos h]
   rw[e']at e
   cases e
   refine .inr (.inr ⟨p,p2,vs,ws,rfl,rfl,SqT.same s h1,SqT.same s h2,by rw[r1.ln,r2.ln];exact h,λz=>?_,λz1 z2=>?_,λz1 z2 n hn=>?_⟩)
   ·subst z
    have:a=[]:=List.length_eq_zero_iff.mp (by rw[r1.len];rfl)
    subst this
    exact q _ G H (Ext.refl s) (Same.refl _) (zh.mpr ⟨p2,ws,rfl,h2,r2⟩)
   ·subst z2
    have:b=[]:=List.length_eq_zero_iff.mp (by rw[r2.len];rfl)
    subst this
    rw[List.append_nil]at q
    exact q _ G H (Ext.refl s) (Same.refl _) (zh.mpr ⟨p,vs,rfl,h1,r1⟩)
   ·have x:=Ext.new (o:=.tup (vs++ws)) s hn
    exact q _ _ _ x (Same.upd hn) (zh.mpr ⟨n,_,rfl,upd_same,(r1.app r2).mono x.g⟩)
  ·have e':ZC (.tup a) (.tup b)=none:=by show (if _ then _ else _)=_;rw[if_neg h]
   rw[e']at e
   cases e
 ·rename_i a b
  obtain⟨p,vs,rfl,h1,r1⟩:=zQ.mp rx
  obtain⟨p2,ws,rfl,h2,r2⟩:=zQ.mp ry
  by_cases h:a.length+b.length<=sizeLine
  ·have e':ZC (.lst a) (.lst b)=some (.lst (a++b)):=by show (if _ then _ else _)=_;rw[if_pos h]
   rw[e']at e
   cases e
   refine .inr (.inl ⟨p,p2,vs,ws,rfl,rfl,s.seq h1,s.seq h2,by rw[r1.ln,r2.ln];exact h,λn hn=>?_⟩)
   have x:=Ext.new (o:=.lst (vs++ws)) s hn
   exact q _ _ _ x (Same.upd hn) (zQ.mpr ⟨n,_,rfl,SqL.of upd_same,(r1.app r2).mono x.g⟩)
  ·have e':ZC (.lst a) (.lst b)=none:=by show (if _ then _ else _)=_;rw[if_neg h]
   rw[e']at e
   cases e
noncomputable def ky (K:PySem.W.Frag):R2:=λx y H Q=>rI CMul (λi j=>.int (i * j)) x y H Q\/kx K x y H Q
theorem Jo:OpM K (ky K) Yd:=by
 intro G H x y dx dy d Q s rx ry e q
 cases dx<;>first | (cases e;done) | (cases dy<;>first | (cases e;done) | skip)
 ·rename_i a b
  by_cases h:(-(2 ^ 64)<a/\a<2 ^ 64)\/(-(2 ^ 64)<b/\b<2 ^ 64)
  ·have e':Yd (.int a) (.int b)=some (.int (a * b)):=by show (if _ then _ else _)=_;rw[if_pos h]
   rw[e']at e
   cases e
   exact .inl ⟨_,_,zJ.mp rx,zJ.mp ry,h,q _ G H (Ext.refl s) (Same.refl _) (zJ.mpr rfl)⟩
  ·have e':Yd (.int a) (.int b)=none:=by show (if _ then _ else _)=_;rw[if_neg h]
   rw[e']at e
   cases e
 ·rename_i a k
  by_cases h : -(2 ^ 63)<=k/\k<2 ^ 63/\a.length * k.toNat<=sizeLine
  ·have e':Yd (.lst a) (.int k)=some (.lst (List.replicate k.toNat a).flatten):=by show (if _ then _ else _)=_;rw[if_pos h]
   rw[e']at e
   cases e
   obtain⟨p,vs,rfl,h1,r1⟩:=zQ.mp rx
   refine .inr ⟨p,k,vs,rfl,zJ.mp ry,s.seq h1,h.1,h.2.1,by rw[r1.ln];exact h.2.2,λn hn=>?_⟩
   have x:=Ext.new (o:=.lst (List.replicate k.toNat vs).flatten) s hn
   exact q _ _ _ x (Same.upd hn) (zQ.mpr ⟨n,_,rfl,SqL.of upd_same,(r1.rep k.toNat).mono x.g⟩)
  ·have e':Yd (.lst a) (.int k)=none:=by show (if _ then _ else _)=_;rw[if_neg h]
   rw[e']at e
   cases e
theorem Xi (n:Nat) (i:Int):yf n i=ixN n i:=rfl
theorem Vm {G:Hp}{ds:List D}{vs:List V}{i:Int}{d:D}(r:zF K G ds vs)(e:atD ds i=some d):∃ v,atI vs i=some v/\Rep K G d v:=by
 unfold atD at e
 unfold atI
 rw[r.ln]
 rw[Xi]at e
 cases q:ixN ds.length i with
 |none=>rw[q]at e;cases e
 |some j=>
  rw[q]at e
  exact r.get (show ds[j]? = some d from e)
theorem Ku:OpM K (rIx K) ixD:=by
 intro G H x y dx dy d Q s rx ry e q
 cases dx<;>first | (cases e;done) | (cases dy<;>first | (cases e;done) | skip)
 ·rename_i a i
  obtain⟨p,vs,rfl,h1,r1⟩:=zh.mp rx
  obtain⟨v,ev,rv⟩:=Vm r1 (show atD a i=some d from e)
  exact .inr (.inl ⟨p,vs,i,v,rfl,zJ.mp ry,SqT.same s h1,ev,q _ G H (Ext.refl s) (Same.refl _) rv⟩)
 ·rename_i a i
  obtain⟨p,vs,rfl,h1,r1⟩:=zQ.mp rx
  obtain⟨v,ev,rv⟩:=Vm r1 (show atD a i=some d from e)
  exact .inl ⟨p,vs,i,v,rfl,zJ.mp ry,s.seq h1,ev,q _ G H (Ext.refl s) (Same.refl _) rv⟩
theorem QC {G:Hp}{d:D}{v:V}(r:Rep K G d v):decide (v=.non)=X8 d:=by
 cases d with
 |non=>rw[ya.mp r];rfl
 |bl b=>rw[ZL.mp r];rfl
 |int b=>rw[zJ.mp r];rfl
 |str b=>rw[wx.mp r];rfl
 |tup b=>obtain⟨a,vs,rfl,_⟩:=zh.mp r;rfl
 |lst b=>obtain⟨a,vs,rfl,_⟩:=zQ.mp r;rfl
 |exc c=>unfold Rep at r;obtain⟨a,rfl,_⟩:=r;rfl
 |dct ks ds=>unfold Rep at r;obtain⟨a,vs,rfl,_⟩:=r;rfl
 |dcT ks ds=>unfold Rep at r;obtain⟨a,o,vs,rfl,_⟩:=r;rfl
theorem UQ {d:D}(h:X8 d=true):d=.non:=by cases d<;>first | rfl | cases h
theorem VM:OpM K (λx y H Q=>y=.non/\Q (.bl (decide (x=.non))) H) isD:=by
 intro G H x y dx dy d Q s rx ry e q
 unfold isD at e
 split at e
 ·rename_i h
  cases e
  have:=UQ h
  subst this
  exact⟨ya.mp ry,q _ G H (Ext.refl s) (Same.refl _) (ZL.mpr (by rw[QC rx]))⟩
 ·cases e
theorem JI:UnM K (rU λi=>.int (-i)) VQ:=by
 intro G H x dx d Q s rx e q
 cases dx<;>first | (cases e;done) | skip
 cases e
 exact⟨_,zJ.mp rx,q _ G H (Ext.refl s) (Same.refl _) (zJ.mpr rfl)⟩
theorem Zk:ClM K (λxs H Q=>∃ p ys,xs=[.ref p]/\(SqL K H p ys\/SqT K H p ys)/\Q (.int ys.length) H) (ZB Z8):=by
 intro G H xs ds d Q s r e q
 cases ds with
 |nil=>cases e
 |cons x t=>
  cases t with
  |cons _ _=>cases e
  |nil=>
   obtain⟨v,vr,rfl,rv,rr⟩:=r.cons_inv
   rw[rr.nil_inv]
   have e':Z8 x=some d:=e
   cases x<;>first | (cases e';done) | skip
   ·cases e'
    obtain⟨a,vs,rfl,h1,r1⟩:=zh.mp rv
    exact⟨a,vs,rfl,.inr (SqT.same s h1),q _ G H (Ext.refl s) (Same.refl _) (zJ.mpr (by rw[r1.ln]))⟩
   ·cases e'
    obtain⟨a,vs,rfl,h1,r1⟩:=zQ.mp rv
    exact⟨a,vs,rfl,.inl (s.seq h1),q _ G H (Ext.refl s) (Same.refl _) (zJ.mpr (by rw[r1.ln]))⟩
theorem kX:ClM K (λxs H Q=>(∃ i,xs=[.int i]/\Q (.int i) H)\/∃ k,xs=[.bl k]/\Q (.int (if k then 1 else 0)) H) (ZB Xr):=by
 intro G H xs ds d Q s r e q
 cases ds with
 |nil=>cases e
 |cons x t=>
  cases t with
  |cons _ _=>cases e
  |nil=>
   obtain⟨v,vr,rfl,rv,rr⟩:=r.cons_inv
   rw[rr.nil_inv]
   have e':Xr x=some d:=e
   cases x<;>first | (cases e';done) | skip
   ·cases e'
    exact .inr ⟨_,by rw[ZL.mp rv],q _ G H (Ext.refl s) (Same.refl _) (zJ.mpr rfl)⟩
   ·cases e'
    exact .inl ⟨_,by rw[zJ.mp rv],q _ G H (Ext.refl s) (Same.refl _) (zJ.mpr rfl)⟩
theorem jy:ClM K (λxs H Q=>∃ p ys,xs=[.ref p]/\(SqL K H p ys\/SqT K H p ys)/\∀ l,H l=none->Q (.ref l) (upd H l (.lst ys))) (ZB Wn):=by
 intro G H xs ds d Q s r e q
 cases ds with
 |nil=>cases e
 |cons x t=>
  cases t with
  |cons _ _=>cases e
  |nil=>
   obtain⟨v,vr,rfl,rv,rr⟩:=r.cons_inv
   rw[rr.nil_inv]
   have e':Wn x=some d:=e
   cases x<;>first | (cases e';done) | skip
   ·cases e'
    obtain⟨a,vs,rfl,h1,r1⟩:=zh.mp rv
    refine⟨a,vs,rfl,.inr (SqT.same s h1),λn hn=>?_⟩
    have x:=Ext.new (o:=.lst vs) s hn
    exact q _ _ _ x (Same.upd hn) (zQ.mpr ⟨n,_,rfl,SqL.of upd_same,r1.mono x.g⟩)
   ·cases e'
    obtain⟨a,vs,rfl,h1,r1⟩:=zQ.mp rv
    refine⟨a,vs,rfl,.inl (s.seq h1),λn hn=>?_⟩
    have x:=Ext.new (o:=.lst vs) s hn
    exact q _ _ _ x (Same.upd hn) (zQ.mpr ⟨n,_,rfl,SqL.of upd_same,r1.mono x.g⟩)
theorem QR:ClM K (λxs H Q=>∃ p ys,xs=[.ref p]/\((SqL K H p ys/\∀ l,H l=none->Q (.ref l) (upd H l (.tup ys)))\/(SqT K H p ys/\Q (.ref p) H))) (ZB tupleD):=by
 intro G H xs ds d Q s r e q
 cases ds with
 |nil=>cases e
 |cons x t=>
  cases t with
  |cons _ _=>cases e
  |nil=>
   obtain⟨v,vr,rfl,rv,rr⟩:=r.cons_inv
   rw[rr.nil_inv]
   have e':tupleD x=some d:=e
   cases x<;>first | (cases e';done) | skip
   ·cases e'
    obtain⟨a,vs,rfl,h1,r1⟩:=zh.mp rv
    exact⟨a,vs,rfl,.inr ⟨SqT.same s h1,q _ G H (Ext.refl s) (Same.refl _) (zh.mpr ⟨a,vs,rfl,h1,r1⟩)⟩⟩
   ·cases e'
    obtain⟨a,vs,rfl,h1,r1⟩:=zQ.mp rv
    refine⟨a,vs,rfl,.inl ⟨s.seq h1,λn hn=>?_⟩⟩
    have x:=Ext.new (o:=.tup vs) s hn
    exact q _ _ _ x (Same.upd hn) (zh.mpr ⟨n,_,rfl,upd_same,r1.mono x.g⟩)
end
end PM
namespace PM
open PySem PySem.Spec PyProof.Rows L2
abbrev Yk:List Value:=[.type "ValueError",.type "Exception",.type "BaseException",.type "object"]
abbrev yG:String:="ValueError.__new__"
theorem wK {K:PySem.W.Frag}{h:Heap}{C:Addr}(X:K.In h)(q:PySem.W.excIn K C Yk yG=true) :
  ∃ bm N nm qn bs hdct sn sub ab col dd k0 k1 k2 k3 k5 mN,h.get? C=some (excClassObj nm qn C N bs bm hdct sn sub ab col dd k0 k1 k2 k3 k5 yG)/\h.Ns N mN/\mN "__init__" = none/\OwnTail h Yk bm ∧
   ∃ dd' cd sl,K.lookup C=some ⟨.type "type",dd',.cls cd,sl⟩/\cd.mro=.ref C::bm:=by
 unfold PySem.W.excIn at q
 split at q
 ·rename_i dd cd sl ho
  split at q
  ·rename_i C' bm k0 k1 k2 k3 n k5 hm hs
   simp only[Bool.and_eq_true,beq_iff_eq,Bool.not_eq_true']at q
   obtain⟨⟨⟨⟨⟨rfl,rfl⟩,hdel⟩,ht⟩,hok⟩,hni⟩:=q
   have hm':=hm
   have ho':=ho
   obtain⟨nm,bs,mro,ns,qn,hd,sn,sub,ab,col,del⟩:=cd
   dsimp only at hm hdel hok hni
   subst hm hdel
   have hsl:sl=#[k0,k1,k2,k3,some (.builtin yG),k5]:=by
    obtain⟨l⟩:=sl
    simp only at hs
    rw[hs]
   subst hsl
   exact⟨bm,ns,nm,qn,bs,hd,sn,sub,ab,col,dd,k0,k1,k2,k3,k5,_,X _ _ ho,.of_isNs (PySem.W.isNs_of_in X hok),PySem.W.nsMap_none_of_in X hok hni,PySem.W.tail_of_in X ht,_,_,_,ho',hm'⟩
  ·cases q
 ·cases q
theorem wX {P:Program}{w:World}{H:Hp}{h:Heap}{a:Addr}{o:HO}(x:ObjOk P w H h a o):∃ ob,h.get? a=some ob:=by
 cases o with
 |lst xs=>obtain⟨_,_,_,_,e⟩:=x;exact⟨_,e⟩
 |tup xs=>obtain⟨_,_,_,ob,e,_⟩:=x;exact⟨_,e⟩
 |dK kvs=>obtain⟨_,_,_,_,o,_,_,e,_⟩:=x;exact⟨_,e⟩
 |dT kvs=>obtain⟨_,_,_,_,o,_,_,e,_⟩:=x;exact⟨_,e⟩
 |set S n=>obtain⟨o,_,_,_,e,_⟩:=x;exact⟨_,e⟩
 |ins C dx fs=>obtain⟨_,_,_,e,_⟩:=x;exact⟨_,e⟩
 |own y=>exact x
 |xd fs=>obtain⟨_,⟨_,_,_,e,_⟩,_⟩:=x;exact⟨_,e⟩
 |rng lo hi=>obtain⟨_,_,_,e⟩:=x;exact⟨_,e⟩
 |frz ob u=>obtain⟨e,_⟩:=x;exact⟨_,e⟩
 |tbl ps=>exact⟨_,show h.get? a=some _ from x⟩
 |met f y=>exact⟨_,show h.get? a=some _ from x⟩
 |ext φ=>obtain⟨_,e,_⟩:=x;exact e
structure Flying (P:Program)(w:World)(stack:List Env)(H H':Hp)(s:Shared) (cls:Value) (e:Value)(s':Shared)(B:Heap)(e0:Addr) (a0:Value):Prop where
 ev:e=.ref e0
 fl:Heap.FlyingW B stack e0 cls a0 s'.heap
 hok:HOk P w H' B
 os:s'.os=s.os
 gens:AllBare s'.gens
 un:Un (frs stack) [] H H' s.heap s'.heap
 kb:∀ b o,s.heap.get? b=some o->H b=none->b ∉ frs stack->B.get? b=some o
 tb:∀ b o,s.heap.get? b=some o->b ∉ frs stack->∃ o',B.get? b=some o'
noncomputable def CX1 (P:Program)(w:World):CXT:=λouter H s E e s'=>∃ H' cls B e0 a0,Flying P w outer H H' s cls e s' B e0 a0/\E cls none H'
theorem w8 {env:Env}{outer:List Env}{b:Addr}{L:Addr}(hf:env.frame=some L):b ∈ frs (env::outer) ↔ b=L\/b ∈ frs outer:=by
 unfold frs
 rw[List.filterMap_cons]
 simp[hf]
section
variable {P:Program}{w:World}{K:PySem.W.Frag}{mg:Str->Option Value}{base:Heap}{N:List Str}{qual:Str}{scope:Scope}{f:Addr}{cd:Value}{A:Around}{outer:List Env}{s₀:Shared}{H₀:Hp}{E:XK}
 {pins:List (Addr×Obj)}{σ:St}{H:Hp}{s:Shared}
theorem jk {X:Cx}(I:Inv X pins σ H s):HOk X.prog X.w H (PySem.W.hideAll s.heap (frs X.stack)):=λa o e=>by
 have nofr:∀ b u,H b=some u->b ∉ frs X.stack:=λb u q z=>by
  rw[I.stkFree b z]at q
  cases q
 refine (I.hok a o e).stay (λb u hb q=>PySem.W.hideAll_get _ q ?_) (λb q=>q) λb xs q=>q
 rcases hb with rfl | hb
 ·exact nofr _ _ e
 ·exact nofr _ _ hb
theorem K7 {l:List Env}:∀ env ∈ l,∀ a,env.frame=some a->a ∈ frs l:=λenv he a hf=>List.mem_filterMap.mpr ⟨env,he,hf⟩
theorem uJ {e:Addr}{cls:Value}{vs:List Value}{h':Heap}(I:Inv (cxOf (CX1 P w) P w K mg base N qual scope f cd A outer s₀ H₀ E) pins σ H s)(hx:Heap.MadeExcOf s.heap h' e cls vs)(he:E cls none H) :
  (cxOf (CX1 P w) P w K mg base N qual scope f cd A outer s₀ H₀ E).xe (.ref e) { s with heap:=h' }:=by
 have hL:s₀.heap.objs.size<=(envOfC qual scope s₀.heap.objs.size f cd).locals:=Nat.le_refl _
 have hf:(envOfC qual scope s₀.heap.objs.size f cd).frame=some s₀.heap.objs.size:=rfl
 refine wpAny_leaves_madeW (base:=PySem.W.hideAll s.heap (frs (envOfC qual scope s₀.heap.objs.size f cd::outer))) (h:=s.heap) I.ok.frames hf (λb o q=>PySem.W.of_hideAll _ q) (PySem.W.funFrames_hide I.stack K7) hx λh'' t x1 x2 x3 x4=>?_
 have base0:∀ b o,s₀.heap.get? b=some o->b≠s₀.heap.objs.size:=λb o q z=>by
  subst z
  exact absurd (Heap.lt_size q) (Nat.lt_irrefl _)
 have kb:∀ b o,s₀.heap.get? b=some o->H₀ b=none->b ∉ frs outer->(PySem.W.hideAll s.heap (frs (envOfC qual scope s₀.heap.objs.size f cd::outer))).get? b=some o:=λb o q n hb=>
  PySem.W.hideAll_get _ (I.base.keep b o q n hb (by intro z;cases z)) λz=>by
   rcases (w8 hf).mp z with z | z
   ·exact base0 b o q z
   ·exact hb z
 have tb:∀ b o,s₀.heap.get? b=some o->b ∉ frs outer->∃ o',(PySem.W.hideAll s.heap (frs (envOfC qual scope s₀.heap.objs.size f cd::outer))).get? b=some o':=λb o q hb=>by
  obtain⟨o',q'⟩:=I.base.there b o q (by intro z;cases z)
  exact⟨o',PySem.W.hideAll_get _ q' λz=>by
   rcases (w8 hf).mp z with z | z
   ·exact base0 b o q z
   ·exact hb z⟩
 have fr:∀ b o,s₀.heap.get? b=some o->b ∈ frs outer->∃ sl,h''.get? b=some { o with slots:=sl }:=λb o q hb=>by
  obtain⟨sl,q1⟩:=I.base.slot b o q (I.ok.frf b hb) hb (by intro z;cases z)
  have nf:∀ vs,o.data≠.fields vs:=by
   obtain⟨_,o2,q2,nf⟩:=I.ok.funs.mem hb
   have q2':s₀.heap.get? b=some o2:=q2
   rw[q]at q2'
   cases q2'
   exact nf
  obtain⟨sl2,q2⟩:=x4 b _ (hx.keeps b _ q1) nf
  exact⟨sl2,q2⟩
 refine⟨H,cls,_,e,.ref t,⟨rfl,x1,jk I,I.os,I.bare,⟨λb o q n hb _=>x1.1 b o (kb b o q n hb),λb o q n hb _=>fr b o q hb,λb o q n _=>I.base.free b o q n (by intro z;cases z),λb o q _=>?_,I.base.tups,I.base.frzs,I.base.tbls⟩,kb,tb⟩,he⟩
 by_cases hb:b ∈ frs outer
 ·obtain⟨sl,q'⟩:=fr b o q hb
  exact⟨_,q'⟩
 ·obtain⟨o',q'⟩:=tb b o q hb
  exact⟨o',x1.1 b o' q'⟩
theorem zW:Passes (CX1 P w) (cxOf (CX1 P w) P w K mg base N qual scope f cd A outer s₀ H₀ E) E:=by
 intro pins σ H s e s' I hx
 obtain⟨H',cls,B,e0,a0,F,he⟩:=hx
 have hf:(envOfC qual scope s₀.heap.objs.size f cd).frame=some s₀.heap.objs.size:=rfl
 have base0:∀ b o,s₀.heap.get? b=some o->b≠s₀.heap.objs.size:=λb o q z=>by
  subst z
  exact absurd (Heap.lt_size q) (Nat.lt_irrefl _)
 rw[F.ev]
 refine wpAny_leaves_onW I.ok.frames hf F.fl λh'' x1 x4=>?_
 have nofr:∀ b o,s₀.heap.get? b=some o->b ∉ frs outer->b ∉ frs (envOfC qual scope s₀.heap.objs.size f cd::outer):=λb o q hb z=>by
  rcases (w8 hf).mp z with z | z
  ·exact base0 b o q z
  ·exact hb z
 have kb:∀ b o,s₀.heap.get? b=some o->H₀ b=none->b ∉ frs outer->B.get? b=some o:=λb o q n hb=>
  F.kb b o (I.base.keep b o q n hb (by intro z;cases z)) (I.base.free b o q n (by intro z;cases z)) (nofr b o q hb)
 have tb:∀ b o,s₀.heap.get? b=some o->b ∉ frs outer->∃ o',B.get? b=some o':=λb o q hb=>by
  obtain⟨o',q'⟩:=I.base.there b o q (by intro z;cases z)
  exact F.tb b o' q' (nofr b o q hb)
 have fr:∀ b o,s₀.heap.get? b=some o->b ∈ frs outer->∃ sl,h''.get? b=some { o with slots:=sl }:=λb o q hb=>by
  obtain⟨sl,q1⟩:=I.base.slot b o q (I.ok.frf b hb) hb (by intro z;cases z)
  have nf:∀ vs,o.data≠.fields vs:=by
   obtain⟨_,o2,q2,nf⟩:=I.ok.funs.mem hb
   have q2':s₀.heap.get? b=some o2:=q2
   rw[q]at q2'
   cases q2'
   exact nf
  obtain⟨sl1,q2⟩:=F.un.slot b _ q1 (I.base.free b o q (I.ok.frf b hb) (by intro z;cases z)) ((w8 hf).mpr (.inr hb)) (by intro z;cases z)
  obtain⟨sl2,q3⟩:=x4 b _ q2 nf
  exact⟨sl2,q3⟩
 refine⟨H',cls,B,e0,a0,⟨rfl,x1,F.hok,F.os.trans I.os,F.gens,⟨λb o q n hb _=>x1.1 b o (kb b o q n hb),λb o q n hb _=>fr b o q hb,λb o q n hx=>(let ⟨o',q'⟩:=I.base.there b o q hx;F.un.free b o' q' (I.base.free b o q n hx) hx),λb o q _=>?_,λb xs q=>F.un.tups b xs (I.base.tups b xs q),λb o u q=>F.un.frzs b o u (I.base.frzs b o u q),λb ps q=>by
  obtain⟨m1,e1⟩:=I.base.tbls b ps q
  obtain⟨m2,e2⟩:=F.un.tbls b _ e1
  exact⟨m1++m2,by rw[e2,Array.append_assoc]⟩⟩,kb,tb⟩,he⟩
 by_cases hb:b ∈ frs outer
 ·obtain⟨sl,q'⟩:=fr b o q hb
  exact⟨_,q'⟩
 ·obtain⟨o',q'⟩:=tb b o q hb
  exact⟨o',x1.1 b o' q'⟩
noncomputable def Qm (E:XK)(C:Addr):TS:=λ_ _ H=>E (.ref C) none H
theorem Q8 {C:Addr}{x:Str}{z:Str}{np cpos pos ap:Pos}{j:Nat}(q:PySem.W.excIn K C Yk yG=true)(hm:mg x=some (.ref C))(hgl:Gl (cxOf (CX1 P w) P w K mg base N qual scope f cd A outer s₀ H₀ E) x)
  (hd:autoParam ((x == ("__debug__" : Str))=false) aD._auto_1):PS (cxOf (CX1 P w) P w K mg base N qual scope f cd A outer s₀ H₀ E) (.Raise (some (.Call (.Name x np) [.Constant (.str z) j ap] [] cpos)) none pos) (Qm E C):=by
 intro pins s σ H D I h
 obtain⟨bm,N',nm,qn,bs,hdct,sn,sub,ab,col,dd,k0,k1,k2,k3,k5,mN,hC,hN,hni,T,_⟩:=wK I.kIn q
 refine wpAny_Raise_call_subT (C:=C) (nm:=nm) (q:=qn) (N:=N') (bs:=bs) (bm:=bm) (hdct:=hdct) (sn:=sn) (sub:=sub) (ab:=ab) (col:=col) (dd:=dd) (k0:=k0) (k1:=k1) (k2:=k2) (k3:=k3) (k5:=k5)
  PySem.F.excBase_ValueError (mN:=mN) (T.hasType PySem.F.excBase_ValueError.hasBase) (I.ok.hd rfl) rfl hni (ld_glob I hgl hm ⟨rfl,?_⟩ hd)
 refine Calls.evalArgs_plain (Calls.spliced_cons (Calls.Constant_str (k:=j) (pos:=ap) (Calls.spliced_nil ⟨rfl,(by show 1<=sizeLine;decide),?_⟩)))
 have I1:=I.tok (s.toks+1)
 refine⟨hC,hN,T,λh' e hx=>uJ I1 hx h⟩
theorem Qz {C:Addr}:RS K E (Qm E C) (yd C):=λG0 H0 ρ σ G H ho D hD=>hD σ G H (Same.refl _) ho
theorem qK {X:Cx}{M:Model}{A:Around}{E:Value->Shared->Prop}{i:Nat}{x:Str}{pos:Pos}{Q:Unit->Shared->Prop}(I:Inv X pins σ H s)(hN:X.N.Nodup)(hi:X.N[i]? = some x)(hk:X.env.scope.names.lookup x=some .local)
  (h:∀ s',Inv X pins (σ.set i none) H s'->Q () s'):wpAny M A (do bindName X.env x .none;unbindBehindTheSuite X.env x pos) Q E s:=by
 obtain⟨m,hn,hl⟩:=id I.loc
 have hcls:(X.env.scope.kind == .class || (X.env.scope.kind == .module && X.env.locals != X.env.globals))=false:=by rw[I.ok.kind];rfl
 have hiσ:i<σ.length:=by rw[I.len];exact (List.getElem?_eq_some_iff.mp hi).1
 have cne:=I.cne
 refine wpAny_nameGoes_keeps hk hn hcls λh' v hn' hs=>?_
 obtain⟨oL,_,_,hoL,_⟩:=id hn
 have tracked:HOk X.prog X.w H h':=λb ob e=>by
  refine (I.hok b ob e).stay (λc w' hc q=>(hs.2 c ?_).trans q) (λ_ q=>q) λ_ _ q=>q
  rintro rfl
  rcases hc with z | hc
  ·rw[<-z,I.free]at e;cases e
  ·rw[I.free]at hc;cases hc
 refine h _ ⟨I.ok,I.os,I.bare,⟨λb o e n hb hx=>?_,λb o e n hb hx=>?_,I.base.free,λb o e hx=>?_,I.base.tups,I.base.frzs,I.base.tbls⟩,⟨_,hn',λj y v' e1 e2 e3=>?_⟩,λy c e=>?_,I.free,I.freeC,λp hp=>?_,tracked,by simpa using I.len⟩
 ·exact (hs.2 b (Nat.ne_of_lt (Nat.lt_of_lt_of_le (Heap.lt_size e) I.ok.above))).trans (I.base.keep b o e n hb hx)
 ·obtain⟨sl,e1⟩:=I.base.slot b o e n hb hx
  exact⟨sl,(hs.2 b (Nat.ne_of_lt (Nat.lt_of_lt_of_le (Heap.lt_size e) I.ok.above))).trans e1⟩
 ·obtain⟨o',e1⟩:=I.base.there b o e hx
  exact⟨o',(hs.2 b (Nat.ne_of_lt (Nat.lt_of_lt_of_le (Heap.lt_size e) I.ok.above))).trans e1⟩
 ·by_cases hj:j=i
  ·subst hj
   rw[List.getElem?_set_self hiσ]at e2
   cases e2
  ·rw[List.getElem?_set_ne (Ne.symm hj)]at e2
   obtain⟨u',r',q⟩:=hl j y v' e1 e2 e3
   refine⟨u',r',?_⟩
   rcases q with ⟨k,e⟩ | ⟨k,c,e,z⟩
   ·refine .inl ⟨k,?_⟩
    have:y≠x:=λe=>hj (nodup_ix hN e1 (e ▸ hi))
    simp[this,e]
   ·exact .inr ⟨k,c,e,z.sameBut hs (cne y c e)⟩
 ·obtain⟨w',z⟩:=I.cell y c e
  exact⟨w',z.sameBut hs (cne y c e)⟩
 ·obtain⟨e,n,ne,nf,d⟩:=I.pin p hp
  exact⟨(hs.2 p.1 ne).trans e,n,ne,nf,d⟩
theorem XJ {M:Model}{A:Around}{E:Value->Shared->Prop}{nm q nm2 q2:Str}{C N C2 N2:Addr}{bs bm bs2 bm2:List Value}{hdct hdct2:Bool}{sn sn2:List Str}{sub sub2:List Value}{ab ab2:Bool}{col col2:Option Bool}{dd dd2:Option Addr}
  {k0 k1 k2 k3 k5 j0 j1 j2 j3 j5:Option Value}{newId newId2:String}{h:Heap}{g:Array GenState}{d:Drawn}{t:Nat}{os:OsState}{e:Addr}{oe:Obj}{Q:Bool->Shared->Prop}
  (hC:h.get? C=some (excClassObj nm q C N bs bm hdct sn sub ab col dd k0 k1 k2 k3 k5 newId))(hC2:h.get? C2=some (excClassObj nm2 q2 C2 N2 bs2 bm2 hdct2 sn2 sub2 ab2 col2 dd2 j0 j1 j2 j3 j5 newId2))
  (he:h.get? e=some oe)(hcls:oe.cls=.ref C)(hbase:bm2.contains (.type "BaseException")=true)(hin:(Value.ref C::bm).contains (.ref C2)=true)
  (hq:Q true ⟨h,g,d,t,os⟩):wpAny M A (excMatches (.ref e) (.ref C2)) Q E ⟨h,g,d,t,os⟩:=by
 have hcB:(Value.ref C2::bm2).contains (.type "BaseException")=true:=by rw[List.contains_cons,hbase,Bool.or_true]
 have f:=tc_notTuple
 unfold excMatches
 repeat (first | (with_reducible refine wpAny_loadPart_at he ?_;rw[hcls]) | with_reducible refine wpAny_loadPart_at hC2 ?_ | (with_reducible refine wpAny_isSubtype_exc hC2 ?_;rw[hcB]) | (with_reducible refine wpAny_isSubtype_exc hC ?_;rw[hin]) | wp_step)
 exact hq
noncomputable abbrev Cx.tr (X:Cx)(pins:List (Addr×Obj))(xe:Value->Shared->Prop):Cx:={ X with xe:=xe,pn:=X.pn++pins }
theorem Inv.tr {X:Cx}{pins':List (Addr×Obj)}{xe:Value->Shared->Prop}(I:Inv X (pins++pins') σ H s):Inv (Cx.tr X pins xe) pins' σ H s:=
 ⟨⟨I.ok.mod,I.ok.kind,I.ok.glob,I.ok.blt,I.ok.above,I.ok.inj,I.ok.has,I.ok.cab,I.ok.hd,I.ok.frames,I.ok.stk,I.ok.exf,I.ok.bs,I.ok.bsz,I.ok.noex,I.ok.exfs,I.ok.funs,I.ok.frf⟩,I.os,I.bare,I.base,I.loc,I.cell,I.free,I.freeC,by
  intro p hp
  refine I.pin p ?_
  have hp':p ∈ (X.pn++pins)++pins':=hp
  rw[List.append_assoc]at hp'
  exact hp',I.hok,I.len⟩
theorem Inv.untr {X:Cx}{pins':List (Addr×Obj)}{xe:Value->Shared->Prop}(I:Inv (Cx.tr X pins xe) pins' σ H s):Inv X (pins++pins') σ H s:=
 ⟨⟨I.ok.mod,I.ok.kind,I.ok.glob,I.ok.blt,I.ok.above,I.ok.inj,I.ok.has,I.ok.cab,I.ok.hd,I.ok.frames,I.ok.stk,I.ok.exf,I.ok.bs,I.ok.bsz,I.ok.noex,I.ok.exfs,I.ok.funs,I.ok.frf⟩,I.os,I.bare,I.base,I.loc,I.cell,I.free,I.freeC,by
  intro p hp
  refine I.pin p ?_
  show p ∈ (X.pn++pins)++pins'
  rw[List.append_assoc]
  exact hp,I.hok,I.len⟩
theorem KQ {CB:Addr}{cx n y:Str}{iy ie:Nat}{body:List Stmt}{D:Ends}{E':XK}{np py pn hpos apos pos:Pos}(I:Inv (cxOf (CX1 P w) P w K mg base N qual scope f cd A outer s₀ H₀ E) pins σ H s)
  (qB:PySem.W.excIn K CB Yk yG=true)(hm:mg cx=some (.ref CB))(hgl:Gl (cxOf (CX1 P w) P w K mg base N qual scope f cd A outer s₀ H₀ E) cx)
  (hb:∀ (xe:Value->Shared->Prop),Passes (CX1 P w) (Cx.tr (cxOf (CX1 P w) P w K mg base N qual scope f cd A outer s₀ H₀ E) pins xe) E' ->
   ∃ t,PSs (Cx.tr (cxOf (CX1 P w) P w K mg base N qual scope f cd A outer s₀ H₀ E) pins xe) body t/\t D σ H)
  (h2:∀ cls H',E' cls none H'->∃ C,cls=.ref C/\PySem.W.excIn K C Yk yG=true/\PySem.W.mroIn K C (.ref CB)=some true ∧
   ∀ (σ':St) e0,σ'.length=σ.length->H' e0=none->D.nx ((σ'.set iy (some (.ref e0))).set ie none) (upd H' e0 (Vg e0 C)))
  (nd:N.Nodup)(hy:N[iy]? = some y)(he:N[ie]? = some n)(ly:scope.names.lookup y=some .local)(le:scope.names.lookup n=some .local)(hne:iy≠ie)(hd:autoParam ((cx == ("__debug__" : Str))=false) aD._auto_1)(hdn:autoParam ((n == ("__debug__" : Str))=false) aD._auto_1)
  (hsw:autoParam (swapsWith (.Name n pn) (some (.Name y py)) apos.line (cxOf (CX1 P w) P w K mg base N qual scope f cd A outer s₀ H₀ E).env=pure false) aR._auto_1) :
  wpAny (model P w) (cxOf (CX1 P w) P w K mg base N qual scope f cd A outer s₀ H₀ E).A (exec (.Try body [.ExceptHandler (some (.Name cx np)) (some n) [.Assign [.Name y py] (.Name n pn) apos] hpos] [] [] pos) (cxOf (CX1 P w) P w K mg base N qual scope f cd A outer s₀ H₀ E).env)
   (SP (cxOf (CX1 P w) P w K mg base N qual scope f cd A outer s₀ H₀ E) pins D) (cxOf (CX1 P w) P w K mg base N qual scope f cd A outer s₀ H₀ E).xe s:=by
 have hf:(envOfC qual scope s₀.heap.objs.size f cd).frame=some s₀.heap.objs.size:=rfl
 refine wpAny_Try_except ?_
 have I0:Inv (Cx.tr (cxOf (CX1 P w) P w K mg base N qual scope f cd A outer s₀ H₀ E) pins (λe s₁=>wpAny (model P w) (A.deeper (envOfC qual scope s₀.heap.objs.size f cd)) (noteFrame e (envOfC qual scope s₀.heap.objs.size f cd)) (λ_ s₂=>wpAny (model P w) (A.deeper (envOfC qual scope s₀.heap.objs.size f cd)) (setFlight e none) (λ_ s₃=>wpAny (model P w) (A.deeper (envOfC qual scope s₀.heap.objs.size f cd)) (handleBy e (envOfC qual scope s₀.heap.objs.size f cd) [.ExceptHandler (some (.Name cx np)) (some n) [.Assign [.Name y py] (.Name n pn) apos] hpos]) (SP (cxOf (CX1 P w) P w K mg base N qual scope f cd A outer s₀ H₀ E) pins D) (cxOf (CX1 P w) P w K mg base N qual scope f cd A outer s₀ H₀ E).xe s₃) (cxOf (CX1 P w) P w K mg base N qual scope f cd A outer s₀ H₀ E).xe s₂) (cxOf (CX1 P w) P w K mg base N qual scope f cd A outer s₀ H₀ E).xe s₁)) [] σ H s:=Inv.tr (pins:=pins) (by rw[List.append_nil];exact I)
 have hps:Passes (CX1 P w) (Cx.tr (cxOf (CX1 P w) P w K mg base N qual scope f cd A outer s₀ H₀ E) pins (λe s₁=>wpAny (model P w) (A.deeper (envOfC qual scope s₀.heap.objs.size f cd)) (noteFrame e (envOfC qual scope s₀.heap.objs.size f cd)) (λ_ s₂=>wpAny (model P w) (A.deeper (envOfC qual scope s₀.heap.objs.size f cd)) (setFlight e none) (λ_ s₃=>wpAny (model P w) (A.deeper (envOfC qual scope s₀.heap.objs.size f cd)) (handleBy e (envOfC qual scope s₀.heap.objs.size f cd) [.ExceptHandler (some (.Name cx np)) (some n) [.Assign [.Name y py] (.Name n pn) apos] hpos]) (SP (cxOf (CX1 P w) P w K mg base N qual scope f cd A outer s₀ H₀ E) pins D) (cxOf (CX1 P w) P w K mg base N qual scope f cd A outer s₀ H₀ E).xe s₃) (cxOf (CX1 P w) P w K mg base N qual scope f cd A outer s₀ H₀ E).xe s₂) (cxOf (CX1 P w) P w K mg base N qual scope f cd A outer s₀ H₀ E).xe s₁)) E':=?hps
 ·obtain⟨t,ht,h1⟩:=hb _ hps
  refine wpAny_mono (ht [] s σ H D I0 h1) (λfl s' hs=>?_) λe s' x=>x
  -- the body's own end
  cases fl with
  |next=>
   obtain⟨σ',H',I',q⟩:=hs
   have:=Inv.untr I'
   rw[List.append_nil]at this
   exact wpAny_execs_nil ⟨σ',H',this,q⟩
  |brk=>
   obtain⟨σ',H',I',q⟩:=hs
   have:=Inv.untr I'
   rw[List.append_nil]at this
   exact⟨σ',H',this,q⟩
  |cont=>
   obtain⟨σ',H',I',q⟩:=hs
   have:=Inv.untr I'
   rw[List.append_nil]at this
   exact⟨σ',H',this,q⟩
  |ret u=>
   obtain⟨v,σ',H',I',r,q⟩:=hs
   have:=Inv.untr I'
   rw[List.append_nil]at this
   exact⟨v,σ',H',this,r,q⟩
 case hps=>
  -- an exception of a callee is caught
  intro pins' σ1 H1 s1 e s1' I1 hx
  obtain⟨H',cls,B,e0,a0,F,hE⟩:=hx
  obtain⟨C,rfl,qC,hmro,hnx⟩:=h2 cls H' hE
  have I1':=(Inv.untr I1)
  rw[F.ev]
  refine wpAny_looks_onW I1.ok.frames hf F.fl λh4 x4 u4=>?_
  refine wpAny_landsW x4 λh5 x5 u5'=>?_
  have u5:=u4.trans u5'
  -- the state behind the landing
  have un5:∀ h6,B.StaysIn h6->s1'.heap.UpToSlots h6->∀ H'',(∀ b o,s1.heap.get? b=some o->H'' b=H' b)->Un (frs (envOfC qual scope s₀.heap.objs.size f cd::outer)) [] H1 H'' s1.heap h6:=λh6 sB u6 H'' hH=>by
   have fr:∀ b o,s1.heap.get? b=some o->b ∈ frs (envOfC qual scope s₀.heap.objs.size f cd::outer)->∃ sl,h6.get? b=some { o with slots:=sl }:=λb o q hb=>by
    have nf:∀ vs,o.data≠.fields vs:=by
     obtain⟨_,o2,q2,nf⟩:=I1'.stack.mem hb
     rw[q]at q2
     cases q2
     exact nf
    obtain⟨sl,q1⟩:=F.un.slot b o q (I1'.stkFree b hb) hb (by intro z;cases z)
    obtain⟨sl2,q2⟩:=u6 b _ q1 nf
    exact⟨sl2,q2⟩
   have inn:∀ b o,H1 b=some o->∃ ob,s1.heap.get? b=some ob:=λb o q=>by
    exact wX (I1'.hok b o q)
   refine⟨λb o q n hb _=>sB b o (F.kb b o q n hb),λb o q n hb _=>fr b o q hb,λb o q n hx=>by rw[hH b o q];exact F.un.free b o q n hx,λb o q _=>?_,λb xs q=>?_,λb o u q=>?_,λb ps q=>?_⟩
   ·by_cases hb:b ∈ frs (envOfC qual scope s₀.heap.objs.size f cd::outer)
    ·obtain⟨sl,q'⟩:=fr b o q hb
     exact⟨_,q'⟩
    ·obtain⟨o',q'⟩:=F.tb b o q hb
     exact⟨o',sB b o' q'⟩
   ·obtain⟨ob,z⟩:=inn b _ q
    rw[hH b ob z];exact F.un.tups b xs q
   ·obtain⟨ob,z⟩:=inn b _ q
    rw[hH b ob z];exact F.un.frzs b o u q
   ·obtain⟨ob,z⟩:=inn b _ q
    rw[hH b ob z];exact F.un.tbls b ps q
  have new0:s1.heap.get? e0=none:=by
   cases z:s1.heap.get? e0 with
   |none=>rfl
   |some ob=>
    exfalso
    by_cases hb:e0 ∈ frs (envOfC qual scope s₀.heap.objs.size f cd::outer)
    ·obtain⟨_,o2,q2,nf⟩:=x5.2.2.1.mem hb
     obtain⟨oe,ws,qe,_,qd,_⟩:=x5.first
     rw[q2]at qe
     cases qe
     exact nf _ qd
    ·obtain⟨o',q'⟩:=F.tb e0 ob z hb
     rw[x5.2.1]at q'
     cases q'
  have free0:H' e0=none:=by
   cases z:H' e0 with
   |none=>rfl
   |some u=>
    obtain⟨ob,q⟩:=wX (F.hok e0 u z)
    rw[x5.2.1]at q
    cases q
  have hok6:∀ h6,Heap.FlyingW B (envOfC qual scope s₀.heap.objs.size f cd::outer) e0 (.ref C) a0 h6->HOk P w (upd H' e0 (Vg e0 C)) h6:=λh6 x6 b u q=>by
   by_cases hb:b=e0
   ·subst hb
    rw[upd_same]at q
    cases q
    obtain⟨oe,ws,qe,qc,qd,_⟩:=x6.first
    exact⟨⟨oe,ws,qe,qc,qd⟩,⟨oe,qe⟩,λh1 h2 ⟨o,vs,p1,p2,p3⟩ k=>⟨o,vs,k o p1,p2,p3⟩⟩
   ·rw[upd_ne hb]at q
    exact (F.hok b u q).stay (λc v _ r=>x6.1 c v r) (λc r=>by rw[upd_ne (ne_of_none r free0)];exact r) λc xs r=>by rw[upd_ne (ne_of_none r free0)];exact r
  have J:∀ h6 tk,Heap.FlyingW B (envOfC qual scope s₀.heap.objs.size f cd::outer) e0 (.ref C) a0 h6->s1'.heap.UpToSlots h6->Inv (cxOf (CX1 P w) P w K mg base N qual scope f cd A outer s₀ H₀ E) (pins++pins') σ1 (upd H' e0 (Vg e0 C)) { s1' with heap:=h6,toks:=tk }:=λh6 tk x6 u6=>
   I1'.call' (s':={ s1' with heap:=h6,toks:=tk }) (ch:=[]) F.os (un5 h6 x6.1 u6 _ λb o q=>upd_ne (λz=>by rw[z,new0]at q;cases q)) (hok6 h6 x6) F.gens λb z=>by cases z
  obtain⟨bm,N',nm,qn,bs,hdct,sn,sub,ab,col,dd,k0,k1,k2,k3,k5,mN,hC,_,_,_,dd',cdC,slC,hKC,hmC⟩:=wK (J h5 s1'.toks x5 u5).kIn qC
  obtain⟨bm2,N2,nm2,qn2,bs2,hdct2,sn2,sub2,ab2,col2,dd2,j0,j1,j2,j3,j5,mN2,hC2,_,_,T2,_⟩:=wK (J h5 s1'.toks x5 u5).kIn qB
  have hin:(Value.ref C::bm).contains (.ref CB)=true:=by
   unfold PySem.W.mroIn PySem.W.clsIn at hmro
   have hKC':List.lookup C K=some _:=hKC
   rw[hKC']at hmro
   simp only[Option.bind_some,hmC]at hmro
   simpa using hmro
  obtain⟨oe,ws,qe,qc,qd,_⟩:=x5.first
  have J5:=J h5 s1'.toks x5 u5
  refine wpAny_handleBy_cons (codeAny_handlers_test (Calls.Name_function_global J5.ok.kind hgl (Calls.loadGlobal_global (show h5.Ns mainGlobals mg from J5.mod.glob.keeps J5.bk) hm ?_) hd)) (by intro q;cases q)
  refine XJ hC hC2 qe qc (T2.hasType PySem.F.excBase_ValueError.hasBase) hin ?_
  refine codeAny_handlers_suite_as ?_
  refine lands_againW x5 λh6 x6 u6=>?_
  have J6:=J h6 s1'.toks x6 (u5.trans u6)
  refine store_ok J6 nd he (.inl le) (v:=.ref e0) rfl (λs7 J7=>?_) (.inr le)
  have hv7:(σ1.set ie (some (.ref e0)))[ie]? = some (some (V.ref e0)):=ZV (by rw[I1'.len];exact (List.getElem?_eq_some_iff.mp he).1)
  obtain⟨m7,hn7,hl7⟩:=J7.loc
  obtain⟨u7,r7,l7⟩:=hl7 ie n (.ref e0) he hv7 (.inl le)
  cases r7
  have hm7:m7 n=some (.ref e0):=by
   rcases l7 with ⟨_,z⟩ | ⟨hk,_⟩
   ·exact z
   ·exfalso
    have hk':scope.names.lookup n=some .cell\/scope.names.lookup n=some .free:=hk
    rw[le]at hk'
    rcases hk' with z | z<;>cases z
  refine wpAny_execs_cons (wpAny_Assign_Name (wpAny_Name (wpAny_loadName_local J7.ok.kind le hn7 hm7 ?_) hdn) hsw)
  refine store_ok J7 nd hy (.inl ly) (v:=.ref e0) rfl (λs8 J8=>?_) (.inr ly)
  refine wpAny_execs_nil ?_
  refine qK J8 nd he le λs9 J9=>?_
  exact⟨_,_,J9.unpinned,hnx (σ1.set ie (some (.ref e0))) e0 (by rw[List.length_set,I1'.len,I.len]) free0⟩
end
end PM
namespace PM
open PySem PySem.Spec PyProof.Rows L2
noncomputable def ME (X:Cx)(E:XK)(e:Expr)(m:M D):Prop:=∃ t,PE X e t/\RE X.K E t m
noncomputable def MT (X:Cx)(E:XK)(e:Expr)(m:M Bool):Prop:=∃ t,PT X e t/\RT X.K E t m
noncomputable def MW (X:Cx)(E:XK)(e:Expr)(m:M Bool):Prop:=∃ t,PW X e t/\RT X.K E t m
noncomputable def MA (X:Cx)(E:XK)(es:List Expr)(ms:List (M D)):Prop:=∃ t,PA X es t/\RL X.K E t (zk ms)
noncomputable def MS (X:Cx)(E:XK)(st:Stmt)(m:M Fl):Prop:=∃ t,PS X st t/\RS X.K E t m
noncomputable def MSs (X:Cx)(E:XK)(sts:List Stmt)(m:M Fl):Prop:=∃ t,PSs X sts t/\RS X.K E t m
noncomputable def MG (X:Cx)(tg:Expr)(gm:GM):Prop:=∃ g,PG X tg g/\RG X.K g gm
noncomputable def MGs (X:Cx)(tgs:List Expr)(is:List Nat):Prop:=∃ g,PGs X tgs g/\RGs X.K g is
section
variable {X:Cx}{E:XK}{a b c e:Expr}{es rest:List Expr}{pos p2:Pos}{ma mb mc:M D}{st:Stmt}{sts:List Stmt}
theorem zA (i:Nat){x:Str}(hN:autoParam (X.N[i]? = some x) aR._auto_1)(hv:autoParam (Vis X.env.scope x) aV._auto_1)(hd:autoParam ((x == ("__debug__" : Str))=false) aD._auto_1)
  (hcd:autoParam ((x == ("__classdict__" : Str))=false) aD._auto_1):ME X E (.Name x pos) (vM i):=⟨_,pe_var hN hv hd hcd,Kk⟩
theorem zD {i:Int} {j}:ME X E (.Constant (.int i) j pos) (cM (.int i)):=⟨_,pe_int,Q6 λG=>zJ.mpr rfl⟩
theorem Wh {i:Bool} {j}:ME X E (.Constant (.bool i) j pos) (cM (.bl i)):=⟨_,pe_bl,Q6 λG=>ZL.mpr rfl⟩
theorem X4 {j}:ME X E (.Constant .none j pos) (cM .non):=⟨_,pe_non,Q6 λG=>ya.mpr rfl⟩
theorem yY {x:Str} {j}:ME X E (.Constant (.str x) j pos) (cM (.str x)):=⟨_,pe_str,Q6 λG=>wx.mpr rfl⟩
theorem Uy {x:Str}{i:Int}(hg:Gl X x)(hm:∃ t,X.mg x=some (.int i t))(hd:autoParam ((x == ("__debug__" : Str))=false) aD._auto_1):ME X E (.Name x pos) (cM (.int i)):=by
 obtain⟨t,hm⟩:=hm
 exact⟨_,pe_glob (v:=.int i) hg hm ⟨t,rfl⟩ hd,Q6 λG=>zJ.mpr rfl⟩
theorem Jv:OpR X (binaryOp .Add) (KC X.K):=op_add.or (Ju.or Jt)
theorem Js:OpR X (binaryOp .Mult) (ky X.K):=op_mul.or Jr
theorem Wi {op:Operator}{r:R2}{f:D->D->Option D}(ho:OpR X (binaryOp op) r)(hm:OpM X.K r f)(ha:ME X E a ma)(hb:ME X E b mb):ME X E (.BinOp a op b pos) (op2 f ma mb):=by
 obtain⟨ta,pa,ra⟩:=ha
 obtain⟨tb,pb,rb⟩:=hb
 exact⟨_,pe_op ho pa pb,Ur hm ra rb⟩
theorem ZJ (ha:ME X E a ma)(hb:ME X E b mb):ME X E (.BinOp a .Add b pos) (op2 ZC ma mb):=Wi Jv Jq ha hb
theorem K1 (ha:ME X E a ma)(hb:ME X E b mb):ME X E (.BinOp a .Sub b pos) (op2 Vw ma mb):=Wi op_sub Jn ha hb
theorem X5 (ha:ME X E a ma)(hb:ME X E b mb):ME X E (.BinOp a .Mult b pos) (op2 Yd ma mb):=Wi Js Jo ha hb
theorem xX (ha:ME X E a ma)(hb:ME X E b mb):ME X E (.BinOp a .FloorDiv b pos) (op2 Z3 ma mb):=Wi op_fdiv jD ha hb
theorem Zt (ha:ME X E a ma)(hb:ME X E b mb):ME X E (.BinOp a .Mod b pos) (op2 Zo ma mb):=Wi op_mod Jp ha hb
theorem UH (ha:ME X E a ma):ME X E (.UnaryOp .USub a pos) (op1 VQ ma):=by
 obtain⟨ta,pa,ra⟩:=ha
 exact⟨_,pe_un un_neg pa,zAW JI ra⟩
theorem zU (ha:ME X E a ma)(hb:ME X E b mb)(hs:PlainIx b:=by intro _ _;rfl):ME X E (.Subscript a b pos) (op2 ixD ma mb):=by
 obtain⟨ta,pa,ra⟩:=ha
 obtain⟨tb,pb,rb⟩:=hb
 exact⟨_,pe_ix ix_seq pa pb hs,Ur Ku ra rb⟩
theorem zE:MA X E [] []:=⟨_,pa_nil,ut⟩
theorem zB {ms:List (M D)}(ha:ME X E e ma)(hr:MA X E es ms)(hs:autoParam (starEach (e::es) X.env=(false,eval e X.env)::starEach es X.env) aR._auto_1):MA X E (e::es) (ma::ms):=by
 obtain⟨ta,pa,ra⟩:=ha
 obtain⟨tb,pb,rb⟩:=hr
 exact⟨_,pa_cons pa pb hs,Uq ra rb⟩
theorem Z6 {ms:List (M D)} {x1}(h:MA X E es ms):ME X E (.Tuple es x1 pos) (ZU ms):=by
 obtain⟨ta,pa,ra⟩:=h
 exact⟨_,pe_tup pa,Kl ra⟩
theorem xE {ms:List (M D)}(h:MA X E es ms):ME X E (.List es pos) (lstM ms):=by
 obtain⟨ta,pa,ra⟩:=h
 exact⟨_,pe_lst pa,Km ra⟩
theorem kG {CX:CXT}{k n:Nat}{f:Addr}{fd:FuncData}{ps:List Str}{F:List D->FR}{x:Str}{p:Pos}{ms:List (M D)}(G:FnOk X.prog X.w X.K X.mg X.base CX k f fd ps (spM X.K n F))(hr:Room k X.A)(hg:Gl X x)(hm:X.mg x=some (.ref f))
  (hk:PySem.W.keepIn X.K (.ref f)=true)(hb:Binds X.K fd ps [])(hx:Passes CX X E)(ha:MA X E (e::es) ms)(hn:autoParam (ms.length=n) aR._auto_1)
  (hdb:autoParam ((x == ("__debug__" : Str))=false) aD._auto_1)(he:autoParam (starEach (e::es) X.env=(false,eval e X.env)::starEach es X.env) aR._auto_1)(hpl:autoParam ((backTo pos (starEach es X.env)).any (·.1)=false) aR._auto_1) :
  ME X E (.Call (.Name x p) (e::es) [] pos) (zR F ms):=by
 obtain⟨ta,pa,ra⟩:=ha
 exact⟨_,pe_call G hr hg hm hk hb .nil hx pa hdb he hpl,Jh ra hn⟩
theorem ZE {id:String}{r:List V->Hp->VK->Prop}{f:List D->Option D}{x:Str}{p:Pos}{ms:List (M D)}(hc:CallR X (.builtin id) r)(hf:ClM X.K r f)(hg:Gl X x)(hm:X.mg x=none)(hv:bootBuiltins x=some (.builtin id))(ha:MA X E (e::es) ms)
  (hn:x ≠ "__name__":=by decide)(hdb:autoParam ((x == ("__debug__" : Str))=false) aD._auto_1)(he:autoParam (starEach (e::es) X.env=(false,eval e X.env)::starEach es X.env) aR._auto_1)(hpl:autoParam ((backTo pos (starEach es X.env)).any (·.1)=false) aR._auto_1) :
  ME X E (.Call (.Name x p) (e::es) [] pos) (zY f ms):=by
 obtain⟨ta,pa,ra⟩:=ha
 exact⟨_,pe_callB hc hg hm hv pa hn hdb he hpl,V5 hf ra⟩
theorem X7 {T:String}{r:List V->Hp->VK->Prop}{f:List D->Option D}{x:Str}{p:Pos}{ms:List (M D)}(hc:CallR X (.type T) r)(hf:ClM X.K r f)(hg:Gl X x)(hm:X.mg x=none)(hv:bootBuiltins x=some (.type T))(ha:MA X E (e::es) ms)
  (hn:x ≠ "__name__":=by decide)(hdb:autoParam ((x == ("__debug__" : Str))=false) aD._auto_1)(he:autoParam (starEach (e::es) X.env=(false,eval e X.env)::starEach es X.env) aR._auto_1)(hpl:autoParam ((backTo pos (starEach es X.env)).any (·.1)=false) aR._auto_1) :
  ME X E (.Call (.Name x p) (e::es) [] pos) (zY f ms):=by
 obtain⟨ta,pa,ra⟩:=ha
 exact⟨_,pe_callTy hc hg hm hv pa hn hdb he hpl,V5 hf ra⟩
theorem VX {op:CmpOp}{r:R2}{f:D->D->Option D}(ho:OpR X (compareOp op) r)(hm:OpM X.K r f)(ha:ME X E a ma)(hb:ME X E b mb)(hk:behindInMarks op b=false):ME X E (.Compare a [op] [b] pos) (op2 f ma mb):=by
 obtain⟨ta,pa,ra⟩:=ha
 obtain⟨tb,pb,rb⟩:=hb
 exact⟨_,pe_cmpR ho pa pb hk,Ur hm ra rb⟩
theorem zu {op:CmpOp}{r:R2}{f:D->D->Option D}(ho:OpR X (compareOp op) r)(hm:OpM X.K r f)(ha:ME X E a ma)(hb:ME X E b mb)(hk:behindInMarks op b=false):MT X E (.Compare a [op] [b] pos) (zL zV (op2 f ma mb)):=by
 obtain⟨ta,pa,ra⟩:=ha
 obtain⟨tb,pb,rb⟩:=hb
 exact⟨_,pt_cmpR ho pa pb hk,JS (Ur hm ra rb)⟩
variable {ta tb:M Bool}
theorem jI (h:MT X E a ta):MT X E (.UnaryOp .Not a pos) (X3 ta):=by
 obtain⟨t,p,r⟩:=h
 exact⟨_,pt_not p,Ka r⟩
theorem xC (h:MT X E a ta):MW X E (.BoolOp .Or [a] pos) ta:=by
 obtain⟨t,p,r⟩:=h
 exact⟨_,pw_or1 p,r⟩
theorem wY (h:MT X E a ta)(h2:MW X E (.BoolOp .Or (b::rest) pos) tb):MW X E (.BoolOp .Or (a::b::rest) pos) (orM ta tb):=by
 obtain⟨t,p,r⟩:=h
 obtain⟨t2,p2,r2⟩:=h2
 exact⟨_,pw_or p p2,zAU r r2⟩
theorem MW.mt (h:MW X E e ta):MT X E e ta:=by
 obtain⟨t,p,r⟩:=h
 exact⟨_,p.pt,r⟩
theorem K2 (h:ME X E a ma):ME X E (.UnaryOp .Not a pos) (qo ma):=by
 obtain⟨t,p,r⟩:=h
 exact⟨_,pe_not p,Je r⟩
theorem X6 (h:MT X E c ta)(ha:ME X E a ma)(hb:ME X E b mb):ME X E (.IfExp c a b pos) (ym ta ma mb):=by
 obtain⟨t,p,r⟩:=h
 obtain⟨t1,p1,r1⟩:=ha
 obtain⟨t2,p2,r2⟩:=hb
 exact⟨_,pe_ifExp p p1 p2,Ko r r1 r2⟩
variable {m m':M Fl}
theorem ZG:MSs X E [] nxM:=⟨_,pss_nil,JU⟩
theorem zG (h:MS X E st m):MSs X E [st] m:=by
 obtain⟨t,p,r⟩:=h
 exact⟨_,pss_one p,r⟩
theorem zC (h:MS X E st m)(h2:MSs X E sts m'):MSs X E (st::sts) (zH m m'):=by
 obtain⟨t,p,r⟩:=h
 obtain⟨t2,p2,r2⟩:=h2
 exact⟨_,pss_cons p p2,Kc r r2⟩
theorem Ye (i:Nat)(h:MSs X E sts m):MSs X E sts (xI i m):=by
 obtain⟨t,p,r⟩:=h
 exact⟨_,p,Kf r⟩
theorem Xa (h:ME X E e ma)(hs:autoParam (swapsWith e none pos.line X.env=pure false) aR._auto_1):MS X E (.Expr e pos) (yJ ma):=by
 obtain⟨t,p,r⟩:=h
 exact⟨_,ps_expr p hs,Ja r⟩
theorem ZN (h:ME X E e ma):MS X E (.Return (some e) pos) (ZQ ma):=by
 obtain⟨t,p,r⟩:=h
 exact⟨_,ps_ret p,Kd r⟩
theorem Z2 {sa sb:List Stmt}(h:MT X E c ta)(ha:MSs X E sa m)(hb:MSs X E sb m'):MS X E (.If c sa sb pos) (ifM ta m m'):=by
 obtain⟨t,p,r⟩:=h
 obtain⟨t1,p1,r1⟩:=ha
 obtain⟨t2,p2,r2⟩:=hb
 exact⟨_,ps_if p p1 p2,zAV r r1 r2⟩
theorem Zq (i:Nat){x:Str}(hN:X.N.Nodup)(hi:autoParam (X.N[i]? = some x) aR._auto_1)(hx:autoParam (Loc X.env.scope x) aL._auto_1)(hf:autoParam (X.fn x=true\/X.env.scope.names.lookup x=some .local) aF._auto_1):MG X (.Name x pos) (zz i):=⟨_,pg_name hN hi hx hf,Jd⟩
theorem Xc:MGs X [] []:=⟨_,pgs_nil,Jc⟩
theorem Zs (i:Nat){x:Str}{is:List Nat}(hN:X.N.Nodup)(h2:MGs X es is)(hi:autoParam (X.N[i]? = some x) aR._auto_1)(hx:autoParam (Loc X.env.scope x) aL._auto_1)(hf:autoParam (X.fn x=true\/X.env.scope.names.lookup x=some .local) aF._auto_1)
  (hs:autoParam ((assignEach (.Name x pos::es) X.env).map (·.2)=assign (.Name x pos) X.env::(assignEach es X.env).map (·.2)) aR._auto_1):MGs X (.Name x pos::es) (i::is):=by
 obtain⟨g,p,r⟩:=h2
 exact⟨_,pgs_cons (pg_name hN hi hx hf) p hs,Q1 r⟩
theorem We {is:List Nat}{k n:Nat}(hc:X.calm=true)(h:MGs X es is)(hl:is.length=n)(hn:autoParam ((assignEach es X.env).length=n) aR._auto_1)(hst:autoParam ((assignEach es X.env).findIdx? (·.1)=none) aR._auto_1):MG X (.Tuple es k pos) (Zi is):=by
 obtain⟨g,p,r⟩:=h
 exact⟨_,pg_tup hc p hn hst,Kj r hl⟩
theorem zy (i:Nat){x:Str}(hN:X.N.Nodup)(h:ME X E e ma)(hi:autoParam (X.N[i]? = some x) aR._auto_1)(hx:autoParam (Loc X.env.scope x) aL._auto_1)
  (hs:autoParam (swapsWith e (some (.Name x p2)) pos.line X.env=pure false) aR._auto_1)(hf:autoParam (X.fn x=true\/X.env.scope.names.lookup x=some .local) aF._auto_1):MS X E (.Assign [.Name x p2] e pos) (ZK i ma):=by
 obtain⟨t,p,r⟩:=h
 exact⟨_,ps_set hN hi hx p hs hf,Kb r⟩
theorem XC (i:Nat){x:Str}{ms:List (M D)}{lp:Pos}(hN:X.N.Nodup)(h:MA X E es ms)(hi:autoParam (X.N[i]? = some x) aR._auto_1)(hx:autoParam (Loc X.env.scope x) aL._auto_1)
  (hs:autoParam (swapsWith (.List es lp) (some (.Name x p2)) pos.line X.env=pure false) aR._auto_1)(hf:autoParam (X.fn x=true\/X.env.scope.names.lookup x=some .local) aF._auto_1):MS X E (.Assign [.Name x p2] (.List es lp) pos) (x8 i ms):=by
 obtain⟨t,p,r⟩:=h
 exact⟨_,ps_set hN hi hx (pe_lst p) hs hf,Ke r⟩
theorem VR {tg:Expr}{gm:GM}(h:ME X E e ma)(hg:MG X tg gm)(hs:autoParam (swapsWithSole [tg] e pos.line X.env=pure false) aR._auto_1)(hw:autoParam (swappedStores [tg] e X.env=pure none) aR._auto_1)
  (h1:autoParam ((assignEach [tg] X.env).map (·.2)=[assign tg X.env]) aR._auto_1):MS X E (.Assign [tg] e pos) (XM ma gm):=by
 obtain⟨t,p,r⟩:=h
 obtain⟨g,pg,rg⟩:=hg
 exact⟨_,ps_asg p pg hs hw h1,Kh r rg⟩
theorem XZ {tg iter:Expr}{gm:GM}{body:List Stmt}(hp:PassesOwn (model X.prog X.w) X.A X.env X.xe)(hc:X.calm=true)(hi:ME X E iter ma)(hg:MG X tg gm)(hb:MSs X E body m)
  (hs:∀ x,foldedSetIterable iter X.env x=pure x:=by intro _;rfl):MS X E (.For tg iter body [] pos) (xJ ma Zg gm m):=by
 obtain⟨t,p,r⟩:=hi
 obtain⟨g,pg,rg⟩:=hg
 obtain⟨tb,pb,rb⟩:=hb
 exact⟨_,ps_for hp hc (pi_list p) pg pb hs,JZ r rg rb⟩
theorem Jx {tg iter:Expr}{gm:GM}{body:List Stmt}(hp:PassesOwn (model X.prog X.w) X.A X.env X.xe)(hc:X.calm=true)(hi:ME X E iter ma)(hg:MG X tg gm)(hb:MSs X E body m)
  (hs:∀ x,foldedSetIterable iter X.env x=pure x:=by intro _;rfl):MS X E (.For tg iter body [] pos) (xJ ma YH gm m):=by
 obtain⟨t,p,r⟩:=hi
 obtain⟨g,pg,rg⟩:=hg
 obtain⟨tb,pb,rb⟩:=hb
 exact⟨_,ps_for hp hc (pi_tup p) pg pb hs,JX r rg rb⟩
theorem YB {tg:Expr}{gm:GM}{body:List Stmt}{p q:Pos}(hp:PassesOwn (model X.prog X.w) X.A X.env X.xe)(hc:X.calm=true)(hr:X.mg "range" = none)(hi:ME X E e ma)(hg:MG X tg gm)(hb:MSs X E body m)(hgl:autoParam (Gl X "range") aR._auto_1)
  (hst:autoParam (starEach [e] X.env=[(false,eval e X.env)]) aR._auto_1)(hs:∀ x,foldedSetIterable (.Call (.Name "range" p) [e] [] q) X.env x=pure x:=by intro _;rfl):MS X E (.For tg (.Call (.Name "range" p) [e] [] q) body [] pos) (YQ ma gm m):=by
 obtain⟨t,p,r⟩:=hi
 obtain⟨g,pg,rg⟩:=hg
 obtain⟨tb,pb,rb⟩:=hb
 exact⟨_,ps_for hp hc (pi_range1 hgl hr (pa_cons p pa_nil hst) hst) pg pb hs,JY r rg rb⟩
theorem uF {body:List Stmt} (n:Nat)(hp:PassesOwn (model X.prog X.w) X.A X.env X.xe)(hc:MT X E c ta)(hb:MSs X E body m):MS X E (.While c body [] pos) (yo ta m n):=by
 obtain⟨t,p,r⟩:=hc
 obtain⟨tb,pb,rb⟩:=hb
 exact⟨_,ps_while hp p pb,Qw n r rb⟩
end
section
variable {P:Program}{w:World}{K:PySem.W.Frag}{mg:Str->Option Value}{base:Heap}
theorem UT {G H:Hp}{ds:List D}{vs:List V}{N:List Str}(s:Same G H)(r:zF K G ds vs)(hl:vs.length<=N.length):Hold K G H (Zm N.length ds) (L2.start N vs) G H:=by
 have hlen:=r.len
 refine⟨Ext.refl s,Same.refl _,λi sl e=>?_,λi j si sj a e1 e2 m1 m2=>?_,?_⟩
 ·unfold Zm at e
  by_cases hi:i<ds.length
  ·rw[List.getElem?_append_left (by simpa using hi),List.getElem?_map]at e
   cases q:ds[i]? with
   |none=>rw[q]at e;cases e
   |some d=>
    rw[q]at e
    cases e
    obtain⟨v,ev,rv⟩:=r.get q
    refine⟨v,?_,rv⟩
    unfold L2.start
    rw[List.getElem?_append_left (by simpa using (by omega:i<vs.length)),List.getElem?_map,ev]
    rfl
  ·rw[List.getElem?_append_right (by simpa using hi),List.getElem?_replicate]at e
   split at e
   ·cases e;exact trivial
   ·cases e
 ·have nm:∀ {i:Nat}{s:Slot},(Zm N.length ds)[i]? = some s->∀ {o:Option (Option V)}{c:Addr},¬ s.foot H o c:=fun {i s} e {o c} f=>by
   have hm:s ∈ Zm N.length ds:=List.mem_of_getElem? e
   unfold Zm at hm
   rcases List.mem_append.mp hm with h | h
   ·obtain⟨d,_,rfl⟩:=List.mem_map.mp h
    exact f
   ·rw[(List.mem_replicate.mp h).2]at f
    exact f
  exact absurd m1 (nm e1)
 ·unfold Zm L2.start
  simp only[List.length_append,List.length_map,List.length_replicate]
  omega
theorem ZS {x qual:Str}{st:Stmt}{f:Addr}{fd:FuncData}{N ps:List Str}{k n:Nat}{m:M Fl}(F:Fun K x qual st f fd)(S:FnScope N ps (defScope st))(hn:ps.length=n)(hN:n<=N.length)
  (hbody:∀ (cdv:Value)(A:Around)(outer:List Env)(s:Shared)(H:Hp)(E:XK),Room k (A.deeper (envOfC qual (defScope st) s.heap.objs.size f cdv)) ->
   MSs (cxOf (CX1 P w) P w K mg base N qual (defScope st) f cdv A outer s H E) E (defBody st) m):FnOk P w K mg base (CX1 P w) (k+1) f fd ps (spM K n (Z4 N.length m)):=by
 obtain⟨oc,od,kV,doc,pm,an,cdv,ct,osl,rfl,lk,hcd⟩:=F.ex
 refine fn_of lk hcd S (λvs H Q E h=>by rw[hn];exact h.1) λA outer s H vs Q E hr hsp=>?_
 obtain⟨hl,G,ds,sg,r,hq⟩:=hsp
 obtain⟨t,p,rs⟩:=hbody cdv A outer s H E hr
 refine⟨t,p,rs G H (Zm N.length ds) (L2.start N vs) G H (UT sg r (by omega)) _ ?_⟩
 have hq':(match FR.of (m (Zm N.length ds)) with
  |.ok d=>∀ v G' H',Ext G H G' H'->Same H H'->Rep K G' d v->Q v H'
  |.exn c=>∀ G' H',Ext G H G' H'->Same H H'->E (.ref c) none H'
  |.bad=>False):=hq
 cases e:m (Zm N.length ds) with
 |ok fl ρ'=>
  rw[e]at hq'
  cases fl with
  |nx=>exact λσ' G' H' s1 h1=>hq' .non G' H' h1.e h1.b (ya.mpr rfl)
  |ret d=>exact λv σ' G' H' s1 h1 rv=>hq' v G' H' h1.e h1.b rv
  |brk=>exact hq'.elim
  |cont=>exact hq'.elim
 |exn c ρ'=>rw[e]at hq';exact λσ' G' H' s1 h1=>hq' G' H' h1.e h1.b
 |bad=>rw[e]at hq';exact hq'
theorem Yv {N:List Str}{qual:Str}{scope:Scope}{f:Addr}{cd:Value}{A:Around}{outer:List Env}{s₀:Shared}{H₀:Hp}{E:XK} :
  PassesOwn (model P w) (cxOf (CX1 P w) P w K mg base N qual scope f cd A outer s₀ H₀ E).A (cxOf (CX1 P w) P w K mg base N qual scope f cd A outer s₀ H₀ E).env (cxOf (CX1 P w) P w K mg base N qual scope f cd A outer s₀ H₀ E).xe:=λe s' h=>
 wpAny_leaving_again (SameStack.refl _) h
end
end PM
namespace PM
open PySem PySem.Spec PyProof.Rows L2
section
variable {K:PySem.W.Frag}{E:XK}
theorem Hold.own {G0 H0:Hp}{ρ:Rho}{σ:St}{G H:Hp}{i:Nat}{ds:List D}(ho:Hold K G0 H0 ρ σ G H)(e:zl ρ[i]? = some ds) :
  ∃ a vs,σ[i]? = some (some (.ref a))/\H a=some (.lst vs)/\G a=none/\H0 a=none/\zF K G ds vs:=ho.sl i _ (Z0 e)
theorem Jf {i:Nat}:RE K E (tCB (λxs H Q=>∃ p ys,xs=[.ref p]/\(SqL K H p ys\/SqT K H p ys)/\Q (.int ys.length) H) (tCons (tVar i) tNil)) (Yh i):=by
 intro G0 H0 ρ σ G H ho
 refine RAt.opt λds e=>?_
 obtain⟨a,vs,e1,e2,e3,e4,r⟩:=ho.own e
 intro Q hQ
 exact⟨_,e1,a,vs,rfl,.inl (SqL.of e2),hQ _ G H (Same.refl _) ho (zJ.mpr (by rw[r.ln]))⟩
theorem Kn {i:Nat}{te:TE}{m:M D}(he:RE K E te m):RE K E (tOp (rIx K) (tVar i) te) (ixO i m):=by
 intro G0 H0 ρ σ G H ho
 refine RAt.opt λds0 e0=>?_
 obtain⟨a,vs0,e1,_,_,_,_⟩:=ho.own e0
 intro Q hQ
 refine⟨_,e1,?_⟩
 have q:RAt K E (λG d v=>Rep K G d v) (λσ H1 Q=>te σ H1 λy H2=>rIx K (.ref a) y H2 Q) ((m ρ).bnd λx ρ=>(zO (zl ρ[i]?) ρ).bnd λds ρ=>zO (ixD (.lst ds) x) ρ) G0 H0 σ G H:=by
  refine RAt.bind (t2:=λy σ H2 Q=>rIx K (.ref a) y H2 Q) (he G0 H0 ρ σ G H ho) λx ρ1 y G1 H1 s1 h1 r1=>?_
  refine RAt.opt λds e=>?_
  obtain⟨a',vs,f1,f2,f3,f4,r⟩:=h1.own e
  rw[e1]at f1
  cases f1
  refine RAt.opt1 λd ed=>?_
  intro Q hQ
  cases x<;>first | (cases ed;done) | skip
  rename_i k
  obtain⟨v,ev,rv⟩:=Vm r (show atD ds k=some d from ed)
  exact .inl ⟨a,vs,k,v,rfl,zJ.mp r1,SqL.of f2,ev,hQ _ G1 H1 (Same.refl _) h1 rv⟩
 exact q Q hQ
noncomputable def Ql (K:PySem.W.Frag)(ta:TE):TT:=λσ H Q=>ta σ H λx H1=>∃ k,TruV K x H1 k/\Q k H1
theorem JR {i:Nat}:RT K E (Ql K (tVar i)) (qN i):=by
 intro G0 H0 ρ σ G H ho
 refine RAt.opt λds e=>?_
 obtain⟨a,vs,e1,e2,e3,e4,r⟩:=ho.own e
 intro Q hQ
 refine⟨_,e1,!vs.isEmpty,.inl ⟨vs,SqL.of e2,rfl⟩,hQ _ G H (Same.refl _) ho ?_⟩
 have:=r.len
 cases ds<;>cases vs<;>simp_all
theorem KZ {ta:TE}{m:M D}(h:RE K E ta m):RT K E (Ql K ta) (zL Zc m):=by
 intro G0 H0 ρ σ G H ho
 refine RAt.bind (t2:=λx σ H1 Q=>∃ k,TruV K x H1 k/\Q k H1) (h G0 H0 ρ σ G H ho) λd ρ1 v G1 H1 s1 h1 r1=>?_
 refine RAt.opt1 λb e=>?_
 intro Q hQ
 have fin:=hQ b G1 H1 (Same.refl _) h1 rfl
 cases d<;>first | (cases e;done) | skip
 ·cases e;rw[ya.mp r1];exact⟨_,rfl,fin⟩
 ·cases e;rw[ZL.mp r1];exact⟨_,rfl,fin⟩
 ·cases e;rw[zJ.mp r1];exact⟨_,rfl,fin⟩
 ·rename_i ds
  cases e
  obtain⟨a,vs,rfl,hq,rl⟩:=zh.mp r1
  refine⟨_,.inr (.inl ⟨vs,SqT.same h1.e.s hq,rfl⟩),?_⟩
  have:=rl.len
  have e':(!vs.isEmpty) = !ds.isEmpty:=by cases ds<;>cases vs<;>simp_all
  rw[e'];exact fin
 ·rename_i ds
  cases e
  obtain⟨a,vs,rfl,hq,rl⟩:=zQ.mp r1
  refine⟨_,.inl ⟨vs,h1.e.s.seq hq,rfl⟩,?_⟩
  have:=rl.len
  have e':(!vs.isEmpty) = !ds.isEmpty:=by cases ds<;>cases vs<;>simp_all
  rw[e'];exact fin
theorem Ki {i:Nat}{te:TE}{m:M D}(he:RE K E te m):RS K E (tDrop (tBM K "list" rAppend (tVar i) (tCons te tNil))) (Zx i m):=by
 intro G0 H0 ρ σ G H ho
 refine RSt.opt λds0 e0=>?_
 obtain⟨a,vs0,e1,e2,_,_,_⟩:=ho.own e0
 intro D hD
 refine⟨_,e1,.inl ⟨rfl,vs0,SqL.of e2⟩,?_⟩
 have q:RSt K E (λD σ H1=>te σ H1 λy H2=>rAppend (.ref a) [y] H2 λ_ H3=>D.nx σ H3) ((m ρ).bnd λx ρ=>(zO (zl ρ[i]?) ρ).bnd λds ρ=>if ds.length<sizeLine then .ok .nx (ρ.set i (.own (ds++[x]))) else .bad) G0 H0 σ G H:=by
  refine RSt.bind (t2:=λy D σ H2=>rAppend (.ref a) [y] H2 λ_ H3=>D.nx σ H3) (he G0 H0 ρ σ G H ho) λx ρ1 y G1 H1 s1 h1 r1=>?_
  refine RSt.opt λds e=>?_
  obtain⟨a',vs,f1,f2,f3,f4,r⟩:=h1.own e
  rw[e1]at f1
  cases f1
  intro D hD
  split at hD
  ·rename_i hz
   refine⟨a,vs,y,rfl,rfl,f2,by rw[r.ln];exact hz,hD σ G1 _ (Same.refl _) ?_⟩
   exact h1.setMut (Z0 e) rfl e1 f3 f4 (s':=.own (ds++[x])) ⟨a,vs++[y],rfl,upd_same,f3,f4,r.app (zF.cons r1 zF.nil)⟩ rfl
  ·exact hD.elim
 exact q D hD
theorem Q3 {i:Nat}{te:TE}{m:M D}(he:RE K E te m):RE K E (tBM K "list" rPopAt (tVar i) (tCons te tNil)) (YE i m):=by
 intro G0 H0 ρ σ G H ho
 refine RAt.opt λds0 e0=>?_
 obtain⟨a,vs0,e1,e2,_,_,_⟩:=ho.own e0
 intro Q hQ
 refine⟨_,e1,.inl ⟨rfl,vs0,SqL.of e2⟩,?_⟩
 have q:RAt K E (λG d v=>Rep K G d v) (λσ H1 Q=>te σ H1 λy H2=>rPopAt (.ref a) [y] H2 Q) ((m ρ).bnd λx ρ=>(zO (zl ρ[i]?) ρ).bnd λds ρ=>(zO (YC x) ρ).bnd λk ρ=>(zO (if ds.length<=sizeLine then yf ds.length k else none) ρ).bnd λj ρ=>
   (zO (ds[j]?) ρ).bnd λy ρ=>.ok y (ρ.set i (.own (ds.eraseIdx j)))) G0 H0 σ G H:=by
  refine RAt.bind (t2:=λy σ H2 Q=>rPopAt (.ref a) [y] H2 Q) (he G0 H0 ρ σ G H ho) λx ρ1 y G1 H1 s1 h1 r1=>?_
  refine RAt.opt λds e=>?_
  obtain⟨a',vs,f1,f2,f3,f4,r⟩:=h1.own e
  rw[e1]at f1
  cases f1
  refine RAt.opt λk ek=>?_
  refine RAt.opt λj ej=>?_
  refine RAt.opt λd ed=>?_
  intro Q hQ
  cases x<;>first | (cases ek;done) | skip
  cases ek
  obtain⟨v,ev,rv⟩:=r.get ed
  split at ej
  ·rename_i hz
   rw[Xi]at ej
   obtain⟨g1,g2,g3,g4⟩:=ixN_seq ej
   have hz63:=line63
   rw[r.len]at g1
   refine⟨a,vs,_,j,v,rfl,by rw[zJ.mp r1],f2,by omega,by omega,g1,ev,hQ v G1 _ (Same.refl _) ?_ rv⟩
   exact h1.setMut (Z0 e) rfl e1 f3 f4 (s':=.own (ds.eraseIdx j)) ⟨a,vs.eraseIdx j,rfl,upd_same,f3,f4,r.erase j⟩ rfl
  ·cases ej
 exact q Q hQ
theorem Qy {i:Nat}{te tv:TE}{m mv:M D}(he:RE K E te m)(hv:RE K E tv mv):RS K E (tAsg tv (gSub (tVar i) te rSetL)) (Y2 i m mv):=by
 intro G0 H0 ρ σ G H ho
 refine RSt.bind (t2:=λv D σ H1=>gSub (tVar i) te rSetL v σ H1 D.nx) (hv G0 H0 ρ σ G H ho) λdy ρ0 y G0' H0' s0 h0 r0=>?_
 refine RSt.opt λds0 e0=>?_
 obtain⟨a,vs0,e1,e2,_,_,_⟩:=h0.own e0
 intro D hD
 refine⟨_,e1,?_⟩
 have q:RSt K E (λD σ H1=>te σ H1 λx H2=>rSetL (.ref a) x y H2 λH3=>D.nx σ H3) ((m ρ0).bnd λx ρ=>(zO (zl ρ[i]?) ρ).bnd λds ρ=>(zO (YC x) ρ).bnd λk ρ=>(zO (yf ds.length k) ρ).bnd λj ρ=>
   .ok .nx (ρ.set i (.own (ds.set j dy)))) G0 H0 σ G0' H0':=by
  refine RSt.bind (t2:=λx D σ H2=>rSetL (.ref a) x y H2 λH3=>D.nx σ H3) (he G0 H0 ρ0 σ G0' H0' h0) λx ρ1 xv G1 H1 s1 h1 r1=>?_
  refine RSt.opt λds e=>?_
  obtain⟨a',vs,f1,f2,f3,f4,r⟩:=h1.own e
  rw[e1]at f1
  cases f1
  refine RSt.opt λk ek=>?_
  refine RSt.opt λj ej=>?_
  intro D hD
  cases x<;>first | (cases ek;done) | skip
  cases ek
  rw[Xi,r.len]at ej
  refine⟨a,vs,_,j,rfl,zJ.mp r1,f2,ej,hD σ G1 _ (Same.refl _) ?_⟩
  exact h1.setMut (Z0 e) rfl e1 f3 f4 (s':=.own (ds.set j dy)) ⟨a,vs.set j y,rfl,upd_same,f3,f4,r.set (r0.mono s1) j⟩ rfl
 exact q D hD
end
section
variable {X:Cx}{E:XK}{e v:Expr}{pos p2 p3:Pos}{m mv:M D}
theorem Xe (i:Nat){x:Str}{p:Pos}(hm:X.mg "len" = none)(hN:autoParam (X.N[i]? = some x) aR._auto_1)(hv:autoParam (Vis X.env.scope x) aV._auto_1)(hg:Gl X "len":=by rfl)
  (he:autoParam (starEach [.Name x p2] X.env=(false,eval (.Name x p2) X.env)::starEach [] X.env) aR._auto_1)(hpl:autoParam ((backTo pos (starEach [] X.env)).any (·.1)=false) aR._auto_1)(hd:autoParam ((x == ("__debug__" : Str))=false) aD._auto_1)
  (hcd:autoParam ((x == ("__classdict__" : Str))=false) aD._auto_1):ME X E (.Call (.Name "len" p) [.Name x p2] [] pos) (Yh i):=
 ⟨_,pe_callB call_len_seq hg hm PySem.boot_len (pa_cons (pe_var hN hv hd hcd) pa_nil he) (by decide) (by decide) he hpl,Jf⟩
theorem VU (i:Nat){x:Str}(h:ME X E e m)(hN:autoParam (X.N[i]? = some x) aR._auto_1)(hv:autoParam (Vis X.env.scope x) aV._auto_1)(hs:PlainIx e:=by intro _ _;rfl)(hd:autoParam ((x == ("__debug__" : Str))=false) aD._auto_1)
  (hcd:autoParam ((x == ("__classdict__" : Str))=false) aD._auto_1):ME X E (.Subscript (.Name x p2) e pos) (ixO i m):=by
 obtain⟨t,p,r⟩:=h
 exact⟨_,pe_ix ix_seq (pe_var hN hv hd hcd) p hs,Kn r⟩
theorem Ut {a:Expr}{ta:TE}(ha:PE X a ta)(he:∀ whole,isTrue a X.env whole=(do let v <-whole;standAt a.pos;holding [v] (truthy v)):=by intro _;rfl):PT X a (Ql X.K ta):=by
 intro pins s σ H Q I h
 refine isTrue_plain (thn (ha pins s σ H _ I h) λv s1 ⟨x,H1,I1,r1,q1⟩=>?_) (he _)
 exact tru_ok pins s1 σ H1 x v Q I1 r1 q1
theorem Jw (i:Nat){x:Str}(hN:autoParam (X.N[i]? = some x) aR._auto_1)(hv:autoParam (Vis X.env.scope x) aV._auto_1)(hd:autoParam ((x == ("__debug__" : Str))=false) aD._auto_1)
  (hcd:autoParam ((x == ("__classdict__" : Str))=false) aD._auto_1):MT X E (.Name x pos) (qN i):=⟨_,Ut (pe_var hN hv hd hcd),JR⟩
theorem XA (h:ME X E e m)(he:∀ whole,isTrue e X.env whole=(do let v <-whole;standAt e.pos;holding [v] (truthy v)):=by intro _;rfl):MT X E e (zL Zc m):=by
 obtain⟨t,p,r⟩:=h
 exact⟨_,Ut p he,KZ r⟩
theorem xD (i:Nat){x:Str}{ap cp:Pos}(h:ME X E e m)(hN:autoParam (X.N[i]? = some x) aR._auto_1)(hv:autoParam (Vis X.env.scope x) aV._auto_1)(hd:autoParam ((x == ("__debug__" : Str))=false) aD._auto_1)
  (hcd:autoParam ((x == ("__classdict__" : Str))=false) aD._auto_1)(hs0:autoParam (starEach [e] X.env=(false,eval e X.env)::starEach [] X.env) aR._auto_1)(hbase:autoParam (attributeBase (.Name x p2) "append" X.env (eval (.Name x p2) X.env)=eval (.Name x p2) X.env) aR._auto_1)
  (hfew:autoParam (((backTo cp (starEach [e] X.env)).all (λx=>!x.1) && (backToKw cp (keywordEach [] X.env)).all (λx=>x.1.isSome) && decide ([e].length+([]:List Keyword).length+(if ([]:List Keyword).isEmpty then 0 else 1)<30))=true) aR._auto_1)
  (hline:autoParam ((ap.endLine == cp.line)=true) aR._auto_1)(hplain:autoParam ((backTo cp (starEach [] X.env)).any (·.1)=false) aR._auto_1)
  (hs:autoParam (swapsWith (.Call (.Attribute (.Name x p2) "append" ap) [e] [] cp) none pos.line X.env=pure false) aR._auto_1):MS X E (.Expr (.Call (.Attribute (.Name x p2) "append" ap) [e] [] cp) pos) (Zx i m):=by
 obtain⟨t,p,r⟩:=h
 exact⟨_,ps_expr (pe_bm PySem.F.plainAttrs_list PySem.F.slot_list_append PySem.F.type_list_append mt_append (pe_var hN hv hd hcd) (pa_cons p pa_nil hs0) hbase hfew hline hs0 hplain) hs,Ki r⟩
theorem jT (i:Nat){x:Str}{ap:Pos}(h:ME X E e m)(hN:autoParam (X.N[i]? = some x) aR._auto_1)(hv:autoParam (Vis X.env.scope x) aV._auto_1)(hd:autoParam ((x == ("__debug__" : Str))=false) aD._auto_1)
  (hcd:autoParam ((x == ("__classdict__" : Str))=false) aD._auto_1)(hs0:autoParam (starEach [e] X.env=(false,eval e X.env)::starEach [] X.env) aR._auto_1)(hbase:attributeBase (.Name x p2) "pop" X.env (eval (.Name x p2) X.env)=eval (.Name x p2) X.env:=by rfl)
  (hfew:autoParam (((backTo pos (starEach [e] X.env)).all (λx=>!x.1) && (backToKw pos (keywordEach [] X.env)).all (λx=>x.1.isSome) && decide ([e].length+([]:List Keyword).length+(if ([]:List Keyword).isEmpty then 0 else 1)<30))=true) aR._auto_1)
  (hline:autoParam ((ap.endLine == pos.line)=true) aR._auto_1)(hplain:autoParam ((backTo pos (starEach [] X.env)).any (·.1)=false) aR._auto_1) :
  ME X E (.Call (.Attribute (.Name x p2) "pop" ap) [e] [] pos) (YE i m):=by
 obtain⟨t,p,r⟩:=h
 exact⟨_,pe_bm PySem.F.plainAttrs_list PySem.F.slot_list_pop PySem.F.type_list_pop mt_popAt (pe_var hN hv hd hcd) (pa_cons p pa_nil hs0) hbase hfew hline hs0 hplain,Q3 r⟩
theorem jL (i:Nat){x:Str}(h:ME X E e m)(h2:ME X E v mv)(hN:autoParam (X.N[i]? = some x) aR._auto_1)(hv:autoParam (Vis X.env.scope x) aV._auto_1)(hd:autoParam ((x == ("__debug__" : Str))=false) aD._auto_1)
  (hcd:autoParam ((x == ("__classdict__" : Str))=false) aD._auto_1)
  (ha:∀ v,assign (.Subscript (.Name x p2) e p3) X.env v=(do
   let ov <-holding [v] (eval (.Name x p2) X.env)
   let iv <-holding [v,ov] (eval e X.env)
   standAt p3
   holding [v,ov,iv] (setItem ov iv v)
   release [v,ov,iv] []):=by intro _;rfl)
  (hs:autoParam (swapsWithSole [.Subscript (.Name x p2) e p3] v pos.line X.env=pure false) aR._auto_1)(hw:autoParam (swappedStores [.Subscript (.Name x p2) e p3] v X.env=pure none) aR._auto_1)
  (h1:autoParam ((assignEach [.Subscript (.Name x p2) e p3] X.env).map (·.2)=[assign (.Subscript (.Name x p2) e p3) X.env]) aR._auto_1):MS X E (.Assign [.Subscript (.Name x p2) e p3] v pos) (Y2 i m mv):=by
 obtain⟨t,p,r⟩:=h
 obtain⟨t2,p2',r2⟩:=h2
 exact⟨_,ps_asg p2' (pg_sub (pe_var hN hv hd hcd) p set_list ha) hs hw h1,Qy r r2⟩
end
end PM
namespace PM
open PySem PySem.Spec PyProof.Rows L2
mutual
noncomputable def D.py:D->PyData
 |.non=>.none
 |.bl b=>.bool b
 |.int i=>.int i
 |.str x=>.str x
 |.tup a=>.tuple (D.pys a)
 |.lst a=>.list (D.pys a)
 |.exc _=>.none
 |.dct _ _=>.none
 |.dcT _ _=>.none
noncomputable def D.pys:List D->List PyData
 |[]=>[]
 |a::r=>D.py a::D.pys r
end
mutual
theorem Y9:∀ {d:D},d.plain=true->d.py.canLay0=true
 |.non,_=>rfl
 |.bl _,_=>rfl
 |.int _,_=>rfl
 |.str x,h=>h
 |.tup a,h=>by
  show PyData.canLayAll0 (D.pys a)=true
  exact Yc h
 |.lst a,h=>by
  show PyData.canLayAll0 (D.pys a)=true
  exact Yc h
 |.exc _,h=>by cases h
 |.dct _ _,h=>by cases h
 |.dcT _ _,h=>by cases h
theorem Yc:∀ {ds:List D},D.plains ds=true->PyData.canLayAll0 (D.pys ds)=true
 |[],_=>rfl
 |a::r,h=>by
  have h':(a.plain && D.plains r)=true:=h
  rw[Bool.and_eq_true]at h'
  show ((D.py a).canLay0 && PyData.canLayAll0 (D.pys r))=true
  rw[Y9 h'.1,Yc h'.2]
  rfl
end
mutual
theorem WS:∀ {d:D},d.plain=true->d.py.depth=d.deep
 |.non,_=>rfl
 |.bl _,_=>rfl
 |.int _,_=>rfl
 |.str x,h=>rfl
 |.tup a,h=>by
  show PyData.depthAll (D.pys a)+1=D.deeps a+1
  rw[YK h]
 |.lst a,h=>by
  show PyData.depthAll (D.pys a)+1=D.deeps a+1
  rw[YK h]
 |.exc _,h=>by cases h
 |.dct _ _,h=>by cases h
 |.dcT _ _,h=>by cases h
theorem YK:∀ {ds:List D},D.plains ds=true->PyData.depthAll (D.pys ds)=D.deeps ds
 |[],_=>rfl
 |a::r,h=>by
  have h':(a.plain && D.plains r)=true:=h
  rw[Bool.and_eq_true]at h'
  show max (D.py a).depth (PyData.depthAll (D.pys r))=max a.deep (D.deeps r)
  rw[WS h'.1,YK h'.2]
end
mutual
theorem WR:∀ {a b:D},a.plain=true->b.plain=true->PyData.eqv a.py b.py=a.eqv b
 |.tup a,.tup b,h,k=>by
  show PyData.eqvAll (D.pys a) (D.pys b)=D.eqvs a b
  exact VL h k
 |.lst a,.lst b,h,k=>by
  show PyData.eqvAll (D.pys a) (D.pys b)=D.eqvs a b
  exact VL h k
 |.exc _,_,h,_=>by cases h
 |.dct _ _,_,h,_=>by cases h
 |.dcT _ _,_,h,_=>by cases h
 |.non,b,_,k=>by cases b<;>first | rfl | cases k
 |.bl _,b,_,k=>by cases b<;>first | rfl | cases k
 |.int _,b,_,k=>by cases b<;>first | rfl | cases k
 |.str _,b,_,k=>by cases b<;>first | rfl | cases k
 |.tup _,.non,_,_=>rfl
 |.tup _,.bl _,_,_=>rfl
 |.tup _,.int _,_,_=>rfl
 |.tup _,.str _,_,_=>rfl
 |.tup _,.lst _,_,_=>rfl
 |.tup _,.exc _,_,k=>by cases k
 |.tup _,.dct _ _,_,k=>by cases k
 |.tup _,.dcT _ _,_,k=>by cases k
 |.lst _,.non,_,_=>rfl
 |.lst _,.bl _,_,_=>rfl
 |.lst _,.int _,_,_=>rfl
 |.lst _,.str _,_,_=>rfl
 |.lst _,.tup _,_,_=>rfl
 |.lst _,.exc _,_,k=>by cases k
 |.lst _,.dct _ _,_,k=>by cases k
 |.lst _,.dcT _ _,_,k=>by cases k
theorem VL:∀ {a b:List D},D.plains a=true->D.plains b=true->PyData.eqvAll (D.pys a) (D.pys b)=D.eqvs a b
 |[],[],_,_=>rfl
 |[],_::_,_,_=>rfl
 |_::_,[],_,_=>rfl
 |a::r,b::t,h,k=>by
  have h':(a.plain && D.plains r)=true:=h
  have k':(b.plain && D.plains t)=true:=k
  rw[Bool.and_eq_true]at h' k'
  show (PyData.eqv (D.py a) (D.py b) && PyData.eqvAll (D.pys r) (D.pys t))=(a.eqv b && D.eqvs r t)
  rw[WR h'.1 k'.1,VL h'.2 k'.2]
end
section
variable {X:Cx}{pins:List (Addr×Obj)}{σ:St}{H:Hp}{s:Shared}
mutual
theorem yq (I:Inv X pins σ H s):∀ {d:D}{x:V}{v:Value},Rep X.K H d x->RelV x v->d.plain=true->∃ as,Reads s.heap v d.py as
 |.non,x,v,r,rv,_=>by rw[ya.mp r]at rv;cases rv;exact⟨_,.none⟩
 |.bl b,x,v,r,rv,_=>by rw[ZL.mp r]at rv;cases rv;exact⟨_,.bool b⟩
 |.int b,x,v,r,rv,_=>by rw[zJ.mp r]at rv;obtain⟨t,rfl⟩:=rv;exact⟨_,.int b t⟩
 |.str b,x,v,r,rv,_=>by rw[wx.mp r]at rv;obtain⟨t,rfl⟩:=rv;exact⟨_,.str b t⟩
 |.tup ds,x,v,r,rv,h=>by
  obtain⟨a,vs,rfl,hq,rl⟩:=zh.mp r
  cases rv
  obtain⟨its,rt,⟨o,ho,hc,n,hd⟩,_⟩:=I.tuple (SqT.of hq)
  obtain⟨as,ra⟩:=yF I rl rt h
  exact⟨_,.tuple ho hc hd (by simpa using ra)⟩
 |.lst ds,x,v,r,rv,h=>by
  obtain⟨a,vs,rfl,hq,rl⟩:=zQ.mp r
  cases rv
  obtain⟨its,rt,pl,_⟩:=I.list hq
  obtain⟨o,ho,hc,n,hd⟩:=pl.isList
  obtain⟨as,ra⟩:=yF I rl rt h
  exact⟨_,.list ho hc hd (by simpa using ra)⟩
 |.exc _,_,_,_,_,h=>by cases h
 |.dct _ _,_,_,_,_,h=>by cases h
 |.dcT _ _,_,_,_,_,h=>by cases h
theorem yF (I:Inv X pins σ H s):∀ {ds:List D}{xs:List V}{vs:List Value},zF X.K H ds xs->Vals xs vs->D.plains ds=true->∃ as,ReadsAll s.heap vs (D.pys ds) as
 |[],xs,vs,r,rv,_=>by
  rw[r.nil_inv]at rv
  cases rv
  exact⟨_,.nil⟩
 |d::ds,xs,vs,r,rv,h=>by
  obtain⟨x,xr,rfl,r1,r2⟩:=r.cons_inv
  have h':(d.plain && D.plains ds)=true:=h
  rw[Bool.and_eq_true]at h'
  cases rv with
  |cons rv1 rv2=>
   obtain⟨as,ra⟩:=yq I r1 rv1 h'.1
   obtain⟨bs,rb⟩:=yF I r2 rv2 h'.2
   exact⟨_,.cons ra rb⟩
end
end
section
variable {X:Cx}{K:PySem.W.Frag}
theorem ww {A:Around}{k d e:Nat}(hr:Room k A)(h:d<=30):A.units+1+min d e<cLine:=by
 have:=hr.units
 omega
noncomputable def Jk (K:PySem.W.Frag)(neg:Bool):R2:=λx y H Q=>∃ dx dy,Rep K H dx x/\Rep K H dy y/\dx.plain=true/\dy.plain=true/\dx.deep<=30/\Q (.bl (if neg then !dx.eqv dy else dx.eqv dy)) H
theorem X1 {k:Nat}(hr:Room k X.A):OpR X (compareOp .Eq) (Jk X.K false):=by
 intro pins s σ H x y v u Q I rx ry h
 obtain⟨dx,dy,r1,r2,p1,p2,hd,q⟩:=h
 obtain⟨as,ra⟩:=yq I r1 rx p1
 obtain⟨bs,rb⟩:=yq I r2 ry p2
 refine SeqAt.compareEq_reads ra rb (Y9 p1) (Y9 p2) ?_ ⟨.bl _,H,I,rfl,?_⟩
 ·rw[WS p1]
  have:=ww (e:=dy.py.depth) hr hd
  omega
 ·rw[WR p1 p2];exact q
theorem yt {k:Nat}(hr:Room k X.A):OpR X (compareOp .NotEq) (Jk X.K true):=by
 intro pins s σ H x y v u Q I rx ry h
 obtain⟨dx,dy,r1,r2,p1,p2,hd,q⟩:=h
 obtain⟨as,ra⟩:=yq I r1 rx p1
 obtain⟨bs,rb⟩:=yq I r2 ry p2
 refine SeqAt.compareNe_reads ra rb (Y9 p1) (Y9 p2) ?_ ⟨.bl _,H,I,rfl,?_⟩
 ·rw[WS p1]
  have:=ww (e:=dy.py.depth) hr hd
  omega
 ·rw[WR p1 p2];exact q
theorem X0:OpM K (Jk K false) eqD:=by
 intro G H x y dx dy d Q s rx ry e q
 unfold eqD at e
 split at e
 ·rename_i h
  cases e
  simp only[Bool.and_eq_true,decide_eq_true_eq]at h
  exact⟨dx,dy,rx.mono s,ry.mono s,h.1.1,h.1.2,h.2,q _ G H (Ext.refl s) (Same.refl _) (ZL.mpr rfl)⟩
 ·cases e
theorem yr:OpM K (Jk K true) neD:=by
 intro G H x y dx dy d Q s rx ry e q
 unfold neD at e
 split at e
 ·rename_i h
  cases e
  simp only[Bool.and_eq_true,decide_eq_true_eq]at h
  exact⟨dx,dy,rx.mono s,ry.mono s,h.1.1,h.1.2,h.2,q _ G H (Ext.refl s) (Same.refl _) (ZL.mpr rfl)⟩
 ·cases e
noncomputable def zAY (K:PySem.W.Frag)(neg:Bool):R2:=λx y H Q=>∃ dx ys p vs,y=.ref p/\(SqL K H p vs\/SqT K H p vs)/\zF K H ys vs/\Rep K H dx x/\dx.plain=true/\D.plains ys=true/\D.deeps ys<=30 ∧
 Q (.bl (if neg then !ys.any λy=>y.eqv dx else ys.any λy=>y.eqv dx)) H
theorem Uf {dx:D}(p:dx.plain=true):∀ {ys:List D},D.plains ys=true->((D.pys ys).any λy=>PyData.eqv y dx.py)=ys.any λy=>y.eqv dx
 |[],_=>rfl
 |a::r,h=>by
  have h':(a.plain && D.plains r)=true:=h
  rw[Bool.and_eq_true]at h'
  show (PyData.eqv (D.py a) dx.py || (D.pys r).any λy=>PyData.eqv y dx.py)=(a.eqv dx || r.any λy=>y.eqv dx)
  rw[WR h'.1 p,Uf p h'.2]
theorem jE {k:Nat}(hr:Room k X.A):OpR X (compareOp .In) (zAY X.K false):=by
 intro pins s σ H x y v u Q I rx ry h
 obtain⟨dx,ys,p,vs,rfl,hq,rl,r1,p1,p2,hd,q⟩:=h
 cases ry
 obtain⟨as,ra⟩:=yq I r1 rx p1
 have hu:X.A.units+1+min (PyData.depthAll (D.pys ys)) dx.py.depth<cLine:=by rw[YK p2];exact ww hr hd
 rcases hq with hq | hq
 ·obtain⟨its,rt,pl,_⟩:=I.list hq
  obtain⟨o,ho,hc,n,hdt⟩:=pl.isList
  obtain⟨bs,rb⟩:=yF I rl rt p2
  refine SeqAt.in_list_reads (.list ho hc hdt (by simpa using rb)) ra (Yc p2) (Y9 p1) hu ⟨.bl _,H,I,rfl,?_⟩
  rw[Uf p1 p2];exact q
 ·obtain⟨its,rt,⟨o,ho,hc,n,hdt⟩,_⟩:=I.tuple hq
  obtain⟨bs,rb⟩:=yF I rl rt p2
  refine SeqAt.in_tuple_reads (.tuple ho hc hdt (by simpa using rb)) ra (Yc p2) (Y9 p1) hu ⟨.bl _,H,I,rfl,?_⟩
  rw[Uf p1 p2];exact q
theorem qV {G H:Hp}{dy:D}{y:V}{ys:List D}(s:Same G H)(ry:Rep K G dy y)(e:dy.items? = some ys):∃ p vs,y=.ref p/\(SqL K H p vs\/SqT K H p vs)/\zF K H ys vs:=by
 cases dy<;>first | (cases e;done) | skip
 ·cases e
  obtain⟨p,vs,rfl,h1,r1⟩:=zh.mp ry
  exact⟨p,vs,rfl,.inr (SqT.same s h1),r1.mono s⟩
 ·cases e
  obtain⟨p,vs,rfl,h1,r1⟩:=zQ.mp ry
  exact⟨p,vs,rfl,.inl (s.seq h1),r1.mono s⟩
theorem jC:OpM K (zAY K false) inD:=by
 intro G H x y dx dy d Q s rx ry e q
 unfold inD at e
 cases hi:dy.items? with
 |none=>rw[hi]at e;cases e
 |some ys=>
  rw[hi]at e
  dsimp only at e
  split at e
  ·rename_i h
   cases e
   simp only[Bool.and_eq_true,decide_eq_true_eq]at h
   obtain⟨p,vs,rfl,hq,rl⟩:=qV s ry hi
   exact⟨dx,ys,p,vs,rfl,hq,rl,rx.mono s,h.1.1,h.1.2,h.2,q _ G H (Ext.refl s) (Same.refl _) (ZL.mpr rfl)⟩
  ·cases e
end
end PM
namespace PM
open PySem PySem.Spec PyProof.Rows L2
section
variable {P:Program}{w:World}{K:PySem.W.Frag}{mg:Str->Option Value}{base:Heap}{N:List Str}{qual:Str}{scope:Scope}{f:Addr}{cd:Value}{A:Around}{outer:List Env}{s₀:Shared}{H₀:Hp}{E:XK}
theorem kN {G0 H0:Hp}{ρ:Rho}{σ σ':St}{G H:Hp}{iy ie n:Nat}{e0 c:Addr}(x:Ext G0 H0 G H)(b:Same H0 H)(hn:H e0=none)(hl:σ'.length=n)(hy:iy<n)(hne:iy≠ie) :
  Hold K G0 H0 ((List.replicate n Slot.un).set iy (.fz (.exc c))) ((σ'.set iy (some (.ref e0))).set ie none) (upd G e0 (Vg e0 c)) (upd H e0 (Vg e0 c)):=by
 have xn:=Ext.new (o:=Vg e0 c) x.s hn
 refine⟨x.trans xn,b.trans (Same.upd hn),λj s e=>?_,λj k sj sk a e1 e2 m1 m2=>?_,by simp[hl]⟩
 ·rcases xU e with ⟨rfl,_,rfl⟩ | ⟨ne,e⟩
  ·refine⟨.ref e0,?_,?_⟩
   ·rw[List.getElem?_set_ne (Ne.symm hne)]
    exact ZV (by rw[hl];exact hy)
   ·unfold Rep
    exact⟨e0,rfl,upd_same⟩
  ·rw[List.getElem?_replicate]at e
   split at e
   ·cases e;exact trivial
   ·cases e
 ·rcases xU e1 with ⟨rfl,_,rfl⟩ | ⟨_,e1⟩
  ·exact m1.elim
  ·rw[List.getElem?_replicate]at e1
   split at e1
   ·cases e1;exact m1.elim
   ·cases e1
theorem Kx {CB:Addr}{cx n y:Str}{iy ie:Nat}{body:List Stmt}{m:M Fl}{np py pn hpos apos pos:Pos}(cs:List Addr)(hcs:∀ c ∈ cs,PySem.W.excIn K c Yk yG=true/\PySem.W.mroIn K c (.ref CB)=some true)
  (qB:PySem.W.excIn K CB Yk yG=true)(hm:mg cx=some (.ref CB))
  (hb:∀ (pins:List (Addr×Obj))(xe:Value->Shared->Prop)(E':XK),Passes (CX1 P w) (Cx.tr (cxOf (CX1 P w) P w K mg base N qual scope f cd A outer s₀ H₀ E) pins xe) E' ->
   MSs (Cx.tr (cxOf (CX1 P w) P w K mg base N qual scope f cd A outer s₀ H₀ E) pins xe) E' body m)
  (nd:N.Nodup)(hy:N[iy]? = some y)(he:N[ie]? = some n)(ly:scope.names.lookup y=some .local)(le:scope.names.lookup n=some .local)(hne:iy≠ie)
  (hgl:autoParam (Gl (cxOf (CX1 P w) P w K mg base N qual scope f cd A outer s₀ H₀ E) cx) aR._auto_1)(hd:autoParam ((cx == ("__debug__" : Str))=false) aD._auto_1)(hdn:autoParam ((n == ("__debug__" : Str))=false) aD._auto_1)
  (hsw:autoParam (swapsWith (.Name n pn) (some (.Name y py)) apos.line (cxOf (CX1 P w) P w K mg base N qual scope f cd A outer s₀ H₀ E).env=pure false) aR._auto_1) :
  MS (cxOf (CX1 P w) P w K mg base N qual scope f cd A outer s₀ H₀ E) E (.Try body [.ExceptHandler (some (.Name cx np)) (some n) [.Assign [.Name y py] (.Name n pn) apos] hpos] [] [] pos) (Vu cs iy m):=by
 refine⟨λD σ H=>∃ G0 H0 ρ G,Hold K G0 H0 ρ σ G H/\zo K E G0 H0 G (Vu cs iy m ρ) D,?_,λG0 H0 ρ σ G H ho D hD=>⟨G0,H0,ρ,G,ho,hD⟩⟩
 intro pins s σ H D I h
 obtain⟨G0,H0,ρ,G,ho,hD⟩:=h
 refine KQ (iy:=iy) (ie:=ie) (E':=λcls _ H'=>∃ c ρ' G',cls=.ref c/\m ρ=.exn c ρ'/\Same G G'/\Ext G0 H0 G' H'/\Same H0 H') I qB hm hgl (λxe hp=>?_) (λcls H' hE=>?_) nd hy he ly le hne hd hdn hsw
 ·obtain⟨t,ps,rs⟩:=hb pins xe _ hp
  refine⟨t,ps,rs G0 H0 ρ σ G H ho D ?_⟩
  unfold Vu at hD
  cases q:m ρ with
  |ok fl ρ'=>rw[q]at hD;cases fl<;>exact hD
  |exn c ρ'=>exact λσ' G' H' s1 h1=>⟨c,ρ',G',rfl,rfl,s1,h1.e,h1.b⟩
  |bad=>rw[q]at hD;exact hD
 ·obtain⟨c,ρ',G',rfl,q,sg,ex,sb⟩:=hE
  unfold Vu at hD
  rw[q]at hD
  dsimp only at hD
  split at hD
  ·rename_i hc
   obtain⟨q1,q2⟩:=hcs c (by simpa using hc)
   refine⟨c,rfl,q1,q2,λσ' e0 hl hn=>?_⟩
   have hiy:iy<ρ.length:=by rw[ho.len,I.len];exact (List.getElem?_eq_some_iff.mp hy).1
   exact hD _ _ _ (sg.trans (Same.upd (ex.s.free hn))) (kN (ρ:=ρ) (σ:=σ) ex sb hn (by rw[hl,ho.len]) hiy hne)
  ·exact hD.elim
end
structure ItOk (K:PySem.W.Frag)(J:It)(G:Hp)(ds:List D):Prop where
 go:∀ G' H' i d,Same G G'->Same G' H'->ds[i]? = some d->J.go i H'/\∀ x H'',J.yld i H' x H''->∃ G'',Ext G' H' G'' H''/\Same H' H''/\Rep K G'' d x
 stop:∀ G' H',Same G G'->Same G' H'->J.stop ds.length H'
theorem ItOk.of {K:PySem.W.Frag}{J:It}{G:Hp}{ds:List D}{vs:List V}(rl:zF K G ds vs)(go:∀ G' H' i v,Same G G'->Same G' H'->vs[i]? = some v->J.go i H'/\∀ x H'',J.yld i H' x H''->H''=H'/\x=v)
  (stop:∀ G' H',Same G G'->Same G' H'->J.stop vs.length H'):ItOk K J G ds:=by
 refine⟨λG' H' i d sg sh hd=>?_,λG' H' sg sh=>by rw[rl.len];exact stop G' H' sg sh⟩
 obtain⟨v,hv,rv⟩:=rl.get hd
 obtain⟨g,y⟩:=go G' H' i v sg sh hv
 refine⟨g,λx H'' q=>?_⟩
 obtain⟨rfl,rfl⟩:=y x H'' q
 exact⟨G',Ext.refl sh,Same.refl _,rv.mono sg⟩
noncomputable def RI (K:PySem.W.Frag)(E:XK)(wi:TI)(mi:M (List D)):Prop:=∀ G0 H0 ρ σ G H (R:It->Hp->Prop),Hold K G0 H0 ρ σ G H->(match mi ρ with
 |.ok ds ρ'=>∀ J G' H',Same G G'->Hold K G0 H0 ρ' σ G' H'->ItOk K J G' ds->R J H'
 |.exn c ρ'=>∀ G' H',Same G G'->Hold K G0 H0 ρ' σ G' H'->E (.ref c) none H'
 |.bad=>False)->wi σ H R
noncomputable def MI (X:Cx)(E:XK)(tg iter:Expr)(mi:M (List D)):Prop:=∃ wi,PI X tg iter wi/\RI X.K E wi mi
theorem RI.of {K:PySem.W.Frag}{E:XK}{te:TE}{m:M D}{f:D->Option (List D)}{t2:V->Hp->(It->Hp->Prop)->Prop}(he:RE K E te m)
  (h2:∀ G H d v ds R,Same G H->Rep K G d v->f d=some ds->(∀ J,ItOk K J G ds->R J H)->t2 v H R):RI K E (λσ H R=>te σ H λv H1=>t2 v H1 R) (zq f m):=by
 intro G0 H0 ρ σ G H R ho hR
 unfold zq at hR
 refine he G0 H0 ρ σ G H ho _ ?_
 cases q:m ρ with
 |ok d ρ1=>
  rw[q]at hR
  intro v G1 H1 s1 h1 r1
  simp only[Res.bnd_ok]at hR
  cases q2:f d with
  |some ds=>
   rw[q2]at hR
   exact h2 G1 H1 d v ds R h1.e.s r1 q2 λJ io=>hR J G1 H1 s1 h1 io
  |none=>rw[q2]at hR;exact hR.elim
 |exn c ρ1=>rw[q]at hR;exact hR
 |bad=>rw[q]at hR;exact hR
section
variable {X:Cx}{E:XK}{tg iter e:Expr}{m:M D}
theorem Yg (h:ME X E iter m):MI X E tg iter (zq Zg m):=by
 obtain⟨t,p,r⟩:=h
 refine⟨_,pi_list p,RI.of (t2:=λx H1 R=>∃ a,x=.ref a/\(∃ xs,SqL X.K H1 a xs)/\R (Itl X.K a) H1) r λG H d v ds R s rv e hR=>?_⟩
 cases d<;>first | (cases e;done) | skip
 cases e
 obtain⟨a,vs,rfl,hq,rl⟩:=zQ.mp rv
 refine⟨a,rfl,⟨vs,s.seq hq⟩,hR (Itl X.K a) (ItOk.of rl (λG' H' i v sg sh hv=>?_) λG' H' sg sh=>⟨vs,sh.seq (sg.seq hq),Nat.le_refl _⟩)⟩
 have q:SqL X.K H' a vs:=sh.seq (sg.seq hq)
 refine⟨⟨vs,v,q,hv⟩,λx H'' ⟨e1,e2⟩=>⟨e1,?_⟩⟩
 have:=e2 vs q
 rw[hv]at this
 exact (Option.some.inj this).symm
theorem jQ (h:ME X E iter m):MI X E tg iter (zq YH m):=by
 obtain⟨t,p,r⟩:=h
 refine⟨_,pi_tup p,RI.of (t2:=λx H1 R=>∃ a,x=.ref a/\(∃ xs,SqT X.K H1 a xs)/\R (Itt X.K a) H1) r λG H d v ds R s rv e hR=>?_⟩
 cases d<;>first | (cases e;done) | skip
 cases e
 obtain⟨a,vs,rfl,hq,rl⟩:=zh.mp rv
 refine⟨a,rfl,⟨vs,SqT.same s hq⟩,hR (Itt X.K a) (ItOk.of rl (λG' H' i v sg sh hv=>?_) λG' H' sg sh=>⟨vs,SqT.same sh (SqT.same sg hq),Nat.le_refl _⟩)⟩
 have q:SqT X.K H' a vs:=SqT.same sh (SqT.same sg hq)
 refine⟨⟨vs,v,q,hv⟩,λx H'' ⟨e1,e2⟩=>⟨e1,?_⟩⟩
 have:=e2 vs q
 rw[hv]at this
 exact (Option.some.inj this).symm
theorem jR {p q:Pos}(hr:X.mg "range" = none)(h:ME X E e m)(hgl:autoParam (Gl X "range") aR._auto_1)(hst:autoParam (starEach [e] X.env=[(false,eval e X.env)]) aR._auto_1):MI X E tg (.Call (.Name "range" p) [e] [] q) (zq yM m):=by
 obtain⟨t,p',r⟩:=h
 refine⟨_,pi_range1 hgl hr (pa_cons p' pa_nil hst) hst,RI.of (t2:=λx H1 R=>∃ j:Int,[x]=[V.int j]/\-(2 ^ 62)<=j/\j<2 ^ 62/\R (Itr 0 j.toNat) H1) r λG H d v ds R s rv e hR=>?_⟩
 obtain⟨j,rfl,hj,rfl⟩:=xz e
 rw[zJ.mp rv]
 refine⟨j,rfl,hj.1,hj.2,hR (Itr 0 j.toNat) (ItOk.of (Xx G j.toNat) ?_ ?_)⟩
 rotate_left
 ·exact λG' H' sg sh=>by show j.toNat<=_;simp
 intro G' H' i v sg sh hv
 have el:((List.range j.toNat).map λk:Nat=>V.int (k:Int)).length=j.toNat:=by simp
 have hi:i<j.toNat:=by rw[<-el];exact (List.getElem?_eq_some_iff.mp hv).1
 refine⟨hi,λx H'' ⟨e1,e2⟩=>⟨e1,?_⟩⟩
 rw[List.getElem?_map,List.getElem?_range hi]at hv
 cases hv
 rw[e2]
 simp
end
section
variable {prog:Program}{w:World}{A:Around}{R:Result->Shared->Prop}{s:Shared}
theorem uY {elt target iter:Expr}{ifs:List Expr}{scope:Scope}{pos:Pos}{it acc:Value}{env:Env}(I:Nat->Shared->Prop)
  (turn:∀ n s,I n s->wpAny (model prog w) A (pyNext it) (λr s₁=>match r with
   |none=>R (.ok .next) s₁
   |some v=>wpAny (model prog w) A (letOwnedTupleGo target it v) (λ_ s₁=>wpAny (model prog w) A (assign target env v) (λ_ s₂=>
     wpAny (model prog w) A (forIn ifs true λc r=>if r=true then do let ok <-isTrue c env (eval c env);pure (ForInStep.yield ok) else pure (ForInStep.yield r)) (λok s₃=>
      if ok=true then wpAny (model prog w) A (eval elt env) (λx s₄=>
       wpAny (model prog w) A (call (.builtin "list.append") [acc,x]) (λ_ s₅=>∃ m,m<n/\I m s₅) (notedBy (model prog w) A env λe s'=>R (.error e) s') s₄) (notedBy (model prog w) A env λe s'=>R (.error e) s') s₃
      else ∃ m,m<n/\I m s₃) (notedBy (model prog w) A env λe s'=>R (.error e) s') s₂) (notedBy (model prog w) A env λe s'=>R (.error e) s') s₁) (notedBy (model prog w) A env λe s'=>R (.error e) s') s₁) (notedBy (model prog w) A env λe s'=>R (.error e) s') s)
  (n:Nat)(h:I n s) :
  codeAny (model prog w) A (.compLoop (.ListComp elt [⟨target,iter,ifs,0⟩] scope pos) 0 it acc env) R s:=by
 refine codeAny_loop rfl I (λn s hI=>?_) n h
 show wpAny _ A ((compTurn (.ListComp elt [⟨target,iter,ifs,0⟩] scope pos) 0 it acc env).onRaise (λx=>do noteFrame x env;theTreesLotGoes x)) _ _ s
 refine wpAny_noted ?_
 rw[compTurn_list]
 refine wpAny_bind (wpAny_standAt (wpAny_bind (wpAny_mono (turn n s hI) (λr s₁ h₁=>?_) λ_ _ h'=>h')))
 cases r with
 |none=>exact wpAny_pure h₁
 |some v=>
  refine wpAny_bind (wpAny_mono h₁ (λ_ s₁' h₁'=>?_) λ_ _ h'=>h')
  refine wpAny_bind (wpAny_mono h₁' (λ_ s₂ h₂=>wpAny_bind (wpAny_mono h₂ (λok s₃ h₃=>?_) λ_ _ h'=>h')) λ_ _ h'=>h')
  cases ok with
  |false=>exact wpAny_pure ⟨rfl,h₃⟩
  |true=>
   exact wpAny_bind (wpAny_bind (wpAny_mono h₃ (λx s₄ h₄=>wpAny_bind (wpAny_mono h₄ (λ_ s₅ h₅=>wpAny_pure (wpAny_pure ⟨rfl,h₅⟩)) λ_ _ h'=>h')) λ_ _ h'=>h'))
end
end PM
namespace PM
open PySem PySem.Spec PyProof.Rows L2
noncomputable def ZR (X:Cx)(scope:Scope)(cl:List (Str×Addr))(N':List Str)(C:Addr)(s₀:Shared)(H₀:Hp)(fp:List Addr)(pn:List (Addr×Obj)):Cx:=
 {X with N:=N',s₀:=s₀,H₀:=H₀,env:=compEnvC scope cl C X.env,outer:=X.stack,ex:=fp,fn:=λ_=>false,pn:=pn,xe:=λ_ _=>False }
structure BlkScope (X:Cx)(scope:Scope)(cl:List (Str×Addr)) (nt:Nat)(N':List Str)(idx:List Nat):Prop where
 clos:closureFor scope X.env=pure cl
 kind:scope.kind=.function
 nocell:∀ y ∈ scope.names,y.2≠.cell
 names:∀ y ∈ scope.names,y.2=.local->scope.names.lookup y.1=some .local
 sub:∀ x c,cl.lookup x=some c->X.env.cells.lookup x=some c
 has:∀ x,scope.names.lookup x=some .free->(cl.lookup x).isSome=true
 len:N'.length=nt+idx.length+1
 cap:∀ (j:Nat) i,idx[j]? = some i->∃ x,X.N[i]? = some x/\N'[nt+j]? = some x/\scope.names.lookup x=some .free/\X.env.scope.names.lookup x=some .cell
 acc:∃ x,N'[nt+idx.length]? = some x/\scope.names.lookup x=none
theorem Yb {env:Env}:∀ {names:List (Str×NameKind)}{x:Str}{k:NameKind},(∀ y ∈ names,y.2≠.cell) ->
  (names.map λ(n,k)=>if (k == NameKind.free && env.scope.kind == .function && env.kindOf n == some .cell) then (n,NameKind.cell) else (n,k)).lookup x=some k->(k=.cell\/k=.free)->names.lookup x=some .free
 |[],_,_,_,h,_=>by simp at h
 |(n,k0)::r,x,k,hc,h,hk=>by
  have ih:=@Yb env r x k (λy hy=>hc y (List.mem_cons_of_mem _ hy))
  have h':List.lookup x ((if (k0 == NameKind.free && env.scope.kind == .function && env.kindOf n == some .cell)=true then (n,NameKind.cell) else (n,k0))::_)=some k:=h
  cases hx:x == n with
  |true=>
   by_cases hcnd:(k0 == NameKind.free && env.scope.kind == .function && env.kindOf n == some .cell)=true
   ·have:k0=.free:=by
     simp only[Bool.and_eq_true,beq_iff_eq]at hcnd
     exact hcnd.1.1
    subst this
    simp[List.lookup_cons,hx]
   ·rw[if_neg hcnd]at h'
    simp only[List.lookup_cons,hx]at h'
    cases h'
    rcases hk with rfl | rfl
    ·exact absurd rfl (hc _ List.mem_cons_self)
    ·simp[List.lookup_cons,hx]
  |false=>
   have:(if (k0 == NameKind.free && env.scope.kind == .function && env.kindOf n == some .cell)=true then (n,NameKind.cell) else (n,k0)).1=n:=by split<;>rfl
   rw[List.lookup_cons]at h'
   rw[this,hx]at h'
   simp only[List.lookup_cons,hx]
   exact ih h' hk
theorem XS {env:Env}:∀ {names:List (Str×NameKind)}{x:Str},names.lookup x=none ->
  (names.map λ(n,k)=>if (k == NameKind.free && env.scope.kind == .function && env.kindOf n == some .cell) then (n,NameKind.cell) else (n,k)).lookup x=none
 |[],_,_=>rfl
 |(n,k0)::r,x,h=>by
  cases hx:x == n with
  |true=>simp[List.lookup_cons,hx]at h
  |false=>
   simp only[List.lookup_cons,hx]at h
   show List.lookup x ((if (k0 == NameKind.free && env.scope.kind == .function && env.kindOf n == some .cell)=true then (n,NameKind.cell) else (n,k0))::_)=none
   have:(if (k0 == NameKind.free && env.scope.kind == .function && env.kindOf n == some .cell)=true then (n,NameKind.cell) else (n,k0)).1=n:=by split<;>rfl
   rw[List.lookup_cons,this,hx]
   exact XS h
theorem XT {env:Env}:∀ {names:List (Str×NameKind)}{x:Str},names.lookup x=some .free ->
  ∃ k,(k=.cell\/k=.free)/\(names.map λ(n,k)=>if (k == NameKind.free && env.scope.kind == .function && env.kindOf n == some .cell) then (n,NameKind.cell) else (n,k)).lookup x=some k
 |[],_,h=>by simp at h
 |(n,k0)::r,x,h=>by
  cases hx:x == n with
  |true=>
   simp only[List.lookup_cons,hx]at h
   cases h
   by_cases hcnd:(NameKind.free == NameKind.free && env.scope.kind == .function && env.kindOf n == some .cell)=true
   ·exact⟨.cell,.inl rfl,by show List.lookup x ((if _ then _ else _)::_)=_;rw[if_pos hcnd];simp[List.lookup_cons,hx]⟩
   ·exact⟨.free,.inr rfl,by show List.lookup x ((if _ then _ else _)::_)=_;rw[if_neg hcnd];simp[List.lookup_cons,hx]⟩
  |false=>
   simp only[List.lookup_cons,hx]at h
   obtain⟨k,hk,e⟩:=XT (env:=env) h
   refine⟨k,hk,?_⟩
   show List.lookup x ((if (k0 == NameKind.free && env.scope.kind == .function && env.kindOf n == some .cell)=true then (n,NameKind.cell) else (n,k0))::_)=some k
   have:(if (k0 == NameKind.free && env.scope.kind == .function && env.kindOf n == some .cell)=true then (n,NameKind.cell) else (n,k0)).1=n:=by split<;>rfl
   rw[List.lookup_cons,this,hx]
   exact e
section
variable {X:Cx}{pins:List (Addr×Obj)}{σ:St}{H:Hp}{s:Shared}{scope:Scope}{cl:List (Str×Addr)}{nt:Nat}{N':List Str}{idx:List Nat}{fp:List Addr}
noncomputable def Z5 (nt:Nat)(idx:List Nat)(σ:St)(p:Addr):St:=List.replicate nt none++(idx.map λi=>σ.getD i none)++[some (.ref p)]
theorem QY {h1:Heap}{tk:Nat}{p:Addr}(B:BlkScope X scope cl nt N' idx)(I:Inv X pins σ H s)(hf:∀ b ∈ fp,FpOk X pins H b)(ho:∀ b ∈ fp,∃ o,s.heap.get? b=some o/\∀ v,o.data≠.cell v)
  (hn:h1.Ns s.heap.objs.size (λ_=>none))(hk:∀ b o,s.heap.get? b=some o->h1.get? b=some o) :
  Inv (ZR X scope cl N' s.heap.objs.size s H fp (X.pn++pins)) [] (Z5 nt idx σ p) H { s with heap:=h1,toks:=tk }:=by
 have szlt:∀ b o,s.heap.get? b=some o->b≠s.heap.objs.size:=λb o q=>Nat.ne_of_lt (Heap.lt_size q)
 have stk:∀ b ∈ fp,b ∉ frs X.stack:=λb hb z=>by
  obtain⟨_,h2,h3,_⟩:=hf b hb
  rcases List.mem_cons.mp (I.stkSub b z) with q | q
  ·exact h2 q
  ·exact h3 q
 have ok:(ZR X scope cl N' s.heap.objs.size s H fp (X.pn++pins)).Ok:=by
  refine⟨I.ok.mod,B.kind,I.ok.glob,I.ok.blt,Nat.le_refl _,λx y c e1 e2=>I.ok.inj x y c (B.sub x c e1) (B.sub y c e2),λx hx=>?_,(λx c e=>by cases e),I.ok.hd,I.ok.frames,.inl rfl,λb hb=>?_,I.bs,Nat.le_trans I.ok.bsz I.sz,λb o e hb=>?_,stk,I.stack,I.stkFree⟩
  ·have hx':(relabel scope X.env).names.lookup x=some .cell\/(relabel scope X.env).names.lookup x=some .free:=hx
   have:scope.names.lookup x=some .free:=by
    rcases hx' with z | z
    ·exact Yb B.nocell z (.inl rfl)
    ·exact Yb B.nocell z (.inr rfl)
   exact Option.isSome_iff_exists.mp (B.has x this)
  ·obtain⟨o,q,_⟩:=ho b hb
   exact⟨szlt b o q,λx c e=>(hf b hb).2.2.2.2.1 x c (B.sub x c e)⟩
  ·obtain⟨_,_,_,h4,_⟩:=hf b hb
   rcases h4 with z | z
   ·exact I.ok.noex b o e z
   ·have h5:b<X.base.objs.size:=Heap.lt_size e
    exact absurd (Nat.lt_of_lt_of_le h5 (Nat.le_trans I.ok.bsz z)) (Nat.lt_irrefl _)
 refine⟨ok,rfl,I.bare,Un.kept hk,⟨_,hn,λi x v e1 e2 e3=>?_⟩,λx c e=>?_,I.hok.fresh (Nat.le_refl _),λx c e=>I.freeC x c (B.sub x c e),λq hq=>?_,I.hok.kept hk,?_⟩
 ·have e1':N'[i]? = some x:=e1
  have e3':Vis (relabel scope X.env) x:=e3
  by_cases h1:i<nt
  ·exfalso
   unfold Z5 at e2
   rw[List.append_assoc,List.getElem?_append_left (by simpa using h1),List.getElem?_replicate]at e2
   split at e2<;>cases e2
  ·by_cases h2:i<nt+idx.length
   ·obtain⟨j,rfl⟩ : ∃ j,i=nt+j:=⟨i - nt,by omega⟩
    have hj:j<idx.length:=by omega
    have ej:idx[j]? = some idx[j]:=List.getElem?_eq_getElem hj
    obtain⟨y,y1,y2,y3,y4⟩:=B.cap j _ ej
    rw[e1']at y2
    cases y2
    have ev:σ[idx[j]]? = some (some v):=by
     unfold Z5 at e2
     rw[List.getElem?_append_left (by simp;omega),List.getElem?_append_right (by simp),List.getElem?_map]at e2
     simp only[List.length_replicate,Nat.add_sub_cancel_left,ej,Option.map_some]at e2
     have e2':=Option.some.inj e2
     rw[List.getD_eq_getElem?_getD]at e2'
     cases q:σ[idx[j]]? with
     |none=>rw[q]at e2';cases e2'
     |some o=>rw[q]at e2';exact congrArg some e2'
    obtain⟨m,hm,hl⟩:=I.loc
    obtain⟨u,r,l⟩:=hl _ x v y1 ev (.inr (.inl y4))
    refine⟨u,r,.inr ?_⟩
    have hc:∃ c,X.env.cells.lookup x=some c/\s.heap.IsCell c (some u):=by
     rcases l with ⟨k,_⟩ | ⟨_,c,e,z⟩
     ·have k':X.env.scope.names.lookup x=some .local:=k
      rw[y4]at k'
      cases k'
     ·exact⟨c,e,z⟩
    obtain⟨c,e,z⟩:=hc
    obtain⟨c',e'⟩:=Option.isSome_iff_exists.mp (B.has x y3)
    have:=B.sub x c' e'
    rw[e]at this
    cases this
    obtain⟨k,hk',hlk⟩:=XT (env:=X.env) y3
    obtain⟨o,ho,hd⟩:=z
    refine⟨?_,c,e',o,hk _ _ ho,hd⟩
    rcases hk' with rfl | rfl
    ·exact .inl hlk
    ·exact .inr hlk
   ·exfalso
    have hil:i<N'.length:=(List.getElem?_eq_some_iff.mp e1').1
    have:i=nt+idx.length:=by rw[B.len]at hil;omega
    subst this
    obtain⟨y,y1,y2⟩:=B.acc
    rw[e1']at y1
    cases y1
    have hno:=XS (env:=X.env) y2
    have hno':(relabel scope X.env).names.lookup x=none:=hno
    unfold Vis at e3'
    rw[hno']at e3'
    rcases e3' with z | z | z<;>cases z
 ·obtain⟨v,o,ho,hd⟩:=I.cell x c (B.sub x c e)
  exact⟨v,o,hk _ _ ho,hd⟩
 ·have hq0:q ∈ (X.pn++pins)++[]:=hq
  have hq':q ∈ X.pn++pins:=by rw[List.append_nil]at hq0;exact hq0
  obtain⟨p1,p2,p3,p4,p5⟩:=I.pin q hq'
  refine⟨hk _ _ p1,p2,szlt _ _ p1,λz=>?_,p5⟩
  rcases List.mem_cons.mp (I.stkSub q.1 z) with y | y
  ·exact p3 y
  ·exact p4 y
 ·show (Z5 nt idx σ p).length=N'.length
  rw[B.len]
  unfold Z5
  simp
  omega
theorem ka {s':Shared}{h'':Heap}{pins':List (Addr×Obj)}{C:Addr}{σ':St}{H':Hp}(I:Inv X pins σ H s)(hf:∀ b ∈ fp,FpOk X pins H b)(J:Inv (ZR X scope cl N' C s H fp (X.pn++pins)) pins' σ' H' s')
  (hC:s.heap.objs.size<=C)(hs:Heap.SameBut C s'.heap h'')(hk:HOk X.prog X.w H' h''):Inv X pins σ H' { s' with heap:=h'' }:=by
 have up:∀ b o,b≠C->s'.heap.get? b=some o->h''.get? b=some o:=λb o n q=>(hs.2 b n).trans q
 have ne:∀ b o,s.heap.get? b=some o->b≠C:=λb o q z=>by
  subst z
  exact absurd (Nat.lt_of_lt_of_le (Heap.lt_size q) hC) (Nat.lt_irrefl _)
 have u:=J.base
 refine I.call' (s':={ s' with heap:=h'' }) (ch:=fp) J.os ⟨λb o q n hb hx=>up b o (ne b o q) (u.keep b o q n hb hx),λb o q n hb hx=>?_,u.free,λb o q hx=>?_,u.tups,u.frzs,u.tbls⟩ hk J.bare λb hb=>?_
 ·obtain⟨sl,e⟩:=u.slot b o q n hb hx
  exact⟨sl,up b _ (ne b o q) e⟩
 ·obtain⟨o',e⟩:=u.there b o q hx
  exact⟨o',up b _ (ne b o q) e⟩
 ·obtain⟨h1,h2,h3,h4,h5,h6⟩:=hf b hb
  exact⟨h4,h2,h5,h6⟩
end
end PM
namespace PM
open PySem PySem.Spec PyProof.Rows L2
section
variable {K:PySem.W.Frag}
theorem QS {H0 H0' G H H':Hp}{s:Slot}{o:Option (Option V)}(h:YV K H0 G H s o):YV K H0' G H' (Vj s) o:=by
 cases s with
 |un=>exact trivial
 |fz d=>exact h
 |own d=>exact trivial
 |dic d=>exact trivial
 |own2 d=>exact trivial
 |dicT d=>exact trivial
 |ownM d=>exact trivial
 |obj C d=>exact trivial
 |junk n=>exact trivial
theorem QT (s:Slot){H:Hp}{o:Option (Option V)}{b:Addr}:¬ (Vj s).foot H o b:=by cases s<;>exact λh=>h
theorem Xl {G0 H0:Hp}{ρ:Rho}{σ:St}{G H:Hp}{nt:Nat}{idx:List Nat}{p:Addr}{acc:Slot}(hacc:acc=.own []\/acc=.own2 []\/acc=.ownM [])(ho:Hold K G0 H0 ρ σ G H)(hp:H p=none)(hidx:∀ i ∈ idx,i<σ.length) :
  Hold K G H (ZO acc nt idx ρ) (Z5 nt idx σ p) G (upd H p (.lst [])):=by
 have hg:G p=none:=ho.e.s.free hp
 have cases3:∀ (i:Nat)(s:Slot),(ZO acc nt idx ρ)[i]? = some s->(s=.un)\/(∃ j k,i=nt+j/\idx[j]? = some k/\s=Vj (ρ.getD k .un)/\(Z5 nt idx σ p)[i]? = some (σ.getD k none))\/(i=nt+idx.length/\s=acc/\(Z5 nt idx σ p)[i]? = some (some (.ref p))):=λi s e=>by
  unfold ZO at e
  by_cases h1:i<nt
  ·rw[List.append_assoc,List.getElem?_append_left (by simpa using h1),List.getElem?_replicate]at e
   split at e<;>first | (cases e;exact .inl rfl) | cases e
  ·by_cases h2:i<nt+idx.length
   ·obtain⟨j,rfl⟩ : ∃ j,i=nt+j:=⟨i - nt,by omega⟩
    have hj:j<idx.length:=by omega
    have ej:idx[j]? = some idx[j]:=List.getElem?_eq_getElem hj
    rw[List.getElem?_append_left (by simp;omega),List.getElem?_append_right (by simp),List.getElem?_map]at e
    simp only[List.length_replicate,Nat.add_sub_cancel_left,ej,Option.map_some]at e
    cases e
    refine .inr (.inl ⟨j,idx[j],rfl,ej,rfl,?_⟩)
    unfold Z5
    rw[List.getElem?_append_left (by simp;omega),List.getElem?_append_right (by simp),List.getElem?_map]
    simp only[List.length_replicate,Nat.add_sub_cancel_left,ej,Option.map_some]
   ·have hi:i<(List.replicate nt Slot.un++(idx.map λi=>Vj (ρ.getD i .un))++[acc]).length:=(List.getElem?_eq_some_iff.mp e).1
    have hi':i=nt+idx.length:=by simp at hi;omega
    subst hi'
    rw[List.getElem?_append_right (by simp)]at e
    simp at e
    refine .inr (.inr ⟨rfl,e.symm,?_⟩)
    unfold Z5
    rw[List.getElem?_append_right (by simp)]
    simp
 refine⟨⟨Same.refl _,ho.e.s.trans (Same.upd hp),λ_ _ e=>e,Same.upd hp⟩,Same.upd hp,λi s e=>?_,λi j si sj a e1 e2 m1 m2=>?_,by unfold ZO Z5;simp⟩
 ·rcases cases3 i s e with rfl | ⟨j,k,rfl,ek,rfl,es⟩ | ⟨rfl,rfl,es⟩
  ·exact trivial
  ·rw[es]
   have hk:=hidx k (List.mem_of_getElem? ek)
   have hkρ:k<ρ.length:=by rw[ho.len];exact hk
   have q:=ho.sl k ρ[k] (List.getElem?_eq_getElem hkρ)
   have e1:ρ.getD k .un=ρ[k]:=by rw[List.getD_eq_getElem?_getD,List.getElem?_eq_getElem hkρ];rfl
   have e2:σ[k]? = some (σ.getD k none):=by rw[List.getD_eq_getElem?_getD,List.getElem?_eq_getElem hk];rfl
   rw[e1,<-e2]
   exact QS q
  ·rw[es]
   rcases hacc with rfl | rfl | rfl
   ·exact⟨p,[],rfl,upd_same,hg,hp,zF.nil⟩
   ·exact⟨p,[],rfl,upd_same,hg,hp,(by simp),List.nodup_nil,rfl,λk b ds h=>by simp at h⟩
   ·exact⟨p,[],[],rfl,upd_same,hg,hp,(by simp),List.nodup_nil,rfl,rfl,λk t b g n ds h=>by simp at h⟩
 ·have only:∀ {i:Nat}{s:Slot},(ZO acc nt idx ρ)[i]? = some s->∀ {H':Hp}{o:Option (Option V)}{c:Addr},s.foot H' o c->i=nt+idx.length:=fun {i s} e {H' o c} m=>by
   rcases cases3 i s e with rfl | ⟨j,k,rfl,ek,rfl,es⟩ | ⟨rfl,rfl,es⟩
   ·exact m.elim
   ·exact absurd m (QT _)
   ·rfl
  rw[only e1 m1,only e2 m2]
end
section
variable {X:Cx}{E:XK}{elt iter tg:Expr}{scope:Scope}{cl:List (Str×Addr)}{nt:Nat}{N':List Str}{idx:List Nat}{pos:Pos}{mi:M (List D)}{gm:GM}{me:M D}
noncomputable def RGk (K:PySem.W.Frag)(g:TG)(gm:GM) (k:Nat):Prop:=∀ G0 H0 ρ σ G H d v (Q:St->Hp->Prop),Hold K G0 H0 ρ σ G H->Rep K G d v ->
 (∃ ρ',gm d ρ=some ρ'/\∀ (σ':St) G' H',Same G G'->Hold K G0 H0 ρ' σ' G' H'->(∀ t,k<=t->σ'[t]? = σ[t]?)->Q σ' H')->g v σ H Q
noncomputable def MGk (X:Cx)(tg:Expr)(gm:GM) (k:Nat):Prop:=∃ g,PG X tg g/\RGk X.K g gm k
noncomputable def zAs (K:PySem.W.Frag)(g:TGs)(is:List Nat) (k:Nat):Prop:=∀ G0 H0 ρ σ G H ds vs (Q:St->Hp->Prop),Hold K G0 H0 ρ σ G H->zF K G ds vs ->
 (∃ ρ',xH is ds ρ=some ρ'/\∀ (σ':St) G' H',Same G G'->Hold K G0 H0 ρ' σ' G' H'->(∀ t,k<=t->σ'[t]? = σ[t]?)->Q σ' H')->g vs σ H Q
noncomputable def kj (X:Cx)(tgs:List Expr)(is:List Nat) (k:Nat):Prop:=∃ g,PGs X tgs g/\zAs X.K g is k
theorem yN (i k:Nat){x:Str}(hik:i<k)(hN:X.N.Nodup)(hi:autoParam (X.N[i]? = some x) aR._auto_1)(hx:autoParam (Loc X.env.scope x) aL._auto_1)(hf:autoParam (X.fn x=true\/X.env.scope.names.lookup x=some .local) aF._auto_1):MGk X (.Name x pos) (zz i) k:=
 ⟨_,pg_name hN hi hx hf,λG0 H0 ρ σ G H d v Q ho r ⟨ρ',e,hQ⟩=>by
  cases e
  exact hQ _ G H (Same.refl _) (ho.setFz r) λt ht=>List.getElem?_set_ne (by omega)⟩
theorem Wd (k:Nat):kj X [] [] k:=⟨_,pgs_nil,by
 intro G0 H0 ρ σ G H ds vs Q ho r ⟨ρ',e,hQ⟩
 cases ds with
 |nil=>cases e;exact⟨r.nil_inv,hQ σ G H (Same.refl _) ho λ_ _=>rfl⟩
 |cons d ds=>cases e⟩
theorem yH (i k:Nat){x:Str}{es:List Expr}{is:List Nat}(hik:i<k)(hN:X.N.Nodup)(h2:kj X es is k)(hi:autoParam (X.N[i]? = some x) aR._auto_1)(hx:autoParam (Loc X.env.scope x) aL._auto_1)(hf:autoParam (X.fn x=true\/X.env.scope.names.lookup x=some .local) aF._auto_1)
  (hs:autoParam ((assignEach (.Name x pos::es) X.env).map (·.2)=assign (.Name x pos) X.env::(assignEach es X.env).map (·.2)) aR._auto_1):kj X (.Name x pos::es) (i::is) k:=by
 obtain⟨g,p,r⟩:=h2
 refine⟨_,pgs_cons (pg_name hN hi hx hf) p hs,?_⟩
 intro G0 H0 ρ σ G H ds vs Q ho rl ⟨ρ',e,hQ⟩
 cases ds with
 |nil=>cases e
 |cons d ds=>
  obtain⟨v,vr,rfl,r1,r2⟩:=rl.cons_inv
  exact⟨v,vr,rfl,r G0 H0 _ _ G H ds vr Q (ho.setFz r1) r2 ⟨ρ',e,λσ' G' H' s h e'=>hQ σ' G' H' s h λt ht=>(e' t ht).trans (List.getElem?_set_ne (by omega))⟩⟩
theorem VT {es:List Expr}{is:List Nat}{k0 n:Nat} (k:Nat)(hc:X.calm=true)(h:kj X es is k)(hl:is.length=n)(hn:autoParam ((assignEach es X.env).length=n) aR._auto_1)(hst:autoParam ((assignEach es X.env).findIdx? (·.1)=none) aR._auto_1):MGk X (.Tuple es k0 pos) (Zi is) k:=by
 obtain⟨g,p,r⟩:=h
 refine⟨_,pg_tup hc p hn hst,?_⟩
 intro G0 H0 ρ σ G H d v Q ho rv ⟨ρ',e,hQ⟩
 cases d<;>first | (cases e;done) | skip
 rename_i ds
 obtain⟨a,vs,rfl,hq,rl⟩:=zh.mp rv
 have e':xH is ds ρ=some ρ':=e
 exact⟨a,vs,rfl,SqT.same ho.e.s hq,by rw[rl.ln,wE e'];exact hl,r G0 H0 ρ σ G H ds vs Q ho rl ⟨ρ',e',hQ⟩⟩
noncomputable def MC (X:Cx)(ifs:List Expr)(c:Option (M Bool)):Prop:=(ifs=[]/\c=none)\/∃ e m,ifs=[e]/\c=some m/\MT X E0 e m
noncomputable def ElR (X:Cx)(elt:Expr)(bm:M Fl) (k:Nat):Prop:=∀ (pins:List (Addr×Obj))(s:Shared)(σ:St)(H G0 H0 G:Hp)(ρ:Rho)(p:Addr)(D:Ends)(E':Value->Shared->Prop),Inv X pins σ H s->Hold X.K G0 H0 ρ σ G H->σ[k]? = some (some (.ref p))->zo X.K E0 G0 H0 G (bm ρ) D->(∀ v s,X.xe v s->E' v s) ->
 wpAny (model X.prog X.w) X.A (eval elt X.env) (λxv s₄=>wpAny (model X.prog X.w) X.A (call (.builtin "list.append") [.ref p,xv]) (λ_ s₅=>∃ H5,Inv X pins σ H5 s₅/\D.nx σ H5) E' s₄) E' s
theorem zAD {k:Nat}(he:ME X E0 elt me):ElR X elt (Zx k me) k:=by
 intro pins s9 σ8 H9 G1 H2 G9 ρ9 p D E' I9 h9 k8 p9 hx
 obtain⟨te,pe,re⟩:=he
 unfold Zx at p9
 cases eo:zl ρ9[k]? with
 |none=>rw[eo]at p9;exact p9.elim
 |some ys0=>
  rw[eo]at p9
  have p9':zo X.K E0 G1 H2 G9 ((me ρ9).bnd λx ρ=>(zO (zl ρ[k]?) ρ).bnd λds ρ=>if ds.length<sizeLine then .ok .nx (ρ.set k (.own (ds++[x]))) else .bad) D:=p9
  have step:=re G1 H2 ρ9 σ8 G9 H9 h9 (λxx H10=>∃ dd ρ10 G10,me ρ9=.ok dd ρ10/\Same G9 G10/\Hold X.K G1 H2 ρ10 σ8 G10 H10/\Rep X.K G10 dd xx) (by
   cases qe:me ρ9 with
   |ok dd ρ10=>exact λxx G' H' s1 h1 r1=>⟨dd,ρ10,G',rfl,s1,h1,r1⟩
   |exn cc ρ10=>rw[qe]at p9';exact λG' H' s1 h1=>p9' σ8 G' H' s1 h1
   |bad=>rw[qe]at p9';exact p9')
  refine wpAny_mono (pe _ s9 σ8 H9 _ I9 step) (λxu s10 ⟨xx,H10,I10,r10,dd,ρ10,G10,qe,sg10,h10,rd⟩=>?_) hx
  rw[qe]at p9'
  have p10:zo X.K E0 G1 H2 G9 ((zO (zl ρ10[k]?) ρ10).bnd λds ρ=>if ds.length<sizeLine then .ok .nx (ρ.set k (.own (ds++[dd]))) else .bad) D:=p9'
  cases eo2:zl ρ10[k]? with
  |none=>rw[eo2]at p10;exact p10.elim
  |some ys=>
   rw[eo2]at p10
   obtain⟨a,ws,a1,a2,a3,a4,a5⟩:=h10.own eo2
   have a1':=a1
   rw[k8]at a1'
   cases a1'
   by_cases hz:ys.length<sizeLine
   ·simp only[zT,Res.bnd_ok,if_pos hz]at p10
    refine wpAny_mono (mt_append (X:=X) _ s10 σ8 H10 (.ref _) [xx] (.ref _) [xu] (λ_ H11=>H11=upd H10 p (.lst (ws++[xx]))) I10 rfl (.cons r10 .nil) ⟨_,ws,xx,rfl,rfl,a2,by rw[a5.ln];exact hz,rfl⟩) (λ_ s11 ⟨_,H11,I11,_,e11⟩=>?_) hx
    subst e11
    exact⟨_,I11,p10 σ8 G10 _ sg10 (h10.setMut (Z0 eo2) rfl a1 a3 a4 (s':=.own (ys++[dd])) ⟨_,ws++[xx],rfl,upd_same,a3,a4,a5.app (zF.cons rd zF.nil)⟩ rfl)⟩
   ·exfalso
    simp only[zT,Res.bnd_ok,if_neg hz]at p10
    exact p10
inductive LoopI (X XB:Cx)(tn:Nat->Heap->Prop)(fp:List Addr) (len nt:Nat)(σ0:St)(G1 B2:Hp)(M:Nat->Rho->Res Fl)(Dn:Ends) (n:Nat)(s':Shared):Prop where
 |mk (i:Nat)(σ':St)(H':Hp)(ρ':Rho)(G':Hp)(I:Inv XB [] σ' H' s')(st:tn i s'.heap)(fr:∀ b ∈ fp,H' b=none)(e:n=len - i)(hi:i<=len)(k:∀ t,nt<=t->σ'[t]? = σ0[t]?)(sg:Same G1 G')(h:Hold X.K G1 B2 ρ' σ' G' H')(p:zo X.K E0 G1 B2 G' (M i ρ') Dn)
theorem xa {ifs:List Expr}{c:Option (M Bool)}{use:Option (Value->Sem Unit)}{QQ:Value->Shared->Prop}{pins:List (Addr×Obj)}{s:Shared}{σ:St}{H:Hp}{wi:TI}{cpos:Pos}{R0:Rho->Rho}{B:Hp->Hp}{bm:M Fl}(hcalm:X.calm=true)(Bs:BlkScope X scope cl nt N' idx)(hidx:∀ i ∈ idx,i<X.N.length)
  (hg:∀ C s H fp pn,MGk (ZR X scope cl N' C s H fp pn) tg gm nt)(hc:∀ C s H fp pn,MC (ZR X scope cl N' C s H fp pn) ifs c)(he:∀ C s H fp pn,ElR (ZR X scope cl N' C s H fp pn) elt bm (nt+idx.length))
  (hs:∀ x,foldedSetIterable iter X.env x=pure x)(I:Inv X pins σ H s)(pw:PI X tg iter wi)(G0 H0 G:Hp)(ρ:Rho)(hblk:∀ ρ1 G1 H2 p,Hold X.K G0 H0 ρ1 σ G1 H2->H2 p=none->Hold X.K G1 (B H2) (R0 ρ1) (Z5 nt idx σ p) G1 (upd H2 p (.lst [])))
  (hR:wi σ H (λJ H'=>∃ ds ρ1 G1,mi ρ=.ok ds ρ1/\Same G G1/\Hold X.K G0 H0 ρ1 σ G1 H'/\ItOk X.K J G1 ds))
  (some_:∀ ds ρ1,mi ρ=.ok ds ρ1->∃ ρ2,zj gm (yE c bm) ds (R0 ρ1)=.ok .nx ρ2)
  (fin:∀ ds ρ1 ρ2 σ7 G1 H2 G7 H5 p C s6,mi ρ=.ok ds ρ1->zj gm (yE c bm) ds (R0 ρ1)=.ok .nx ρ2->Same G G1->Hold X.K G0 H0 ρ1 σ G1 H2->Hold X.K G1 (B H2) ρ2 σ7 G7 H5->(∀ t,nt<=t->σ7[t]? = (Z5 nt idx σ p)[t]?)->H2 p=none ->
   Inv X pins σ H5 s6->(∃ m,s6.heap.Ns C m)->H5 C=none->C≠X.env.locals->X.s₀.heap.objs.size<=C->(∀ x cc,X.env.cells.lookup x=some cc->cc≠C)->(∀ q ∈ X.pn++pins,q.1≠C)->compPost (model X.prog X.w) X.A X.xe use QQ (.ref p) C (.ok .next) s6) :
  wpAny (model X.prog X.w) X.A (comprehension (.ListComp elt [⟨tg,iter,ifs,0⟩] scope pos) scope X.env cpos (newList []) false (eval iter X.env) use) QQ X.xe s:=by
 refine wpAny_comprehension_free rfl hs Bs.clos Bs.kind Bs.names ?_
 refine wpAny_mono (pw pins s σ H _ I hR) (λxv s1 h1=>wpAny_mono h1 (λitv s2 h2=>?_) λ_ _ e=>e) λ_ _ e=>e
 obtain⟨it,fp,tn,J,H2,rfl,I2,T,st2,f2,ds,ρ1,G1,emi,sg1,h1,io⟩:=h2
 obtain⟨ρF,hysF⟩:=some_ ds ρ1 emi
 refine wpAny_newObj_type ?_
 have I3:Inv X pins σ (upd H2 s2.heap.objs.size (.lst [])) { s2 with heap:=s2.heap.push { cls:=.type "list",data:=.seq ([]:List Value).toArray } }:=I2.lnew (t':=s2.toks) (its:=[]) (ys:=[]) .nil (Nat.zero_le _)
 have hp:H2 s2.heap.objs.size=none:=I2.fresh
 refine wpAny_newFunctionEnv Bs.nocell (by intro y hy;simp at hy) (λh₁ hns₁ hsb₁=>?_) Bs.kind
 dsimp only at hns₁ hsb₁ ⊢
 generalize hs3:({ s2 with heap:=s2.heap.push { cls:=.type "list",data:=.seq ([]:List Value).toArray } }:Shared)=s3 at I3
 have es3:s3.heap=s2.heap.push { cls:=.type "list",data:=.seq ([]:List Value).toArray }:=by rw[<-hs3]
 generalize hC:(s2.heap.push { cls:=.type "list",dict:=none,data:=.seq ([]:List Value).toArray }).objs.size=C at hns₁ hsb₁ ⊢
 have hC3:C=s3.heap.objs.size:=by rw[es3];exact hC.symm
 have hk:∀ b o,s3.heap.get? b=some o->h₁.get? b=some o:=λb o e=>by
  have hlt:=Heap.lt_size e
  exact hsb₁.extBut b o (by rw[hC3];exact Nat.ne_of_lt hlt) (Heap.get?_push_of_some _ (by rw[es3]at e;exact e))
 have f3:∀ b ∈ fp,FpOk X pins (upd H2 s2.heap.objs.size (.lst [])) b:=λb hb=>by
  obtain⟨g1,g2⟩:=f2 b hb
  refine⟨?_,g2⟩
  obtain⟨o,eo,_⟩:=T.obj _ _ st2 b hb
  rw[upd_ne (Nat.ne_of_lt (Heap.lt_size eo))]
  exact g1
 have st3:tn 0 s3.heap:=T.keep _ _ _ st2 λb hb o e=>by rw[es3];exact Heap.get?_push_of_some _ e
 have st4:tn 0 h₁:=T.keep _ _ _ st3 λb hb o e=>hk b o e
 have IB:=QY (p:=s2.heap.objs.size) (tk:=s3.toks+([]:List (Str×Value)).length) Bs I3 f3 (T.obj _ _ st3) (hC3 ▸ hns₁) hk
 rw[<-hC3]at IB
 have hB0:Hold X.K G1 (B H2) (R0 ρ1) (Z5 nt idx σ s2.heap.objs.size) G1 (upd H2 s2.heap.objs.size (.lst [])):=hblk ρ1 G1 H2 _ h1 hp
 -- the end of all turns
 let Dn:Ends:={ nx:=λσ' H'=>∃ ρ'' G'',Same G1 G''/\Hold X.K G1 (B H2) ρ'' σ' G'' H'/\zj gm (yE c bm) ds (R0 ρ1)=.ok .nx ρ'',rt:=λ_ _=>False }
 have hP0:zo X.K E0 G1 (B H2) G1 (zj gm (yE c bm) ds (R0 ρ1)) Dn:=by
  rw[hysF]
  exact λσ' G' H' s1 h1=>⟨ρF,G',s1,h1,hysF⟩
 have loop:∀ s4:Shared,s4={ s3 with heap:=h₁,toks:=s3.toks+([]:List (Str×Value)).length } ->
   codeAny (model X.prog X.w) X.A (.compLoop (.ListComp elt [⟨tg,iter,ifs,0⟩] scope pos) 0 (.ref it) (.ref s2.heap.objs.size) (compEnvC scope cl C X.env)) (compPost (model X.prog X.w) X.A X.xe use QQ (.ref s2.heap.objs.size) C) s4:=by
  rintro s4 rfl
  refine uY (λn s'=>LoopI X (ZR X scope cl N' C s3 (upd H2 s2.heap.objs.size (.lst [])) fp (X.pn++pins)) tn fp ds.length nt (Z5 nt idx σ s2.heap.objs.size) G1 (B H2) (λi=>zj gm (yE c bm) (ds.drop i)) Dn n s') ?_ ds.length
   ⟨0,_,_,_,G1,IB,st4,λb hb=>(f3 b hb).1,by simp,Nat.zero_le _,λ_ _=>rfl,Same.refl _,hB0,by simpa using hP0⟩
  rintro n s5 ⟨i,σ5,H5,ρ5,G5,I5,st5,fr5,rfl,hi5,k5,sg5,h5,p5⟩
  have stat:∀ {H':Hp},(∀ b ∈ fp,H' b=none)->∀ b ∈ fp,FpOk (ZR X scope cl N' C s3 (upd H2 s2.heap.objs.size (.lst [])) fp (X.pn++pins)) [] H' b:=fun {H'} hn b hb=>by
   obtain⟨g1,g2,g3,g4,g5,g6⟩:=f3 b hb
   obtain⟨o,eo,_⟩:=T.obj _ _ st3 b hb
   refine⟨hn b hb,by rw[show (ZR X scope cl N' C s3 (upd H2 s2.heap.objs.size (.lst [])) fp (X.pn++pins)).env.locals=C from rfl,hC3];exact Nat.ne_of_lt (Heap.lt_size eo),I5.ok.exfs b hb,.inl hb,λx cc e=>g5 x cc (Bs.sub x cc e),λq hq=>?_⟩
   have hq0:q ∈ (X.pn++pins)++[]:=hq
   rw[List.append_nil]at hq0
   exact g6 q hq0
  by_cases hlt:i<ds.length
  ·have hd:ds[i]? = some ds[i]:=List.getElem?_eq_getElem hlt
   obtain⟨go,yl⟩:=io.go G5 H5 i _ sg5 h5.e.s hd
   rw[List.drop_eq_getElem_cons hlt]at p5
   unfold zj at p5
   refine wpAny_mono (T.item (ZR X scope cl N' C s3 (upd H2 s2.heap.objs.size (.lst [])) fp (X.pn++pins)) rfl rfl rfl hcalm i [] s5 σ5 H5 _ I5 (stat fr5) st5 go) (λr s6 ⟨u,hr,h6⟩=>?_) λ_ _ e=>e
   subst hr
   refine wpAny_mono h6 (λ_ s7 ⟨x,H7,I7,r7,y7,st7,fr7⟩=>?_) λ_ _ e=>e
   obtain⟨G7,ex7,hs7,rv⟩:=yl x H7 y7
   replace sg5:=sg5.trans ex7.g
   replace h5:=h5.grow ex7 hs7
   replace p5:=zo.mono ex7.g p5
   have I7':=I7.pinned (stat fr7) (T.obj _ _ st7)
   obtain⟨g,pg,rg⟩:=hg C s3 (upd H2 s2.heap.objs.size (.lst [])) fp (X.pn++pins)
   -- behind an item: the next turn
   have again:∀ {σ9:St}{H9:Hp}{s9:Shared},Inv (ZR X scope cl N' C s3 (upd H2 s2.heap.objs.size (.lst [])) fp (X.pn++pins)) ([]++pinsAt fp s7.heap) σ9 H9 s9->(∀ t,nt<=t->σ9[t]? = (Z5 nt idx σ s2.heap.objs.size)[t]?) ->
     (∃ ρ9 G9,Same G1 G9/\Hold X.K G1 (B H2) ρ9 σ9 G9 H9/\zo X.K E0 G1 (B H2) G9 (zj gm (yE c bm) (ds.drop (i+1)) ρ9) Dn) ->
     ∃ m,m<ds.length - i/\LoopI X (ZR X scope cl N' C s3 (upd H2 s2.heap.objs.size (.lst [])) fp (X.pn++pins)) tn fp ds.length nt (Z5 nt idx σ s2.heap.objs.size) G1 (B H2) (λi=>zj gm (yE c bm) (ds.drop i)) Dn m s9:=fun {σ9 H9 s9} I9 k9 ⟨ρ9,G9,sg9,h9,p9⟩=>by
    refine⟨ds.length - (i+1),by omega,i+1,σ9,H9,ρ9,G9,I9.unpinned,T.keep _ _ _ st7 λb hb o e=>(I9.pin (b,o) (List.mem_append_right _ (List.mem_append_right _ (mem_pinsAt hb e)))).1,λb hb=>?_,rfl,hlt,k9,sg9,h9,p9⟩
    obtain⟨o,e,d⟩:=T.obj _ _ st7 b hb
    exact (I9.pin (b,o) (List.mem_append_right _ (List.mem_append_right _ (mem_pinsAt hb e)))).2.1
   cases q:gm ds[i] ρ5 with
   |none=>rw[q]at p5;exact p5.elim
   |some ρ6=>
    rw[q]at p5
    have p6:zo X.K E0 G1 (B H2) G7 ((yE c bm ρ6).bnd λf ρ=>Ym f ρ (zj gm (yE c bm) (ds.drop (i+1)))) Dn:=p5
    refine wpAny_mono (pg _ s7 σ5 H7 x u (λσ8 H8=>∃ G8,Same G7 G8/\Hold X.K G1 (B H2) ρ6 σ8 G8 H8/\(∀ t,nt<=t->σ8[t]? = σ5[t]?)) I7' r7 (rg G1 (B H2) ρ5 σ5 G7 H7 ds[i] x _ h5 rv ⟨ρ6,q,λσ' G' H' s h e=>⟨G',s,h,e⟩⟩)) (λ_ s8 ⟨σ8,H8,I8,G8,sg8,h8,k8⟩=>?_) (λ_ _ f=>f.elim)
    replace k8:∀ t,nt<=t->σ8[t]? = (Z5 nt idx σ s2.heap.objs.size)[t]?:=λt ht=>(k8 t ht).trans (k5 t ht)
    have k8a:σ8[nt+idx.length]? = some (some (.ref s2.heap.objs.size)):=(k8 _ (Nat.le_add_right _ _)).trans (by unfold Z5;rw[List.getElem?_append_right (by simp)];simp)
    -- the element
    have elem:∀ (ρ9:Rho)(G9 H9:Hp)(s9:Shared)(E':Value->Shared->Prop),Inv (ZR X scope cl N' C s3 (upd H2 s2.heap.objs.size (.lst [])) fp (X.pn++pins)) ([]++pinsAt fp s7.heap) σ8 H9 s9->Same G1 G9->Hold X.K G1 (B H2) ρ9 σ8 G9 H9 ->
      zo X.K E0 G1 (B H2) G9 ((bm ρ9).bnd λf ρ=>Ym f ρ (zj gm (yE c bm) (ds.drop (i+1)))) Dn ->
      wpAny (model X.prog X.w) X.A (eval elt (compEnvC scope cl C X.env)) (λxv s₄=>wpAny (model X.prog X.w) X.A (call (.builtin "list.append") [.ref s2.heap.objs.size,xv]) (λ_ s₅=>∃ m,m<ds.length - i/\LoopI X (ZR X scope cl N' C s3 (upd H2 s2.heap.objs.size (.lst [])) fp (X.pn++pins)) tn fp ds.length nt (Z5 nt idx σ s2.heap.objs.size) G1 (B H2) (λi=>zj gm (yE c bm) (ds.drop i)) Dn m s₅) E' s₄) E' s9:=λρ9 G9 H9 s9 E' I9 sg9 h9 p9=>by
     refine wpAny_mono (he C s3 (upd H2 s2.heap.objs.size (.lst [])) fp (X.pn++pins) _ s9 σ8 H9 G1 (B H2) G9 ρ9 _ { nx:=λσ' H'=>∃ ρ2 G2,bm ρ9=.ok .nx ρ2/\Same G9 G2/\Hold X.K G1 (B H2) ρ2 σ' G2 H',rt:=λ_ _=>False,bk:=λ_ _=>True,ct:=λ_ _=>True } E' I9 h9 k8a ?_ λ_ _ f=>f.elim)
      (λxv s4 h4=>wpAny_mono h4 (λ_ s5 ⟨H5,I5,ρ2,G2,eb,sg2,h2⟩=>again I5 k8 ⟨ρ2,G2,sg9.trans sg2,h2,by rw[eb]at p9;exact zo.mono sg2 p9⟩) λ_ _ e=>e) λ_ _ e=>e
     cases qb:bm ρ9 with
     |ok fl ρ2=>
      rw[qb]at p9
      cases fl with
      |nx=>exact λσ' G' H' s1 h1=>⟨ρ2,G',rfl,s1,h1⟩
      |ret d=>exact p9
      |brk=>exact λ_ _ _ _ _=>trivial
      |cont=>exact λ_ _ _ _ _=>trivial
     |exn cc ρ2=>rw[qb]at p9;exact p9
     |bad=>rw[qb]at p9;exact p9
    rcases hc C s3 (upd H2 s2.heap.objs.size (.lst [])) fp (X.pn++pins) with ⟨rfl,rfl⟩ | ⟨ce,cm,rfl,rfl,tc,pc,rc⟩
    ·refine wpAny_tests_nil ?_
     rw[if_pos rfl]
     exact elem ρ6 G8 H8 s8 _ I8 (sg5.trans sg8) h8 (zo.mono sg8 p6)
    ·refine wpAny_tests_one ?_
     have p6':zo X.K E0 G1 (B H2) G7 ((ifM cm bm nxM ρ6).bnd λf ρ=>Ym f ρ (zj gm (yE (some cm) bm) (ds.drop (i+1)))) Dn:=p6
     unfold ifM at p6'
     have step:=rc G1 (B H2) ρ6 σ8 G8 H8 h8 (λbb H10=>∃ ρ10 G10,cm ρ6=.ok bb ρ10/\Same G8 G10/\Hold X.K G1 (B H2) ρ10 σ8 G10 H10) (by
      cases qe:cm ρ6 with
      |ok dd ρ10=>exact λxx G' H' s1 h1 r1=>⟨ρ10,G',by rw[r1],s1,h1⟩
      |exn cc ρ10=>rw[qe]at p6';exact λG' H' s1 h1=>p6' σ8 G' H' (sg8.trans s1) h1
      |bad=>rw[qe]at p6';exact p6')
     refine wpAny_mono (pc _ s8 σ8 H8 _ I8 step) (λbb s10 ⟨H10,I10,ρ10,G10,qe,sg10,h10⟩=>?_) (λ_ _ f=>f.elim)
     rw[qe]at p6'
     cases bb with
     |true=>
      rw[if_pos rfl]
      exact elem ρ10 G10 H10 s10 _ I10 (sg5.trans (sg8.trans sg10)) h10 (zo.mono (sg8.trans sg10) p6')
     |false=>
      rw[if_neg (by simp)]
      exact again I10 k8 ⟨ρ10,G10,sg5.trans (sg8.trans sg10),h10,zo.mono (sg8.trans sg10) p6'⟩
  ·have ei:i=ds.length:=by omega
   subst ei
   refine wpAny_mono (T.done (ZR X scope cl N' C s3 (upd H2 s2.heap.objs.size (.lst [])) fp (X.pn++pins)) rfl rfl rfl hcalm ds.length [] s5 σ5 H5 _ I5 (stat fr5) st5 (io.stop G5 H5 sg5 h5.e.s)) (λr s6 ⟨hr,I6⟩=>?_) λ_ _ e=>e
   subst hr
   obtain⟨m6,hn6,_⟩:=I6.loc
   rw[List.drop_length]at p5
   obtain⟨ρ7,G7,sg7,h7,e7⟩:=p5 σ5 G5 H5 (Same.refl _) h5
   have IX:=ka (h'':=s6.heap) I3 f3 I6 (by rw[hC3];exact Nat.le_refl _) (Heap.SameBut.refl _ _) I6.hok
   have cst:X.s₀.heap.objs.size<=C:=by rw[hC3];exact I3.sz
   refine fin ds ρ1 ρ7 σ5 G1 H2 G7 H5 _ C s6 emi e7 sg1 h1 h7 k5 hp IX ⟨m6,hn6⟩ I6.free ?_ cst (λx cc e z=>?_) (λq hq z=>?_)
   ·rw[hC3];exact Nat.ne_of_gt I3.lt
   ·obtain⟨v,hv⟩:=I3.cell x cc e
    have:=hv.lt
    rw[z,hC3]at this
    exact Nat.lt_irrefl _ this
   ·have:=Heap.lt_size (I3.pin q hq).1
    rw[z,hC3]at this
    exact Nat.lt_irrefl _ this
 exact codeAny_compStart_list (loop _ (by rw[<-hs3])) (T.self _ 0 _ _ _ st4 (loop _ (by rw[<-hs3])))
theorem WD {nt:Nat}{idx:List Nat}{σ σ7:St}{p:Addr}(k7:∀ t,nt<=t->σ7[t]? = (Z5 nt idx σ p)[t]?):σ7[nt+idx.length]? = some (some (.ref p)):=
 (k7 _ (Nat.le_add_right _ _)).trans (by unfold Z5;rw[List.getElem?_append_right (by simp)];simp)
theorem W1 {ifs:List Expr}{c:Option (M Bool)}{use:Option (Value->Sem Unit)}{QQ:Value->Shared->Prop}{pins:List (Addr×Obj)}{s:Shared}{σ:St}{H:Hp}{wi:TI}{cpos:Pos}(hcalm:X.calm=true)(B:BlkScope X scope cl nt N' idx)(hidx:∀ i ∈ idx,i<X.N.length)
  (hg:∀ C s H fp pn,MGk (ZR X scope cl N' C s H fp pn) tg gm nt)(hc:∀ C s H fp pn,MC (ZR X scope cl N' C s H fp pn) ifs c)(he:∀ C s H fp pn,ME (ZR X scope cl N' C s H fp pn) E0 elt me)
  (hs:∀ x,foldedSetIterable iter X.env x=pure x)(I:Inv X pins σ H s)(pw:PI X tg iter wi)(G0 H0 G:Hp)(ρ:Rho)
  (hR:wi σ H (λJ H'=>∃ ds ρ1 G1,mi ρ=.ok ds ρ1/\Same G G1/\Hold X.K G0 H0 ρ1 σ G1 H'/\ItOk X.K J G1 ds))
  (some_:∀ ds ρ1,mi ρ=.ok ds ρ1->∃ ys,xN (nt+idx.length) (zj gm (yA (nt+idx.length) c me) ds (yh nt idx ρ1))=some ys)
  (fin:∀ ds ρ1 ys G1 H2 G7 H5 ws p C s6,mi ρ=.ok ds ρ1->xN (nt+idx.length) (zj gm (yA (nt+idx.length) c me) ds (yh nt idx ρ1))=some ys->Same G G1->Hold X.K G0 H0 ρ1 σ G1 H2->Ext G1 H2 G7 H5->Same H2 H5->H5 p=some (.lst ws)->G7 p=none->H2 p=none->zF X.K G7 ys ws ->
   Inv X pins σ H5 s6->(∃ m,s6.heap.Ns C m)->H5 C=none->C≠X.env.locals->X.s₀.heap.objs.size<=C->(∀ x cc,X.env.cells.lookup x=some cc->cc≠C)->(∀ q ∈ X.pn++pins,q.1≠C)->compPost (model X.prog X.w) X.A X.xe use QQ (.ref p) C (.ok .next) s6) :
  wpAny (model X.prog X.w) X.A (comprehension (.ListComp elt [⟨tg,iter,ifs,0⟩] scope pos) scope X.env cpos (newList []) false (eval iter X.env) use) QQ X.xe s:=by
 have hb:yA (nt+idx.length) c me=yE c (Zx (nt+idx.length) me):=jw _ _ _
 have hr:∀ ρ1,yh nt idx ρ1=ZO (.own []) nt idx ρ1:=λ_=>rfl
 simp only[hb,hr]at some_ fin
 refine xa (mi:=mi) (R0:=ZO (.own []) nt idx) (B:=λH=>H) hcalm B hidx hg hc (λC s H fp pn=>zAD (he C s H fp pn)) hs I pw G0 H0 G ρ (λρ1 G1 H2 p h hp=>Xl (.inl rfl) h hp λi hi=>by rw[I.len];exact hidx i hi) hR (λds ρ1 emi=>?_) λds ρ1 ρ2 σ7 G1 H2 G7 H5 p C s6 emi e2 sg1 h1 h7 k7 hp=>?_
 ·obtain⟨ys,hy⟩:=some_ ds ρ1 emi
  cases q:zj gm (yE c (Zx (nt+idx.length) me)) ds (ZO (.own []) nt idx ρ1) with
  |ok fl ρ''=>
   cases fl with
   |nx=>exact⟨ρ'',rfl⟩
   |ret d=>rw[q]at hy;cases hy
   |brk=>rw[q]at hy;cases hy
   |cont=>rw[q]at hy;cases hy
  |exn cc ρ''=>rw[q]at hy;cases hy
  |bad=>rw[q]at hy;cases hy
 ·obtain⟨ys,hy⟩:=some_ ds ρ1 emi
  have eo:zl ρ2[nt+idx.length]? = some ys:=by rw[e2]at hy;exact hy
  obtain⟨a,ws,a1,a2,a3,a4,a5⟩:=h7.own eo
  rw[WD k7]at a1
  cases a1
  exact fin ds ρ1 ys G1 H2 G7 H5 ws p C s6 emi hy sg1 h1 h7.e h7.b a2 a3 hp a5
theorem Xg {ifs:List Expr}{c:Option (M Bool)}(hcalm:X.calm=true)(B:BlkScope X scope cl nt N' idx)(hi:MI X E tg iter mi)(hidx:∀ i ∈ idx,i<X.N.length)
  (hg:∀ C s H fp pn,MGk (ZR X scope cl N' C s H fp pn) tg gm nt)(hc:∀ C s H fp pn,MC (ZR X scope cl N' C s H fp pn) ifs c)(he:∀ C s H fp pn,ME (ZR X scope cl N' C s H fp pn) E0 elt me)
  (hs:∀ x,foldedSetIterable iter X.env x=pure x:=by intro _;rfl):ME X E (.ListComp elt [⟨tg,iter,ifs,0⟩] scope pos) (yS mi nt idx gm c me):=by
 refine⟨λσ H Q=>∃ G0 H0 ρ G,Hold X.K G0 H0 ρ σ G H/\Vo X.K E (λG d v=>Rep X.K G d v) G0 H0 σ G (yS mi nt idx gm c me ρ) Q,?_,λG0 H0 ρ σ G H ho Q hQ=>⟨G0,H0,ρ,G,ho,hQ⟩⟩
 intro pins s σ H Q I h
 obtain⟨G0,H0,ρ,G,ho,hQ⟩:=h
 obtain⟨wi,pw,ri⟩:=hi
 rw[eval_ListComp]
 unfold yS at hQ
 have hR:=ri G0 H0 ρ σ G H (λJ H'=>∃ ds ρ1 G1,mi ρ=.ok ds ρ1/\Same G G1/\Hold X.K G0 H0 ρ1 σ G1 H'/\ItOk X.K J G1 ds) ho (by
  cases q:mi ρ with
  |ok ds ρ1=>exact λJ G' H' sg h1 io=>⟨ds,ρ1,G',rfl,sg,h1,io⟩
  |exn cc ρ1=>rw[q]at hQ;exact hQ
  |bad=>rw[q]at hQ;exact hQ)
 refine W1 (mi:=mi) hcalm B hidx hg hc he hs I pw G0 H0 G ρ hR (λds ρ1 emi=>?_) λds ρ1 ys G1 H2 G7 H5 ws p C s6 emi eys sg1 h1 ex sh hp g7 h2 rl IX ⟨m,hn⟩ c1 c2 c3 c4 c5=>?_
 ·rw[emi]at hQ
  simp only[Res.bnd_ok]at hQ
  cases q:xN (nt+idx.length) (zj gm (yA (nt+idx.length) c me) ds (yh nt idx ρ1)) with
  |none=>rw[q]at hQ;exact hQ.elim
  |some ys=>exact⟨ys,rfl⟩
 ·rw[emi]at hQ
  simp only[Res.bnd_ok,eys,zT]at hQ
  refine⟨m,hn,λh' hs'=>?_⟩
  have IY:Inv X pins σ H5 { s6 with heap:=h' }:=IX.turned (it:=C) (t':=s6.toks) (λb o n e=>(hs'.2 b n).trans e) c1 c2 (.inr c3) c4 c5
  have gg:Ext G1 H2 (upd G7 p (.lst ws)) H5:=by
   refine⟨ex.g.trans (Same.upd g7),λb u q=>?_,λb hb q=>?_,ex.t⟩
   ·by_cases z:b=p
    ·subst z;rw[upd_same]at q;rw[hp];exact q
    ·rw[upd_ne z]at q;exact ex.s _ _ q
   ·rw[upd_ne (λz=>hb.1 (by rw[z];exact h2))];exact ex.n b hb q
  exact⟨.ref p,H5,IY,rfl,hQ _ _ H5 (sg1.trans gg.g) (h1.grow gg sh) (zQ.mpr ⟨p,ws,rfl,SqL.of upd_same,rl.mono (Same.upd g7)⟩)⟩
theorem Hold.setOwnAt {K:PySem.W.Frag}{G0 H0:Hp}{ρ:Rho}{σ:St}{G H G7 H5:Hp}{i:Nat}{p:Addr}{ys:List D}{ws:List V}(h:Hold K G0 H0 ρ σ G H)(ex:Ext G H G7 H5)(sh:Same H H5)(hp:H5 p=some (.lst ws))(g7:G7 p=none)(h2:H p=none)(rl:zF K G7 ys ws) :
  Hold K G0 H0 (ρ.set i (.own ys)) (σ.set i (some (.ref p))) G7 H5:=by
 have hh:=h.grow ex sh
 refine hh.put (λ_ _ q=>q) hh.e hh.b (Same.refl _) (λj t c _ e f=>⟨rfl,((hh.sl j t e).foot_in f).2.1⟩) (λj n=>List.getElem?_set_ne (Ne.symm n)) (by rw[List.length_set]) (λhl=>?_) λc f j t n e f'=>?_
 ·rw[ZV (by rw[<-h.len];exact hl)]
  exact⟨p,ws,rfl,hp,g7,h.b.free h2,rl⟩
 ·have f:(σ.set i (some (.ref p)))[i]? = some (some (.ref c)):=f
  by_cases hl:i<σ.length
  ·rw[ZV hl]at f
   cases f
   refine h.mutAt e (yI (H:=H) (H':=H5) (h.sl j t e) (λ_ _ q=>sh _ _ q) (λb fb=>?_) f') h2
   have:=h.mutAt e fb
   cases q:H b with
   |none=>exact absurd q this
   |some o=>exact sh _ _ q
  ·rw[List.getElem?_eq_none (by rw[List.length_set];omega)]at f
   cases f
theorem w6 (own:Bool) (i:Nat){x:Str}{ifs:List Expr}{c:Option (M Bool)}{p2 spos:Pos}(hN:X.N.Nodup)(hcalm:X.calm=true)(B:BlkScope X scope cl nt N' idx)(hi:MI X E tg iter mi)(hidx:∀ i ∈ idx,i<X.N.length)
  (hg:∀ C s H fp pn,MGk (ZR X scope cl N' C s H fp pn) tg gm nt)(hc:∀ C s H fp pn,MC (ZR X scope cl N' C s H fp pn) ifs c)(he:∀ C s H fp pn,ME (ZR X scope cl N' C s H fp pn) E0 elt me)
  (hx:autoParam (X.N[i]? = some x) aR._auto_1)(hl:autoParam (X.env.scope.names.lookup x=some .local) aR._auto_1)
  (hsw:autoParam (swapsWith (.ListComp elt [⟨tg,iter,ifs,0⟩] scope pos) (some (.Name x p2)) spos.line X.env=pure true) aR._auto_1)
  (hs:∀ x,foldedSetIterable iter X.env x=pure x:=by intro _;rfl):MS X E (.Assign [.Name x p2] (.ListComp elt [⟨tg,iter,ifs,0⟩] scope pos) spos) (ZP own i mi nt idx gm c me):=by
 refine⟨λD σ H=>∃ G0 H0 ρ G,Hold X.K G0 H0 ρ σ G H/\zo X.K E G0 H0 G (ZP own i mi nt idx gm c me ρ) D,?_,λG0 H0 ρ σ G H ho Q hQ=>⟨G0,H0,ρ,G,ho,hQ⟩⟩
 intro pins s σ H D I h
 obtain⟨G0,H0,ρ,G,ho,hD⟩:=h
 obtain⟨wi,pw,ri⟩:=hi
 unfold ZP at hD
 rw[exec_Assign_Name_used _ _ _ _ hsw]
 refine wpAny_bind (wpAny_standAt (wpAny_bind ?_))
 show wpAny _ X.A (do let _ <-comprehension (.ListComp elt [⟨tg,iter,ifs,0⟩] scope pos) scope X.env _ (newList []) false (eval iter X.env) (some (assign (.Name x p2) X.env))) _ _ s
 have hR:=ri G0 H0 ρ σ G H (λJ H'=>∃ ds ρ1 G1,mi ρ=.ok ds ρ1/\Same G G1/\Hold X.K G0 H0 ρ1 σ G1 H'/\ItOk X.K J G1 ds) ho (by
  cases q:mi ρ with
  |ok ds ρ1=>exact λJ G' H' sg h1 io=>⟨ds,ρ1,G',rfl,sg,h1,io⟩
  |exn cc ρ1=>rw[q]at hD;exact λG' H' sg h1=>hD σ G' H' sg h1
  |bad=>rw[q]at hD;exact hD)
 refine wpAny_bind (wpAny_mono (W1 (mi:=mi) (QQ:=λ_ s'=>SP X pins D .next s') hcalm B hidx hg hc he hs I pw G0 H0 G ρ hR (λds ρ1 emi=>?_) λds ρ1 ys G1 H2 G7 H5 ws p C s6 emi eys sg1 h1 ex sh hp g7 h2 rl IX ⟨m,hn⟩ c1 c2 c3 c4 c5=>?_) (λ_ s' hq=>wpAny_pure (wpAny_pure hq)) λ_ _ e=>e)
 ·rw[emi]at hD
  simp only[Res.bnd_ok]at hD
  cases q:xN (nt+idx.length) (zj gm (yA (nt+idx.length) c me) ds (yh nt idx ρ1)) with
  |none=>rw[q]at hD;exact hD.elim
  |some ys=>exact⟨ys,rfl⟩
 ·rw[emi]at hD
  simp only[Res.bnd_ok,eys,zT]at hD
  show wpAny (model X.prog X.w) X.A (assign (.Name x p2) X.env (.ref p)) _ _ s6
  refine wpAny_assign_Name (store_ok2 IX hN hx (.inl hl) (v:=.ref p) rfl (λs7 I7 ⟨a,hsb,ha⟩=>?_) (.inr hl))
  have hCa:C≠a:=by
   rintro rfl
   rcases ha with z | z
   ·exact c2 z
   ·exact c4 x C z rfl
  refine⟨m,hn.sameBut hsb hCa,λh' hs'=>?_⟩
  have IY:Inv X pins (σ.set i (some (.ref p))) H5 { s7 with heap:=h' }:=I7.turned (it:=C) (t':=s7.toks) (λb o n e=>(hs'.2 b n).trans e) c1 c2 (.inr c3) c4 c5
  refine⟨_,H5,IY,?_⟩
  cases own with
  |true=>exact hD _ G7 H5 (sg1.trans ex.g) (Hold.setOwnAt h1 ex sh hp g7 h2 rl)
  |false=>
   have gg:Ext G1 H2 (upd G7 p (.lst ws)) H5:=by
    refine⟨ex.g.trans (Same.upd g7),λb u q=>?_,λb hb q=>?_,ex.t⟩
    ·by_cases z:b=p
     ·subst z;rw[upd_same]at q;rw[hp];exact q
     ·rw[upd_ne z]at q;exact ex.s _ _ q
    ·rw[upd_ne (λz=>hb.1 (by rw[z];exact h2))];exact ex.n b hb q
   exact hD _ _ H5 (sg1.trans gg.g) ((h1.grow gg sh).setFz (zQ.mpr ⟨p,ws,rfl,SqL.of upd_same,rl.mono (Same.upd g7)⟩))
end
end PM
namespace PM
open PySem PySem.Spec PyProof.Rows L2
section
variable {prog:Program}{w:World}{A:Around}{E:Value->Shared->Prop}{s:Shared}
open HT in
theorem xj {t sl:Addr}{items:Array Value}{vl vu:Value}{lo hi:Option Int}{Q:Value->Shared->Prop}(ht:IsTup s.heap t items)(hs:s.heap.IsSliceOf sl vl vu .none)(pl:IsPart vl lo)(pu:IsPart vu hi)
  (hw:sIx items.size 0 lo=0/\sIx items.size items.size hi=items.size)
  (h:Q (.ref t) s):wpAny (model prog w) A (getItem (.ref t) (.ref sl)) Q E s:=by
 obtain⟨os,hos,hcs,hds⟩:=id hs
 have hTs:s.TypeIs (.ref sl) "slice":=⟨os,hos,hcs⟩
 unfold getItem
 try with_reducible refine wpAny_holding ?_
 first | refine wpAny_bind (wpAny_pure ?_) | skip
 refine wpAny_bind (wpAny_sequenceKey ht.typeIs (by decide) ?_)
 refine wpAny_bind (wpAny_callSpecial?_slot (name:=Str.ofString "__getitem__") ht.typeIs PyProof.Rows.slot_tuple_getitem
  (wpAny_call_entry PyProof.Rows.slot_tuple_getitem ht.typeIs entry_tuple_getitem ?_ (args_tuple_getitem _ _)))
 show wpAny _ _ (Builtin.Tuple.tupleItemsOf (.ref t) >>= _) _ _ s
 refine wpAny_bind (tupleItemsOf_ ht ?_)
 refine wpAny_bind (wpAny_typeOf hTs ?_)
 rw[if_pos (by decide)]
 refine wpAny_bind (sliceApplied_gen hs pl pu ?_)
 have hyes:(((sIx items.size 0 lo:Nat):Int) == 0 && (1:Int) == 1 && (sIx items.size items.size hi - sIx items.size 0 lo) == items.size)=true:=by
  rw[hw.1,hw.2]
  simp
 show wpAny _ _ (if (((sIx items.size 0 lo:Nat):Int) == 0 && (1:Int) == 1 && (sIx items.size items.size hi - sIx items.size 0 lo) == items.size)=true then _ else _) _ _ s
 rw[if_pos hyes]
 have hex:Builtin.Tuple.tupleIsExact (.ref t)=(do return (<-typeOf (.ref t)) == .type "tuple"):=rfl
 rw[hex]
 refine wpAny_bind (wpAny_bind (wpAny_typeOf ht.typeIs (wpAny_pure ?_)))
 rw[if_pos (by decide)]
 refine wpAny_bind (wpAny_rule ?_)
 exact wpAny_pure ⟨_,rfl,wpAny_pure h⟩
end
section
variable {X:Cx}{K:PySem.W.Frag}{E:XK}
noncomputable def zAX (K:PySem.W.Frag):V->Option Int->Option Int->Hp->VK->Prop:=λx lo hi H Q=>∃ a xs,x=.ref a/\SqT K H a xs ∧
 (HT.sIx xs.length 0 lo=0/\HT.sIx xs.length xs.length hi=xs.length->Q (.ref a) H) ∧
 (¬ (HT.sIx xs.length 0 lo=0/\HT.sIx xs.length xs.length hi=xs.length)->∀ p,H p=none->Q (.ref p) (upd H p (.tup (cutV xs lo hi))))
theorem JP:SlR X (zAX X.K):=by
 intro pins s σ H x v vl vu lo hi sl Q I rx hs pl pu h
 obtain⟨a,xs,rfl,hx,q1,q2⟩:=h
 by_cases hw:HT.sIx xs.length 0 lo=0/\HT.sIx xs.length xs.length hi=xs.length
 ·cases rx
  obtain⟨its,r,ht,hz⟩:=I.tuple hx
  have hlen:its.toArray.size=xs.length:=by rw[List.size_toArray];exact r.length.symm
  refine⟨"tuple",_,PyProof.Rows.slot_tuple_getitem.lookup,ht.typeIs,?_⟩
  exact xj ht hs pl pu (by rw[hlen];exact hw) ⟨.ref a,H,I,rfl,q1 hw⟩
 ·exact sl_tup pins s σ H _ v vl vu lo hi sl Q I rx hs pl pu ⟨a,xs,rfl,hx,hw,q2 hw⟩
theorem Xq (n d:Nat)(o:Option Int):uW n d o=HT.sIx n d o:=rfl
theorem V0 {G:Hp}{ds:List D}{vs:List V}(r:zF K G ds vs)(lo hi:Option Int):zF K G (cut ds lo hi) (cutV vs lo hi):=by
 unfold cut cutV
 rw[Xq,Xq,r.len]
 exact (r.drop _).take _
noncomputable def Jj (K:PySem.W.Frag):V->Option Int->Option Int->Hp->VK->Prop:=λx lo hi H Q=>rSlL K x lo hi H Q\/zAX K x lo hi H Q
theorem slm {G H:Hp}{x:V}{dx d:D}{lo hi:Option Int}{Q:VK}(s:Same G H)(rx:Rep K G dx x)(e:slD dx lo hi=some d)(q:∀ v G' H',Ext G H G' H'->Same H H'->Rep K G' d v->Q v H'):Jj K x lo hi H Q:=by
 cases dx<;>first | (cases e;done) | skip
 ·cases e
  obtain⟨a,vs,rfl,hq,rl⟩:=zh.mp rx
  refine .inr ⟨a,vs,rfl,SqT.same s hq,λhw=>?_,λ_ p hp=>?_⟩
  ·rename_i ds
   have ec:cut ds lo hi=ds:=by
    unfold cut
    rw[Xq,Xq,rl.len,hw.1,hw.2,List.drop_zero,Nat.sub_zero,<-rl.len,List.take_length]
   rw[ec]at q
   exact q _ G H (Ext.refl s) (Same.refl _) (zh.mpr ⟨a,vs,rfl,hq,rl⟩)
  ·have x:=Ext.new (o:=.tup (cutV vs lo hi)) s hp
   exact q _ _ _ x (Same.upd hp) (zh.mpr ⟨p,_,rfl,upd_same,(V0 rl lo hi).mono x.g⟩)
 ·cases e
  obtain⟨a,vs,rfl,hq,rl⟩:=zQ.mp rx
  refine .inl ⟨a,vs,rfl,s.seq hq,λp hp=>?_⟩
  have x:=Ext.new (o:=.lst (cutV vs lo hi)) s hp
  exact q _ _ _ x (Same.upd hp) (zQ.mpr ⟨p,_,rfl,SqL.of upd_same,(V0 rl lo hi).mono x.g⟩)
noncomputable def RO (K:PySem.W.Frag)(E:XK)(t:TO)(m:M (Option Int)):Prop:=RA K E (λ_ a b=>b=a) t m
noncomputable def MO (X:Cx)(E:XK)(e:Option Expr)(p:Option (M D)):Prop:=∃ t,PO X e t/\RO X.K E t (XV p)
theorem kA:MO X E none none:=⟨_,po_none,λG0 H0 ρ σ G H ho=>RAt.done ho rfl⟩
theorem J4 {e:Expr}{m:M D}(h:ME X E e m):MO X E (some e) (some m):=by
 obtain⟨t,p,r⟩:=h
 refine⟨_,po_some p,?_⟩
 intro G0 H0 ρ σ G H ho
 refine RAt.bind (t2:=λx σ H1 Q=>∃ i,x=V.int i/\Q (some i) H1) (r G0 H0 ρ σ G H ho) λd ρ1 v G1 H1 s1 h1 r1=>?_
 refine RAt.opt λi e=>?_
 intro Q hQ
 cases d<;>first | (cases e;done) | skip
 cases e
 exact⟨_,zJ.mp r1,hQ _ G1 H1 (Same.refl _) h1 rfl⟩
theorem jS {e:Expr}{lo hi:Option Expr}{m:M D}{ml mh:Option (M D)}{p2 pos:Pos}(h:ME X E e m)(hl:MO X E lo ml)(hh:MO X E hi mh):ME X E (.Subscript e (.Slice lo hi none p2) pos) (Xu m ml mh):=by
 obtain⟨t,p,r⟩:=h
 obtain⟨tl,pl,rl⟩:=hl
 obtain⟨th,ph,rh⟩:=hh
 refine⟨_,pe_slice (sl_list.or JP) p pl ph,?_⟩
 intro G0 H0 ρ σ G H ho
 refine RAt.bind (t2:=λx σ H1 Q=>tl σ H1 λl H2=>th σ H2 λu H3=>Jj X.K x l u H3 Q) (r G0 H0 ρ σ G H ho) λd ρ1 v G1 H1 s1 h1 r1=>?_
 refine RAt.bind (t2:=λl σ H2 Q=>th σ H2 λu H3=>Jj X.K v l u H3 Q) (rl G0 H0 ρ1 σ G1 H1 h1) λl ρ2 l' G2 H2 s2 h2 r2=>?_
 refine RAt.bind (t2:=λu σ H3 Q=>Jj X.K v l' u H3 Q) (rh G0 H0 ρ2 σ G2 H2 h2) λu ρ3 u' G3 H3 s3 h3 r3=>?_
 subst r2
 subst r3
 refine RAt.opt1 λdd ed=>?_
 intro Q hQ
 exact slm h3.e.s (r1.mono (s2.trans s3)) ed λw G' H' x hs rw'=>hQ w G' H' x.g (h3.grow x hs) rw'
end
end PM
namespace PM
open PySem PySem.Spec PyProof.Rows L2 Builtin.Getset_descriptor
section
variable {prog:Program}{w:World}{A:Around}{E:Value->Shared->Prop}{h:Heap}{g:Array GenState}{d:Drawn}{t:Nat}{os:OsState}{a C:Addr}{o:Obj}{K:PySem.W.Frag}
structure ExcCls (K:PySem.W.Frag)(C:Addr):Prop where
 ga:PySem.W.findIn K (.ref C) "__getattribute__" = some (some (.builtin "BaseException.__getattribute__"))
 no:PySem.W.findIn K (.ref C) "__getattr__" = some none
 cl:PySem.W.findIn K (.ref C) "__class__" = some (some (.builtin "object.__class__"))
 ob:PySem.W.mroIn K C (.type "object")=some true
 be:PySem.W.mroIn K C (.type "BaseException")=some true
theorem UN {M:Model}(hx:h.get? a=some o)(hc:o.cls=.ref C):PySem.W.Looks M h (typeOf (.ref a)) (.ref C):=hc ▸ (PySem.W.Looks.ld hx).andThen .now
theorem vT {R:Result->Shared->Prop}{tp:Value}(X:K.In h)(Z:ExcCls K C)(hx:h.get? a=some o)(hc:o.cls=.ref C)(hq:R (.ok (.ret (.ref C))) ⟨h,g,d,t,os⟩) :
  codeAny (model prog w) A (.call (.builtin "getset_descriptor.__get__") ⟨[.builtin "object.__class__",.ref a,tp],[]⟩) R ⟨h,g,d,t,os⟩:=by
 have L0:=UN (M:=model prog w) hx hc
 have L1:=PySem.W.looks_mroIn (M:=model prog w) X Z.ob
 refine codeAny_call_builtin PySem.W.KF.slot_gs.plain PySem.W.KF.entry_gs (PySem.W.KF.slot_gs.check _ _ _ _ _ _ _ _ PySem.W.KF.type_class (PySem.W.KF.args_gs _ _ _) ?_)
 unfold Builtin.«getset_descriptor.__get__» descrGet
 rw[PySem.W.dga_obj]
 refine wpAny_bind (wpAny_pure ?_)
 unfold descrGetter descrCheckInstance descrNameAndClass isInstance
 simp only[PySem.W.KF.owner_class]
 repeat lk
 refine⟨Code.quiet_builtin _ (by decide +kernel),codeAny_builtin PySem.W.KF.entry_class ?_⟩
 unfold Builtin.«object.__class__» shownTypeOf
 repeat lk
 exact hq
theorem QM {M:Model}{nameV:Value}{Q:Unit->Shared->Prop}(X:K.In h)(Z:ExcCls K C)(hx:h.get? a=some o)(hc:o.cls=.ref C)(hq:Q () ⟨h,g,d,t,os⟩):wpAny M A (checkBuiltinCall "BaseException.__getattribute__" ⟨[.ref a,nameV],[]⟩) Q E ⟨h,g,d,t,os⟩:=by
 have hk:builtinKind "BaseException.__getattribute__" = some .slot:=by decide +kernel
 have hsplit:splitId "BaseException.__getattribute__" = some ("BaseException","__getattribute__"):=by decide +kernel
 have L0:=UN (M:=M) hx hc
 have L1:=PySem.W.looks_mroIn (M:=M) X Z.be
 have ha:=F.args_bexc_ga (.ref a) nameV
 simp only[checkBuiltinCall,hk,hsplit]
 refine wpAny_bind ?_
 unfold isInstance
 refine wpAny_bind (L0.at (L1.at ?_))
 repeat (first | assumption | wp_step)
theorem QL {tk:Tok}{Q:Fin->Shared->Prop}(X:K.In h)(Z:ExcCls K C)(hx:h.get? a=some o)(hc:o.cls=.ref C)(hq:Q (.done (.ret (.ref C))) ⟨h,g,d,t,os⟩) :
  wpAny (model prog w) A (Builtin.«object.__getattribute__» ⟨[.ref a,.str "__class__" tk],[]⟩) Q E ⟨h,g,d,t,os⟩:=by
 have hT5:(⟨h,g,d,t,os⟩ : Shared).TypeIs (.builtin "object.__class__") "getset_descriptor":=F.typeOf_object_class
 have f5:=F.typeOf_object_class
 have f6:=F.slot_gs_get.lookup
 have f7:=F.slot_gs_set.lookup
 have L1:=PySem.W.looks_findIn (M:=model prog w) X Z.cl
 repeat (any_goals (first | assumption | (with_reducible refine wpAny_loadPart_at hx ?_;rw[hc]) | with_reducible refine L1.at ?_ | wp_step))
 refine vT X Z hx hc ?_
 repeat (any_goals (first | assumption | wp_step))
theorem zAA {tk:Tok}{fill expr:Bool}{Q:Value->Shared->Prop}(X:K.In h)(Z:ExcCls K C)(hx:h.get? a=some o)(hc:o.cls=.ref C)(hq:Q (.ref C) ⟨h,g,d,t,os⟩) :
  wpAny (model prog w) A (getAttrBy (.ref a) (.str "__class__" tk) fill expr) Q E ⟨h,g,d,t,os⟩:=by
 have f3:=F.excAttr_ValueError.ga.bind (.ref a)
 have hx0:(expr && onTheHeap (Value.builtin "BaseException.__getattribute__"))=false:=by cases expr<;>rfl
 have hx2:(Value.builtin "BaseException.__getattribute__" == Value.builtin "object.__getattribute__")=false:=by decide +kernel
 have hx1:(onTheHeap (Value.ref C) && Value.builtin "BaseException.__getattribute__" == Value.builtin "object.__getattribute__")=false:=by rw[hx2];rfl
 have L1:=PySem.W.looks_findIn (M:=model prog w) X Z.ga
 have L2:=PySem.W.looks_findIn (M:=model prog w) X Z.no
 repeat (any_goals (first | assumption | (with_reducible refine wpAny_loadPart_at hx ?_;rw[hc]) | with_reducible refine L1.at ?_ | with_reducible refine L2.at ?_ | wp_step))
 refine codeAny_call_builtin F.excAttr_ValueError.ga.plain F.entry_bexc_ga (QM X Z hx hc (QL X Z hx hc ?_))
 repeat (any_goals (first | assumption | wp_step))
theorem jt {Q:Option Value->Shared->Prop}(X:K.In h)(Z:ExcCls K C)(hx:h.get? a=some o)(hc:o.cls=.ref C)(hq:Q (some (.ref C)) ⟨h,g,d,t+1,os⟩):wpAny (model prog w) A (getAttr? (.ref a) "__class__") Q E ⟨h,g,d,t,os⟩:=by
 unfold getAttr? getAttrBy?
 repeat (any_goals (first | assumption | with_reducible apply zAA X Z hx hc | wp_step))
end
end PM
namespace PM
open PySem PySem.Spec PyProof.Rows L2
section
variable {X:Cx}{K:PySem.W.Frag}{E:XK}
theorem jZ {a C:Addr}(hcl:(PySem.W.clsIn K C).isSome=true)(Z:ExcCls K C):PySem.W.KitX K (.ref a) (.ref C) (λh=>∃ o vs,h.get? a=some o/\o.cls=.ref C/\o.data=.fields vs) where
 ty:=λM h _ p=>by
  obtain⟨o,vs,h1,h2,_⟩:=p
  exact UN h1 h2
 it:=λM h Y p=>by
  obtain⟨cd,hc⟩:=Option.isSome_iff_exists.mp hcl
  unfold PySem.W.clsIn at hc
  split at hc
  ·rename_i c' d' cd' sl' ho
   intro A' Q' E' s' k q
   unfold isType loadHead
   exact wpAny_bind (wpAny_loadPart (k _ _ (Y _ _ ho)) (wpAny_pure q))
  ·cases hc
 ne:=λh tp dd its n sl Y htp=>by
  obtain⟨cd,hc⟩:=Option.isSome_iff_exists.mp hcl
  refine Bool.eq_false_iff.mpr λq=>?_
  have e:C=tp:=Value.ref.inj (beq_iff_eq.mp q)
  subst e
  unfold PySem.W.clsIn at hc
  split at hc
  ·rename_i c' d' cd' sl' ho
   have z:=(Y _ _ ho).symm.trans htp
   cases z
  ·cases hc
 ca:=fun {_ _ _ _ _ s} Y p k=>by
  obtain⟨h,g,d,t,os⟩:=s
  obtain⟨o,vs,h1,h2,_⟩:=p
  exact jt Y Z h1 h2 k
noncomputable def IsD (K:PySem.W.Frag) (c:Value)(b:Bool):D->Prop
 |.non=>PySem.W.kitOne K (.type "NoneType") c=some b
 |.bl _=>PySem.W.kitOne K (.type "bool") c=some b
 |.int _=>PySem.W.kitOne K (.type "int") c=some b
 |.str _=>PySem.W.kitOne K (.type "str") c=some b
 |.tup _=>PySem.W.kitOne K (.type "tuple") c=some b
 |.lst _=>PySem.W.kitOne K (.type "list") c=some b
 |.exc C=>(PySem.W.clsIn K C).isSome=true/\ExcCls K C/\PySem.W.kitOne K (.ref C) c=some b
 |_=>False
inductive TyX (K:PySem.W.Frag)(H:Hp) (c:Value)(b:Bool):V->Prop where
 |ty {x:V}{t:Value}(h:TyOf K H x t)(e:PySem.W.kitOne K t c=some b):TyX K H c b x
 |exc {a C:Addr}(h:H a=some (Vg a C))(hc:(PySem.W.clsIn K C).isSome=true)(Z:ExcCls K C)(e:PySem.W.kitOne K (.ref C) c=some b):TyX K H c b (.ref a)
 |tup {a:Addr}{xs:List V}(h:SqT K H a xs)(e:PySem.W.kitOne K (.type "tuple") c=some b):TyX K H c b (.ref a)
 |lst {a:Addr}{xs:List V}(h:SqL K H a xs)(e:PySem.W.kitOne K (.type "list") c=some b):TyX K H c b (.ref a)
noncomputable def kz (K:PySem.W.Frag) (c:Value):List V->Hp->VK->Prop:=λxs H Q=>∃ x y b,xs=[x,y]/\(∀ u,RelV y u->u=c)/\TyX K H c b x/\Q (.bl b) H
theorem QV {c:Value}:CallR X (.builtin "isinstance") (kz X.K c):=by
 intro pins s σ H xs us Q I r h
 obtain⟨x,y,b,rfl,hy,hc,q⟩:=h
 cases r with
 |cons rx r=>
  cases r with
  |cons ry r=>
   cases r
   cases hy _ ry
   cases hc with
   |ty ty e=>exact isinst_ok I rx ty e λtk=>⟨.bl b,H,I.tok _,rfl,q⟩
   |exc ea hcl Z e=>
    cases rx
    have hk:=I.hok _ _ ea
    exact PySem.W.kia_one (jZ hcl Z) I.kIn hk.1 e (λz=>nomatch z) λtk=>⟨.bl b,H,I.tok _,rfl,q⟩
   |tup hx e=>
    cases rx
    obtain⟨its,r,ht,hz⟩:=I.tuple hx
    obtain⟨o,h1,h2,_⟩:=ht
    exact PySem.W.kia_one PySem.W.kitx_tuple I.kIn ⟨o,h1,h2⟩ e (λz=>nomatch z) λtk=>⟨.bl b,H,I.tok _,rfl,q⟩
   |lst hx e=>
    cases rx
    obtain⟨its,r,⟨o,n,ht,hc,_⟩,hz⟩:=I.list hx
    exact PySem.W.kia_one PySem.W.kitx_list I.kIn ⟨_,ht,hc⟩ e (λz=>nomatch z) λtk=>⟨.bl b,H,I.tok _,rfl,q⟩
theorem jg {G H:Hp}{d:D}{v:V}{c:Value}{b:Bool}(s:Same G H)(r:Rep K G d v)(h:IsD K c b d):TyX K H c b v:=by
 cases d with
 |non=>cases ya.mp r;exact .ty .non h
 |bl x=>cases ZL.mp r;exact .ty (.bl x) h
 |int x=>cases zJ.mp r;exact .ty (.int x) h
 |str x=>cases wx.mp r;exact .ty (.str x) h
 |tup ds=>
  obtain⟨a,vs,rfl,hq,_⟩:=zh.mp r
  exact .tup (SqT.same s (SqT.of hq)) h
 |lst ds=>
  obtain⟨a,vs,rfl,hq,_⟩:=zQ.mp r
  exact .lst (s.seq hq) h
 |exc C=>
  obtain⟨a,rfl,e⟩:=(show ∃ a,v=.ref a/\G a=some (Vg a C) from by simpa[Rep] using r)
  exact .exc (s a _ e) h.1 h.2.1 h.2.2
 |dct ks vs=>exact h.elim
 |dcT ks vs=>exact h.elim
theorem VV {e ec:Expr}{m:M D}{c:Value}{y:V}{f:D->Option D}{p pos:Pos}(h:ME X E e m)(hc:PE X ec (tC y))(hy:∀ u,RelV y u->u=c)(hf:∀ d r,f d=some r->∃ b,r=.bl b/\IsD X.K c b d)
  (hm:X.mg "isinstance" = none)(hg:Gl X "isinstance":=by rfl)(he:autoParam (starEach [e,ec] X.env=(false,eval e X.env)::starEach [ec] X.env) aR._auto_1)(he2:autoParam (starEach [ec] X.env=[(false,eval ec X.env)]) aR._auto_1):ME X E (.Call (.Name "isinstance" p) [e,ec] [] pos) (op1 f m):=by
 obtain⟨t,pe,re⟩:=h
 have hb:bootBuiltins "isinstance" = some (.builtin "isinstance"):=by with_unfolding_all rfl
 refine⟨_,pe_callB (id:="isinstance") (QV (c:=c)) hg hm hb (pa_cons pe (pa_cons hc pa_nil he2) he) (by decide) (by decide) he ?_,?_⟩
 ·rw[he2];rfl
 intro G0 H0 ρ σ G H ho
 refine RAt.bind (t2:=λx σ H1 Q=>kz X.K c [x,y] H1 Q) (re G0 H0 ρ σ G H ho) λd ρ1 v G1 H1 s1 h1 r1=>?_
 refine RAt.opt1 λr e=>?_
 obtain⟨b,rfl,hd⟩:=hf d r e
 intro Q hQ
 exact⟨v,y,b,rfl,hy,jg h1.e.s r1 hd,hQ _ G1 H1 (Same.refl _) h1 (ZL.mpr rfl)⟩
end
end PM
namespace PM
open PySem PySem.Spec PyProof.Rows L2
section
variable {X:Cx}{K:PySem.W.Frag}{E:XK}
theorem VB:∀ {bs:List Bool}{its:List Value},Vals (bs.map V.bl) its->its=bs.map Value.bool
 |[],_,.nil=>rfl
 |b::bs,_,.cons r rs=>by rw[List.map_cons,<-VB rs];cases r;rfl
theorem uz (bs:List Bool):((List.range bs.length).all λi=>(bs[i]?).getD true)=bs.all id:=by
 rw[Bool.eq_iff_iff]
 simp only[List.all_eq_true,List.mem_range,id]
 constructor
 ·intro h b hb
  obtain⟨i,hi,e⟩:=List.mem_iff_getElem.mp hb
  have:=h i hi
  rw[List.getElem?_eq_getElem hi,Option.getD_some,e]at this
  exact this
 ·intro h i hi
  rw[List.getElem?_eq_getElem hi,Option.getD_some]
  exact h _ (List.getElem_mem hi)
noncomputable def zAb (K:PySem.W.Frag):List V->Hp->VK->Prop:=λxs H Q=>∃ (a:Addr)(bs:List Bool),xs=[.ref a]/\SqL K H a (bs.map V.bl)/\Q (.bl (bs.all id)) H
theorem QX (hc:X.calm=true):CallR X (.builtin "all") (zAb X.K):=by
 intro pins s σ H xs us Q I r h
 obtain⟨a,bs,rfl,hq,q⟩:=h
 obtain⟨u,rfl,rx⟩:=vals1 r
 cases rx
 obtain⟨its,r',pl,hz⟩:=I.list hq
 cases VB r'
 have hl:=pl.isList
 have hlt:a<s.heap.objs.size:=by
  obtain⟨o,e,_⟩:=hl
  exact Heap.lt_size e
 refine call_all_walk (wpAny_pyIter_list hl ?_)
 refine⟨_,[s.heap.objs.size,a],[s.heap.objs.size],_,_,_,λi=>(bs[i]?).getD true,rfl,Walks.list (A:=X.A.in1) (I.ok.hd hc) _ a (Nat.ne_of_lt hlt) _,⟨⟨_,Heap.get?_push_size _ rfl,rfl,rfl⟩,hl.push _⟩,?_,?_⟩
 ·intro i v s' Q' E' hP hQ
  rw[List.getElem?_toArray,List.getElem?_map]at hP
  cases z:bs[i]? with
  |none=>rw[z]at hP;cases hP
  |some b=>
   rw[z]at hP
   cases hP
   simp only[z,Option.getD_some]at hQ
   exact wpAny_truthy_bool hQ
 ·intro h' tk hk
  rw[List.size_toArray,List.length_map,uz]
  exact⟨.bl _,H,I.kept λb o e=>hk b o (λz=>by rw[List.mem_singleton.mp z]at e;exact Nat.lt_irrefl _ (Heap.lt_size e)) (Heap.get?_push_of_some _ e),rfl,q⟩
theorem wL:∀ {ds:List D}{bs:List Bool},xP ds=some bs->ds=bs.map D.bl
 |[],_,e=>by cases e;rfl
 |d::r,bs,e=>by
  cases d<;>first | (cases e;done) | skip
  obtain⟨cs,e1,rfl⟩:=Option.map_eq_some_iff.mp e
  rw[wL e1]
  rfl
theorem WO {G:Hp}:∀ {bs:List Bool}{vs:List V},zF K G (bs.map D.bl) vs->vs=bs.map V.bl
 |[],vs,r=>r.nil_inv
 |b::bs,vs,r=>by
  obtain⟨v,vr,rfl,rv,rr⟩:=r.cons_inv
  rw[WO rr,ZL.mp rv]
  rfl
theorem kZ:ClM K (zAb K) (ZB JD):=by
 intro G H xs ds d Q s r e q
 cases ds with
 |nil=>cases e
 |cons x t=>
  cases t with
  |cons _ _=>cases e
  |nil=>
   obtain⟨v,vr,rfl,rv,rr⟩:=r.cons_inv
   rw[rr.nil_inv]
   have e':JD x=some d:=e
   cases x<;>first | (cases e';done) | skip
   obtain⟨bs,e1,rfl⟩:=Option.map_eq_some_iff.mp e'
   obtain⟨a,vs,rfl,hq,rl⟩:=zQ.mp rv
   rw[wL e1]at rl
   rw[WO rl]at hq
   exact⟨a,bs,rfl,s.seq hq,q _ G H (Ext.refl s) (Same.refl _) (ZL.mpr rfl)⟩
end
end PM
namespace PM
open PySem PySem.Spec PyProof.Rows L2
noncomputable def Fk (P:Program)(w:World)(K:PySem.W.Frag)(mg:Str->Option Value)(base:Heap) (k:Nat) (x:Str)(ps:List Str) (n:Nat)(F:List D->FR):Prop:=
 ∃ f fd,FnOk P w K mg base (CX1 P w) k f fd ps (spM K n F)/\mg x=some (.ref f)/\PySem.W.keepIn K (.ref f)=true/\Binds K fd ps []
section
variable {X:Cx}{E:XK}{e o:Expr}{es:List Expr}{pos p2:Pos}{ma mb:M D}
theorem zX {k n:Nat}{ps:List Str}{F:List D->FR}{x:Str}{p:Pos}{ms:List (M D)}(G:Fk X.prog X.w X.K X.mg X.base k x ps n F)(hr:Room k X.A)(hx:Passes (CX1 X.prog X.w) X E)(ha:MA X E (e::es) ms)(hn:autoParam (ms.length=n) aR._auto_1)
  (hg:autoParam (Gl X x) aR._auto_1)(hdb:autoParam ((x == ("__debug__" : Str))=false) aD._auto_1)(he:autoParam (starEach (e::es) X.env=(false,eval e X.env)::starEach es X.env) aR._auto_1)(hpl:autoParam ((backTo pos (starEach es X.env)).any (·.1)=false) aR._auto_1) :
  ME X E (.Call (.Name x p) (e::es) [] pos) (zR F ms):=by
 obtain⟨f,fd,G,hm,hk,hb⟩:=G
 exact kG G hr hg hm hk hb hx ha hn hdb he hpl
theorem jB:Passes (CX1 X.prog X.w) X E0:=λ_ _ _ _ _ _ _ h=>by
 obtain⟨_,_,_,_,_,_,h⟩:=h
 exact h.elim
theorem kF {p:Pos}{ms:List (M D)}(hm:X.mg "int" = none)(ha:MA X E (e::es) ms)(hg:Gl X "int":=by rfl)(he:autoParam (starEach (e::es) X.env=(false,eval e X.env)::starEach es X.env) aR._auto_1)(hpl:autoParam ((backTo pos (starEach es X.env)).any (·.1)=false) aR._auto_1) :
  ME X E (.Call (.Name "int" p) (e::es) [] pos) (zY (ZB Xr) ms):=X7 call_int1 kX hg hm (by with_unfolding_all rfl) ha (by decide) (by decide) he hpl
theorem jV {p:Pos}{ms:List (M D)}(hm:X.mg "list" = none)(ha:MA X E (e::es) ms)(hg:autoParam (Gl X "list") aR._auto_1)(he:autoParam (starEach (e::es) X.env=(false,eval e X.env)::starEach es X.env) aR._auto_1)(hpl:autoParam ((backTo pos (starEach es X.env)).any (·.1)=false) aR._auto_1) :
  ME X E (.Call (.Name "list" p) (e::es) [] pos) (zY (ZB Wn) ms):=X7 call_list_of jy hg hm (by with_unfolding_all rfl) ha (by decide) (by decide) he hpl
theorem vi {p:Pos}{ms:List (M D)}(hm:X.mg "tuple" = none)(ha:MA X E (e::es) ms)(hg:autoParam (Gl X "tuple") aR._auto_1)(he:autoParam (starEach (e::es) X.env=(false,eval e X.env)::starEach es X.env) aR._auto_1)(hpl:autoParam ((backTo pos (starEach es X.env)).any (·.1)=false) aR._auto_1) :
  ME X E (.Call (.Name "tuple" p) (e::es) [] pos) (zY (ZB tupleD) ms):=X7 call_tuple_of QR hg hm (by with_unfolding_all rfl) ha (by decide) (by decide) he hpl
theorem K4 {p:Pos}{ms:List (M D)}(hm:X.mg "all" = none)(ha:MA X E (e::es) ms)(hc:autoParam (X.calm=true) aR._auto_1)(hg:Gl X "all":=by rfl)(he:autoParam (starEach (e::es) X.env=(false,eval e X.env)::starEach es X.env) aR._auto_1)(hpl:autoParam ((backTo pos (starEach es X.env)).any (·.1)=false) aR._auto_1) :
  ME X E (.Call (.Name "all" p) (e::es) [] pos) (zY (ZB JD) ms):=ZE (QX hc) kZ hg hm (by with_unfolding_all rfl) ha (by decide) (by decide) he hpl
end
section
variable {P:Program}{w:World}{K:PySem.W.Frag}{mg:Str->Option Value}{base:Heap}{N:List Str}{qual:Str}{scope:Scope}{f:Addr}{cd:Value}{A:Around}{outer:List Env}{s₀:Shared}{H₀:Hp}{E:XK}
theorem yc {C:Addr}{x:Str}{z:Str}{np cpos pos ap:Pos}{j:Nat}(q:PySem.W.excIn K C Yk yG=true)(hm:mg x=some (.ref C))(hgl:autoParam (Gl (cxOf (CX1 P w) P w K mg base N qual scope f cd A outer s₀ H₀ E) x) aR._auto_1)
  (hd:autoParam ((x == ("__debug__" : Str))=false) aD._auto_1):MS (cxOf (CX1 P w) P w K mg base N qual scope f cd A outer s₀ H₀ E) E (.Raise (some (.Call (.Name x np) [.Constant (.str z) j ap] [] cpos)) none pos) (yd C):=⟨_,Q8 q hm hgl hd,Qz⟩
end
section
variable {X:Cx}{E:XK}{e:Expr}{pos p p3:Pos}{m:M D}
theorem jh {K:PySem.W.Frag}{c:String}{f:D->Bool}(hn:PySem.W.kitOne K (.type "NoneType") (.type c)=some (f .non))(hb:∀ b,PySem.W.kitOne K (.type "bool") (.type c)=some (f (.bl b)))(hi:∀ b,PySem.W.kitOne K (.type "int") (.type c)=some (f (.int b)))
  (hs:∀ b,PySem.W.kitOne K (.type "str") (.type c)=some (f (.str b)))(ht:∀ b,PySem.W.kitOne K (.type "tuple") (.type c)=some (f (.tup b)))(hl:∀ b,PySem.W.kitOne K (.type "list") (.type c)=some (f (.lst b)))(d r:D)(h:X9 f d=some r):∃ b,r=.bl b/\IsD K (.type c) b d:=by
 cases d with
 |non=>cases h;exact⟨_,rfl,hn⟩
 |bl b=>cases h;exact⟨_,rfl,hb b⟩
 |int b=>cases h;exact⟨_,rfl,hi b⟩
 |str b=>cases h;exact⟨_,rfl,hs b⟩
 |tup b=>cases h;exact⟨_,rfl,ht b⟩
 |lst b=>cases h;exact⟨_,rfl,hl b⟩
 |exc c=>cases h
 |dct a b=>cases h
 |dcT a b=>cases h
theorem UI (hm:X.mg "isinstance" = none)(hb:X.mg "bool" = none)(h:ME X E e m)(hg:Gl X "isinstance":=by rfl)(hg2:Gl X "bool":=by rfl)(he:starEach [e,.Name "bool" p3] X.env=(false,eval e X.env)::starEach [.Name "bool" p3] X.env:=by rfl)(he2:starEach [.Name "bool" p3] X.env=[(false,eval (.Name "bool" p3) X.env)]:=by rfl) :
  ME X E (.Call (.Name "isinstance" p) [e,.Name "bool" p3] [] pos) (op1 (X9 D.isBl) m):=
 VV (c:=.type "bool") (y:=.ty "bool") h (pe_bltn (v:=.ty "bool") hg2 hb (by with_unfolding_all rfl) rfl) (λu r=>r) (jh (by with_unfolding_all rfl) (λ_=>by with_unfolding_all rfl) (λ_=>by with_unfolding_all rfl) (λ_=>by with_unfolding_all rfl) (λ_=>by with_unfolding_all rfl) (λ_=>by with_unfolding_all rfl)) hm hg he he2
theorem Xf {C:Addr}{x:Str}{f:Addr->Option Bool}(hm:X.mg "isinstance" = none)(hc:X.mg x=some (.ref C))(hf:∀ a b,f a=some b->(PySem.W.clsIn X.K a).isSome=true/\ExcCls X.K a/\PySem.W.kitOne X.K (.ref a) (.ref C)=some b)(h:ME X E e m)(hg:Gl X "isinstance":=by rfl)(hg2:autoParam (Gl X x) aR._auto_1)(hd:autoParam ((x == ("__debug__" : Str))=false) aD._auto_1)
  (he:autoParam (starEach [e,.Name x p3] X.env=(false,eval e X.env)::starEach [.Name x p3] X.env) aR._auto_1)(he2:autoParam (starEach [.Name x p3] X.env=[(false,eval (.Name x p3) X.env)]) aR._auto_1):ME X E (.Call (.Name "isinstance" p) [e,.Name x p3] [] pos) (op1 (yQ f) m):=
 VV (c:=.ref C) (y:=.ref C) h (pe_glob (v:=.ref C) hg2 hc rfl hd) (λu r=>r) (λd r hr=>by
  cases d with
  |exc a=>
   obtain⟨b,e1,rfl⟩:=Option.map_eq_some_iff.mp hr
   exact⟨b,rfl,hf a b e1⟩
  |_=>cases hr) hm hg he he2
theorem UJ {x:Str}{T:String}{f:Addr->Option Bool}(hm:X.mg "isinstance" = none)(hc:X.mg x=none)(hv:bootBuiltins x=some (.type T))(hf:∀ a b,f a=some b->(PySem.W.clsIn X.K a).isSome=true/\ExcCls X.K a/\PySem.W.kitOne X.K (.ref a) (.type T)=some b)(h:ME X E e m)(hg:Gl X "isinstance":=by rfl)(hg2:autoParam (Gl X x) aR._auto_1)(hn:x ≠ "__name__":=by decide)(hd:autoParam ((x == ("__debug__" : Str))=false) aD._auto_1)
  (he:autoParam (starEach [e,.Name x p3] X.env=(false,eval e X.env)::starEach [.Name x p3] X.env) aR._auto_1)(he2:autoParam (starEach [.Name x p3] X.env=[(false,eval (.Name x p3) X.env)]) aR._auto_1):ME X E (.Call (.Name "isinstance" p) [e,.Name x p3] [] pos) (op1 (yQ f) m):=
 VV (c:=.type T) (y:=.ty T) h (pe_bltn (v:=.ty T) hg2 hc hv rfl hn hd) (λu r=>r) (λd r hr=>by
  cases d with
  |exc a=>
   obtain⟨b,e1,rfl⟩:=Option.map_eq_some_iff.mp hr
   exact⟨b,rfl,hf a b e1⟩
  |_=>cases hr) hm hg he he2
end
end PM
namespace PM
open PySem PySem.Spec PyProof.Rows L2
section
variable {K:PySem.W.Frag}{E:XK}{G:Hp}
end
section
variable {X:Cx}{E:XK}{e f v:Expr}{sts:List Stmt}{pos p2 p3:Pos}{m mv mk mx:M D}{mf:M Fl}
end
end PM
namespace PM
open PySem PySem.Spec PyProof.Rows L2 PySem.SeqAt MeetsSeq MeetsSeq2
open AutoSeq1 (wpAny_loadPart')
theorem vG (l:Addr)(items:Array Value) (n:Nat)(dd:Option Addr)(sl:Array (Option Value)) (x:Value)(e:Value->Bool) (j:Nat)(hj:j<items.size)
  (hit:e items[j]=true)(hno:∀ m (hm:m<items.size),m<j->e items[m]=false) :
  Meets (Builtin.«tuple.index» ⟨[.ref l,x],[]⟩)
   (λA R s=>s.heap.get? l=some { cls:=.type "tuple",dict:=dd,data:=.seq items n,slots:=sl }/\(∀ y,y ∈ items->EqAt A.in1 s y x (e y))/\R (.ok (.ret (.int j s.toks))) { s with toks:=s.toks+1 }):=
 .of_wp λprog w A R s h=>by
  obtain⟨hp,g,d,tk,os⟩:=s;obtain⟨hl,he,h⟩:=h
  unfold Builtin.«tuple.index»
  simp only[Std.Legacy.Range.forIn_eq_forIn_range',Std.Legacy.Range.size,Nat.sub_zero,Nat.add_sub_cancel,Nat.div_one,Nat.min_self]
  wp_walk using wpAny_loadPart' hl,wpAny_forIn_list _ (λrest b s'=>b.1=none/\s'=⟨hp,g,d,tk,os⟩/\∃ i,i<=j/\rest=List.range' i (items.size - i)) _
  case turn=>
   rintro y rest b s' ⟨hb,rfl,i,hi,hr⟩
   have hlt:i<items.size:=by omega
   rw[show items.size - i=(items.size - (i+1))+1 by omega,List.range'_succ]at hr
   cases hr
   have hii:items[y]? = some items[y]:=by simp[hlt]
   rw[hii]
   refine wpAny_bind (he _ (Array.getElem_mem hlt) prog w _ _ ?_)
   by_cases hij:y=j
   ·subst hij
    rw[hit]
    wp_walk
    exact⟨_,rfl,h⟩
   ·rw[hno y hlt (by omega)]
    wp_walk
    exact⟨rfl,rfl,y+1,by omega,rfl⟩
  case fin=>
   rintro b s' ⟨hb,rfl,i,hi,hr⟩
   have:(List.range' i (items.size - i)).length=0:=by rw[<-hr];rfl
   simp at this
   omega
  case h=>
   exact⟨rfl,rfl,0,Nat.zero_le _,by simp⟩
theorem Q2 {h:Heap}{d:PyData}:∀ {xs:List PyData}{vs:List Value}{as:List Addr},PyData.canLayAll0 xs=true->ReadsAll h vs xs as->∀ (i:Nat) (v:Value),vs[i]? = some v->∃ x,xs[i]? = some x/\PyData.eqv (readOf h v) d=PyData.eqv x d:=by
 intro xs vs as hc r i v hv
 have:=readsAll_map xs vs as hc r
 refine⟨readOf h v,?_,rfl⟩
 rw[<-this,List.getElem?_map,hv]
 rfl
theorem Us {dx:D}(p:dx.plain=true):∀ {ys:List D},D.plains ys=true->∀ (i:Nat)(x:PyData),(D.pys ys)[i]? = some x->∃ y,ys[i]? = some y/\PyData.eqv x dx.py=y.eqv dx
 |[],_,i,x,e=>by cases i<;>cases e
 |a::r,h,i,x,e=>by
  have h':(a.plain && D.plains r)=true:=h
  rw[Bool.and_eq_true]at h'
  cases i with
  |zero=>cases e;exact⟨a,rfl,WR h'.1 p⟩
  |succ i=>exact Us p h'.2 i x e
section
variable {X:Cx}{K:PySem.W.Frag}{E:XK}
inductive RIdx (K:PySem.W.Frag)(Sq:PySem.W.Frag->Hp->Addr->List V->Prop)(x:V)(vs:List V)(H:Hp)(Q:VK):Prop where
 |mk (p:Addr)(y:V)(ws:List V)(ys:List D)(dx:D) (j:Nat)(e1:x=.ref p)(e2:vs=[y])(hq:Sq K H p ws)(rl:zF K H ys ws)(r1:Rep K H dx y)(p1:dx.plain=true)(p2:D.plains ys=true)(hd:D.deeps ys<=30)(hj:uQ ys dx=some j)(q:Q (.int (j:Nat)) H)
noncomputable abbrev zAZ (K:PySem.W.Frag)(Sq:PySem.W.Frag->Hp->Addr->List V->Prop):V->List V->Hp->VK->Prop:=λx vs H Q=>RIdx K Sq x vs H Q
theorem Vl {pins:List (Addr×Obj)}{s:Shared}{σ:St}{H:Hp}{ys:List D}{ws:List V}{its:List Value}{dx:D}{y:V}{u:Value}{k:Nat}(hr:Room k X.A)(I:Inv X pins σ H s)(rl:zF X.K H ys ws)(rt:Vals ws its)(r1:Rep X.K H dx y)(ru:RelV y u)
  (p1:dx.plain=true)(p2:D.plains ys=true)(hd:D.deeps ys<=30):(∀ z,z ∈ its.toArray->EqAt X.A.in1 s z u (PyData.eqv (readOf s.heap z) dx.py))/\(∀ (i:Nat) (v:Value),its[i]? = some v->∃ d,ys[i]? = some d/\PyData.eqv (readOf s.heap v) dx.py=d.eqv dx)/\ys.length=its.length:=by
 obtain⟨as,ra⟩:=yq I r1 ru p1
 obtain⟨bs,rb⟩:=yF I rl rt p2
 have hu:X.A.units+1+min (PyData.depthAll (D.pys ys)) dx.py.depth<cLine:=by rw[YK p2];exact ww hr hd
 refine⟨items_eqAt (by simpa using rb) ra (Yc p2) (Y9 p1) hu,λi v hv=>?_,?_⟩
 ·obtain⟨x,hx,e⟩:=Q2 (d:=dx.py) (Yc p2) rb i v hv
  obtain⟨d,hd,e2⟩:=Us p1 p2 i x hx
  exact⟨d,hd,e.trans e2⟩
 ·rw[rl.len,rt.length]
theorem qq {k:Nat}(hr:Room k X.A):MtR X "tuple.index" (zAZ X.K SqT):=by
 intro pins s σ H x vs v us Q I rx rv h
 obtain⟨p,y,ws,ys,dx,j,rfl,rfl,hq,rl,r1,p1,p2,hd,hj,q⟩:=h
 cases rx
 obtain⟨u,rfl,ru⟩:=vals1 rv
 obtain⟨its,rt,⟨⟨cls,dd,data,sl⟩,ho,hc,n,hdt⟩,_⟩:=I.tuple hq
 simp only at hc hdt
 subst hc hdt
 obtain⟨h1,h2,h3⟩:=Vl hr I rl rt r1 ru p1 p2 hd
 obtain⟨hjl,hjt,hjn⟩:=List.findIdx?_eq_some_iff_getElem.mp hj
 have hji:j<its.length:=by omega
 refine call_meets PySem.F.slot_tuple_index ⟨_,ho,rfl⟩ PySem.F.entry_tuple_index (PySem.F.args_tuple_index_2 _ _) (vG p its.toArray n dd sl u (λz=>PyData.eqv (readOf s.heap z) dx.py) j (by simpa using hji) ?_ ?_) ⟨ho,h1,⟨.int j,H,I.tok _,⟨_,rfl⟩,q⟩⟩
 ·obtain⟨d,hd,e⟩:=h2 j its[j] (List.getElem?_eq_getElem hji)
  rw[List.getElem?_eq_getElem hjl]at hd
  cases hd
  simpa using e.trans hjt
 ·intro m hm hlt
  have hm':m<its.length:=by simpa using hm
  obtain⟨d,hd,e⟩:=h2 m its[m] (List.getElem?_eq_getElem hm')
  rw[List.getElem?_eq_getElem (by omega)]at hd
  cases hd
  have:=hjn m hlt
  simp only[Bool.not_eq_true]at this
  simpa using e.trans this
theorem qr {k:Nat}(hr:Room k X.A):MtR X "list.index" (zAZ X.K SqL):=by
 intro pins s σ H x vs v us Q I rx rv h
 obtain⟨p,y,ws,ys,dx,j,rfl,rfl,hq,rl,r1,p1,p2,hd,hj,q⟩:=h
 cases rx
 obtain⟨u,rfl,ru⟩:=vals1 rv
 obtain⟨its,rt,pl,hz⟩:=I.list hq
 obtain⟨⟨cls,dd,data,sl⟩,ho,hc,n,hdt⟩:=pl.isList
 simp only at hc hdt
 subst hc hdt
 obtain⟨h1,h2,h3⟩:=Vl hr I rl rt r1 ru p1 p2 hd
 obtain⟨hjl,hjt,hjn⟩:=List.findIdx?_eq_some_iff_getElem.mp hj
 have hji:j<its.length:=by omega
 have hz':=rt.length
 have hsl:(sizeLine:Nat)=16777216:=by decide
 refine call_meets PySem.F.slot_list_index ⟨_,ho,rfl⟩ PySem.F.entry_list_index (PySem.F.args_list_index_2 _ _) (list_indexAt p its.toArray n dd sl u (λz=>PyData.eqv (readOf s.heap z) dx.py) j (by simpa using hji) (by omega) ?_ ?_) ⟨ho,h1,⟨.int j,H,I.tok _,⟨_,rfl⟩,q⟩⟩
 ·obtain⟨d,hd,e⟩:=h2 j its[j] (List.getElem?_eq_getElem hji)
  rw[List.getElem?_eq_getElem hjl]at hd
  cases hd
  simpa using e.trans hjt
 ·intro m hm hlt
  have hm':m<its.length:=by simpa using hm
  obtain⟨d,hd,e⟩:=h2 m its[m] (List.getElem?_eq_getElem hm')
  rw[List.getElem?_eq_getElem (by omega)]at hd
  cases hd
  have:=hjn m hlt
  simp only[Bool.not_eq_true]at this
  simpa using e.trans this
inductive RCnt (K:PySem.W.Frag)(x:V)(vs:List V)(H:Hp)(Q:VK):Prop where
 |mk (p:Addr)(y:V)(ws:List V)(ys:List D)(dx:D)(e1:x=.ref p)(e2:vs=[y])(hq:SqL K H p ws)(rl:zF K H ys ws)(r1:Rep K H dx y)(p1:dx.plain=true)(p2:D.plains ys=true)(hd:D.deeps ys<=30)(q:Q (.int ((ys.filter λy=>y.eqv dx).length:Nat)) H)
noncomputable abbrev zAl (K:PySem.W.Frag):V->List V->Hp->VK->Prop:=λx vs H Q=>RCnt K x vs H Q
theorem uX {α β:Type}{e:α->Bool}{f:β->Bool}:∀ {l:List α}{k:List β},k.length=l.length->(∀ (i:Nat)(a:α),l[i]? = some a->∃ b,k[i]? = some b/\e a=f b)->l.countP e=(k.filter f).length
 |[],[],_,_=>rfl
 |a::l,b::k,hl,h=>by
  obtain⟨b',hb,e1⟩:=h 0 a rfl
  cases hb
  have ih:=uX (l:=l) (k:=k) (by simpa using hl) λi a' ha=>h (i+1) a' (by simpa using ha)
  rw[List.countP_cons,List.filter_cons,ih,e1]
  split<;>simp[*]
 |[],_::_,hl,_=>by simp at hl
 |_::_,[],hl,_=>by simp at hl
theorem qs {k:Nat}(hr:Room k X.A):MtR X "list.count" (zAl X.K):=by
 intro pins s σ H x vs v us Q I rx rv h
 obtain⟨p,y,ws,ys,dx,rfl,rfl,hq,rl,r1,p1,p2,hd,q⟩:=h
 cases rx
 obtain⟨u,rfl,ru⟩:=vals1 rv
 obtain⟨its,rt,pl,hz⟩:=I.list hq
 obtain⟨⟨cls,dd,data,sl⟩,ho,hc,n,hdt⟩:=pl.isList
 simp only at hc hdt
 subst hc hdt
 obtain⟨h1,h2,h3⟩:=Vl hr I rl rt r1 ru p1 p2 hd
 refine call_meets PySem.F.slot_list_count ⟨_,ho,rfl⟩ PySem.F.entry_list_count (PySem.F.args_list_count_2 _ _) (list_countAt p its.toArray n dd sl u (λz=>PyData.eqv (readOf s.heap z) dx.py)) ⟨ho,h1,?_⟩
 rw[show its.toArray.toList.countP (λz=>PyData.eqv (readOf s.heap z) dx.py)=(ys.filter λy=>y.eqv dx).length from uX h3 h2]
 exact⟨.int _,H,I.tok _,⟨_,rfl⟩,q⟩
noncomputable def zAP (K:PySem.W.Frag)(r:V->List V->Hp->VK->Prop)(to:TE)(t:TA):TE:=λσ H Q=>to σ H λx H1=>(∃ p xs,x=.ref p/\SqT K H1 p xs)/\t σ H1 λxs H2=>r x xs H2 Q
theorem Ks {o e:Expr}{es:List Expr}{to:TE}{t:TA}{name:Str}{apos cpos:Pos}{id:String}{r:V->List V->Hp->VK->Prop}(slot:PySem.Slot "tuple" name id)(hty:typeOf (.builtin id)=pure (.type "method_descriptor"))(hm:MtR X id r)(ho:PE X o to)(ha:PA X (e::es) t)
  (hbase:attributeBase o name X.env (eval o X.env)=eval o X.env)
  (hfew:((backTo cpos (starEach (e::es) X.env)).all (λx=>!x.1) && (backToKw cpos (keywordEach [] X.env)).all (λx=>x.1.isSome)
   && decide ((e::es).length+([]:List Keyword).length+(if ([]:List Keyword).isEmpty then 0 else 1)<30))=true)
  (hline:(apos.endLine == cpos.line)=true)(hs:starEach (e::es) X.env=(false,eval e X.env)::starEach es X.env)(hplain:(backTo cpos (starEach es X.env)).any (·.1)=false) :
  PE X (.Call (.Attribute o name apos) (e::es) [] cpos) (zAP X.K r to t):=by
 intro pins s σ H Q I h
 refine wpAny_Call_method_late hbase hfew hline rfl (thn (ho pins s σ H _ I h) λv s1 ⟨x,H1,I1,r1,⟨p,xs,ex,hq⟩,q1⟩=>?_)
 subst ex
 obtain rfl:v=Value.ref p:=r1
 obtain⟨its,rt,ht,_⟩:=I1.tuple hq
 obtain⟨o',ho',hd'⟩:=I1.tupleD hq
 refine⟨"tuple",id,PySem.F.plainAttrs_tuple,slot,hty,ht.typeIs,λa ea=>(by cases ea;exact⟨o',ho',hd'⟩),?_⟩
 have hA:=ha cpos pins s1 σ H1 _ I1 q1
 rw[hs]at hA ⊢
 refine Calls.callWith_builtin (by show (false || (backTo cpos (starEach es X.env)).any (·.1))=false;rw[hplain]<;>rfl) (Calls.evalArgs_plain ?_)
 exact thn hA λus s2 ⟨vs,H2,I2,r2,q2⟩=>hm pins s2 σ H2 (.ref p) vs _ us Q I2 rfl r2 q2
theorem Q4 {r:V->List V->Hp->VK->Prop}{to te:TE}{a b:M D}{f:D->D->Option D}(ha:RE K E to a)(hb:RE K E te b)
  (hf:∀ (G H:Hp)(x y:V)(dx dy d:D)(Q:VK),Same G H->Rep K G dx x->Rep K G dy y->f dx dy=some d->(YH dx).isSome=true->(∀ v,Rep K G d v->Q v H)->r x [y] H Q):RE K E (zAP K r to (tCons te tNil)) (Wf f a b):=by
 intro G0 H0 ρ σ G H ho
 refine RAt.bind (t2:=λx σ H1 Q=>(∃ p xs,x=V.ref p/\SqT K H1 p xs)/\te σ H1 λy H2=>r x [y] H2 Q) (ha G0 H0 ρ σ G H ho) λdx ρ1 x G1 H1 s1 h1 r1=>?_
 refine RAt.opt λds e=>?_
 intro Q hQ
 cases dx<;>first | (cases e;done) | skip
 obtain⟨p,vs,rfl,hq,rl⟩:=zh.mp r1
 refine⟨⟨p,vs,rfl,SqT.same h1.e.s hq⟩,?_⟩
 refine RAt.bind (r2:=λG d v=>Rep K G d v) (t2:=λy σ H2 Q=>r (.ref p) [y] H2 Q) (hb G0 H0 ρ1 σ G1 H1 h1) (λdy ρ2 y G2 H2 s2 h2 r2=>?_) Q hQ
 refine RAt.opt1 λd e=>?_
 intro Q hQ
 exact hf G2 H2 _ y _ dy d Q h2.e.s (r1.mono s2) r2 e rfl λv rv=>hQ v G2 H2 (Same.refl _) h2 rv
theorem V3 {i:Nat}{r:V->List V->Hp->VK->Prop}{te:TE}{b:M D}{f:D->D->Option D}(hb:RE K E te b)
  (hf:∀ (G H:Hp)(p:Addr)(vs:List V)(y:V)(ds:List D)(dy d:D)(Q:VK),Same G H->SqL K H p vs->zF K H ds vs->Rep K G dy y->f (.lst ds) dy=some d->(∀ v,Rep K G d v->Q v H)->r (.ref p) [y] H Q):RE K E (tBM K "list" r (tVar i) (tCons te tNil)) (Xd f i b):=by
 intro G0 H0 ρ σ G H ho
 refine RAt.opt λds e=>?_
 obtain⟨a,vs,e1,e2,e3,e4,rr⟩:=ho.sl i _ (Z0 e)
 intro Q hQ
 refine⟨.ref a,e1,.inl ⟨rfl,_,SqL.of e2⟩,?_⟩
 refine RAt.bind (r2:=λG d v=>Rep K G d v) (t2:=λy σ H2 Q=>r (.ref a) [y] H2 Q) (hb G0 H0 ρ σ G H ho) (λdy ρ2 y G2 H2 s2 h2 r2=>?_) Q hQ
 refine RAt.opt λds' e'=>?_
 refine RAt.opt1 λd ed=>?_
 obtain⟨a',vs',f1,f2,f3,f4,rr'⟩:=h2.sl i _ (Z0 e')
 rw[e1]at f1
 cases f1
 intro Q hQ
 exact hf G2 H2 a vs' y ds' dy d Q h2.e.s (SqL.of f2) (rr'.mono h2.e.s) r2 ed λv rv=>hQ v G2 H2 (Same.refl _) h2 rv
theorem vn {s x d:D}{ys:List D}(hs:s.items? = some ys)(e:Yi s x=some d):∃ j,x.plain=true/\D.plains ys=true/\D.deeps ys<=30/\uQ ys x=some j/\d=.int (j:Nat):=by
 unfold Yi at e
 rw[hs]at e
 dsimp only at e
 split at e
 ·rename_i h
  simp only[Bool.and_eq_true,decide_eq_true_eq]at h
  obtain⟨j,e1,rfl⟩:=Option.map_eq_some_iff.mp e
  exact⟨j,h.1.1,h.1.2,h.2,e1,rfl⟩
 ·cases e
theorem QP {ys:List D}{x d:D}(e:W0 (.lst ys) x=some d):x.plain=true/\D.plains ys=true/\D.deeps ys<=30/\d=.int ((ys.filter λy=>y.eqv x).length:Nat):=by
 unfold W0 at e
 dsimp only at e
 split at e
 ·rename_i h
  simp only[Bool.and_eq_true,decide_eq_true_eq]at h
  cases e
  exact⟨h.1.1,h.1.2,h.2,rfl⟩
 ·cases e
end
section
variable {X:Cx}{E:XK}{o e:Expr}{ap pos p2:Pos}{a b:M D}
theorem qw {k:Nat}(hr:Room k X.A)(ha:ME X E o a)(hb:ME X E e b)(hs0:autoParam (starEach [e] X.env=(false,eval e X.env)::starEach [] X.env) aR._auto_1)(hbase:attributeBase o "index" X.env (eval o X.env)=eval o X.env:=by rfl)
  (hfew:autoParam (((backTo pos (starEach [e] X.env)).all (λx=>!x.1) && (backToKw pos (keywordEach [] X.env)).all (λx=>x.1.isSome) && decide ([e].length+([]:List Keyword).length+(if ([]:List Keyword).isEmpty then 0 else 1)<30))=true) aR._auto_1)
  (hline:autoParam ((ap.endLine == pos.line)=true) aR._auto_1)(hplain:autoParam ((backTo pos (starEach [] X.env)).any (·.1)=false) aR._auto_1):ME X E (.Call (.Attribute o "index" ap) [e] [] pos) (Wf Yi a b):=by
 obtain⟨ta,pa,ra⟩:=ha
 obtain⟨tb,pb,rb⟩:=hb
 refine⟨_,Ks PySem.F.slot_tuple_index PySem.F.type_tuple_index (qq hr) pa (pa_cons pb pa_nil hs0) hbase hfew hline hs0 hplain,Q4 ra rb λG H x y dx dy d Q s rx ry ed hk q=>?_⟩
 cases dx<;>first | (cases hk;done) | skip
 obtain⟨p,vs,rfl,hq,rl⟩:=zh.mp rx
 obtain⟨j,p1,p2,p3,p4,rfl⟩:=vn (ys:=_) rfl ed
 exact⟨p,y,vs,_,dy,j,rfl,rfl,SqT.same s hq,rl.mono s,ry.mono s,p1,p2,p3,p4,q _ (zJ.mpr rfl)⟩
theorem qx {k:Nat}(hr:Room k X.A) (i:Nat){x:Str}(hb:ME X E e b)(hN:autoParam (X.N[i]? = some x) aR._auto_1)(hv:autoParam (Vis X.env.scope x) aV._auto_1)(hd:autoParam ((x == ("__debug__" : Str))=false) aD._auto_1)
  (hcd:autoParam ((x == ("__classdict__" : Str))=false) aD._auto_1)(hs0:autoParam (starEach [e] X.env=(false,eval e X.env)::starEach [] X.env) aR._auto_1)(hbase:attributeBase (.Name x p2) "index" X.env (eval (.Name x p2) X.env)=eval (.Name x p2) X.env:=by rfl)
  (hfew:autoParam (((backTo pos (starEach [e] X.env)).all (λx=>!x.1) && (backToKw pos (keywordEach [] X.env)).all (λx=>x.1.isSome) && decide ([e].length+([]:List Keyword).length+(if ([]:List Keyword).isEmpty then 0 else 1)<30))=true) aR._auto_1)
  (hline:autoParam ((ap.endLine == pos.line)=true) aR._auto_1)(hplain:autoParam ((backTo pos (starEach [] X.env)).any (·.1)=false) aR._auto_1):ME X E (.Call (.Attribute (.Name x p2) "index" ap) [e] [] pos) (Xd Yi i b):=by
 obtain⟨tb,pb,rb⟩:=hb
 refine⟨_,pe_bm PySem.F.plainAttrs_list PySem.F.slot_list_index PySem.F.type_list_index (qr hr) (pe_var hN hv hd hcd) (pa_cons pb pa_nil hs0) hbase hfew hline hs0 hplain,V3 rb λG H p vs y ds dy d Q s hq rl ry ed q=>?_⟩
 obtain⟨j,p1,p2,p3,p4,rfl⟩:=vn (ys:=_) rfl ed
 exact⟨p,y,vs,_,dy,j,rfl,rfl,hq,rl,ry.mono s,p1,p2,p3,p4,q _ (zJ.mpr rfl)⟩
theorem qy {k:Nat}(hr:Room k X.A) (i:Nat){x:Str}(hb:ME X E e b)(hN:autoParam (X.N[i]? = some x) aR._auto_1)(hv:autoParam (Vis X.env.scope x) aV._auto_1)(hd:autoParam ((x == ("__debug__" : Str))=false) aD._auto_1)
  (hcd:autoParam ((x == ("__classdict__" : Str))=false) aD._auto_1)(hs0:autoParam (starEach [e] X.env=(false,eval e X.env)::starEach [] X.env) aR._auto_1)(hbase:attributeBase (.Name x p2) "count" X.env (eval (.Name x p2) X.env)=eval (.Name x p2) X.env:=by rfl)
  (hfew:autoParam (((backTo pos (starEach [e] X.env)).all (λx=>!x.1) && (backToKw pos (keywordEach [] X.env)).all (λx=>x.1.isSome) && decide ([e].length+([]:List Keyword).length+(if ([]:List Keyword).isEmpty then 0 else 1)<30))=true) aR._auto_1)
  (hline:autoParam ((ap.endLine == pos.line)=true) aR._auto_1)(hplain:autoParam ((backTo pos (starEach [] X.env)).any (·.1)=false) aR._auto_1):ME X E (.Call (.Attribute (.Name x p2) "count" ap) [e] [] pos) (Xd W0 i b):=by
 obtain⟨tb,pb,rb⟩:=hb
 refine⟨_,pe_bm PySem.F.plainAttrs_list PySem.F.slot_list_count PySem.F.type_list_count (qs hr) (pe_var hN hv hd hcd) (pa_cons pb pa_nil hs0) hbase hfew hline hs0 hplain,V3 rb λG H p vs y ds dy d Q s hq rl ry ed q=>?_⟩
 obtain⟨p1,p2,p3,rfl⟩:=QP ed
 exact⟨p,y,vs,ds,dy,rfl,rfl,hq,rl,ry.mono s,p1,p2,p3,q _ (zJ.mpr rfl)⟩
end
end PM
namespace PM
open PySem PySem.Spec PyProof.Rows L2
section
variable {X:Cx}{K:PySem.W.Frag}{E:XK}
theorem Wy {G H:Hp}{p:Addr}{o:HO}(h:Same G H)(hp:H p=none):Ext G H G (upd H p o):=
 ⟨Same.refl _,λb u e=>Same.upd hp _ _ (h _ _ e),λ_ _ e=>e,Same.upd hp⟩
noncomputable def zAO (ta:TA):TE:=λσ H Q=>ta σ H λvs H1=>∃ j:Int,vs=[.int j]/\-(2 ^ 62)<=j/\j<2 ^ 62/\∀ p,H1 p=none->Q (.ref p) (upd H1 p (.rng 0 j))
theorem Q9 {a:Expr}{ta:TA}{p pos:Pos}(hg:Gl X "range")(hm:X.mg "range" = none)(ha:PA X [a] ta)(hs:starEach [a] X.env=[(false,eval a X.env)]):PE X (.Call (.Name "range" p) [a] [] pos) (zAO ta):=by
 intro pins s σ H Q I h
 refine Call_ (ld_blt I hg hm boot_range (PyProof.Rows.callWith_type1 (thn (ha pos pins s σ H _ I h) λus s1 ⟨vs,H1,I1,r1,q1⟩=>?_) hs rfl))
 obtain⟨j,e,_,_,q⟩:=q1
 subst e
 obtain⟨u,rfl,t,rfl⟩:=vals1 r1
 refine call_range_1 ?_
 exact⟨.ref s1.heap.objs.size,_,I1.laid (o:=.rng 0 j) (λb o e=>Heap.get?_push_of_some _ e) (Nat.le_refl _) ⟨_,_,_,Heap.get?_push_size _ rfl⟩,rfl,q _ (I1.hok.fresh (Nat.le_refl _))⟩
noncomputable def Vt (n:Nat):List V:=(List.range n).map λk:Nat=>V.int (k:Int)
theorem xT {acc:Array Value}{n:Nat}(h:ItemsOf (λi v=>∃ t,v=.int (0+i * 1) t) acc n):Vals (Vt n) acc.toList:=by
 obtain⟨h1,h2⟩:=h
 have:∀ (l:List Value) (m:Nat),l.length=n - m->m<=n->(∀ (j:Nat) (v:Value),l[j]? = some v->∃ t,v=Value.int ((m+j:Nat):Int) t)->Vals ((List.range' m (n - m)).map λk:Nat=>V.int (k:Int)) l:=by
  intro l
  induction l with
  |nil=>
   intro m hl hm _
   have:n - m=0:=by simpa using hl.symm
   rw[this]
   exact .nil
  |cons v r ih=>
   intro m hl hm hv
   have e:n - m=(n - (m+1))+1:=by simp at hl;omega
   rw[e,List.range'_succ]
   obtain⟨t,rfl⟩:=hv 0 v rfl
   refine .cons ⟨t,rfl⟩ (ih (m+1) (by simp at hl;omega) (by simp at hl;omega) λj v hj=>?_)
   obtain⟨t,e⟩:=hv (j+1) v (by simpa using hj)
   exact⟨t,by rw[e];congr 1;omega⟩
 have:=this acc.toList 0 (by simpa using h1) (Nat.zero_le _) λj v hj=>by
  obtain⟨t,e⟩:=h2 j v (by simpa using hj)
  exact⟨t,by rw[e];congr 1;omega⟩
 rw[Nat.sub_zero,<-List.range_eq_range']at this
 exact this
noncomputable def WQ:List V->Hp->VK->Prop:=λxs H Q=>∃ (r:Addr) (j:Int),xs=[.ref r]/\H r=some (.rng 0 j)/\-(2 ^ 62)<=j/\j<2 ^ 62/\j.toNat<=sizeLine/\∀ p,H p=none->Q (.ref p) (upd H p (.lst (Vt j.toNat)))
theorem vU (hc:X.calm=true):CallR X (.type "list") WQ:=by
 intro pins s σ H xs us Q I r h
 obtain⟨ra,j,rfl,hr,h1,h2,hz,q⟩:=h
 obtain⟨u,rfl,rx⟩:=vals1 r
 cases rx
 obtain⟨t,u,v,hg⟩:=(show ObjOk X.prog X.w H s.heap ra (.rng 0 j) from I.hok ra _ hr)
 have hn:Builtin.Range.rangeSize 0 j 1=j.toNat:=by rw[rangeSize_one];split<;>omega
 refine call_list_range (I.ok.hd hc) hg (small_one (by omega) (by omega) h1 h2) hn (by rw[<-show (sizeLine:Nat)=2 ^ 24 from rfl];exact hz) λh' tk acc' c' hk hS hacc=>?_
 exact⟨.ref s.heap.objs.size,_,I.laid (o:=.lst (Vt j.toNat)) hk (Nat.le_refl _) ⟨by unfold Vt;simpa using hz,acc'.toList,c',xT hacc,hS⟩,rfl,q _ (I.hok.fresh (Nat.le_refl _))⟩
theorem uu (G:Hp) (n:Nat):zF K G (yw n) (Vt n):=Xx G n
theorem Vy {i:Nat}{te:TE}{m:M D}(he:RE K E te m):RS K E (tAsg (tCB WQ (tCons (zAO (tCons te tNil)) tNil)) (gName i)) (yX i m):=by
 intro G0 H0 ρ σ G H ho
 refine RSt.bind (t2:=λv D σ H1=>∃ j:Int,[v]=[V.int j]/\-(2 ^ 62)<=j/\j<2 ^ 62/\∀ p,H1 p=none->WQ [.ref p] (upd H1 p (.rng 0 j)) λx H2=>D.nx (σ.set i (some x)) H2) (he G0 H0 ρ σ G H ho) λd ρ1 v G1 H1 s1 h1 r1=>?_
 refine RSt.opt λds e=>?_
 intro D hD
 split at hD
 ·rename_i hz
  obtain⟨j,rfl,hj,rfl⟩:=xz e
  cases zJ.mp r1
  refine⟨j,rfl,hj.1,hj.2,λp hp=>⟨p,j,rfl,upd_same,hj.1,hj.2,by simpa[yw] using hz,λq hq=>?_⟩⟩
  have h2:=h1.grow (Wy (o:=.rng 0 j) h1.e.s hp) (Same.upd hp)
  exact hD _ G1 _ (Same.refl _) (h2.setNew hq (s:=.own (yw j.toNat)) ⟨q,_,rfl,upd_same,h2.e.s.free hq,h2.b.free hq,uu G1 _⟩ rfl)
 ·exact hD.elim
theorem uG {e:Expr}{m:M D}{x:Str}{p p3 p2 pos cp cp2:Pos} (i:Nat)(hN:X.N.Nodup)(hl:X.mg "list" = none)(hr:X.mg "range" = none)(h:ME X E e m)(hc:autoParam (X.calm=true) aR._auto_1)(hi:autoParam (X.N[i]? = some x) aR._auto_1)(hx:autoParam (Loc X.env.scope x) aL._auto_1)
  (hgl:autoParam (Gl X "list") aR._auto_1)(hgr:autoParam (Gl X "range") aR._auto_1)(hst:autoParam (starEach [e] X.env=[(false,eval e X.env)]) aR._auto_1)(hst2:autoParam (starEach [.Call (.Name "range" p3) [e] [] cp2] X.env=[(false,eval (.Call (.Name "range" p3) [e] [] cp2) X.env)]) aR._auto_1)
  (hs:autoParam (swapsWith (.Call (.Name "list" p) [.Call (.Name "range" p3) [e] [] cp2] [] cp) (some (.Name x p2)) pos.line X.env=pure false) aR._auto_1)(hf:autoParam (X.fn x=true\/X.env.scope.names.lookup x=some .local) aF._auto_1) :
  MS X E (.Assign [.Name x p2] (.Call (.Name "list" p) [.Call (.Name "range" p3) [e] [] cp2] [] cp) pos) (yX i m):=by
 obtain⟨t,pe,re⟩:=h
 exact⟨_,ps_set hN hi hx (pe_callTy (vU hc) hgl hl (by with_unfolding_all rfl) (pa_cons (Q9 hgr hr (pa_cons pe pa_nil hst) hst) pa_nil hst2) (by decide) (by decide) hst2 (by rfl)) hs hf,Vy re⟩
end
end PM
namespace PM
open PySem PySem.Spec PyProof.Rows L2
noncomputable def Vi (names:List (Str×NameKind))(cells:List (Str×Addr))(acc:List (Str×Addr)):List (Str×Addr):=match names with
 |[]=>acc
 |(n,k)::r=>if k == .free then Vi r cells ((n,(cells.lookup n).getD 0)::acc) else Vi r cells acc
theorem xb {x:Str}:∀ (names:List (Str×NameKind)) (n:Nat)(acc:List (Str×Addr)),((x,NameKind.cell) ∈ names\/(acc.lookup x).isSome=true)->((cellsFrom n names acc).lookup x).isSome=true
 |[],_,acc,h=>by
  rcases h with h | h
  ·simp at h
  ·exact h
 |(m,k)::r,n,acc,h=>by
  unfold cellsFrom
  split
  ·rename_i hk
   refine xb r _ _ ?_
   rcases h with h | h
   ·rcases List.mem_cons.mp h with e | h
    ·cases e;exact .inr (by simp[List.lookup_cons])
    ·exact .inl h
   ·refine .inr ?_
    rw[List.lookup_cons]
    split
    ·rfl
    ·exact h
  ·rename_i hk
   refine xb r _ _ ?_
   rcases h with h | h
   ·rcases List.mem_cons.mp h with e | h
    ·cases e;simp at hk
    ·exact .inl h
   ·exact .inr h
theorem W2 {env:Env}:∀ (names:List (Str×NameKind))(acc:List (Str×Addr)),(∀ y ∈ names,y.2=.free->(env.cells.lookup y.1).isSome=true) ->
  (forIn (m:=Sem) names acc λ(p:Str×NameKind)(r:List (Str×Addr))=>(match p with | (name,kind)=>if (kind == NameKind.free)=true then do let c <-cellOf env name;pure (ForInStep.yield ((name,c)::r)) else pure (ForInStep.yield r):Sem (ForInStep (List (Str×Addr)))))=pure (Vi names env.cells acc)
 |[],acc,_=>rfl
 |(n,k)::r,acc,h=>by
  rw[List.forIn_cons]
  have ih:=λa=>W2 (env:=env) r a λy hy=>h y (List.mem_cons_of_mem _ hy)
  unfold Vi
  by_cases hk:(k == NameKind.free)=true
  ·have hk':k=.free:=by simpa using hk
   obtain⟨c,hc⟩:=Option.isSome_iff_exists.mp (h (n,k) List.mem_cons_self hk')
   simp only at hc
   simp only[hk,if_true,cellOf,hc,Option.getD_some]
   exact ih _
  ·simp only[hk,if_false,Bool.false_eq_true]
   exact ih _
theorem W3 {cells:List (Str×Addr)}:∀ (names:List (Str×NameKind))(acc:List (Str×Addr))(p:Str×Addr),p ∈ Vi names cells acc->p ∈ acc\/((p.1,NameKind.free) ∈ names/\p.2=(cells.lookup p.1).getD 0)
 |[],acc,p,h=>.inl h
 |(n,k)::r,acc,p,h=>by
  unfold Vi at h
  split at h
  ·rename_i hk
   have hk':k=.free:=by simpa using hk
   rcases W3 r _ p h with h | h
   ·rcases List.mem_cons.mp h with rfl | h
    ·exact .inr ⟨by rw[hk'];exact List.mem_cons_self,rfl⟩
    ·exact .inl h
   ·exact .inr ⟨List.mem_cons_of_mem _ h.1,h.2⟩
  ·rcases W3 r _ p h with h | h
   ·exact .inl h
   ·exact .inr ⟨List.mem_cons_of_mem _ h.1,h.2⟩
theorem W4 {cells:List (Str×Addr)}{x:Str}:∀ (names:List (Str×NameKind))(acc:List (Str×Addr)),((x,NameKind.free) ∈ names\/(acc.lookup x).isSome=true)->((Vi names cells acc).lookup x).isSome=true
 |[],acc,h=>by
  rcases h with h | h
  ·simp at h
  ·exact h
 |(n,k)::r,acc,h=>by
  unfold Vi
  split
  ·refine W4 r _ ?_
   rcases h with h | h
   ·rcases List.mem_cons.mp h with e | h
    ·cases e;exact .inr (by simp[List.lookup_cons])
    ·exact .inl h
   ·refine .inr ?_
    rw[List.lookup_cons]
    split
    ·rfl
    ·exact h
  ·rename_i hk
   refine W4 r _ ?_
   rcases h with h | h
   ·rcases List.mem_cons.mp h with e | h
    ·cases e;simp at hk
    ·exact .inl h
   ·exact .inr h
theorem XD {α:Type}{x:Str}{a:α}:∀ {l:List (Str×α)},l.lookup x=some a->(x,a) ∈ l
 |[],h=>by simp at h
 |(n,b)::r,h=>by
  rw[List.lookup_cons]at h
  split at h
  ·rename_i e
   cases h
   rw[eq_of_beq e]
   exact List.mem_cons_self
  ·exact List.mem_cons_of_mem _ (XD h)
theorem yg {X:Cx}{scope osc:Scope}{L:Addr}{nt:Nat}{N N':List Str}{idx:List Nat}(hsc:X.env.scope=osc)(hcl:X.env.cells=cellsFrom (L+1) osc.names [])(hN:X.N=N)(kind:scope.kind=.function)
  (nocell:∀ y ∈ scope.names,y.2≠.cell)(names:∀ y ∈ scope.names,y.2=.local->scope.names.lookup y.1=some .local)(hf:∀ y ∈ scope.names,y.2=.free->(y.1,NameKind.cell) ∈ osc.names)
  (len:N'.length=nt+idx.length+1)(cap:∀ j<idx.length,∃ x ∈ N,idx[j]?.bind (λi=>N[i]?)=some x/\N'[nt+j]? = some x/\scope.names.lookup x=some .free/\osc.names.lookup x=some .cell)
  (acc:∃ x ∈ N',N'[nt+idx.length]? = some x/\scope.names.lookup x=none):BlkScope X scope (Vi scope.names X.env.cells []) nt N' idx where
 clos:=by
  have:=W2 (env:=X.env) scope.names [] λy hy hk=>by rw[hcl];exact xb _ _ _ (.inl (hf y hy hk))
  exact Eq.trans (b:=(_ >>= λcs=>pure cs)) rfl (congrArg (λ(t:Sem (List (Str×Addr)))=>t >>= λcs=>pure cs) this)
 kind:=kind
 nocell:=nocell
 names:=names
 sub:=λx c h=>by
  rcases W3 _ _ _ (XD h) with q | ⟨q1,q2⟩
  ·simp at q
  ·have hs:(X.env.cells.lookup x).isSome=true:=by rw[hcl];exact xb _ _ _ (.inl (hf _ q1 rfl))
   obtain⟨d,hd⟩:=Option.isSome_iff_exists.mp hs
   simp only at q2
   rw[hd]at q2 ⊢
   rw[q2]
   rfl
 has:=λx h=>W4 _ _ (.inl (XD h))
 len:=len
 cap:=λj i h=>by
  have hj:=(List.getElem?_eq_some_iff.mp h).1
  obtain⟨x,_,h1,h2,h3,h4⟩:=cap j hj
  rw[h]at h1
  exact⟨x,by rw[hN];exact h1,h2,h3,by rw[hsc];exact h4⟩
 acc:=let ⟨x,_,h1,h2⟩:=acc;⟨x,h1,h2⟩
end PM
namespace PM
open PySem PySem.Spec PyProof.Rows L2
structure ErrT (K:PySem.W.Frag)(mg:Str->Option Value)(A:Cls):Prop where
 c_BoxError:mg "BoxError" = some (.ref A.be)
 c_BadMachine:mg "BadMachine" = some (.ref A.bm)
 c_BadWord:mg "BadWord" = some (.ref A.bw)
 c_TooMany:mg "TooMany" = some (.ref A.tm)
 c_BadText:mg "BadText" = some (.ref A.bt)
 e_BoxError:PySem.W.excIn K A.be Yk yG=true
 e_BadMachine:PySem.W.excIn K A.bm Yk yG=true
 e_BadWord:PySem.W.excIn K A.bw Yk yG=true
 e_TooMany:PySem.W.excIn K A.tm Yk yG=true
 e_BadText:PySem.W.excIn K A.bt Yk yG=true
 caught:∀ c ∈ A.all,PySem.W.excIn K c Yk yG=true/\PySem.W.mroIn K c (.ref A.be)=some true
 i_BadMachine:∀ a b,A.is A.bm a=some b->(PySem.W.clsIn K a).isSome=true/\ExcCls K a/\PySem.W.kitOne K (.ref a) (.ref A.bm)=some b
 i_BadWord:∀ a b,A.is A.bw a=some b->(PySem.W.clsIn K a).isSome=true/\ExcCls K a/\PySem.W.kitOne K (.ref a) (.ref A.bw)=some b
 i_TooMany:∀ a b,A.is A.tm a=some b->(PySem.W.clsIn K a).isSome=true/\ExcCls K a/\PySem.W.kitOne K (.ref a) (.ref A.tm)=some b
 i_BadText:∀ a b,A.is A.bt a=some b->(PySem.W.clsIn K a).isSome=true/\ExcCls K a/\PySem.W.kitOne K (.ref a) (.ref A.bt)=some b
 i_VE:∀ a b,A.isVE a=some b->(PySem.W.clsIn K a).isSome=true/\ExcCls K a/\PySem.W.kitOne K (.ref a) (.type "ValueError")=some b
end PM
namespace PM
open PySem PySem.Spec PyProof.Rows L2
section
variable {prog:Program}{w:World}{A:Around}{E:Value->Shared->Prop}{s:Shared}
noncomputable abbrev xB (led:Bool):Obj:={ cls:=.type "set",dict:=none,data:=.set #[] 0 (.fresh 0 0 led) }
structure SeqWalk (prog:Program)(w:World) (T:String)(l:Addr)(items:Array Value)(io:Obj)(St:Addr->Nat->Heap->Prop):Prop where
 nset:isSubtype (.type T) (.type "set")=pure false
 nfro:isSubtype (.type T) (.type "frozenset")=pure false
 ndic:(Value.type T == Value.type "dict")=false
 iter:∀ (A:Around)(E:Value->Shared->Prop)(s:Shared)(Q:Value->Shared->Prop),(∃ o n,s.heap.get? l=some o/\o.cls=.type T/\o.data=.seq items n)->Q (.ref s.heap.objs.size) { s with heap:=s.heap.push io }->wpAny (model prog w) A (pyIter (.ref l)) Q E s
 walk:∀ (A:Around)(I:Addr),A.handled=none->l≠I->Walks prog w A I [I,l] [I] items.size (λi v=>items[i]? = some v) (St I)
 zero:∀ (h:Heap),(∃ o n,h.get? l=some o/\o.cls=.type T/\o.data=.seq items n)->St h.objs.size 0 (h.push io)
theorem VF {l:Addr}{items:Array Value}:SeqWalk prog w "list" l items { cls:=.type "list_iterator",data:=.fields #[.ref l,.int 0 0] } (λI i h=>h.IsListIter I l i/\h.IsList l items) where
 nset:=F.sub_list_set
 nfro:=F.sub_list_frozenset
 ndic:=by decide
 iter:=λA E s Q ⟨o,n,h1,h2,h3⟩ q=>wpAny_pyIter_list ⟨o,h1,h2,n,h3⟩ q
 walk:=λA I hh hne=>Walks.list hh I l hne items
 zero:=λh ⟨o,n,h1,h2,h3⟩=>⟨⟨_,Heap.get?_push_size _ rfl,rfl,rfl⟩,Heap.IsList.push (show h.IsList l items from ⟨o,h1,h2,n,h3⟩) _⟩
theorem vH {l:Addr}{items:Array Value}:SeqWalk prog w "tuple" l items { cls:=.type "tuple_iterator",data:=.fields #[.ref l,.int 0 0] } (λI i h=>h.IsTupleIter I l i/\h.IsTuple l items) where
 nset:=by rw[isSubtype_type];kernel_rfl
 nfro:=by rw[isSubtype_type];kernel_rfl
 ndic:=by decide
 iter:=λA E s Q ⟨o,n,h1,h2,h3⟩ q=>wpAny_pyIter_tuple ⟨o,h1,h2,n,h3⟩ q
 walk:=λA I hh hne=>Walks.tuple hh I l hne items
 zero:=λh ⟨o,n,h1,h2,h3⟩=>⟨⟨_,Heap.get?_push_size _ rfl,rfl,rfl⟩,⟨o,Heap.get?_push_of_some _ h1,h2,n,h3⟩⟩
end
end PM
namespace PM
open PySem PySem.Spec PyProof.Rows L2
noncomputable def Ris (l:List Nat):Prop:=l.Pairwise (· < ·)
structure TabOk (led:Bool)(t:SetTable):Prop where
 led:t.led=led
 dum:t.dummies=#[]
 ris:Ris t.place.toList
theorem VH {l:List Nat}(h:Ris l){i j a b:Nat}(hij:i<j)(ha:l[i]? = some a)(hb:l[j]? = some b):a<b:=by
 obtain⟨hi,rfl⟩:=List.getElem?_eq_some_iff.mp ha
 obtain⟨hj,rfl⟩:=List.getElem?_eq_some_iff.mp hb
 exact List.pairwise_iff_getElem.mp h i j hi hj hij
theorem Vd {xs:Array Nat}{j:Nat}(hr:Ris xs.toList):∀ (f lo hi:Nat),hi - lo<=f->lo<=hi->hi<=xs.size->(∀ i a,xs.toList[i]? = some a->i<lo->a<j)->(∀ i a,xs.toList[i]? = some a->hi<=i->j<=a) ->
  SetTable.below.go xs j f lo hi<=xs.size/\(∀ i a,xs.toList[i]? = some a->i<SetTable.below.go xs j f lo hi->a<j)/\∀ i a,xs.toList[i]? = some a->SetTable.below.go xs j f lo hi<=i->j<=a
 |0,lo,hi,h1,h2,h3,h4,h5=>by
  unfold SetTable.below.go
  exact⟨by omega,h4,λi a ha hi'=>h5 i a ha (by omega)⟩
 |f+1,lo,hi,h1,h2,h3,h4,h5=>by
  unfold SetTable.below.go
  by_cases hlt:lo<hi
  ·rw[if_pos hlt]
   have hm:(lo+hi) / 2<xs.size:=by omega
   have hg:xs.toList[(lo+hi) / 2]? = some xs[(lo+hi) / 2]:=by simp[hm]
   have hgd:xs.getD ((lo+hi) / 2) j=xs[(lo+hi) / 2]:=by simp[Array.getD,hm]
   simp only[hgd]
   by_cases hc:xs[(lo+hi) / 2]<j
   ·rw[if_pos hc]
    refine Vd hr f _ _ (by omega) (by omega) h3 (λi a ha hi'=>?_) h5
    by_cases e:i=(lo+hi) / 2
    ·subst e;rw[hg]at ha;cases ha;exact hc
    ·exact Nat.lt_trans (VH hr (by omega) ha hg) hc
   ·rw[if_neg hc]
    refine Vd hr f _ _ (by omega) (by omega) (by omega) h4 λi a ha hi'=>?_
    by_cases e:i=(lo+hi) / 2
    ·subst e;rw[hg]at ha;cases ha;omega
    ·have:=VH hr (show (lo+hi) / 2<i by omega) hg ha
     omega
  ·rw[if_neg hlt]
   exact⟨by omega,h4,λi a ha hi'=>h5 i a ha (by omega)⟩
theorem Yl {xs:Array Nat}{j:Nat}(hr:Ris xs.toList):SetTable.below xs j<=xs.size/\(∀ i a,xs.toList[i]? = some a->i<SetTable.below xs j->a<j)/\∀ i a,xs.toList[i]? = some a->SetTable.below xs j<=i->j<=a:=
 Vd hr _ _ _ (by omega) (Nat.zero_le _) (Nat.le_refl _) (λi a _ h=>absurd h (Nat.not_lt_zero _)) λi a ha h=>absurd (List.getElem?_eq_some_iff.mp ha).1 (by simpa using h)
theorem Ub {xs:Array Nat}(hr:Ris xs.toList){i a:Nat}(h:xs.toList[i]? = some a):SetTable.below xs (a+1)=i+1:=by
 obtain⟨h1,h2,h3⟩:=Yl (j:=a+1) hr
 have hi:i<xs.size:=by simpa using (List.getElem?_eq_some_iff.mp h).1
 have g1:¬ SetTable.below xs (a+1)<=i:=λq=>by have:=h3 i a h q;omega
 have g2:¬ i+1<SetTable.below xs (a+1):=λq=>by
  have hs:i+1<xs.toList.length:=by simp;omega
  have:=h2 (i+1) _ (List.getElem?_eq_getElem hs) q
  have:=VH hr (Nat.lt_succ_self i) h (List.getElem?_eq_getElem hs)
  omega
 omega
theorem Ua {xs:Array Nat}(hr:Ris xs.toList):SetTable.below xs 0=0:=by
 obtain⟨h1,h2,h3⟩:=Yl (j:=0) hr
 by_cases h:SetTable.below xs 0=0
 ·exact h
 ·have hs:0<xs.toList.length:=by simp;omega
  have:=h2 0 _ (List.getElem?_eq_getElem hs) (by omega)
  omega
theorem vo (j:Nat):SetTable.has #[] j=false:=by simp[SetTable.has]
theorem qU {t:SetTable}{led:Bool}(ok:TabOk led t){j:Nat}(h:t.slot j=.empty):j ∉ t.place.toList:=λhm=>by
 obtain⟨k,hk⟩:=List.mem_iff_getElem?.mp hm
 obtain⟨h1,h2,h3⟩:=Yl (j:=j) ok.ris
 have hkl:=(List.getElem?_eq_some_iff.mp hk).1
 have hb:SetTable.below t.place j<=k:=Nat.le_of_not_lt λq=>absurd (h2 k j hk q) (Nat.lt_irrefl _)
 have e:SetTable.below t.place j=k:=by
  refine Nat.le_antisymm hb (Nat.le_of_not_lt λq=>?_)
  have hs:SetTable.below t.place j<t.place.toList.length:=by omega
  have g:=h3 _ _ (List.getElem?_eq_getElem hs) (Nat.le_refl _)
  have:=VH ok.ris q (List.getElem?_eq_getElem hs) hk
  omega
 unfold SetTable.slot at h
 have hk':t.place[SetTable.below t.place j]? = some j:=by rw[e];simpa using hk
 simp[hk']at h
theorem VE {t:SetTable}{led:Bool}(ok:TabOk led t) (j:Nat):t.slot j≠.dummy:=by
 unfold SetTable.slot
 rw[ok.dum,vo]
 simp only
 split
 ·simp
 ·simp
theorem Qa (t:SetTable)(p:SetTable.Probe):(t.advance p).dummy=p.dummy:=by
 unfold SetTable.advance
 split<;>rfl
theorem WT {t:SetTable}{led:Bool}(ok:TabOk led t){h:Int}:∀ (f:Nat)(p:SetTable.Probe),p.dummy=none->∀ m,SetTable.probe.go t (λ_=>h+1) h f p=some m->∃ j,m=.empty j none/\t.slot j=.empty
 |0,p,_,m,e=>by simp[SetTable.probe.go]at e
 |f+1,p,hp,m,e=>by
  unfold SetTable.probe.go at e
  cases q:t.slot p.j with
  |empty=>
   rw[q]at e
   simp only[hp,Option.some.injEq]at e
   exact⟨p.j,e.symm,q⟩
  |dummy=>exact absurd q (VE ok _)
  |live i=>
   rw[q]at e
   have hne:(h+1 == h)=false:=by simp;omega
   simp only[hne,Bool.false_eq_true,if_false]at e
   exact WT ok f (t.advance p) (by rw[Qa,hp]) m e
theorem qf (n:Nat):Ris (Array.range n).toList:=by
 rw[Array.toList_range]
 exact List.pairwise_lt_range
theorem YZ {t:SetTable}{led:Bool}(h:t.led=led) (n:Nat):TabOk led (t.standIn n):=⟨h,rfl,qf n⟩
theorem Kr {t:SetTable}{led:Bool}(ok:TabOk led t){j:Nat}(h:t.slot j=.empty):TabOk led (t.put j).1:=by
 refine⟨ok.led,?_,?_⟩
 ·show (if SetTable.has t.dummies j=true then _ else t.dummies)=#[]
  rw[ok.dum,vo]
  rfl
 ·show Ris (SetTable.insertAt t.place (SetTable.below t.place j) j).toList
  obtain⟨h1,h2,h3⟩:=Yl (j:=j) ok.ris
  have hn:=qU ok h
  have e:(SetTable.insertAt t.place (SetTable.below t.place j) j).toList=t.place.toList.take (SetTable.below t.place j)++j::t.place.toList.drop (SetTable.below t.place j):=by
   unfold SetTable.insertAt
   simp
   rw[List.take_of_length_le (by simp)]
  rw[e]
  refine List.pairwise_append.mpr ⟨ok.ris.sublist (List.take_sublist _ _),List.pairwise_cons.mpr ⟨λa ha=>?_,ok.ris.sublist (List.drop_sublist _ _)⟩,λa ha b hb=>?_⟩
  ·obtain⟨i,hi⟩:=List.mem_iff_getElem?.mp ha
   rw[List.getElem?_drop]at hi
   have:=h3 _ a hi (Nat.le_add_right _ _)
   have:a≠j:=λq=>hn (q ▸ List.mem_of_getElem? hi)
   omega
  ·obtain⟨i,hi⟩:=List.mem_iff_getElem?.mp ha
   rw[List.getElem?_take]at hi
   split at hi
   ·rename_i hlt
    have haj:=h2 i a hi hlt
    rcases List.mem_cons.mp hb with rfl | hb
    ·exact haj
    ·obtain⟨k,hk⟩:=List.mem_iff_getElem?.mp hb
     rw[List.getElem?_drop]at hk
     have:=h3 _ b hk (Nat.le_add_right _ _)
     omega
   ·cases hi
theorem q9 {t:SetTable}{led:Bool}(ok:TabOk led t)(es:Array (Int×Value)) (h:Int) (x:Value):TabOk led (layNew t es h x).2.1:=by
 unfold layNew
 cases q:t.freeSlot h with
 |none=>exact YZ ok.led _
 |some p=>
  obtain⟨sl,wd⟩:=p
  have hs:t.slot sl=.empty:=by
   unfold SetTable.freeSlot at q
   cases r:t.probe (λ_=>h+1) h (t.probeStart h) with
   |none=>rw[r]at q;cases q
   |some m=>
    obtain⟨j,rfl,hj⟩:=WT ok _ _ rfl m r
    rw[r]at q
    simp at q
    rw[<-q.1]
    exact hj
  have pk:=Kr ok hs
  dsimp only
  unfold SetTable.orStandIn
  split
  ·exact pk
  ·exact YZ pk.led _
theorem Vz {α:Type}(f:Nat->Option α):∀ (l:List Nat),Ris l->Ris ((l.filterMap λj=>(f j).map (j,·)).map (·.1))/\∀ a ∈ (l.filterMap λj=>(f j).map (j,·)).map (·.1),a ∈ l
 |[],_=>⟨List.Pairwise.nil,λa h=>by simp at h⟩
 |b::r,h=>by
  obtain⟨h1,h2⟩:=List.pairwise_cons.mp h
  obtain⟨i1,i2⟩:=Vz f r h2
  rw[List.filterMap_cons]
  cases f b with
  |none=>exact⟨i1,λa ha=>List.mem_cons_of_mem _ (i2 a ha)⟩
  |some x=>exact⟨List.pairwise_cons.mpr ⟨λa ha=>h1 a (i2 a ha),i1⟩,λa ha=>by
    rcases List.mem_cons.mp ha with rfl | ha
    ·exact List.mem_cons_self
    ·exact List.mem_cons_of_mem _ (i2 a ha)⟩
theorem V2 {t:SetTable}{led:Bool}(ok:TabOk led t)(es:Array (Int×Value)) (n:Nat):TabOk led (relayAll t es n).2.1:=by
 unfold relayAll
 cases q:t.relaid (es.map (·.1)) n with
 |none=>exact YZ ok.led _
 |some p=>
  obtain⟨t',order⟩:=p
  dsimp only
  split
  ·unfold SetTable.relaid SetTable.laid at q
   cases r:SetTable.layClean (SetTable.sizeAbove n - 1) (es.map (·.1)) with
   |none=>rw[r]at q;cases q
   |some owner=>
    rw[r]at q
    simp only[Option.bind_eq_bind,Option.bind_some,Option.pure_def,Option.some.injEq,Prod.mk.injEq]at q
    obtain⟨rfl,_⟩:=q
    refine⟨ok.led,rfl,?_⟩
    have:=(Vz (λj=>owner.getD j none) (List.range (SetTable.sizeAbove n - 1+1)) List.pairwise_lt_range).1
    simpa using this
  ·exact YZ ok.led _
theorem jq (led:Bool):TabOk led (.fresh 0 0 led):=⟨rfl,rfl,List.Pairwise.nil⟩
end PM
namespace PM
open PySem PySem.Spec PyProof.Rows L2
noncomputable def vR:Value->Int
 |.int k _=>k
 |_=>0
noncomputable def yz (prog:Program)(w:World)(led:Bool)(a:Addr)(ns:List Int)(h:Heap):Prop:=
 ∃ (ob:Obj)(en:Array (Int×Value)) (age:Nat)(tb:SetTable),h.get? a=some ob/\ob.ExactSet/\ob.data=.set en age tb/\ElemsOf (intKind prog w) en.toList/\(en.toList.map λe=>vR e.2).Perm ns/\en.size<scanBound/\tb.fits en.size=true/\TabOk led tb
section
variable {prog:Program}{w:World}{A:Around}{E:Value->Shared->Prop}{s:Shared}{a:Addr}{led:Bool}{ns:List Int}
theorem yz.keep {h h':Heap}(x:yz prog w led a ns h)(k:∀ o,h.get? a=some o->h'.get? a=some o):yz prog w led a ns h':=by
 obtain⟨ob,en,age,tb,g,r⟩:=x
 exact⟨ob,en,age,tb,k ob g,r⟩
theorem wA {k:Int}{v:Value}(h:(intKind prog w).is k v=true):vR v=k:=by
 obtain⟨t,rfl⟩:=Value.isInt_shape h
 rfl
theorem ju {l:List (Int×Value)}(h:ElemsOf (intKind prog w) l){e:Int×Value}(he:e ∈ l):(intKind prog w).is (vR e.2) e.2=true:=by
 obtain⟨⟨k,hk,_⟩,_⟩:=h e he
 rw[wA hk]
 exact hk
theorem yz.stored {h:Heap}{ob:Obj}{en en':Array (Int×Value)}{age:Nat}{tb tb':SetTable}(g:h.get? a=some ob)(ex:ob.ExactSet)(d:ob.data=.set en age tb)(el:ElemsOf (intKind prog w) en'.toList)(p:(en'.toList.map λe=>vR e.2).Perm ns)
  (hb:en'.size<scanBound)(hf:tb'.fits en'.size=true)(ok:TabOk led tb'):(h.update a (Obj.putSet en' tb')).get? a=some { ob with data:=.set en' (age+1) tb' }/\yz prog w led a ns (h.update a (Obj.putSet en' tb')):=by
 have z:(h.update a (Obj.putSet en' tb')).get? a=some { ob with data:=.set en' (age+1) tb' }:=by
  have y:=Heap.get?_update_self (Obj.putSet en' tb') g (by rw[putSet_of en' tb' d];rfl)
  rwa [putSet_of en' tb' d]at y
 exact⟨z,_,en',age+1,tb',z,ex,rfl,el,p,hb,hf,ok⟩
theorem V7 {tb:SetTable}(ok:TabOk led tb):TabOk led { tb with plain:=false }:=⟨ok.led,ok.dum,ok.ris⟩
theorem vE {g:Bool->Sem Unit}(hg:∀ (b:Bool)(s₁:Shared)(Q':Unit->Shared->Prop),Q' () s₁->wpAny (model prog w) A (g b) Q' E s₁){ob:Obj}{en en1:Array (Int×Value)}{age:Nat}{tb tb1:SetTable}{was:Bool}{R:Option Bool->Shared->Prop}
  (h0:s.heap.get? a=some ob)(ex:ob.ExactSet)(d:ob.data=.set en age tb)(el:ElemsOf (intKind prog w) en1.toList)(p:(en1.toList.map λe=>vR e.2).Perm ns)(hb:en1.size<scanBound)(hf:tb1.fits en1.size=true)(ok:TabOk led tb1)
  (k:∀ h',Heap.SameBut a s.heap h'->yz prog w led a ns h'->R (some true) { s with heap:=h' }) :
  wpAny (model prog w) A (storeSet a en1 tb1 >>= λ_=>if (!was && tb1.tooFull)=true then (g (relayAll tb1 en1 (SetTable.grown en1.size)).2.2 >>= λ_=>storeSet a (relayAll tb1 en1 (SetTable.grown en1.size)).1 (relayAll tb1 en1 (SetTable.grown en1.size)).2.1 >>= λ_=>pure (some true)) else pure (some true)) R E s:=by
 obtain⟨z1,j1⟩:=yz.stored h0 ex d el p hb hf ok
 have sb:=Heap.SameBut.update s.heap a (Obj.putSet en1 tb1)
 refine wpAny_bind (wpAny_storeSet_of h0 d ?_ (fits_of_scanBound hb))
 by_cases c:(!was && tb1.tooFull)=true
 ·rw[if_pos c]
  have q1:=relayAll_perm tb1 en1 (SetTable.grown en1.size)
  have q2:=relayAll_fits tb1 en1 (SetTable.grown en1.size)
  have q3:=V2 ok en1 (SetTable.grown en1.size)
  have q4:(relayAll tb1 en1 (SetTable.grown en1.size)).1.size=en1.size:=by simpa using q1.length_eq
  have hb2:(relayAll tb1 en1 (SetTable.grown en1.size)).1.size<scanBound:=by rw[q4];exact hb
  refine wpAny_bind (hg _ _ _ (wpAny_bind (wpAny_storeSet_of z1 rfl ?_ (fits_of_scanBound hb2))))
  obtain⟨_,j2⟩:=yz.stored (ns:=ns) (led:=led) z1 ex rfl (el.perm q1) ((q1.map _).trans p) hb2 q2 q3
  exact wpAny_pure (k _ (sb.trans (Heap.SameBut.update _ a _)) j2)
 ·rw[if_neg c]
  exact wpAny_pure (k _ sb j1)
theorem zAk {k:Int}{x:Value}{Q:Bool->Shared->Prop}(hx:(intKind prog w).is k x=true)(J:yz prog w led a ns s.heap)(room:ns.length+1<scanBound)
  (q0:k ∈ ns->Q false s)(q1:k ∉ ns->∀ h',Heap.SameBut a s.heap h'->yz prog w led a (ns++[k]) h'->Q true { s with heap:=h' }):wpAny (model prog w) A (setAddHashed a x ((intKind prog w).hash k)) Q E s:=by
 obtain⟨ob,en,age,tb,h0,ex,d,el,p,hb,hf,ok⟩:=J
 have hsc:x.scannable=true:=by obtain⟨t,rfl⟩:=Value.isInt_shape hx;rfl
 have hlen:en.size=ns.length:=by simpa using p.length_eq
 unfold setAddHashed setAddHashedIn
 refine wpAny_holding (wpAny_bind (wpAny_setState_of h0 d hf ?_))
 dsimp only
 rw[if_pos (byScan_of hsc hb el)]
 unfold setAddByScan
 refine wpAny_bind (wpAny_bind (wpAny_rule (wpAny_bind (wpAny_setScan_of hx h0 d hf el ?_))))
 have mem:∀ z:Int,z ∈ ns ↔ ∃ e ∈ en.toList,(intKind prog w).is z e.2=true:=λz=>by
  rw[<-p.mem_iff]
  constructor
  ·intro hz
   obtain⟨e,he,rfl⟩:=List.mem_map.mp hz
   exact⟨e,he,ju el he⟩
  ·rintro⟨e,he,hz⟩
   exact List.mem_map.mpr ⟨e,he,wA hz⟩
 cases hr:en.toList.findIdx? (λe=>(intKind prog w).is k e.2) with
 |some j=>
  obtain⟨hj,hp,_⟩:=List.findIdx?_eq_some_iff_getElem.mp hr
  exact wpAny_pure (wpAny_pure (q0 ((mem k).mpr ⟨_,List.getElem_mem hj,hp⟩)))
 |none=>
  have hk:k ∉ ns:=λhm=>by
   obtain⟨e,he,hz⟩:=(mem k).mp hm
   have:=List.findIdx?_eq_none_iff.mp hr e he
   rw[hz]at this
   cases this
  have w1:=layNew_perm tb en ((intKind prog w).hash k) x
  have w2:=layNew_fits tb en ((intKind prog w).hash k) x
  have w3:=q9 ok en ((intKind prog w).hash k) x
  dsimp only
  generalize layNew tb en ((intKind prog w).hash k) x=L at w1 w2 w3 ⊢
  obtain⟨en1,tb1,was,gave⟩:=L
  dsimp only at w1 w2 w3 ⊢
  rw[Array.toList_push]at w1
  have el1:ElemsOf (intKind prog w) en1.toList:=(el.push hx hsc).perm w1
  have p1:(en1.toList.map λe=>vR e.2).Perm (ns++[k]):=by
   refine (w1.map _).trans ?_
   rw[List.map_append]
   refine List.Perm.append p ?_
   rw[List.map_cons,List.map_nil,wA hx]
  have hb1:en1.size<scanBound:=by
   have:=p1.length_eq
   simp at this
   omega
  have gw:∀ (b:Bool)(s₁:Shared)(Q':Unit->Shared->Prop),Q' () s₁->wpAny (model prog w) A (match b with | true=>rule "set.scan.the-table-gave-way" | false=>pure ()) Q' E s₁:=λb s₁ Q' hq=>by
   cases b
   ·exact wpAny_pure hq
   ·exact wpAny_rule hq
  refine wpAny_bind (gw _ _ _ ?_)
  have fin:∀ h',Heap.SameBut a s.heap h'->yz prog w led a (ns++[k]) h'->Q true { s with heap:=h' }:=λh' z1 z2=>q1 hk h' z1 z2
  split
  ·refine wpAny_bind ?_
   rw[hashByValue_scannable 8 hsc]
   refine wpAny_pure (vE gw h0 ex d el1 p1 hb1 ?_ ?_ λh' z1 z2=>wpAny_pure (fin h' z1 z2))
   ·split
    ·exact w2
    ·exact SetTable.fits_plain_off w2
   ·split
    ·exact w3
    ·exact V7 w3
  ·refine wpAny_bind (wpAny_pure ?_)
   rw[if_pos rfl]
   exact vE gw h0 ex d el1 p1 hb1 w2 w3 λh' z1 z2=>wpAny_pure (fin h' z1 z2)
end
end PM
namespace PM
open PySem PySem.Spec PyProof.Rows L2
noncomputable def zi (acc:List Int):List Int->List Int
 |[]=>acc
 |k::r=>zi (if k ∈ acc then acc else acc++[k]) r
section
variable {prog:Program}{w:World}{A:Around}{E:Value->Shared->Prop}{R:Result->Shared->Prop}{I:Addr}{fp wr:List Addr}{Gr:Array GenState->Array GenState->Prop}{n:Nat}{Pv:Nat->Value->Prop}{St:Nat->Shared->Prop}{led:Bool}
theorem uj (W:WalksS prog w A.in1 I fp wr Gr n Pv St)(S:Addr)(hS:S ∉ fp)(ks:List Int)(hn:ks.length=n)(hv:∀ i v,Pv i v->∃ t,v=.int (ks.getD i 0) t) :
  ∀ (k i:Nat)(s:Shared)(acc:List Int),n - i=k->i<=n->St i s->acc.length+(n - i)+1<scanBound->yz prog w led S acc s.heap ->
   (∀ s',Moved (S::wr) Gr s s'->yz prog w led S (zi acc (ks.drop i)) s'.heap->R (.ok (.ret .none)) s')->codeAny (model prog w) A (.builtin "set.update.loop" ⟨[.ref S,.ref I],[]⟩) R s:=by
 have ns:S ∉ wr:=λz=>hS (W.sub _ z)
 have up:∀ b ∈ wr,b ∈ S::wr:=λb z=>List.mem_cons_of_mem _ z
 intro k
 induction k with
 |zero=>
  intro i s acc hk hi st hb J fin
  obtain rfl:i=n:=by omega
  apply codeAny_builtin F.entry_set_update_loop
  rw[Around.under_plainId F.plain_set_update_loop _];change wpAny _ A.in1 (pyNext (.ref I) >>= _) _ _ s
  refine wpAny_bind (W.done s _ _ st λs' mv=>?_)
  change wpAny _ A.in1 (ret Value.none) _ _ s'
  refine wpAny_pure (fin s' (mv.mono up) ?_)
  rw[List.drop_of_length_le (by omega)]
  exact J.keep λo=>mv.heap S o ns
 |succ k ih=>
  intro i s acc hk hi st hb J fin
  have hlt:i<n:=by omega
  have ek:ks.drop i=ks.getD i 0::ks.drop (i+1):=by
   rw[List.drop_eq_getElem_cons (by omega),List.getD_eq_getElem?_getD,List.getElem?_eq_getElem (by omega)]
   rfl
  apply codeAny_builtin F.entry_set_update_loop
  rw[Around.under_plainId F.plain_set_update_loop _];change wpAny _ A.in1 (pyNext (.ref I) >>= _) _ _ s
  refine wpAny_bind (W.item i s _ _ hlt st λv s1 pv st1 mv=>?_)
  obtain⟨t,rfl⟩:=hv i v pv
  have J1:yz prog w led S acc s1.heap:=J.keep λo=>mv.heap S o ns
  change wpAny _ A.in1 (holding [Value.int (ks.getD i 0) t] (setAdd S (.int (ks.getD i 0) t)) >>= _) _ _ s1
  apply wpAny_bind
  apply wpAny_holding
  unfold setAdd
  apply wpAny_holding
  refine wpAny_bind ((intKind prog w).pyHash (k:=ks.getD i 0) (intKind_is _ _ _ _) ?_)
  rw[ek]at fin
  -- behind the addition: the next turn
  have again1:∀ (h2:Heap)(acc2:List Int),acc2=(if ks.getD i 0 ∈ acc then acc else acc++[ks.getD i 0])->(∀ b o,b≠S->s1.heap.get? b=some o->h2.get? b=some o)->yz prog w led S acc2 h2 ->
    codeAny (model prog w) A (.builtin "set.update.loop" ⟨[.ref S,.ref I],[]⟩) R { s1 with heap:=h2,toks:=s1.toks+1 }:=λh2 acc2 e2 k2 J2=>by
   have hl2:acc2.length<=acc.length+1:=by rw[e2];split<;>simp
   refine ih (i+1) _ acc2 (by omega) hlt (W.frame _ s1 _ _ st1 (Nat.le_succ _) λb hb o e=>k2 b o (λz=>hS (z ▸ hb)) e) (by omega) J2 λs3 m3 J3=>?_
   refine fin s3 (Moved.trans W.gtrans ((mv.mono up).then_heap (Nat.le_succ _) λb o hb e=>k2 b o (λz=>hb (by rw[z];exact List.mem_cons_self)) e) m3) ?_
   show yz prog w led S (zi (if ks.getD i 0 ∈ acc then acc else acc++[ks.getD i 0]) (ks.drop (i+1))) s3.heap
   rw[<-e2]
   exact J3
  refine zAk (s:={ s1 with toks:=s1.toks+1 }) (intKind_is _ _ _ _) J1 (by omega) (λhm=>?_) λhm h2 sb J2=>?_
  ·exact wpAny_pure ⟨plainId_quiet F.plain_set_update_loop _,again1 s1.heap acc (by rw[if_pos hm]) (λb o _ e=>e) J1⟩
  ·exact wpAny_pure ⟨plainId_quiet F.plain_set_update_loop _,again1 h2 (acc++[ks.getD i 0]) (by rw[if_neg hm]) (λb o hb e=>(sb.2 b hb).trans e) J2⟩
theorem zAc {s:Shared} (x:Value){Q₁:Value->Shared->Prop}(hq:Q₁ (.ref s.heap.objs.size) { s with heap:=s.heap.push (xB (!w.params.followText "set-order")) }) :
  codeAny (model prog w) A (.call (.builtin "set.__new__") ⟨[.type "set",x],[]⟩) (wants Q₁ E) s:=by
 apply codeAny_of_tree
 change wpAny _ A.in1 (checkBuiltinCall "set.__new__" ⟨[.type "set",x],[]⟩ >>= λ_=>again (.builtin "set.__new__" ⟨[.type "set",x],[]⟩)) _ _ s
 apply wpAny_bind;apply wpAny_of_eq (F.newCall_set_1 x)
 refine wpAny_pure ⟨plainId_quiet F.plain_set_new _,?_⟩
 apply codeAny_builtin F.entry_set_new
 rw[Around.under_plainId F.plain_set_new _];unfold Builtin.«set.__new__» Builtin.Frozenset.newClass
 have z:=sub_set_self
 obtain⟨h,g,d,t,os⟩:=s
 dsimp only
 wp_walk
 refine wpAny_askSetting (wpAny_pure ?_);dsimp only
 simp only[newObj];refine wpAny_bind (wpAny_alloc (wpAny_pure ?_))
 exact wpAny_pure hq
end
end PM
namespace PM
open PySem PySem.Spec PyProof.Rows L2
section
variable {prog:Program}{w:World}{A:Around}{E:Value->Shared->Prop}{s:Shared}
set_option maxHeartbeats 3200000 in
theorem W5 {T:String}{l:Addr}{items:Array Value}{ns:List Int}{io ol:Obj}{nl:Nat}{St:Addr->Nat->Heap->Prop}{Q:Value->Shared->Prop}(SW:SeqWalk prog w T l items io St)
  (hh:A.handled=none)(hol:s.heap.get? l=some ol)(hcl:ol.cls=.type T)(hdl:ol.data=.seq items nl)(hi:IntsAre items.toList ns)(hb:items.size+1<scanBound)
  (h:∀ (h':Heap) (tk:Nat),yz prog w (!w.params.followText "set-order") s.heap.objs.size (zi [] ns) h' ->
   (∀ b o,b<s.heap.objs.size->s.heap.get? b=some o->h'.get? b=some o)->Q (.ref s.heap.objs.size) { s with heap:=h',toks:=tk }) :
  wpAny (model prog w) A (call (.type "set") [.ref l]) Q E s:=by
 obtain⟨c,tl,hmro⟩:=F.called_set.mro
 have m1:=F.called_set.made
 have m2:=F.called_set.sub
 refine wpAny_call (codeAny_of_tree ?_)
 show wpAny _ _ (callAny (.type "set") _) _ _ _
 refine wpAny_pure ⟨Code.quiet_builtin _ (by decide +kernel),codeAny_builtin F.entry_type_call ?_⟩
 rw[Around.under_plain (weight_type_call_type "set" [.ref l] []) rfl]
 have m3:=F.called_set.notType
 have m4:=F.called_set.canCreate
 have m5:=F.typeCall_set_1 (.ref l)
 repeat (any_goals (first | assumption | wp_step))
 generalize hld:(!w.params.followText "set-order")=led at h
 refine codeAny_mono (zAc (.ref l) (E:=E) (Q₁:=λobj s₁=>obj=.ref s.heap.objs.size/\s₁={ s with heap:=s.heap.push (xB led) }) (by rw[hld];exact⟨rfl,rfl⟩)) λr s₁ hr=>?_
 cases r with
 |error e=>exact hr
 |ok fl=>
  cases fl with
  |ret obj=>
   obtain⟨rfl,rfl⟩:=hr
   have hS:(s.heap.push (xB led)).get? s.heap.objs.size=some (xB led):=Heap.get?_push_size _ rfl
   have hT:Shared.TypeIs { s with heap:=s.heap.push (xB led) } (.ref s.heap.objs.size) "set":=⟨_,hS,rfl⟩
   have m6:=F.called_set.init.lookup
   have m7:=F.called_set.init.bind (.ref s.heap.objs.size)
   repeat (any_goals (first | assumption | wp_step))
   refine codeAny_mono (codeAny_call_builtin (R:=wants (λr s₂=>r=.none/\∃ h' tk,s₂={ s with heap:=h',toks:=tk } ∧
     yz prog w led s.heap.objs.size (zi [] ns) h' ∧
     (∀ b o,b<s.heap.objs.size->s.heap.get? b=some o->h'.get? b=some o)) E) F.called_set.init.plain F.entry_set_init (check_set_init_1 hT ?_)) λr₂ s₂ hr₂=>?_
   ·obtain⟨oc,odd,oda,osl⟩:=ol
    simp only at hcl hdl
    subst hcl;subst hdl
    have hol':(s.heap.push (xB led)).get? l=some { cls:=.type T,dict:=odd,data:=.seq items nl,slots:=osl }:=Heap.get?_push_of_some _ hol
    have n1:=SW.nset
    have n2:=SW.nfro
    have n3:=SW.ndic
    have hT2:Shared.TypeIs { s with heap:=s.heap.push (xB led) } (.ref l) T:=⟨_,hol',rfl⟩
    unfold Builtin.«set.__init__» noKeywords Builtin.Frozenset.updateFrom
    generalize hPI:pyIter=PI
    wp_walk
    subst hPI
    refine SW.iter _ _ _ _ ⟨_,_,hol',rfl,rfl⟩ ?_
    refine wpAny_bind (wpAny_runValue ?_)
    have hlS:l<s.heap.objs.size:=Heap.lt_size hol
    have hh3:A.in1.in1.in1.handled=none:=by simp[hh]
    have hz:(s.heap.push (xB led)).objs.size=s.heap.objs.size+1:=Heap.size_push ..
    have hneI:l≠(s.heap.push (xB led)).objs.size:=by rw[hz];exact Nat.ne_of_lt (Nat.lt_succ_of_lt hlS)
    have hSf:s.heap.objs.size ∉ [(s.heap.push (xB led)).objs.size,l]:=by
     simp only[List.mem_cons,List.not_mem_nil,or_false,not_or,hz]
     exact⟨Nat.ne_of_lt (Nat.lt_succ_self _),Nat.ne_of_gt hlS⟩
    have hlen:ns.length=items.size:=by rw[<-hi.length];simp
    refine uj (led:=led) (SW.walk _ _ hh3 hneI).toS s.heap.objs.size hSf ns hlen (λi v hv=>hi.int_at i v ((Array.getElem?_toList ..).trans hv)) _ 0 _ [] rfl (Nat.zero_le _) (SW.zero _ ⟨_,_,hol',rfl,rfl⟩) (by simpa using hb) ?s0 ?sR
    case s0=>
     exact⟨xB led,#[],0,_,Heap.get?_push_of_some _ hS,⟨rfl,rfl,rfl⟩,rfl,λe he=>by simp at he,.refl _,by unfold scanBound;simp,rfl,jq led⟩
    case sR=>
     intro s' hm hS'
     obtain⟨h',g',d',tk',os'⟩:=s'
     cases (hm.gens:g'=s.gens)
     cases (hm.drawn:d'=s.drawn)
     cases (hm.os:os'=s.os)
     refine wpAny_pure ?_
     refine wpAny_pure ⟨rfl,h',tk',rfl,hS',λb o hb e=>hm.heap b o ?_ (Heap.get?_push_of_some _ (Heap.get?_push_of_some _ e))⟩
     simp only[List.mem_cons,List.not_mem_nil,or_false,not_or,hz]
     exact⟨Nat.ne_of_lt hb,Nat.ne_of_lt (Nat.lt_succ_of_lt hb)⟩
   ·cases r₂ with
    |error e=>exact hr₂
    |ok fl₂=>
     cases fl₂ with
     |ret r=>
      obtain⟨rfl,h',tk,rfl,hS',hk'⟩:=hr₂
      repeat (any_goals (first | assumption | wp_step))
      exact h _ _ hS' hk'
     |_=>exact hr₂.elim
  |_=>exact hr.elim
end
end PM
namespace PM
open PySem PySem.Spec PyProof.Rows L2
theorem y8:PySem.Slot "set_iterator" "__next__" "set_iterator.__next__":=by
 refine .of (owner:="set_iterator") (n:="__next__") ?_ (by decide +kernel) (by decide +kernel) (by decide +kernel) ?_ ?_
 ·rw[typeLookup_type,builtinLookup_eq_fast];kernel_rfl
 ·first | exact .inl (by decide +kernel) | exact .inr (by decide +kernel)
 ·rw[isSubtype_type];kernel_rfl
theorem U6:entryFor table "set_iterator.__next__" = some Builtin.«set_iterator.__next__»:=by
 apply entryFor_of_tree;kernel_rfl
theorem qA (a:Value):argsOk "set_iterator.__next__" ⟨[a],[]⟩:=by
 unfold argsOk;kernel_rfl
theorem kT:entryFor table "set.__iter__" = some Builtin.«frozenset.__iter__»:=by
 refine entryFor_alias (id':="frozenset.__iter__") ?_ rfl ?_ ?_
 ·kernel_rfl
 ·decide +kernel
 ·kernel_rfl
noncomputable def Yt (f:Value) (i:Nat)(a:Addr) (n ep:Nat):Obj:={ cls:=.type "set_iterator",data:=.fields #[f,rawInt i,.ref a,rawInt n,rawInt ep] }
section
variable {prog:Program}{w:World}{A:Around}{E:Value->Shared->Prop}{s:Shared}{a I:Addr}{ob:Obj}{en:Array (Int×Value)}{ep:Nat}{tb:SetTable}
theorem WC {Q:Bool->Shared->Prop}(q:Q (w.params.followText "set-order") s):wpAny (model prog w) A setsByText Q E s:=by
 unfold setsByText
 exact wpAny_bind (wpAny_askSetting (wpAny_pure q))
theorem qI {Q:Array (Int×Value)->Shared->Prop}(h0:s.heap.get? a=some ob)(hd:ob.data=.set en ep tb)(hf:tb.fits en.size=true)(ht:w.params.followText "set-order" = true)(q:Q (pickOrder (w.params.setOrder a ep) en) s) :
  wpAny (model prog w) A (setWalk a) Q E s:=by
 unfold setWalk
 refine wpAny_bind (wpAny_setState_of h0 hd hf ?_)
 dsimp only
 refine wpAny_bind (WC ?_)
 rw[if_pos ht]
 exact wpAny_bind (wpAny_askSetting (wpAny_pure q))
theorem vf {f i:Nat}{Q:Option (Value×Nat)->Shared->Prop}(h0:s.heap.get? a=some ob)(hd:ob.data=.set en ep tb)(hf:tb.fits en.size=true)(ht:w.params.followText "set-order" = true)
  (q:Q (((pickOrder (w.params.setOrder a ep) en)[i]?).map λe=>(e.2,f)) s):wpAny (model prog w) A (setNext a f i ep) Q E s:=by
 unfold setNext
 refine wpAny_bind (wpAny_setState_of h0 hd hf ?_)
 dsimp only
 refine wpAny_bind (WC ?_)
 rw[if_pos ht]
 have e:(ep != ep)=false:=by simp
 simp only[e,Bool.false_eq_true,if_false]
 exact wpAny_bind (qI h0 hd hf ht (wpAny_pure q))
theorem vg {f i:Nat}{Q:Option (Value×Nat)->Shared->Prop}(h0:s.heap.get? a=some ob)(hd:ob.data=.set en ep tb)(hf:tb.fits en.size=true)(ht:w.params.followText "set-order" = false)(hdn:(!tb.plain && decide (en.size > 1))=false)(hl:tb.led=true)
  (q:Q (match en[SetTable.below tb.place f]?,tb.place[SetTable.below tb.place f]? with | some (_,x),some j=>some (x,j+1) | _,_=>none) s):wpAny (model prog w) A (setNext a f i ep) Q E s:=by
 unfold setNext
 refine wpAny_bind (wpAny_setState_of h0 hd hf ?_)
 dsimp only
 refine wpAny_bind (WC ?_)
 rw[if_neg (by rw[ht];decide)]
 change wpAny _ _ (if (!tb.plain && decide (en.size > 1))=true then _ else _) _ _ _
 rw[if_neg (by rw[hdn];decide)]
 refine wpAny_bind ?_
 change wpAny _ _ (if (!tb.led && !en.isEmpty)=true then _ else _) _ _ _
 rw[hl]
 exact wpAny_pure (wpAny_pure q)
theorem UC {j:Nat}{e:Int×Value}{Q:Value->Shared->Prop}(h0:s.heap.get? a=some ob)(hd:ob.data=.set en ep tb)(hf:tb.fits en.size=true)(he:en[j]? = some e)(q:Q e.2 s):wpAny (model prog w) A (setNextDrawn a j ep) Q E s:=by
 unfold setNextDrawn
 refine wpAny_bind (wpAny_setState_of h0 hd hf ?_)
 dsimp only
 have z:(ep != ep)=false:=by simp
 simp only[z,Bool.false_eq_true,if_false,he]
 exact wpAny_pure q
theorem vX {α:Type}{Q:α->Shared->Prop}(hh:A.handled=none)(q:∀ e h',(∀ b o,s.heap.get? b=some o->h'.get? b=some o)->(∃ o,h'.get? e=some o/\o.cls=.type "StopIteration")->E (.ref e) { s with heap:=h' }) :
  wpAny (model prog w) A (newExc (.type "StopIteration") [] >>= λe=>(raiseNew e:Sem α)) Q E s:=by
 refine wpAny_bind ?_
 simp only[newExc,newTuple]
 refine wpAny_bind (wpAny_newObj_type ?_ (by size_fits))
 refine wpAny_bind (m:=firstArgMember _ _) (wpAny_of_eq (a:=Value.none) ?_ ?_)
 ·first | rfl | (simp only[firstArgMember];rfl)
 ·refine wpAny_newObj_type (wpAny_raiseNew_none hh ?_) (by size_fits)
  exact q _ _ (λb o e=>Heap.get?_push_of_some _ (Heap.get?_push_of_some _ e)) ⟨_,Heap.get?_push_size _ rfl,rfl⟩
theorem zAS (h:Heap)(o:Obj){f x:Value}{i n:Nat}(e:h.get? I=some (Yt f i a n ep)):(h.update I (Obj.mapFields (·.setIfInBounds 0 x))).get? I=some (Yt x i a n ep):=Heap.get?_update_self _ e rfl
theorem zAR {h:Heap}{f:Value}{i n:Nat}(e:h.get? I=some (Yt f i a n ep)):(h.update I (Obj.mapFields (·.setIfInBounds 1 (Value.int ((i:Int)+1) 0)))).get? I=some (Yt f (i+1) a n ep):=Heap.get?_update_self _ e rfl
theorem Xj {f i n:Nat}{r:Option (Value×Nat)}{Q:Option Value->Shared->Prop}(hh:A.handled=none)(hI:s.heap.get? I=some (Yt (rawInt f) i a n ep))(h0:s.heap.get? a=some ob)(hd:ob.data=.set en ep tb)(hf:tb.fits en.size=true)(hn:en.size=n)
  (hx:∀ (E':Value->Shared->Prop)(A':Around)(Q':Option (Value×Nat)->Shared->Prop),Q' r s->wpAny (model prog w) A' (setNext a f i ep) Q' E' s)
  (q1:∀ x j h',r=some (x,j)->h'.get? I=some (Yt (rawInt j) (i+1) a n ep)->Heap.SameBut I s.heap h'->Q (some x) { s with heap:=h' })
  (q2:∀ h',r=none->(∀ b o,b≠I->s.heap.get? b=some o->h'.get? b=some o)->Q none { s with heap:=h' }):wpAny (model prog w) A (pyNext (.ref I)) Q E s:=by
 have hT:s.TypeIs (.ref I) "set_iterator":=⟨_,hI,rfl⟩
 unfold pyNext
 refine wpAny_bind (wpAny_attempt (wpAny_callSpecial?_slot (name:=Str.ofString "__next__") hT y8 (wpAny_call_entry y8 hT U6 ?_ (qA _))))
 unfold Builtin.«set_iterator.__next__»
 change wpAny _ _ (fieldsOf (.ref I) >>= _) _ _ s
 refine wpAny_bind (wpAny_fieldsOf hI rfl ?_)
 dsimp only [rawInt]
 refine wpAny_bind (wpAny_setEntries_of h0 hd hf ?_)
 have e1:(((en.size:Nat):Int) != ((n:Nat):Int))=false:=by rw[hn];simp
 simp only[e1,Bool.false_eq_true,if_false]
 refine wpAny_bind (wpAny_mono (hx _ _ (λr' s'=>r'=r/\s'=s) ⟨rfl,rfl⟩) ?_ λ_ _ e=>e)
 rintro r' s' ⟨rfl,rfl⟩
 cases r' with
 |some p=>
  obtain⟨x,j⟩:=p
  dsimp only
  refine wpAny_bind (wpAny_setField hI rfl (show 0<5 from by decide) ?_)
  have g0:=zAS s'.heap ob (x:=Value.int (j:Int) 0) hI
  refine wpAny_bind (wpAny_setField g0 rfl (show 1<5 from by decide) ?_)
  exact wpAny_pure ⟨_,rfl,wpAny_pure (q1 x j _ rfl (zAR g0) ((Heap.SameBut.update ..).trans (Heap.SameBut.update ..)))⟩
 |none=>
  dsimp only
  refine wpAny_bind (wpAny_setField hI rfl (show 2<5 from by decide) ?_)
  refine vX (A:=A.in1) (show A.in1.handled=none from hh) λe h' keep ⟨o,ho,hc⟩=>?_
  refine wpAny_bind (wpAny_isInstance (T:="StopIteration") (b:=true) ⟨o,ho,hc⟩ isSubtype_stop ?_)
  rw[if_pos rfl]
  exact wpAny_pure (q2 h' rfl λb o' hb e'=>keep b o' (((Heap.SameBut.update ..).2 b hb).trans e'))
end
end PM
namespace PM
open PySem PySem.Spec PyProof.Rows L2
theorem Qq:PySem.Slot "set_iterator" "__iter__" "set_iterator.__iter__":=by
 refine .of (owner:="set_iterator") (n:="__iter__") ?_ (by decide +kernel) (by decide +kernel) (by decide +kernel) ?_ ?_
 ·rw[typeLookup_type,builtinLookup_eq_fast];kernel_rfl
 ·first | exact .inl (by decide +kernel) | exact .inr (by decide +kernel)
 ·rw[isSubtype_type];kernel_rfl
theorem zAL (a:Value):argsOk "set_iterator.__iter__" ⟨[a],[]⟩:=by
 unfold argsOk;kernel_rfl
theorem kr:PySem.Slot "set" "__iter__" "set.__iter__":=by
 refine .of (owner:="set") (n:="__iter__") ?_ (by decide +kernel) (by decide +kernel) (by decide +kernel) ?_ ?_
 ·rw[typeLookup_type,builtinLookup_eq_fast];kernel_rfl
 ·first | exact .inl (by decide +kernel) | exact .inr (by decide +kernel)
 ·rw[isSubtype_type];kernel_rfl
theorem zAj (a:Value):argsOk "set.__iter__" ⟨[a],[]⟩:=by
 unfold argsOk;kernel_rfl
theorem zAC:entryFor table "set_iterator.__iter__" = some Builtin.«dict_keyiterator.__iter__»:=by
 refine entryFor_alias (id':="dict_keyiterator.__iter__") ?_ rfl ?_ ?_
 ·kernel_rfl
 ·decide +kernel
 ·kernel_rfl
theorem WX {α:Type}:∀ (l:List α) (i:Nat)(hi:i<l.length),(l[i]::l.eraseIdx i).Perm l
 |x::r,0,_=>.refl _
 |x::r,i+1,hi=>by
  have h:=WX r i (by simpa using hi)
  rw[List.eraseIdx_cons_succ,List.getElem_cons_succ]
  exact (List.Perm.swap _ _ _).trans (h.cons x)
section
variable {prog:Program}{w:World}{A:Around}{E:Value->Shared->Prop}{s:Shared}{a I:Addr}{ob:Obj}{en:Array (Int×Value)}{ep:Nat}{tb:SetTable}
theorem wp_choose {src:Source}{n:Nat}{Q:Nat->Shared->Prop}(hn:n≠0)(q:∀ i d,i<n->Q i { s with drawn:=d }):wpAny (model prog w) A (choose src n) Q E s:=λ_ _ _=>by
 unfold choose
 rw[Sem.wp_choose]
 exact⟨hn,by first | exact q _ _ (Nat.mod_lt _ (Nat.pos_of_ne_zero hn)) | (rw[Sem.wp_pure];exact q _ _ (Nat.mod_lt _ (Nat.pos_of_ne_zero hn)))⟩
theorem v5 {α:Type}:∀ (n:Nat)(xs:List α)(s:Shared)(Q:List α->Shared->Prop),xs.length=n->(∀ ys d,ys.Perm xs->Q ys { s with drawn:=d })->wpAny (model prog w) A (drawOrder n xs) Q E s
 |0,xs,s,Q,hn,q=>by
  cases xs with
  |nil=>exact wpAny_pure (q [] s.drawn (.refl _))
  |cons _ _=>cases hn
 |n+1,[],s,Q,hn,q=>by cases hn
 |n+1,x::r,s,Q,hn,q=>by
  unfold drawOrder
  refine wpAny_bind (wp_choose (by simp) λi d hi=>?_)
  have e:(x::r)[i]? = some (x::r)[i]:=List.getElem?_eq_getElem hi
  rw[e]
  dsimp only
  refine wpAny_bind (v5 n _ _ _ (by rw[List.length_eraseIdx];simp only[hi,if_true];simp at hn ⊢;exact hn) λys d' p=>wpAny_pure (q _ d' ?_))
  exact (p.cons _).trans (WX _ _ hi)
theorem Uu {α:Type}(next:Nat->Nat):∀ (n k:Nat)(l:List α)(out:Array α),l.length=n->(pickOrder.go next n k l out).toList.Perm (out.toList++l)
 |0,k,l,out,h=>by
  cases l with
  |nil=>simp[pickOrder.go]
  |cons _ _=>cases h
 |n+1,k,l,out,h=>by
  unfold pickOrder.go
  have hi:next k % l.length<l.length:=Nat.mod_lt _ (by omega)
  rw[List.getElem?_eq_getElem hi]
  dsimp only
  refine (Uu next n (k+1) _ _ (by rw[List.length_eraseIdx];simp only[hi,if_true];omega)).trans ?_
  rw[Array.toList_push,List.append_assoc]
  exact List.Perm.append_left _ (WX _ _ hi)
theorem Xy {α:Type}(next:Nat->Nat)(xs:Array α):(pickOrder next xs).toList.Perm xs.toList:=by
 have:=Uu next xs.size 0 xs.toList #[] (by simp)
 simpa[pickOrder] using this
theorem uK {t:Addr}{i n ec:Nat}{ps:Array Value}{ot:Obj}{r:Option Value}{Q:Option Value->Shared->Prop}(hh:A.handled=none)(hI:s.heap.get? I=some (Yt (.ref t) i a n ep))(h0:s.heap.get? a=some ob)(hd:ob.data=.set en ep tb)(hf:tb.fits en.size=true)(hn:en.size=n)
  (ht:s.heap.get? t=some ot)(htd:ot.data=.seq ps ec)
  (hr:match ps[i]? with | some v=>∃ (j:Nat)(tk:Tok)(e:Int×Value),v=.int (j:Int) tk/\en[j]? = some e/\r=some e.2 | none=>r=none)
  (q1:∀ x h',r=some x->h'.get? I=some (Yt (.ref t) (i+1) a n ep)->Heap.SameBut I s.heap h'->Q (some x) { s with heap:=h' })
  (q2:∀ h',r=none->(∀ b o,b≠I->s.heap.get? b=some o->h'.get? b=some o)->Q none { s with heap:=h' }):wpAny (model prog w) A (pyNext (.ref I)) Q E s:=by
 have hT:s.TypeIs (.ref I) "set_iterator":=⟨_,hI,rfl⟩
 unfold pyNext
 refine wpAny_bind (wpAny_attempt (wpAny_callSpecial?_slot (name:=Str.ofString "__next__") hT y8 (wpAny_call_entry y8 hT U6 ?_ (qA _))))
 unfold Builtin.«set_iterator.__next__»
 change wpAny _ _ (fieldsOf (.ref I) >>= _) _ _ s
 refine wpAny_bind (wpAny_fieldsOf hI rfl ?_)
 dsimp only [rawInt]
 refine wpAny_bind (wpAny_setEntries_of h0 hd hf ?_)
 have e1:(((en.size:Nat):Int) != ((n:Nat):Int))=false:=by rw[hn];simp
 simp only[e1,Bool.false_eq_true,if_false]
 refine wpAny_bind (m:=seqItems? (.ref t)) ?_
 unfold seqItems?
 refine wpAny_bind (wpAny_load ht ?_)
 rw[htd]
 refine wpAny_pure ?_
 dsimp only
 change wpAny _ _ (match ps[((i:Nat):Int).toNat]? with | some (.int place _)=>_ | some _=>_ | none=>_) _ _ s
 rw[Int.toNat_natCast]
 cases hp:ps[i]? with
 |some v=>
  rw[hp]at hr
  obtain⟨j,tk,e,rfl,he,rfl⟩:=hr
  dsimp only
  refine wpAny_bind (UC h0 hd hf (by rw[Int.toNat_natCast];exact he) ?_)
  refine wpAny_bind (wpAny_setField hI rfl (show 1<5 from by decide) ?_)
  exact wpAny_pure ⟨_,rfl,wpAny_pure (q1 _ _ rfl (zAR hI) (Heap.SameBut.update ..))⟩
 |none=>
  rw[hp]at hr
  dsimp only at hr ⊢
  subst hr
  refine wpAny_bind (wpAny_setField hI rfl (show 0<5 from by decide) ?_)
  have g0:=zAS s.heap ob (x:=Value.int 0 0) hI
  refine wpAny_bind (wpAny_setField g0 rfl (show 2<5 from by decide) ?_)
  refine vX (A:=A.in1) (show A.in1.handled=none from hh) λe h' keep ⟨o,ho,hc⟩=>?_
  refine wpAny_bind (wpAny_isInstance (T:="StopIteration") (b:=true) ⟨o,ho,hc⟩ isSubtype_stop ?_)
  rw[if_pos rfl]
  exact wpAny_pure (q2 h' rfl λb o' hb e'=>keep b o' ((((Heap.SameBut.update ..).trans (Heap.SameBut.update ..)).2 b hb).trans e'))
end
end PM
namespace PM
open PySem PySem.Spec PyProof.Rows L2
theorem UW {α β:Type}{f:α->Option β}{g:α->β}:∀ (l:List α),(∀ x ∈ l,f x=some (g x))->l.filterMap f=l.map g
 |[],_=>rfl
 |x::r,h=>by
  rw[List.filterMap_cons,h x (by simp),List.map_cons,UW r λy hy=>h y (by simp[hy])]
section
variable {prog:Program}{w:World}{A:Around}{E:Value->Shared->Prop}{s:Shared}{a I:Addr}{ob:Obj}{en:Array (Int×Value)}{ep:Nat}{tb:SetTable}
theorem Wq {f:Value}{i n:Nat}{Q:Value->Shared->Prop}(hI:s.heap.get? I=some (Yt f i a n ep))(q:Q (.ref I) s):wpAny (model prog w) A (pyIter (.ref I)) Q E s:=by
 have hT:s.TypeIs (.ref I) "set_iterator":=⟨_,hI,rfl⟩
 refine wpAny_pyIter_slot hT Qq (wpAny_call_entry Qq hT zAC ?_ (zAL _))
 change wpAny _ _ (ret (.ref I)) _ _ s
 exact wpAny_pure ⟨_,rfl,"set_iterator",_,hT,y8.lookup,q⟩
theorem uh (hh:A.handled=none)(hd:ob.data=.set en ep tb)(hf:tb.fits en.size=true)(ht:w.params.followText "set-order" = true)(hne:a≠I) :
  Walks prog w A I [I,a] [I] en.size (λi v=>((pickOrder (w.params.setOrder a ep) en).toList.map (·.2))[i]? = some v) (λi h=>(∃ f:Nat,h.get? I=some (Yt (rawInt f) i a en.size ep))/\h.get? a=some ob) where
 sub:=λb hb=>by simp at hb;simp[hb]
 frame:=λi h h' ⟨⟨f,h1⟩,h2⟩ k=>⟨⟨f,k I (by simp) _ h1⟩,k a (by simp) _ h2⟩
 item:=λi s Q E hi ⟨⟨f,h1⟩,h2⟩ q=>by
  have hl:i<(pickOrder (w.params.setOrder a ep) en).toList.length:=by rw[(Xy _ en).length_eq];simpa using hi
  refine Xj (r:=((pickOrder (w.params.setOrder a ep) en)[i]?).map λe=>(e.2,f)) hh h1 h2 hd hf rfl (λE' A' Q' hq=>vf h2 hd hf ht hq) (λx j h' hr g sb=>?_) λh' hr _=>?_
  ·refine q x h' s.toks ?_ ⟨⟨j,g⟩,(sb.2 a hne).trans h2⟩ λb o hb e=>(sb.2 b (by simpa using hb)).trans e
   obtain⟨e,he,e2⟩:=Option.map_eq_some_iff.mp hr
   cases e2
   rw[List.getElem?_map,Array.getElem?_toList,he]
   rfl
  ·have:=Option.map_eq_none_iff.mp hr
   rw[<-Array.getElem?_toList,List.getElem?_eq_getElem hl]at this
   cases this
 done:=λs Q E ⟨⟨f,h1⟩,h2⟩ q=>by
  have hl:(pickOrder (w.params.setOrder a ep) en).toList.length=en.size:=by rw[(Xy _ en).length_eq];simp
  refine Xj (r:=((pickOrder (w.params.setOrder a ep) en)[en.size]?).map λe=>(e.2,f)) hh h1 h2 hd hf rfl (λE' A' Q' hq=>vf h2 hd hf ht hq) (λx j h' hr g sb=>?_) λh' hr k=>q h' s.toks λb o hb e=>k b o (by simpa using hb) e
  obtain⟨e,he,_⟩:=Option.map_eq_some_iff.mp hr
  rw[<-Array.getElem?_toList]at he
  have:=(List.getElem?_eq_some_iff.mp he).1
  omega
 self:=λi s Q E ⟨⟨f,h1⟩,h2⟩ q=>Wq h1 q
theorem ui {led:Bool}(hh:A.handled=none)(hd:ob.data=.set en ep tb)(hf:tb.fits en.size=true)(ht:w.params.followText "set-order" = false)(hdn:(!tb.plain && decide (en.size > 1))=false)(ok:TabOk led tb)(hl:led=true)(hne:a≠I) :
  Walks prog w A I [I,a] [I] en.size (λi v=>(en.toList.map (·.2))[i]? = some v) (λi h=>(∃ f:Nat,h.get? I=some (Yt (rawInt f) i a en.size ep)/\SetTable.below tb.place f=i)/\h.get? a=some ob) where
 sub:=λb hb=>by simp at hb;simp[hb]
 frame:=λi h h' ⟨⟨f,h1,hb⟩,h2⟩ k=>⟨⟨f,k I (by simp) _ h1,hb⟩,k a (by simp) _ h2⟩
 item:=λi s Q E hi ⟨⟨f,h1,hb⟩,h2⟩ q=>by
  have hps:tb.place.size=en.size:=by
   unfold SetTable.fits at hf
   simp at hf
   exact hf.1
  have hp:tb.place[i]? = some tb.place[i]:=Array.getElem?_eq_getElem (by omega)
  have he:en[i]? = some en[i]:=Array.getElem?_eq_getElem hi
  refine Xj (r:=some (en[i].2,tb.place[i]+1)) hh h1 h2 hd hf rfl (λE' A' Q' hq=>vg h2 hd hf ht hdn (ok.led.trans hl) (by rw[hb,he,hp];exact hq)) (λx j h' hr g sb=>?_) λh' hr _=>by cases hr
  cases hr
  refine q _ h' s.toks ?_ ⟨⟨_,g,?_⟩,(sb.2 a hne).trans h2⟩ λb o hb e=>(sb.2 b (by simpa using hb)).trans e
  ·rw[List.getElem?_map,Array.getElem?_toList,he]
   rfl
  ·exact Ub ok.ris (by rw[Array.getElem?_toList];exact hp)
 done:=λs Q E ⟨⟨f,h1,hb⟩,h2⟩ q=>by
  refine Xj (r:=none) hh h1 h2 hd hf rfl (λE' A' Q' hq=>vg h2 hd hf ht hdn (ok.led.trans hl) (by rw[hb,Array.getElem?_eq_none (Nat.le_refl _)];exact hq)) (λx j h' hr g sb=>by cases hr) λh' hr k=>q h' s.toks λb o hb e=>k b o (by simpa using hb) e
 self:=λi s Q E ⟨⟨f,h1,hb⟩,h2⟩ q=>Wq h1 q
theorem Vs {t:Addr}{ps:List Nat}{ot:Obj}{ec:Nat}(hh:A.handled=none)(hd:ob.data=.set en ep tb)(hf:tb.fits en.size=true)(hp:ps.Perm (List.range en.size))(htd:ot.data=.seq (ps.map λj:Nat=>rawInt j).toArray ec)(hne:a≠I)(hnt:t≠I) :
  Walks prog w A I [I,a,t] [I] en.size (λi v=>(ps.filterMap λj=>en[j]?.map (·.2))[i]? = some v) (λi h=>h.get? I=some (Yt (.ref t) i a en.size ep)/\h.get? a=some ob/\h.get? t=some ot) where
 sub:=λb hb=>by simp at hb;simp[hb]
 frame:=λi h h' ⟨h1,h2,h3⟩ k=>⟨k I (by simp) _ h1,k a (by simp) _ h2,k t (by simp) _ h3⟩
 item:=λi s Q E hi ⟨h1,h2,h3⟩ q=>by
  have hl:i<ps.length:=by rw[hp.length_eq];simpa using hi
  have hj:ps[i]<en.size:=by simpa using hp.mem_iff.mp (List.getElem_mem hl)
  have he:en[ps[i]]? = some en[ps[i]]:=Array.getElem?_eq_getElem hj
  refine uK (r:=some en[ps[i]].2) hh h1 h2 hd hf rfl h3 htd ?_ (λx h' hr g sb=>?_) λh' hr _=>by cases hr
  ·have:(ps.map λj:Nat=>rawInt j).toArray[i]? = some (rawInt ps[i]):=by simp[hl]
   rw[this]
   exact⟨_,_,_,rfl,he,rfl⟩
  ·cases hr
   refine q _ h' s.toks ?_ ⟨g,(sb.2 a hne).trans h2,(sb.2 t hnt).trans h3⟩ λb o hb e=>(sb.2 b (by simpa using hb)).trans e
   have hm:(ps.filterMap λj=>en[j]?.map (·.2))=ps.map λj=>(en.getD j (0,.none)).2:=by
    refine UW _ λj hj=>?_
    have hj:j<en.size:=by simpa using hp.mem_iff.mp hj
    simp[Array.getD,hj]
   rw[hm,List.getElem?_map,List.getElem?_eq_getElem hl]
   simp[Array.getD,hj]
 done:=λs Q E ⟨h1,h2,h3⟩ q=>by
  have hl:ps.length=en.size:=by rw[hp.length_eq];simp
  refine uK (r:=none) hh h1 h2 hd hf rfl h3 htd ?_ (λx h' hr g sb=>by cases hr) λh' hr k=>q h' s.toks λb o hb e=>k b o (by simpa using hb) e
  have:(ps.map λj:Nat=>rawInt j).toArray[en.size]? = none:=by simp[hl]
  rw[this]
 self:=λi s Q E ⟨h1,h2,h3⟩ q=>Wq h1 q
theorem QN {Q:Bool->Shared->Prop}(h0:s.heap.get? a=some ob)(hd:ob.data=.set en ep tb)(hf:tb.fits en.size=true)(q:Q (!w.params.followText "set-order" && (!tb.plain && decide (en.size > 1))) s):wpAny (model prog w) A (setDrawn a) Q E s:=by
 unfold setDrawn
 refine wpAny_bind (wpAny_setState_of h0 hd hf ?_)
 dsimp only
 exact wpAny_bind (WC (wpAny_pure q))
theorem UZ {ps:List Nat}(hp:ps.Perm (List.range en.size)):(ps.filterMap λj=>en[j]?.map (·.2)).Perm (en.toList.map (·.2)):=by
 refine (hp.filterMap _).trans ?_
 have:((List.range en.size).filterMap λj=>en[j]?.map (·.2))=en.toList.map (·.2):=by
  refine List.ext_getElem? λi=>?_
  have hm:((List.range en.size).filterMap λj=>en[j]?.map (·.2))=(List.range en.size).map λj=>(en.getD j (0,.none)).2:=by
   refine UW _ λj hj=>?_
   have hj:j<en.size:=by simpa using hj
   simp[Array.getD,hj]
  rw[hm]
  by_cases h:i<en.size
  ·simp[h,Array.getD]
  ·simp[h]
 rw[this]
theorem Qs {Q:Value->Shared->Prop}(h0:s.heap.get? a=some ob)(ex:ob.ExactSet)(hd:ob.data=.set en ep tb)(hf:tb.fits en.size=true)(ok:TabOk (!w.params.followText "set-order") tb)(hb:en.size<scanBound)
  (q:∀ (vals:List Value)(I:Addr)(fp:List Addr)(St:Nat->Heap->Prop)(h':Heap)(d:Drawn),vals.Perm (en.toList.map (·.2))->(∀ A',A'.handled=none->Walks prog w A' I fp [I] en.size (λi v=>vals[i]? = some v) St)->St 0 h' ->
   (∀ b o,s.heap.get? b=some o->h'.get? b=some o)->(∀ b ∈ fp,b=a\/s.heap.objs.size<=b)->s.heap.objs.size<=I->Q (.ref I) { s with heap:=h',drawn:=d }):wpAny (model prog w) A (pyIter (.ref a)) Q E s:=by
 have hT:s.TypeIs (.ref a) "set":=⟨_,h0,ex.1⟩
 have ha:a<s.heap.objs.size:=Heap.lt_size h0
 refine wpAny_pyIter_slot hT kr (wpAny_call_entry kr hT kT ?_ (zAj _))
 unfold Builtin.«frozenset.__iter__»
 change wpAny _ _ (Builtin.Frozenset.sizeOf a >>= _) _ _ s
 unfold Builtin.Frozenset.sizeOf
 refine wpAny_bind (wpAny_bind (wpAny_setEntries_of h0 hd hf (wpAny_pure ?_)))
 refine wpAny_bind (QN h0 hd hf ?_)
 have hzL:en.size<=sizeLine:=by rw[sizeLine_eq];unfold scanBound at hb;omega
 cases hdr:(!w.params.followText "set-order" && (!tb.plain && decide (en.size > 1))) with
 |true=>
  rw[if_pos rfl]
  refine wpAny_bind (v5 _ _ _ _ List.length_range λps d hp=>?_)
  refine wpAny_bind (wpAny_newTuple ?_ (by rw[List.length_map,hp.length_eq];simpa using hzL))
  have h1:(s.heap.push { cls:=.type "tuple",data:=.seq (ps.map λj:Nat=>rawInt j).toArray }).get? a=some ob:=Heap.get?_push_of_some _ h0
  unfold setEpoch
  refine wpAny_bind (wpAny_bind (wpAny_setState_of h1 hd hf (wpAny_pure ?_)))
  dsimp only
  unfold newFields
  have hz:(s.heap.push { cls:=.type "tuple",data:=.seq (ps.map λj:Nat=>rawInt j).toArray }).objs.size=s.heap.objs.size+1:=Heap.size_push ..
  have hw:=λ(A':Around)(hh:A'.handled=none)=>Vs (prog:=prog) (w:=w) (A:=A') (a:=a) (I:=(s.heap.push { cls:=.type "tuple",data:=.seq (ps.map λj:Nat=>rawInt j).toArray }).objs.size) (t:=s.heap.objs.size) (ec:=0) (ot:={ cls:=.type "tuple",data:=.seq (ps.map λj:Nat=>rawInt j).toArray }) hh hd hf hp rfl (Nat.ne_of_lt (by rw[hz];exact Nat.lt_succ_of_lt ha)) (Nat.ne_of_lt (by rw[hz];exact Nat.lt_succ_self _))
  refine wpAny_bind (wpAny_newObj_type (wpAny_pure ⟨_,rfl,"set_iterator",_,⟨_,Heap.get?_push_size _ rfl,rfl⟩,y8.lookup,q _ _ _ _ _ d (UZ hp) hw ⟨Heap.get?_push_size _ rfl,Heap.get?_push_of_some _ h1,Heap.get?_push_of_some _ (Heap.get?_push_size _ rfl)⟩ (λb o e=>Heap.get?_push_of_some _ (Heap.get?_push_of_some _ e)) ?_ (by rw[hz];omega)⟩))
  intro b hb
  simp only[List.mem_cons,List.not_mem_nil,or_false]at hb
  rcases hb with rfl | rfl | rfl
  ·right;rw[hz];omega
  ·left;rfl
  ·right;exact Nat.le_refl _
 |false=>
  rw[if_neg (by decide)]
  refine wpAny_bind (wpAny_pure ?_)
  unfold setEpoch
  refine wpAny_bind (wpAny_bind (wpAny_setState_of h0 hd hf (wpAny_pure ?_)))
  dsimp only
  unfold newFields
  have hfp:∀ b ∈ [s.heap.objs.size,a],b=a\/s.heap.objs.size<=b:=λb hb=>by
   simp only[List.mem_cons,List.not_mem_nil,or_false]at hb
   rcases hb with rfl | rfl
   ·right;exact Nat.le_refl _
   ·left;rfl
  cases ht:w.params.followText "set-order" with
  |true=>
   have hw:=λ(A':Around)(hh:A'.handled=none)=>uh (prog:=prog) (w:=w) (A:=A') (a:=a) (I:=s.heap.objs.size) hh hd hf ht (Nat.ne_of_lt ha)
   exact wpAny_bind (wpAny_newObj_type (wpAny_pure ⟨_,rfl,"set_iterator",_,⟨_,Heap.get?_push_size _ rfl,rfl⟩,y8.lookup,q _ _ _ _ _ s.drawn ((Xy _ en).map _) hw ⟨⟨0,Heap.get?_push_size _ rfl⟩,Heap.get?_push_of_some _ h0⟩ (λb o e=>Heap.get?_push_of_some _ e) hfp (Nat.le_refl _)⟩))
  |false=>
   rw[ht]at hdr ok
   have hw:=λ(A':Around)(hh:A'.handled=none)=>ui (prog:=prog) (w:=w) (A:=A') (a:=a) (I:=s.heap.objs.size) hh hd hf ht (by simpa using hdr) ok rfl (Nat.ne_of_lt ha)
   exact wpAny_bind (wpAny_newObj_type (wpAny_pure ⟨_,rfl,"set_iterator",_,⟨_,Heap.get?_push_size _ rfl,rfl⟩,y8.lookup,q _ _ _ _ _ s.drawn (.refl _) hw ⟨⟨0,Heap.get?_push_size _ rfl,Ua ok.ris⟩,Heap.get?_push_of_some _ h0⟩ (λb o e=>Heap.get?_push_of_some _ e) hfp (Nat.le_refl _)⟩))
end
end PM
namespace PM
open PySem PySem.Spec PyProof.Rows L2
section
variable {prog:Program}{w:World}{A:Around}{E:Value->Shared->Prop}{s:Shared}{a I:Addr}{ob:Obj}{en:Array (Int×Value)}{ep:Nat}{tb:SetTable}
theorem jl {Q:Bool->Shared->Prop}(hT:s.TypeIs (.ref a) "set")(h:Q false s):wpAny (model prog w) A (Builtin.List.listLengthHint (.ref a)) Q E s:=by
 unfold Builtin.List.listLengthHint
 refine wpAny_bind (wpAny_specialOf hT PySem.F.slot_set_len.lookup ?_)
 generalize hid:("set.__len__" : String)=id0
 wp_delta
 rw[show splitId id0=some ("set","__len__") from by subst hid;decide +kernel]
 subst hid
 refine wpAny_bind (wpAny_isInstance (T:="set") (b:=true) hT (by rw[isSubtype_type];kernel_rfl) ?_)
 refine wpAny_ite_split (λhab=>absurd hab (by decide)) (λ_=>?_)
 refine wpAny_ite_split (λ_=>?_) (λhab=>absurd (by decide +kernel) hab)
 refine wpAny_bind (wpAny_typeOf hT ?_)
 exact wpAny_pure h
theorem QB {vals:List Value}{acc:Array Value}{n:Nat}(hl:vals.length=n)(h:ItemsOf (λi v=>vals[i]? = some v) acc n):acc.toList=vals:=by
 obtain⟨h1,h2⟩:=h
 refine List.ext_getElem? λi=>?_
 rw[Array.getElem?_toList]
 cases hv:acc[i]? with
 |some v=>exact (h2 i v hv).symm
 |none=>
  have:acc.size<=i:=by simpa using hv
  exact (List.getElem?_eq_none (by omega)).symm
theorem uZ {Q:List Value->Shared->Prop}(hh:A.handled=none)(h0:s.heap.get? a=some ob)(ex:ob.ExactSet)(hd:ob.data=.set en ep tb)(hf:tb.fits en.size=true)(ok:TabOk (!w.params.followText "set-order") tb)(hb:en.size<scanBound)
  (q:∀ (vals:List Value)(h':Heap) (tk:Nat)(d:Drawn),vals.Perm (en.toList.map (·.2))->(∀ b o,s.heap.get? b=some o->h'.get? b=some o)->s.heap.objs.size<h'.objs.size->Q vals { s with heap:=h',toks:=tk,drawn:=d }):wpAny (model prog w) A (collect (.ref a)) Q E s:=by
 have ha:a<s.heap.objs.size:=Heap.lt_size h0
 have hz:(s.heap.push { cls:=.type "list",data:=.seq ([]:List Value).toArray }).objs.size=s.heap.objs.size+1:=Heap.size_push ..
 have hzL:en.size<=sizeLine:=by rw[sizeLine_eq];unfold scanBound at hb;omega
 unfold collect
 refine wpAny_bind (wpAny_runValue (codeAny_builtin PySem.F.entry_proto_collect ?_))
 rw[Around.under_plainId PySem.F.plain_proto_collect _]
 show wpAny _ A.in1 (newList [] >>= λl=>again (.builtin "list.__iadd__" ⟨[l,.ref a],[]⟩)) _ _ s
 refine wpAny_bind (wpAny_newObj_type ?_)
 refine wpAny_pure ⟨plainId_quiet PySem.F.plain_list_iadd _,codeAny_builtin PySem.F.entry_list_iadd ?_⟩
 rw[Around.under_plainId PySem.F.plain_list_iadd _]
 have hS₁:(s.heap.push { cls:=.type "list",data:=.seq ([]:List Value).toArray }).get? s.heap.objs.size=some { cls:=.type "list",data:=.seq ([]:List Value).toArray }:=Heap.get?_push_size _ rfl
 have h1:(s.heap.push { cls:=.type "list",data:=.seq ([]:List Value).toArray }).get? a=some ob:=Heap.get?_push_of_some _ h0
 have hne:Builtin.List.listSameRef (.ref s.heap.objs.size) (.ref a)=false:=by simp[Builtin.List.listSameRef,Nat.ne_of_gt ha]
 show wpAny _ A.in1 (Builtin.List.listExtendWith (.ref s.heap.objs.size) (.ref a) (.ref s.heap.objs.size)) _ _ _
 unfold Builtin.List.listExtendWith
 refine wpAny_bind (wpAny_typeOf (T:="set") ⟨_,h1,ex.1⟩ ?_)
 rw[if_neg (by rw[hne];decide)]
 refine wpAny_bind (Qs h1 ex hd hf ok hb λvals I fp St h' d hp W st keep hfp hI=>?_)
 have hS2:=keep _ _ hS₁
 have hSf:s.heap.objs.size ∉ fp:=λhm=>by
  rcases hfp _ hm with e | e
  ·exact Nat.ne_of_gt ha e
  ·rw[hz]at e;exact Nat.not_succ_le_self _ e
 have hSI:s.heap.objs.size≠I:=λe=>by rw[<-e,hz]at hI;exact Nat.not_succ_le_self _ hI
 have hvl:vals.length=en.size:=by rw[hp.length_eq];simp
 have key:∀ (R:Result->Shared->Prop)(h:Heap) (c₁:Nat),St 0 h->(∀ b o,b≠s.heap.objs.size->h'.get? b=some o->h.get? b=some o)->h.get? s.heap.objs.size=some { cls:=.type "list",dict:=none,data:=.seq #[] c₁,slots:=#[] } ->
   (∀ (h2:Heap) (tk c':Nat)(acc:Array Value),acc.toList=vals->(∀ b o,s.heap.get? b=some o->h2.get? b=some o)->h2.get? s.heap.objs.size=some { cls:=.type "list",dict:=none,data:=.seq acc c',slots:=#[] }->R (.ok (.ret (.ref s.heap.objs.size))) { s with heap:=h2,toks:=tk,drawn:=d }) ->
   codeAny (model prog w) A (.builtin "list.extend.loop" ⟨[.ref s.heap.objs.size,.ref I,.ref s.heap.objs.size],[]⟩) R { s with heap:=h,drawn:=d }:=by
  intro R h c₁ hst hk hS hR
  refine codeAny_extend_loopS (W A.in1 hh).toS hzL _ hSf _ en.size 0 _ #[] c₁ rfl (Nat.zero_le _) hst hS (ItemsOf.nil _) λs' acc' c' hm hS' hacc=>?_
  rw[Moved.eq_with hm]
  refine hR s'.heap s'.toks c' acc' (QB hvl hacc) (λb o e=>hm.heap b o (λhmem=>?_) (hk b o (Nat.ne_of_lt (Heap.lt_size e)) (keep b o (Heap.get?_push_of_some _ e)))) hS'
  have hlt:=Heap.lt_size e
  rcases List.mem_cons.mp hmem with e' | hmem
  ·exact Nat.ne_of_lt hlt e'
  ·rw[List.mem_singleton.mp hmem]at hlt
   rw[hz]at hI
   exact absurd (Nat.lt_trans hlt hI) (Nat.lt_irrefl _)
 refine wpAny_bind (wpAny_holding (jl ⟨_,keep _ _ h1,ex.1⟩ ?_))
 have fin:∀ (h2:Heap) (tk c':Nat)(acc:Array Value),acc.toList=vals->(∀ b o,s.heap.get? b=some o->h2.get? b=some o)->h2.get? s.heap.objs.size=some { cls:=.type "list",dict:=none,data:=.seq acc c',slots:=#[] } ->
   wpAny (model prog w) A (load s.heap.objs.size >>= λo=>match o.data with | .seq xs _=>pure xs.toList | _=>unsupported "internal:collect") Q E { s with heap:=h2,toks:=tk,drawn:=d }:=by
  intro h2 tk c' acc hacc hk hS
  refine wpAny_bind (wpAny_load hS ?_)
  change wpAny _ _ (pure acc.toList) _ _ _
  rw[hacc]
  exact wpAny_pure (q vals h2 tk d hp hk (Heap.lt_size hS))
 refine wpAny_ite_split (λ_=>?_) (λ_=>wpAny_pure ⟨plainId_quiet PySem.F.plain_extend_loop _,key _ _ _ st (λb o _ e=>e) hS2 fin⟩)
 refine wpAny_bind (wpAny_rule ?_)
 refine wpAny_bind ?_
 show wpAny _ _ (updateSeq s.heap.objs.size (·.push .none) >>= λ_=>updateSeq s.heap.objs.size (·.pop)) _ _ _
 refine wpAny_bind (wpAny_updateSeq hS2 rfl ?_)
 have hS₂:=Heap.get?_update_self (Obj.mapSeq (·.push Value.none)) hS2 rfl
 refine wpAny_updateSeq hS₂ rfl ?_
 have hS₃:=Heap.get?_update_self (Obj.mapSeq (·.pop)) hS₂ rfl
 refine wpAny_pure ⟨plainId_quiet PySem.F.plain_extend_loop _,key _ _ _ ?_ (λb o hb e=>?_) hS₃ fin⟩
 ·refine (W A.in1 hh).frame 0 _ _ st λb hb o e=>?_
  have hbS:b≠s.heap.objs.size:=λh=>hSf (h ▸ hb)
  exact (Heap.get?_update_other _ _ (Ne.symm hbS)).trans ((Heap.get?_update_other _ _ (Ne.symm hbS)).trans e)
 ·exact (Heap.get?_update_other _ _ (Ne.symm hb)).trans ((Heap.get?_update_other _ _ (Ne.symm hb)).trans e)
theorem uq {ns:List Int}{Q:Value->Shared->Prop}(hh:A.handled=none)(J:yz prog w (!w.params.followText "set-order") a ns s.heap)(h64:ns.length<64)
  (q:∀ (L:Addr)(h':Heap) (tk:Nat)(d:Drawn)(out:Array Value)(ms:List Int) (e:Nat),IntsAre out.toList ms->ms.Perm ns->ms.Pairwise (· ≤ ·)->s.heap.objs.size<=L->h'.get? L=some (seqObj "list" out e)->(∀ b o,s.heap.get? b=some o->h'.get? b=some o)->Q (.ref L) { s with heap:=h',toks:=tk,drawn:=d }) :
  wpAny (model prog w) A (call (.builtin "sorted") [.ref a]) Q E s:=by
 obtain⟨ob,en,age,tb,h0,ex,hd,el,p,hb,hf,ok⟩:=J
 refine Calls.call_function_entry kind_sorted plain_sorted entry_sorted (args_sorted1 _) ?_
 unfold Builtin.«sorted»
 refine wpAny_bind (m:=checkCount "sorted" 1 1 _) (wpAny_pure ?_)
 refine wpAny_bind (uZ (by simp[hh]) h0 ex hd hf ok hb λvals h' tk d hp keep hsz=>?_)
 have hI:IntsAre vals (vals.map vR):=by
  have hv:∀ v ∈ vals,∃ t,v=.int (vR v) t:=λv hv=>by
   obtain⟨e,he,rfl⟩:=List.mem_map.mp (hp.mem_iff.mp hv)
   exact Value.isInt_shape (ju el he)
  clear hp
  induction vals with
  |nil=>exact .nil
  |cons v r ih=>
   obtain⟨t,e⟩:=hv v (by simp)
   rw[List.map_cons]
   have:=ih λx hx=>hv x (by simp[hx])
   rw[e]at *
   exact .cons _ _ this
 have hlen:vals.length=ns.length:=by
  rw[hp.length_eq,<-p.length_eq]
  simp
 have hpp:(vals.map vR).Perm ns:=(hp.map vR).trans (by rw[List.map_map];exact p)
 refine wpAny_bind (wpAny_newList ?_ (by rw[hlen,sizeLine_eq];omega))
 have hoL:(h'.push (seqObj "list" vals.toArray 0)).get? h'.objs.size=some (seqObj "list" vals.toArray 0):=Heap.get?_push_size _ rfl
 refine wpAny_bind (wpAny_holding (wpAny_call_entry slot_list_sort ⟨_,hoL,rfl⟩ entry_list_sort (list_sort_tree hoL hI (by rw[hlen];exact h64) λout ns' a1 a2 a3=>⟨_,rfl,?_⟩) (args_list_sort _)))
 obtain⟨e,he⟩:=sortedHeap_at (out:=out) hoL
 refine wpAny_pure ⟨_,rfl,q _ _ tk d out ns' e a1 (a2.trans hpp) a3 (Nat.le_of_lt hsz) he λb o eb=>?_⟩
 have hlt:b<h'.objs.size:=Heap.lt_size (keep b o eb)
 rw[sortedHeap_old (Nat.ne_of_lt hlt) (by rw[size_push'];exact Nat.lt_succ_of_lt hlt)]
 exact Heap.get?_push_of_some _ (keep b o eb)
end
end PM
namespace PM
open PySem PySem.Spec PyProof.Rows L2
theorem UY {x:Int}:∀ (l acc:List Int),x ∈ zi acc l ↔ x ∈ acc\/x ∈ l
 |[],acc=>by simp[zi]
 |k::r,acc=>by
  unfold zi
  rw[UY r]
  by_cases h:k ∈ acc
  ·rw[if_pos h]
   constructor
   ·rintro (z | z)
    ·exact .inl z
    ·exact .inr (.tail _ z)
   ·rintro (z | z)
    ·exact .inl z
    ·rcases List.mem_cons.mp z with rfl | z
     ·exact .inl h
     ·exact .inr z
  ·rw[if_neg h]
   simp only[List.mem_append,List.mem_cons,List.not_mem_nil,or_false]
   constructor
   ·rintro ((z | z) | z)
    ·exact .inl z
    ·exact .inr (.inl z)
    ·exact .inr (.inr z)
   ·rintro (z | z | z)
    ·exact .inl (.inl z)
    ·exact .inl (.inr z)
    ·exact .inr z
theorem Wx:∀ (l acc:List Int),acc.Nodup->(zi acc l).Nodup
 |[],acc,h=>h
 |k::r,acc,h=>by
  unfold zi
  refine Wx r _ ?_
  by_cases z:k ∈ acc
  ·rw[if_pos z];exact h
  ·rw[if_neg z]
   exact List.nodup_append.mpr ⟨h,by simp,λa ha b hb=>by rw[List.mem_singleton.mp hb];exact λe=>z (e ▸ ha)⟩
theorem js {x:Int}:∀ (l:List Int),x ∈ ZA l ↔ x ∈ l
 |[]=>by simp[ZA]
 |a::r=>by
  unfold ZA
  simp only[List.mem_cons,List.mem_filter,js r]
  by_cases h:x=a
  ·simp[h]
  ·simp[h]
theorem uR:∀ (l:List Int),(ZA l).Nodup
 |[]=>by simp[ZA]
 |a::r=>by
  unfold ZA
  refine List.nodup_cons.mpr ⟨λh=>?_,(uR r).filter _⟩
  simpa using (List.mem_filter.mp h).2
theorem Vc {x a:Int}:∀ (l:List Int),x ∈ Xk a l ↔ x=a\/x ∈ l
 |[]=>by simp[Xk]
 |b::r=>by
  unfold Xk
  by_cases h:a<b
  ·rw[if_pos h];simp
  ·rw[if_neg h]
   by_cases e:a=b
   ·rw[if_pos e];subst e;simp
   ·rw[if_neg e,List.mem_cons,Vc r,List.mem_cons]
    constructor
    ·rintro (z | z | z)
     ·exact .inr (.inl z)
     ·exact .inl z
     ·exact .inr (.inr z)
    ·rintro (z | z | z)
     ·exact .inr (.inl z)
     ·exact .inl z
     ·exact .inr (.inr z)
theorem U0 {a:Int}:∀ (l:List Int),l.Pairwise (· < ·)->(Xk a l).Pairwise (· < ·)
 |[],_=>by simp[Xk]
 |b::r,h=>by
  unfold Xk
  obtain⟨h1,h2⟩:=List.pairwise_cons.mp h
  by_cases z:a<b
  ·rw[if_pos z]
   refine List.pairwise_cons.mpr ⟨λx hx=>?_,h⟩
   rcases List.mem_cons.mp hx with rfl | hx
   ·exact z
   ·exact Int.lt_trans z (h1 x hx)
  ·rw[if_neg z]
   by_cases e:a=b
   ·rw[if_pos e];exact h
   ·rw[if_neg e]
    refine List.pairwise_cons.mpr ⟨λx hx=>?_,U0 r h2⟩
    rcases (Vc r).mp hx with rfl | hx
    ·omega
    ·exact h1 x hx
theorem Qn {x:Int}:∀ (l:List Int),x ∈ ZF l ↔ x ∈ l
 |[]=>by simp[ZF]
 |a::r=>by rw[ZF,Vc,Qn r,List.mem_cons]
theorem um:∀ (l:List Int),(ZF l).Pairwise (· < ·)
 |[]=>by simp[ZF]
 |a::r=>by rw[ZF];exact U0 _ (um r)
theorem K9 (l:List Int):(zi [] l).length=(ZA l).length:=
 ((List.perm_ext_iff_of_nodup (Wx l [] (by simp)) (uR l)).mpr λx=>by rw[UY,js];simp).length_eq
theorem KH:∀ (l acc:List Int),(zi acc l).length<=acc.length+l.length
 |[],acc=>by simp[zi]
 |k::r,acc=>by
  unfold zi
  refine Nat.le_trans (KH r _) ?_
  split<;>simp<;>omega
theorem zAQ {l ms:List Int}(h:ms.Perm (zi [] l))(hs:ms.Pairwise (· ≤ ·)):ms=ZF l:=by
 have hn:(ZF l).Nodup:=(um l).imp λh e=>absurd (e ▸ h) (Int.lt_irrefl _)
 have hp:ms.Perm (ZF l):=h.trans ((List.perm_ext_iff_of_nodup (Wx l [] (by simp)) hn).mpr λx=>by rw[UY,Qn];simp)
 exact List.Perm.eq_of_pairwise (λa b _ _ h1 h2=>Int.le_antisymm h1 h2) hs ((um l).imp λh=>Int.le_of_lt h) hp
theorem QD {X:Cx}{pins:List (Addr×Obj)}{σ:List (Option V)}{H:Hp}{s:Shared}(I:Inv X pins σ H s)(d:Drawn):Inv X pins σ H { s with drawn:=d }:=⟨I.ok,I.os,I.bare,I.base,I.loc,I.cell,I.free,I.freeC,I.pin,I.hok,I.len⟩
noncomputable def uf (P:Program)(w:World)(a:Addr)(ns:List Int):HO:=.ext λh=>yz P w (!w.params.followText "set-order") a ns h
theorem Yz:∀ {ns:List Int}{its:List Value},Vals (ns.map V.int) its->IntsAre its ns
 |[],_,.nil=>.nil
 |n::r,_,.cons h t=>by
  obtain⟨k,rfl⟩:=h
  exact .cons _ _ (Yz t)
theorem vA:∀ {its:List Value}{ns:List Int},IntsAre its ns->Vals (ns.map V.int) its
 |_,_,.nil=>.nil
 |_,_,.cons n t h=>.cons ⟨t,rfl⟩ (vA h)
section
variable {X:Cx}{K:PySem.W.Frag}{E:XK}
noncomputable def qi (P:Program)(w:World)(K:PySem.W.Frag):List V->Hp->VK->Prop:=λxs H Q=>∃ (p:Addr)(ns:List Int),xs=[.ref p]/\(SqL K H p (ns.map V.int)\/SqT K H p (ns.map V.int))/\ns.length+1<scanBound/\∀ l,H l=none->Q (.ref l) (upd H l (uf P w l (zi [] ns)))
theorem v7 (hc:X.calm=true):CallR X (.type "set") (qi X.prog X.w X.K):=by
 intro pins s σ H xs us Q I r h
 obtain⟨p,ns,rfl,hq,hb,q⟩:=h
 obtain⟨u,rfl,rx⟩:=vals1 r
 cases rx
 have fin:∀ (h':Heap) (tk:Nat),yz X.prog X.w (!X.w.params.followText "set-order") s.heap.objs.size (zi [] ns) h'->(∀ b o,b<s.heap.objs.size->s.heap.get? b=some o->h'.get? b=some o) ->
   EP X pins σ Q (.ref s.heap.objs.size) { s with heap:=h',toks:=tk }:=λh' tk J k=>by
  refine⟨.ref s.heap.objs.size,_,I.laid (t':=tk) (o:=uf X.prog X.w s.heap.objs.size (zi [] ns)) (λb o e=>k b o (Heap.lt_size e) e) (Nat.le_refl _) ?_,rfl,q _ (I.hok.fresh (Nat.le_refl _))⟩
  obtain⟨ob,_,_,_,e,_⟩:=id J
  exact⟨J,⟨ob,e⟩,λh1 h2 j k=>yz.keep j k⟩
 rcases hq with hq | hq
 ·obtain⟨its,r',pl,hz⟩:=I.list hq
  have hI:=Yz r'
  obtain⟨o,ho,hcl,n,hd⟩:=pl.isList
  exact W5 VF (I.ok.hd hc) ho hcl hd (by simpa using hI) (by rw[List.size_toArray,hI.length];exact hb) fin
 ·obtain⟨its,r',pl,hz⟩:=I.tuple hq
  have hI:=Yz r'
  obtain⟨o,ho,hcl,n,hd⟩:=pl
  exact W5 vH (I.ok.hd hc) ho hcl hd (by simpa using hI) (by rw[List.size_toArray,hI.length];exact hb) fin
noncomputable def wy (P:Program)(w:World):List V->Hp->VK->Prop:=λxs H Q=>∃ (p:Addr)(ns:List Int),xs=[.ref p]/\H p=some (uf P w p ns)/\Q (.int ns.length) H
theorem ua:CallR X (.builtin "len") (wy X.prog X.w):=by
 intro pins s σ H xs us Q I r h
 obtain⟨p,ns,rfl,hp,q⟩:=h
 obtain⟨u,rfl,rx⟩:=vals1 r
 cases rx
 obtain⟨⟨ob,en,age,tb,h0,ex,d,el,pm,hb,hf,ok⟩,_⟩:=(show ObjOk X.prog X.w H s.heap p (uf X.prog X.w p ns) from I.hok p _ hp)
 have hl:en.size=ns.length:=by simpa using pm.length_eq
 refine call_len_set h0 ex d hf (by unfold scanBound at hb;omega) ?_
 exact⟨.int ns.length,H,I.tok _,⟨s.toks+1,by rw[hl]⟩,q⟩
noncomputable def WP (P:Program)(w:World):List V->Hp->VK->Prop:=λxs H Q=>∃ (p:Addr)(ns:List Int),xs=[.ref p]/\H p=some (uf P w p ns)/\ns.length<64/\∀ (l:Addr)(ms:List Int),ms.Perm ns->ms.Pairwise (· ≤ ·)->H l=none->Q (.ref l) (upd H l (.lst (ms.map V.int)))
theorem Vk (hc:X.calm=true):CallR X (.builtin "sorted") (WP X.prog X.w):=by
 intro pins s σ H xs us Q I r h
 obtain⟨p,ns,rfl,hp,h64,q⟩:=h
 obtain⟨u,rfl,rx⟩:=vals1 r
 cases rx
 obtain⟨J,_⟩:=(show ObjOk X.prog X.w H s.heap p (uf X.prog X.w p ns) from I.hok p _ hp)
 refine uq (I.ok.hd hc) J h64 λL h' tk d out ms e hI hpm hs hL hg k=>?_
 have hlen:=hpm.length_eq
 refine⟨.ref L,_,QD (I.laid (t':=tk) (o:=.lst (ms.map V.int)) k hL ⟨by rw[List.length_map,sizeLine_eq];omega,out.toList,e,vA hI,by rw[Array.toArray_toList];exact hg⟩) d,rfl,q L ms hpm hs (I.hok.fresh hL)⟩
theorem wB:∀ {ds:List D}{ns:List Int},Zv ds=some ns->ds=ns.map D.int
 |[],_,e=>by cases e;rfl
 |d::r,ns,e=>by
  cases d<;>first | (cases e;done) | skip
  obtain⟨ms,e1,rfl⟩:=Option.map_eq_some_iff.mp e
  rw[wB e1]
  rfl
theorem WN:∀ {G:Hp}{ns:List Int}{vs:List V},zF K G (ns.map D.int) vs->vs=ns.map V.int
 |_,[],vs,r=>r.nil_inv
 |_,n::ns,vs,r=>by
  obtain⟨v,vr,rfl,rv,rr⟩:=r.cons_inv
  rw[WN rr,zJ.mp rv]
  rfl
theorem y9 (G:Hp):∀ (ns:List Int),zF K G (ns.map D.int) (ns.map V.int)
 |[]=>zF.nil
 |n::ns=>zF.cons (zJ.mpr rfl) (y9 G ns)
theorem XO {G H:Hp}{d:D}{v:V}{ds:List D}{ns:List Int}(s:Same G H)(h:d=.tup ds\/d=.lst ds)(r:Rep K G d v)(e:Zv ds=some ns):∃ p,v=.ref p/\(SqL K H p (ns.map V.int)\/SqT K H p (ns.map V.int)):=by
 rcases h with rfl | rfl
 ·obtain⟨a,vs,rfl,hq,rl⟩:=zh.mp r
  rw[wB e]at rl
  rw[WN rl]at hq
  exact⟨a,rfl,.inr (SqT.same s hq)⟩
 ·obtain⟨a,vs,rfl,hq,rl⟩:=zQ.mp r
  rw[wB e]at rl
  rw[WN rl]at hq
  exact⟨a,rfl,.inl (s.seq hq)⟩
theorem qg {P:Program}{w:World}{te:TE}{m:M D}(he:RE K E te m):RE K E (tCB (wy P w) (tCons (tCB (qi P w K) (tCons te tNil)) tNil)) (op1 xY m):=by
 intro G0 H0 ρ σ G H ho
 refine RAt.bind (t2:=λx σ H1 Q=>qi P w K [x] H1 λy H2=>wy P w [y] H2 Q) (he G0 H0 ρ σ G H ho) λd ρ1 v G1 H1 s1 h1 r1=>?_
 refine RAt.opt1 λr e=>?_
 intro Q hQ
 have key:∀ (ds:List D),(d=.tup ds\/d=.lst ds)->((Zv ds).bind λns=>if ns.length<1000 then some (D.int (ZA ns).length) else none)=some r->qi P w K [v] H1 λy H2=>wy P w [y] H2 Q:=by
  intro ds hd e
  obtain⟨ns,e1,e2⟩:=Option.bind_eq_some_iff.mp e
  split at e2
  ·rename_i hz
   cases e2
   obtain⟨p,rfl,hq⟩:=XO h1.e.s hd r1 e1
   refine⟨p,ns,rfl,hq,by unfold scanBound;omega,λl hl=>⟨l,_,rfl,upd_same,?_⟩⟩
   have h2:=h1.grow (Wy (o:=uf P w l (zi [] ns)) h1.e.s hl) (Same.upd hl)
   exact hQ _ G1 _ (Same.refl _) h2 (zJ.mpr (by rw[K9]))
  ·cases e2
 cases d<;>first | (cases e;done) | skip
 ·exact key _ (.inl rfl) e
 ·exact key _ (.inr rfl) e
theorem uw {P:Program}{w:World}{te:TE}{m:M D}(he:RE K E te m):RE K E (tCB (WP P w) (tCons (tCB (qi P w K) (tCons te tNil)) tNil)) (op1 YI m):=by
 intro G0 H0 ρ σ G H ho
 refine RAt.bind (t2:=λx σ H1 Q=>qi P w K [x] H1 λy H2=>WP P w [y] H2 Q) (he G0 H0 ρ σ G H ho) λd ρ1 v G1 H1 s1 h1 r1=>?_
 refine RAt.opt1 λr e=>?_
 intro Q hQ
 cases d<;>first | (cases e;done) | skip
 rename_i ds
 obtain⟨ns,e1,e2⟩:=Option.bind_eq_some_iff.mp (show ((Zv ds).bind λns=>if ns.length<64 then some (D.lst ((ZF ns).map .int)) else none)=some r from e)
 split at e2
 ·rename_i hz
  cases e2
  obtain⟨p,rfl,hq⟩:=XO h1.e.s (.inr rfl) r1 e1
  have hle:=KH ns []
  simp at hle
  refine⟨p,ns,rfl,hq,by unfold scanBound;omega,λl hl=>⟨l,_,rfl,upd_same,by omega,λl2 ms hp hs hl2=>?_⟩⟩
  cases zAQ hp hs
  have h2:=h1.grow (Wy (o:=uf P w l (zi [] ns)) h1.e.s hl) (Same.upd hl)
  have x:=Ext.new (o:=.lst ((ZF ns).map V.int)) h2.e.s hl2
  exact hQ _ _ _ x.g (h2.grow x (Same.upd hl2)) (zQ.mpr ⟨l2,_,rfl,SqL.of upd_same,y9 _ _⟩)
 ·cases e2
end
section
variable {X:Cx}{E:XK}{e:Expr}{p p2 pos cp:Pos}{m:M D}
theorem qv (hl:X.mg "len" = none)(hs:X.mg "set" = none)(h:ME X E e m)(hc:autoParam (X.calm=true) aR._auto_1)(hgl:Gl X "len":=by rfl)(hgs:Gl X "set":=by rfl)(hst:autoParam (starEach [e] X.env=[(false,eval e X.env)]) aR._auto_1)
  (hst2:starEach [.Call (.Name "set" p2) [e] [] cp] X.env=[(false,eval (.Call (.Name "set" p2) [e] [] cp) X.env)]:=by rfl):ME X E (.Call (.Name "len" p) [.Call (.Name "set" p2) [e] [] cp] [] pos) (op1 xY m):=by
 obtain⟨t,pe,re⟩:=h
 exact⟨_,pe_callB ua hgl hl (by with_unfolding_all rfl) (pa_cons (pe_callTy (v7 hc) hgs hs (by with_unfolding_all rfl) (pa_cons pe pa_nil hst) (by decide) (by decide) hst (by rfl)) pa_nil hst2) (by decide) (by decide) hst2 (by rfl),qg re⟩
theorem UG (hl:X.mg "sorted" = none)(hs:X.mg "set" = none)(h:ME X E e m)(hc:autoParam (X.calm=true) aR._auto_1)(hgl:Gl X "sorted":=by rfl)(hgs:Gl X "set":=by rfl)(hst:autoParam (starEach [e] X.env=[(false,eval e X.env)]) aR._auto_1)
  (hst2:starEach [.Call (.Name "set" p2) [e] [] cp] X.env=[(false,eval (.Call (.Name "set" p2) [e] [] cp) X.env)]:=by rfl):ME X E (.Call (.Name "sorted" p) [.Call (.Name "set" p2) [e] [] cp] [] pos) (op1 YI m):=by
 obtain⟨t,pe,re⟩:=h
 exact⟨_,pe_callB (Vk hc) hgl hl (by with_unfolding_all rfl) (pa_cons (pe_callTy (v7 hc) hgs hs (by with_unfolding_all rfl) (pa_cons pe pa_nil hst) (by decide) (by decide) hst (by rfl)) pa_nil hst2) (by decide) (by decide) hst2 (by rfl),uw re⟩
end
end PM
namespace PM
open PySem
noncomputable def jn:Option Slot->Option Int
 |some (.fz (.int k))=>some k
 |_=>none
noncomputable def zAI (i:Nat)(m:M D):M Fl:=λρ=>(zO (jn ρ[i]?) ρ).bnd λx ρ=>(m ρ).bnd λy ρ=>(zO (YC y) ρ).bnd λb ρ=>.ok .nx (ρ.set i (.fz (.int (x+b))))
noncomputable def Z9:List D->Nat->List D
 |[],_=>[]
 |d::r,i=>.tup [.int (i:Nat),d]::Z9 r (i+1)
noncomputable def wJ:D->Option (List D)
 |.lst ds=>some (Z9 ds 0)
 |_=>none
end PM
namespace PM
open PySem PySem.Spec PyProof.Rows L2
section
variable {X:Cx}{K:PySem.W.Frag}{E:XK}
theorem QJ {o:Option Slot}{k:Int}(h:jn o=some k):o=some (.fz (.int k)):=by
 unfold jn at h
 split at h
 ·cases h;rfl
 ·cases h
theorem UR {d:D}{k:Int}(h:YC d=some k):d=.int k:=by
 cases d<;>first | (cases h;done) | skip
 cases h
 rfl
theorem Kg {i:Nat}{te:TE}{m:M D}(he:RE K E te m):RS K E (tAug i te (ipI λa b=>a+b)) (zAI i m):=by
 intro G0 H0 ρ σ G H ho
 refine RSt.opt λk ek=>?_
 obtain⟨v,e1,rv⟩:=ho.sl i _ (QJ ek)
 have hv:v=.int k:=zJ.mp rv
 subst hv
 have:=RSt.bind (t2:=λy D σ H1=>(ipI λa b=>a+b) (.int k) y H1 λz H2=>D.nx (σ.set i (some z)) H2) (he G0 H0 ρ σ G H ho) (k:=λy ρ=>(zO (YC y) ρ).bnd λb ρ=>.ok .nx (ρ.set i (.fz (.int (k+b))))) λd ρ1 v G1 H1 s1 h1 r1=>?_
 ·exact λD hD=>⟨.int k,e1,this D hD⟩
 ·refine RSt.opt λb eb=>?_
  rw[UR eb]at r1
  cases zJ.mp r1
  exact λD hD=>⟨k,b,rfl,rfl,hD _ G1 H1 (Same.refl _) (h1.setFz (zJ.mpr rfl))⟩
theorem Ky {e:Expr}{m:M D}{x:Str}{p2 pos:Pos} (i:Nat)(hN:X.N.Nodup)(h:ME X E e m)(hi:autoParam (X.N[i]? = some x) aR._auto_1)(hx:autoParam (Loc X.env.scope x) aL._auto_1)(hf:autoParam (X.fn x=true\/X.env.scope.names.lookup x=some .local) aF._auto_1) :
  MS X E (.AugAssign (.Name x p2) .Add e pos) (zAI i m):=by
 obtain⟨t,pe,re⟩:=h
 exact⟨_,ps_aug hN hi hx pe ip_add hf,Kg re⟩
theorem uy (bs:List Bool):((List.range bs.length).any λi=>(bs[i]?).getD false)=bs.any id:=by
 rw[Bool.eq_iff_iff]
 simp only[List.any_eq_true,List.mem_range,id]
 constructor
 ·rintro⟨i,hi,h⟩
  rw[List.getElem?_eq_getElem hi,Option.getD_some]at h
  exact⟨_,List.getElem_mem hi,h⟩
 ·rintro⟨b,hb,h⟩
  obtain⟨i,hi,e⟩:=List.mem_iff_getElem.mp hb
  exact⟨i,hi,by rw[List.getElem?_eq_getElem hi,Option.getD_some,e];exact h⟩
noncomputable def zAa (K:PySem.W.Frag):List V->Hp->VK->Prop:=λxs H Q=>∃ (a:Addr)(bs:List Bool),xs=[.ref a]/\SqL K H a (bs.map V.bl)/\Q (.bl (bs.any id)) H
theorem QW (hc:X.calm=true):CallR X (.builtin "any") (zAa X.K):=by
 intro pins s σ H xs us Q I r h
 obtain⟨a,bs,rfl,hq,q⟩:=h
 obtain⟨u,rfl,rx⟩:=vals1 r
 cases rx
 obtain⟨its,r',pl,hz⟩:=I.list hq
 cases VB r'
 have hl:=pl.isList
 have hlt:a<s.heap.objs.size:=by
  obtain⟨o,e,_⟩:=hl
  exact Heap.lt_size e
 refine call_any_walk (wpAny_pyIter_list hl ?_)
 refine⟨_,[s.heap.objs.size,a],[s.heap.objs.size],_,_,_,λi=>(bs[i]?).getD false,rfl,Walks.list (A:=X.A.in1) (I.ok.hd hc) _ a (Nat.ne_of_lt hlt) _,⟨⟨_,Heap.get?_push_size _ rfl,rfl,rfl⟩,hl.push _⟩,?_,?_⟩
 ·intro i v s' Q' E' hP hQ
  rw[List.getElem?_toArray,List.getElem?_map]at hP
  cases z:bs[i]? with
  |none=>rw[z]at hP;cases hP
  |some b=>
   rw[z]at hP
   cases hP
   simp only[z,Option.getD_some]at hQ
   exact wpAny_truthy_bool hQ
 ·intro h' tk hk
  rw[List.size_toArray,List.length_map,uy]
  exact⟨.bl _,H,I.kept λb o e=>hk b o (λz=>by rw[List.mem_singleton.mp z]at e;exact Nat.lt_irrefl _ (Heap.lt_size e)) (Heap.get?_push_of_some _ e),rfl,q⟩
theorem kY:ClM K (zAa K) (ZB JC):=by
 intro G H xs ds d Q s r e q
 cases ds with
 |nil=>cases e
 |cons x t=>
  cases t with
  |cons _ _=>cases e
  |nil=>
   obtain⟨v,vr,rfl,rv,rr⟩:=r.cons_inv
   rw[rr.nil_inv]
   have e':JC x=some d:=e
   cases x<;>first | (cases e';done) | skip
   obtain⟨bs,e1,rfl⟩:=Option.map_eq_some_iff.mp e'
   obtain⟨a,vs,rfl,hq,rl⟩:=zQ.mp rv
   rw[wL e1]at rl
   rw[WO rl]at hq
   exact⟨a,bs,rfl,s.seq hq,q _ G H (Ext.refl s) (Same.refl _) (ZL.mpr rfl)⟩
end
section
variable {X:Cx}{E:XK}{e:Expr}{es:List Expr}{pos p p3:Pos}{m:M D}
theorem K3 {ms:List (M D)}(hm:X.mg "any" = none)(ha:MA X E (e::es) ms)(hc:autoParam (X.calm=true) aR._auto_1)(hg:Gl X "any":=by rfl)(he:autoParam (starEach (e::es) X.env=(false,eval e X.env)::starEach es X.env) aR._auto_1)(hpl:autoParam ((backTo pos (starEach es X.env)).any (·.1)=false) aR._auto_1) :
  ME X E (.Call (.Name "any" p) (e::es) [] pos) (zY (ZB JC) ms):=ZE (QW hc) kY hg hm (by with_unfolding_all rfl) ha (by decide) (by decide) he hpl
end
end PM
namespace PM
open PySem PySem.Spec PyProof.Rows L2
section
variable {l b:Addr}{xs ys:Array Value}{ns ms:List Int}{ol ob:Obj}{nl nb:Nat}
end
section
variable {X:Cx}{K:PySem.W.Frag}{E:XK}
end
end PM
namespace PM
open PySem PySem.Spec PyProof.Rows L2
section
variable {X:Cx}{pins:List (Addr×Obj)}{σ:List (Option V)}{H:Hp}{s:Shared}{h':Heap}
theorem wb {ch:List Addr}{p:Addr}{o:HO}{t':Nat}(I:Inv X pins σ H s)(hch:∀ b ∈ ch,FpOk X pins H b)(k:∀ b u,b ∉ ch->s.heap.get? b=some u->h'.get? b=some u)(hp:s.heap.objs.size<=p)
  (new:ObjOk X.prog X.w (upd H p o) h' p o):Inv X pins σ (upd H p o) { s with heap:=h',toks:=t' }:=by
 have hn:=I.hok.fresh hp
 have nch:∀ b u,H b=some u->b ∉ ch:=λb u e z=>by have:=(hch b z).1;rw[this]at e;cases e
 refine I.step (g':=s.gens) (d':=s.drawn) (ch:=ch) (λb hb=>?_) (λb u _ _ hc e _=>k b u hc e) (λb u _ _ hc e _=>⟨u.slots,k b u hc e⟩) (λb u _ e n=>?_)
  (λb u hc e=>⟨u,k b u hc e⟩) (λb xs e=>?_) (λb u v e=>?_) (λb ps e=>⟨#[],?_⟩) (λm hm=>?_) (λb u e=>?_) I.bare
 ·obtain⟨f0,f1,f2,f3,f4,f5⟩:=hch b hb
  exact⟨f3,f1,f4,f5⟩
 ·rw[upd_ne (λz=>absurd (Heap.lt_size e) (by rw[z];exact Nat.not_lt_of_le hp))];exact n
 ·rw[upd_ne (ne_of_none e hn)];exact e
 ·rw[upd_ne (ne_of_none e hn)];exact e
 ·rw[upd_ne (ne_of_none e hn)];simpa using e
 ·obtain⟨u,es,ep,ho,r⟩:=hm
  exact⟨u,es,ep,k _ u (λz=>(hch _ z).2.1 rfl) ho,r⟩
 ·by_cases hb:b=p
  ·subst hb;rw[upd_same]at e;cases e;exact new
  ·rw[upd_ne hb]at e
   refine (I.hok b u e).stay (λc v hc q=>k c v ?_ q) (λc q=>by rw[upd_ne (ne_of_none q hn)];exact q) λc xs q=>by rw[upd_ne (ne_of_none q hn)];exact q
   rcases hc with z | z
   ·rw[z];exact nch b u e
   ·exact nch c _ z
theorem vk {ch:List Addr}{t':Nat}(I:Inv X pins σ H s)(hch:∀ b ∈ ch,FpOk X pins H b)(k:∀ b u,b ∉ ch->s.heap.get? b=some u->h'.get? b=some u):Inv X pins σ H { s with heap:=h',toks:=t' }:=by
 have nch:∀ b u,H b=some u->b ∉ ch:=λb u e z=>by have:=(hch b z).1;rw[this]at e;cases e
 refine I.step (g':=s.gens) (d':=s.drawn) (ch:=ch) (λb hb=>?_) (λb u _ _ hc e _=>k b u hc e) (λb u _ _ hc e _=>⟨u.slots,k b u hc e⟩) (λb u _ e n=>n)
  (λb u hc e=>⟨u,k b u hc e⟩) (λb xs e=>e) (λb u v e=>e) (λb ps e=>⟨#[],by rw[e];simp⟩) (λm hm=>?_) (λb u e=>?_) I.bare
 ·obtain⟨f0,f1,f2,f3,f4,f5⟩:=hch b hb
  exact⟨f3,f1,f4,f5⟩
 ·obtain⟨u,es,ep,ho,r⟩:=hm
  exact⟨u,es,ep,k _ u (λz=>(hch _ z).2.1 rfl) ho,r⟩
 ·refine (I.hok b u e).stay (λc v hc q=>k c v ?_ q) (λc q=>q) λc xs q=>q
  rcases hc with z | z
  ·rw[z];exact nch b u e
  ·exact nch c _ z
end
noncomputable def Ite (K:PySem.W.Frag)(a:Addr):It:=
 ⟨λi H=>∃ xs x,SqL K H a xs/\xs[i]? = some x,λi H x H'=>∃ p y,x=.ref p/\H p=none/\H'=upd H p (.tup [.int (i:Nat),y])/\∀ xs,SqL K H a xs->xs[i]? = some y,λi H=>∃ xs,SqL K H a xs/\xs.length<=i⟩
theorem qM {P:Program}{w:World}{K:PySem.W.Frag}{elts:List Expr} {x1}{pos:Pos}(a e it:Addr)(hne:e≠it) :
  Turn P w K (.Tuple elts x1 pos) (Ite K a) [e,it] e (λi h=>(∃ old,IsEnum h e it (i:Nat) old)/\h.IsListIter it a i) where
 mem:=by simp
 obj:=λi h st b hb=>by
  obtain⟨⟨old,h1⟩,⟨o,h2,c,d⟩⟩:=st
  simp only[List.mem_cons,List.not_mem_nil,or_false]at hb
  rcases hb with rfl | rfl
  ·exact⟨_,h1,λv z=>by
    have z':Data.fields _=Data.cell v:=z
    cases z'⟩
  ·exact⟨o,h2,λv z=>by rw[d]at z;cases z⟩
 keep:=λi h h' st k=>by
  obtain⟨⟨old,h1⟩,h2⟩:=st
  exact⟨⟨old,k e (by simp) _ h1⟩,h2.at λo q=>k it (by simp) o q⟩
 item:=by
  intro X hP hw hK hc i pins s σ H E I hf st hg
  subst hP hw hK
  obtain⟨xs,x,hq,hx⟩:=hg
  obtain⟨its,rv,p,hz⟩:=I.list hq
  obtain⟨u,hu,ru⟩:=rv.get hx
  obtain⟨⟨old,h1⟩,h2⟩:=st
  have hes:e<s.heap.objs.size:=Heap.lt_size h1
  have his:it<s.heap.objs.size:=by
   obtain⟨o,q,_⟩:=h2
   exact Heap.lt_size q
  refine wpAny_pyNext_enum_item h1 h2 p.isList (x:=u) (by simpa using hu) hne λh' ho hit' hT hsz hk=>?_
  refine⟨_,rfl,wpAny_letOwnedTupleGo_enum ho λh2' he2 sb=>?_⟩
  have kk:∀ b o,b ∉ [e,it]->s.heap.get? b=some o->h2'.get? b=some o:=λb o hb q=>by
   simp only[List.mem_cons,List.not_mem_nil,or_false,not_or]at hb
   exact (sb.2 b hb.1).trans (hk b o hb.1 hb.2 q)
  have hT2:h2'.get? s.heap.objs.size=some { cls:=.type "tuple",data:=.seq #[.int i s.toks,u] }:=(sb.2 _ (Nat.ne_of_gt hes)).trans hT
  have I1:Inv X pins σ (upd H s.heap.objs.size (.tup [.int (i:Nat),x])) { s with heap:=h2',toks:=s.toks+1 }:=
   wb I hf kk (Nat.le_refl _) ⟨by show 2<=sizeLine;decide,[.int i s.toks,u],.cons ⟨_,rfl⟩ (.cons ru .nil),⟨_,hT2,rfl,⟨0,rfl⟩,rfl⟩⟩
  have hfree:=I.hok.fresh (Nat.le_refl _)
  refine⟨.ref s.heap.objs.size,_,I1,rfl,⟨s.heap.objs.size,x,rfl,hfree,rfl,λys hy=>by rw[I.list_inj hy hq];exact hx⟩,⟨⟨u,by simpa using he2⟩,hit'.at λo q=>(sb.2 it (Ne.symm hne)).trans q⟩,λb hb=>?_⟩
  have hbn:b≠s.heap.objs.size:=by
   simp only[List.mem_cons,List.not_mem_nil,or_false]at hb
   rcases hb with rfl | rfl
   ·exact Nat.ne_of_lt hes
   ·exact Nat.ne_of_lt his
  rw[upd_ne hbn]
  exact (hf b hb).1
 done:=by
  intro X hP hw hK hc i pins s σ H E I hf st hg
  subst hP hw hK
  obtain⟨xs,hq,hx⟩:=hg
  obtain⟨its,rv,p,hz⟩:=I.list hq
  obtain⟨⟨old,h1⟩,h2⟩:=st
  have hl:=rv.length
  exact wpAny_pyNext_enum_end (I.ok.hd hc) h1 h2 p.isList (by simp;omega) λh' eb=>⟨rfl,vk (t':=s.toks) I hf λb o hb q=>eb b o (λz=>hb (by simp[z])) q⟩
 self:=λ_ _ _ _ _ st h=>by
  obtain⟨⟨old,h1⟩,h2⟩:=st
  exact wpAny_pyIter_enum h1 h
section
variable {X:Cx}
noncomputable def KE (K:PySem.W.Frag)(ta:TA):TI:=λσ H R=>ta σ H λvs H1=>∃ a,vs=[.ref a]/\(∃ xs,SqL K H1 a xs)/\R (Ite K a) H1
theorem Uv {l:Expr}{ta:TA}{elts:List Expr} {x1}{tp p pos:Pos}(hg:Gl X "enumerate")(hm:X.mg "enumerate" = none)(ha:PA X [l] ta)(hs:autoParam (starEach [l] X.env=[(false,eval l X.env)]) aR._auto_1) :
  PI X (.Tuple elts x1 tp) (.Call (.Name "enumerate" p) [l] [] pos) (KE X.K ta):=by
 intro pins s σ H R I h
 have boot:bootBuiltins "enumerate" = some (.type "enumerate"):=by with_unfolding_all rfl
 refine Call_ (ld_blt I hg hm boot (PyProof.Rows.callWith_type1 (thn (ha pos pins s σ H _ I h) λus s1 ⟨vs,H1,I1,r1,q1⟩=>?_) hs rfl))
 obtain⟨a,e,⟨xs,hq⟩,q⟩:=q1
 subst e
 obtain⟨u,rfl,rx⟩:=vals1 r1
 cases rx
 obtain⟨its,rv,pl,hz⟩:=I1.list hq
 refine call_enumerate_list pl.isList λh' he hit hsz hk=>?_
 refine wpAny_pyIter_enum he ?_
 have n1:s1.heap.objs.size+1≠s1.heap.objs.size:=Nat.succ_ne_self _
 refine⟨s1.heap.objs.size+1,[s1.heap.objs.size+1,s1.heap.objs.size],_,_,H1,rfl,I1.kept (t':=s1.toks) hk,qM a _ _ n1,⟨⟨_,he⟩,hit⟩,λb hb=>?_,q⟩
 have hb2:s1.heap.objs.size<=b:=by
  simp only[List.mem_cons,List.not_mem_nil,or_false]at hb
  rcases hb with rfl | rfl
  ·exact Nat.le_succ _
  ·exact Nat.le_refl _
 exact I1.fpOk hb2 (I1.hok.fresh hb2)
theorem vy:∀ (ds:List D) (k:Nat),(Z9 ds k).length=ds.length
 |[],_=>rfl
 |d::r,k=>by rw[Z9,List.length_cons,List.length_cons,vy r]
theorem vz:∀ (ds:List D) (k i:Nat),(Z9 ds k)[i]? = (ds[i]?).map λd=>D.tup [.int ((k+i:Nat):Int),d]
 |[],k,i=>by simp[Z9]
 |d::r,k,0=>by simp[Z9]
 |d::r,k,i+1=>by
  rw[Z9,List.getElem?_cons_succ,List.getElem?_cons_succ,vz r,show k+1+i=k+(i+1) by omega]
theorem jc {K:PySem.W.Frag}{G:Hp}{a:Addr}{ds:List D}{vs:List V}(hq:SqL K G a vs)(rl:zF K G ds vs):ItOk K (Ite K a) G (Z9 ds 0):=by
 refine⟨λG' H' i d sg sh hd=>?_,λG' H' sg sh=>⟨vs,sh.seq (sg.seq hq),by rw[vy,rl.len];exact Nat.le_refl _⟩⟩
 rw[vz]at hd
 obtain⟨d0,h0,rfl⟩:=Option.map_eq_some_iff.mp hd
 obtain⟨v,hv,rv⟩:=rl.get h0
 have q:SqL K H' a vs:=sh.seq (sg.seq hq)
 refine⟨⟨vs,v,q,hv⟩,λx H'' ⟨p,y,e1,hp,e2,e3⟩=>?_⟩
 subst e1
 subst e2
 have e4:=e3 vs q
 rw[hv]at e4
 cases e4
 have ex:=Ext.new (o:=.tup [.int (i:Nat),v]) sh hp
 refine⟨_,ex,Same.upd hp,zh.mpr ⟨p,_,rfl,upd_same,zF.cons (zJ.mpr (by rw[Nat.zero_add])) (zF.cons (rv.mono (sg.trans ex.g)) zF.nil)⟩⟩
theorem kC {E:XK}{e:Expr}{m:M D}{elts:List Expr} {x1}{tp p q:Pos}(hr:X.mg "enumerate" = none)(h:ME X E e m)(hgl:Gl X "enumerate":=by rfl)(hst:autoParam (starEach [e] X.env=[(false,eval e X.env)]) aR._auto_1):MI X E (.Tuple elts x1 tp) (.Call (.Name "enumerate" p) [e] [] q) (zq wJ m):=by
 obtain⟨t,p',r⟩:=h
 refine⟨_,Uv hgl hr (pa_cons p' pa_nil hst) hst,RI.of (t2:=λx H1 R=>∃ a,[x]=[V.ref a]/\(∃ xs,SqL X.K H1 a xs)/\R (Ite X.K a) H1) r λG H d v ds R s rv e hR=>?_⟩
 cases d<;>first | (cases e;done) | skip
 cases e
 obtain⟨a,vs,rfl,hq,rl⟩:=zQ.mp rv
 exact⟨a,rfl,⟨vs,s.seq hq⟩,hR (Ite X.K a) (jc hq rl)⟩
theorem UV {K:PySem.W.Frag}{E:XK}{J:It}{g:TG}{tb:TS}{gm:GM}{b:M Fl}{ds:List D}{G0 H0:Hp}{ρ:Rho}{σ:St}{G H:Hp}{D:Ends}(ho:Hold K G0 H0 ρ σ G H)(hg:RG K g gm)(hb:RS K E tb b)(io:ItOk K J G ds)
  (hD:zo K E G0 H0 G (zj gm b ds ρ) D) :
  ∃ W:Nat->Nat->St->Hp->Prop,(∃ m,W 0 m σ H)/\∀ i m σ H,W i m σ H ->
   (J.stop i H/\D.nx σ H)\/(J.go i H/\∃ N:St->Hp->Prop,(∀ σ' H',N σ' H'->∃ m',m'<m/\W (i+1) m' σ' H')/\∀ x H',J.yld i H x H'->g x σ H' λσ2 H2=>tb { D with nx:=N,ct:=N,bk:=D.nx } σ2 H2):=by
 refine⟨λi m σ H=>m=ds.length - i/\i<=ds.length/\∃ ρ G',Same G G'/\Hold K G0 H0 ρ σ G' H/\zo K E G0 H0 G' (zj gm b (ds.drop i) ρ) D,
  ⟨ds.length,by simp,Nat.zero_le _,ρ,G,Same.refl _,ho,by simpa using hD⟩,?_⟩
 rintro i m σ H ⟨rfl,hi,ρ,G',sg,h,hp⟩
 by_cases hlt:i<ds.length
 ·refine .inr ?_
  have hd:ds[i]? = some ds[i]:=List.getElem?_eq_getElem hlt
  obtain⟨go,yl⟩:=io.go G' H i _ sg h.e.s hd
  rw[List.drop_eq_getElem_cons hlt]at hp
  unfold zj at hp
  refine⟨go,λσ' H'=>∃ ρ2 G2,Same G G2/\Hold K G0 H0 ρ2 σ' G2 H'/\zo K E G0 H0 G2 (zj gm b (ds.drop (i+1)) ρ2) D,λσ' H' ⟨ρ2,G2,s2,h2,p2⟩=>⟨ds.length - (i+1),by omega,rfl,hlt,ρ2,G2,s2,h2,p2⟩,λx H' y=>?_⟩
  obtain⟨G3,ex,hs,rv⟩:=yl x H' y
  have sg3:=sg.trans ex.g
  have hp3:=zo.mono ex.g hp
  refine hg G0 H0 ρ σ G3 H' ds[i] x _ (h.grow ex hs) rv ?_
  cases q:gm ds[i] ρ with
  |some ρ1=>
   rw[q]at hp3
   refine⟨ρ1,rfl,λσ1 G1 H1 s1 h1=>?_⟩
   refine hb G0 H0 ρ1 σ1 G1 H1 h1 _ ?_
   have hp':zo K E G0 H0 G3 ((b ρ1).bnd λf ρ=>Ym f ρ (zj gm b (ds.drop (i+1)))) D:=hp3
   cases q2:b ρ1 with
   |ok f ρ2=>
    rw[q2]at hp'
    cases f with
    |nx=>exact λσ2 G2 H2 s2 h2=>⟨ρ2,G2,sg3.trans (s1.trans s2),h2,zo.mono (s1.trans s2) hp'⟩
    |cont=>exact λσ2 G2 H2 s2 h2=>⟨ρ2,G2,sg3.trans (s1.trans s2),h2,zo.mono (s1.trans s2) hp'⟩
    |brk=>exact λσ2 G2 H2 s2 h2=>hp' σ2 G2 H2 (s1.trans s2) h2
    |ret d=>exact λv σ2 G2 H2 s2 h2=>hp' v σ2 G2 H2 (s1.trans s2) h2
   |exn c ρ2=>rw[q2]at hp';exact λσ2 G2 H2 s2 h2=>hp' σ2 G2 H2 (s1.trans s2) h2
   |bad=>rw[q2]at hp';exact hp'
  |none=>rw[q]at hp3;exact hp3.elim
 ·have e:i=ds.length:=by omega
  subst e
  rw[List.drop_length]at hp
  exact .inl ⟨io.stop G' H sg h.e.s,hp σ G' H (Same.refl _) h⟩
theorem Q0 {K:PySem.W.Frag}{E:XK}{tl:TE}{m:M D}{g:TG}{gm:GM}{tb:TS}{b:M Fl}(hl:RE K E tl m)(hg:RG K g gm)(hb:RS K E tb b):RS K E (tFor (KE K (tCons tl tNil)) g tb) (xJ m wJ gm b):=by
 intro G0 H0 ρ σ G H ho
 refine RSt.bind (t2:=λx D σ H1=>∃ a,[x]=[V.ref a]/\(∃ xs,SqL K H1 a xs)/\∃ W:Nat->Nat->St->Hp->Prop,(∃ m,W 0 m σ H1)/\∀ i m σ H,W i m σ H ->
  ((Ite K a).stop i H/\D.nx σ H)\/((Ite K a).go i H/\∃ N:St->Hp->Prop,(∀ σ' H',N σ' H'->∃ m',m'<m/\W (i+1) m' σ' H')/\∀ x H',(Ite K a).yld i H x H'->g x σ H' λσ2 H2=>tb { D with nx:=N,ct:=N,bk:=D.nx } σ2 H2)) (hl G0 H0 ρ σ G H ho) λd ρ1 v G1 H1 s1 h1 r1=>?_
 refine RSt.opt λds e=>?_
 intro D hD
 cases d<;>first | (cases e;done) | skip
 cases e
 obtain⟨a,vs,rfl,hq,rl⟩:=zQ.mp r1
 exact⟨a,rfl,⟨vs,h1.e.s.seq hq⟩,UV h1 hg hb (jc hq rl) hD⟩
theorem jM {E:XK}{e:Expr}{ma:M D}{m:M Fl}{elts:List Expr} {x1}{tp p q pos:Pos}{gm:GM}{body:List Stmt}(hp:PassesOwn (model X.prog X.w) X.A X.env X.xe)(hc:X.calm=true)(hr:X.mg "enumerate" = none)(hi:ME X E e ma)(hg:MG X (.Tuple elts x1 tp) gm)(hb:MSs X E body m)
  (hgl:Gl X "enumerate":=by rfl)(hst:autoParam (starEach [e] X.env=[(false,eval e X.env)]) aR._auto_1)(hs:∀ x,foldedSetIterable (.Call (.Name "enumerate" p) [e] [] q) X.env x=pure x:=by intro _;rfl) :
  MS X E (.For (.Tuple elts x1 tp) (.Call (.Name "enumerate" p) [e] [] q) body [] pos) (xJ ma wJ gm m):=by
 obtain⟨t,pe,r⟩:=hi
 obtain⟨g,pg,rg⟩:=hg
 obtain⟨tb,pb,rb⟩:=hb
 exact⟨_,ps_for hp hc (Uv hgl hr (pa_cons pe pa_nil hst) hst) pg pb hs,Q0 r rg rb⟩
end
end PM
namespace PM
open PySem PySem.Spec PyProof.Rows L2
theorem yW {o:Option Slot}{d:List (List D)}(h:yD o=some d):o=some (.own2 d):=by
 unfold yD at h
 split at h
 ·cases h;rfl
 ·cases h
section
variable {K:PySem.W.Frag}{E:XK}{G0 H0:Hp}{ρ:Rho}{σ:St}{G H:Hp}
theorem Hold.own2 {i:Nat}{dss:List (List D)}(ho:Hold K G0 H0 ρ σ G H)(e:yD ρ[i]? = some dss) :
  ∃ (a:Addr)(as:List Addr),σ[i]? = some (some (.ref a))/\H a=some (.lst (as.map V.ref))/\G a=none/\H0 a=none/\a ∉ as/\as.Nodup/\as.length=dss.length/\∀ (k:Nat)(b:Addr)(ds:List D),as[k]? = some b->dss[k]? = some ds->InR K H0 G H ds b:=ho.sl i _ (yW e)
theorem VI {as:List Addr}{b:Addr}(h:V.ref b ∈ as.map V.ref):b ∈ as:=by
 obtain⟨c,hc,e⟩:=List.mem_map.mp h
 cases e
 exact hc
theorem Y8 {as as':List Addr}(h:some (HO.lst (as.map V.ref))=some (.lst (as'.map V.ref))):as=as':=by
 injection h with h
 injection h with h
 exact (List.map_inj_right (f:=V.ref) (λ_ _ z=>by injection z)).mp h
theorem Hold.app2 {k:Nat}{dss:List (List D)}{a p:Addr}{as:List Addr}(h:Hold K G0 H0 ρ σ G H)(e:yD ρ[k]? = some dss)(ea:σ[k]? = some (some (.ref a)))(ha:H a=some (.lst (as.map V.ref)))(hp:H p=none) :
  Hold K G0 H0 (ρ.set k (.own2 (dss++[[]]))) σ G (upd (upd H p (.lst [])) a (.lst (as.map V.ref++[.ref p]))):=by
 obtain⟨a',as',f1,f2,ga,h0a,n1,n2,hl,r⟩:=h.own2 e
 rw[ea]at f1
 cases f1
 rw[ha]at f2
 cases Y8 f2
 have nap:a≠p:=λz=>by rw[z,hp]at ha;cases ha
 have gp:G p=none:=h.e.s.free hp
 have h0p:H0 p=none:=h.b.free hp
 have kp:∀ c,c≠a->c≠p->upd (upd H p (.lst [])) a (.lst (as.map V.ref++[.ref p])) c=H c:=λc n1 n2=>by rw[upd_ne n1,upd_ne n2]
 have fa:∀ c,c=a\/c ∈ as->(Slot.own2 dss).foot H σ[k]? c:=λc hc=>by
  rcases hc with rfl | hc
  ·exact .inl ea
  ·exact .inr ⟨a,_,ea,ha,List.mem_map_of_mem hc⟩
 refine h.put (λt ws q=>by rw[kp t (λz=>by rw[z,ha]at q;cases q) (λz=>by rw[z,hp]at q;cases q)];exact q) ⟨h.e.g,λb u q=>?_,h.e.n,λb u q=>?_⟩ (λb u q=>?_) (Same.refl _) (λj t c n q f=>⟨kp c (λz=>?_) (λz=>h.mutAt q f (by rw[z];exact hp)),((h.sl j t q).foot_in f).2.1⟩) (λ_ _=>rfl) rfl (λ_=>?_) λc fc j t n q f=>?_
 ·rw[kp b (ne_of_none q ga) (ne_of_none q gp)];exact h.e.s _ _ q
 ·rw[kp b (ne_of_none q h0a) (ne_of_none q h0p)];exact h.b _ _ q
 ·rw[kp b (ne_of_none q h0a) (ne_of_none q h0p)];exact h.b _ _ q
 ·exact n (h.ds j k t _ c q (yW e) f (fa c (.inl z)))
 ·refine⟨a,as++[p],ea,by rw[upd_same,List.map_append];rfl,ga,h0a,λz=>?_,?_,by simp[hl],λj b ds h1 h2=>?_⟩
  ·rcases List.mem_append.mp z with z | z
   ·exact n1 z
   ·exact nap (List.mem_singleton.mp z)
  ·rw[List.nodup_append]
   refine⟨n2,(by simp),λx hx y hy z=>?_⟩
   rw[List.mem_singleton.mp hy]at z
   obtain⟨i,hi⟩:=List.getElem?_of_mem hx
   obtain⟨vs,g1,_⟩:=r i x dss[i]! hi (by
    have:i<dss.length:=by rw[<-hl];exact (List.getElem?_eq_some_iff.mp hi).1
    rw[List.getElem?_eq_getElem this];simp[this])
   rw[z,hp]at g1
   cases g1
  ·by_cases hj:j<as.length
   ·rw[List.getElem?_append_left hj]at h1
    rw[List.getElem?_append_left (by omega)]at h2
    obtain⟨vs,g1,g2,g3,g4⟩:=r j b ds h1 h2
    refine⟨vs,?_,g2,g3,g4⟩
    rw[kp b (λz=>n1 (by rw[<-z];exact List.mem_of_getElem? h1)) (λz=>by rw[z,hp]at g1;cases g1)]
    exact g1
   ·have hj':j=as.length:=by
     have:=(List.getElem?_eq_some_iff.mp h1).1
     simp at this
     omega
    subst hj'
    rw[List.getElem?_append_right (Nat.le_refl _)]at h1
    rw[hl,List.getElem?_append_right (Nat.le_refl _)]at h2
    simp at h1 h2
    subst h1 h2
    exact⟨[],by rw[upd_ne (Ne.symm nap),upd_same],gp,h0p,zF.nil⟩
 ·have:c=a\/c ∈ as\/c=p:=by
   rcases fc with fc | ⟨a2,vs,g1,g2,g3⟩
   ·rw[ea]at fc;cases fc;exact .inl rfl
   ·rw[ea]at g1
    cases g1
    rw[upd_same]at g2
    cases g2
    rcases List.mem_append.mp g3 with g3 | g3
    ·exact .inr (.inl (VI g3))
    ·have:=List.mem_singleton.mp g3
     cases this
     exact .inr (.inr rfl)
  rcases this with z | z | z
  ·exact n (h.ds j k t _ c q (yW e) f (fa c (.inl z)))
  ·exact n (h.ds j k t _ c q (yW e) f (fa c (.inr z)))
  ·exact h.mutAt q f (by rw[z];exact hp)
theorem Hold.app2At {i j:Nat}{dss:List (List D)}{ds:List D}{y:D}{yv:V}{a b:Addr}{as:List Addr}{ws:List V}(h:Hold K G0 H0 ρ σ G H)(e:yD ρ[i]? = some dss)(ea:σ[i]? = some (some (.ref a)))(ha:H a=some (.lst (as.map V.ref)))
  (hb:as[j]? = some b)(hd:dss[j]? = some ds)(hw:H b=some (.lst ws))(rw_:zF K G ds ws)(ry:Rep K G y yv) :
  Hold K G0 H0 (ρ.set i (.own2 (dss.set j (ds++[y])))) σ G (upd H b (.lst (ws++[yv]))):=by
 obtain⟨a',as',f1,f2,ga,h0a,n1,n2,hl,r⟩:=h.own2 e
 rw[ea]at f1
 cases f1
 rw[ha]at f2
 cases Y8 f2
 obtain⟨_,_,gb,hb0,_⟩:=r j b ds hb hd
 have nba:a≠b:=λz=>n1 (by rw[z];exact List.mem_of_getElem? hb)
 refine h.setAt (yW e) (.inr ⟨a,_,ea,ha,List.mem_map_of_mem (List.mem_of_getElem? hb)⟩) ⟨a,as,ea,by rw[upd_ne nba];exact ha,ga,h0a,n1,n2,by rw[List.length_set];exact hl,λk c cs h1 h2=>?_⟩ λc fc=>?_
 ·by_cases hk:k=j
  ·subst hk
   rw[hb]at h1
   cases h1
   rw[ZV (List.getElem?_eq_some_iff.mp hd).1]at h2
   cases h2
   exact⟨ws++[yv],upd_same,gb,hb0,rw_.app (zF.cons ry zF.nil)⟩
  ·rw[List.getElem?_set_ne (Ne.symm hk)]at h2
   obtain⟨vs,g1,g2,g3,g4⟩:=r k c cs h1 h2
   refine⟨vs,?_,g2,g3,g4⟩
   rw[upd_ne (λz=>?_)]
   ·exact g1
   ·subst z
    have k1:=(List.getElem?_eq_some_iff.mp h1)
    have k2:=(List.getElem?_eq_some_iff.mp hb)
    exact hk ((List.getElem_inj n2).mp (k1.2.trans k2.2.symm))
 ·rcases fc with fc | ⟨a2,vs,g1,g2,g3⟩
  ·exact .inl fc
  ·rw[ea]at g1
   cases g1
   rw[upd_ne nba]at g2
   exact .inr ⟨a,vs,ea,g2,g3⟩
theorem zF.of {ds:List D}:∀ {vs:List V},ds.length=vs.length->(∀ (k:Nat)(d:D)(v:V),ds[k]? = some d->vs[k]? = some v->Rep K G d v)->zF K G ds vs:=by
 induction ds with
 |nil=>intro vs hl _;rw[List.length_eq_zero_iff.mp hl.symm];exact zF.nil
 |cons d ds ih=>
  intro vs hl h
  cases vs with
  |nil=>cases hl
  |cons v vs=>exact zF.cons (h 0 d v rfl rfl) (ih (Nat.succ.inj hl) λk d' v' e1 e2=>h (k+1) d' v' e1 e2)
theorem JW {i:Nat}{t:TS}{m:M Fl}(h:RS K E t m):RS K E t (jp i m):=by
 intro G0 H0 ρ σ G H ho
 refine RSt.opt λdss e=>?_
 obtain⟨a,as,e1,e2,ga,h0a,n1,n2,hl,r⟩:=ho.own2 e
 have rr:∀ b ∈ as,∃ vs,H b=some (.lst vs)/\G b=none:=λb hb=>by
  obtain⟨k,hk⟩:=List.getElem?_of_mem hb
  have hk':k<dss.length:=by rw[<-hl];exact (List.getElem?_eq_some_iff.mp hk).1
  obtain⟨vs,g1,g2,_⟩:=r k b _ hk (List.getElem?_eq_getElem hk')
  exact⟨vs,g1,g2⟩
 let G':Hp:=λc=>if c=a\/c ∈ as then H c else G c
 have ga':G' a=H a:=if_pos (.inl rfl)
 have gb':∀ b ∈ as,G' b=H b:=λb hb=>if_pos (.inr hb)
 have sg:Same G G':=λc u q=>by
  show (if c=a\/c ∈ as then H c else G c)=some u
  rw[if_neg]
  ·exact q
  ·rintro (rfl | hc)
   ·rw[ga]at q;cases q
   ·obtain⟨_,_,g⟩:=rr c hc;rw[g]at q;cases q
 have sh:Same G' H:=λc u q=>by
  have q:(if c=a\/c ∈ as then H c else G c)=some u:=q
  split at q
  ·exact q
  ·exact ho.e.s _ _ q
 have h1:Hold K G0 H0 (ρ.set i (.fz (.lst (dss.map .lst)))) σ G' H:=by
  refine ho.freezeAll (yW e) e1 sg sh (λb hb gb=>?_) (zQ.mpr ⟨a,as.map V.ref,rfl,SqL.of (ga'.trans e2),zF.of (by simp[hl]) λk d v hd hv=>?_⟩)
  ·have hb:(if b=a\/b ∈ as then H b else G b)≠none:=hb
   split at hb
   ·rename_i z
    rcases z with rfl | z
    ·exact .inl e1
    ·exact .inr ⟨a,_,e1,e2,List.mem_map_of_mem z⟩
   ·exact absurd gb hb
  ·rw[List.getElem?_map]at hd hv
   cases q1:dss[k]? with
   |none=>rw[q1]at hd;cases hd
   |some ds=>
    cases q2:as[k]? with
    |none=>rw[q2]at hv;cases hv
    |some b=>
     rw[q1]at hd;rw[q2]at hv
     cases hd;cases hv
     obtain⟨vs,g1,g2,g3,g4⟩:=r k b ds q2 q1
     exact zQ.mpr ⟨b,vs,rfl,SqL.of ((gb' b (List.mem_of_getElem? q2)).trans g1),g4.mono sg⟩
 exact λD hD=>h G0 H0 _ σ _ H h1 D (zo.mono sg hD)
theorem qZ {i n:Nat}{te:TE}{m:M D}(he:RE K E te m):RS K E (tDrop (tBM K "list" rAppend (tOp (rIx K) (tVar i) te) (tCons (tVar n) tNil))) (WE i m n):=by
 intro G0 H0 ρ σ G H ho
 refine RSt.opt λdss0 e0=>?_
 obtain⟨a,as0,e1,_⟩:=ho.own2 e0
 intro D hD
 refine⟨_,e1,?_⟩
 have q:RSt K E (λD σ H1=>te σ H1 λy H2=>rIx K (.ref a) y H2 λxo H3=>tyV K "list" xo H3/\tCons (tVar n) tNil σ H3 λxs H4=>rAppend xo xs H4 λ_ H5=>D.nx σ H5) ((m ρ).bnd λx ρ=>(zO (yD ρ[i]?) ρ).bnd λdss ρ=>(zO (YC x) ρ).bnd λk ρ=>(zO (yf dss.length k) ρ).bnd λj ρ=>
   (zO (dss[j]?) ρ).bnd λds ρ=>(zO (UU ρ[n]?) ρ).bnd λy ρ=>if ds.length<sizeLine then .ok .nx (ρ.set i (.own2 (dss.set j (ds++[y])))) else .bad) G0 H0 σ G H:=by
  refine RSt.bind (t2:=λy D σ H2=>rIx K (.ref a) y H2 λxo H3=>tyV K "list" xo H3/\tCons (tVar n) tNil σ H3 λxs H4=>rAppend xo xs H4 λ_ H5=>D.nx σ H5) (he G0 H0 ρ σ G H ho) λx ρ1 y G1 H1 s1 h1 r1=>?_
  refine RSt.opt λdss e=>?_
  obtain⟨a',as,f1,f2,ga,h0a,n1,n2,hl,r⟩:=h1.own2 e
  rw[e1]at f1
  cases f1
  refine RSt.opt λk ek=>?_
  refine RSt.opt λj ej=>?_
  refine RSt.opt λds ed=>?_
  refine RSt.opt λy2 ey=>?_
  intro D hD
  cases x<;>first | (cases ek;done) | skip
  cases ek
  have hj:j<as.length:=by rw[hl];exact (List.getElem?_eq_some_iff.mp ed).1
  have hb:as[j]? = some as[j]:=List.getElem?_eq_getElem hj
  generalize as[j]=b at hb
  obtain⟨ws,g1,g2,g3,g4⟩:=r j b ds hb ed
  obtain⟨yv,v1,v2⟩:=h1.sl n _ (Ws ey)
  split at hD
  ·rename_i hz
   refine .inl ⟨a,as.map V.ref,k,.ref b,rfl,zJ.mp r1,SqL.of f2,?_,.inl ⟨rfl,ws,SqL.of g1⟩,yv,v1,b,ws,yv,rfl,rfl,g1,by rw[g4.ln];exact hz,hD σ G1 _ (Same.refl _) (h1.app2At e e1 f2 hb ed g1 g4 v2)⟩
   unfold atI
   rw[List.length_map,hl,<-Xi,ej]
   show (as.map V.ref)[j]? = _
   rw[List.getElem?_map,hb]
   rfl
  ·exact hD.elim
 exact q D hD
end
section
variable {X:Cx}{E:XK}{e:Expr}{m:M D}{sts:List Stmt}{mf:M Fl}{pos:Pos}
theorem jJ (i:Nat)(h:MSs X E sts mf):MSs X E sts (jp i mf):=by
 obtain⟨t,p,r⟩:=h
 exact⟨_,p,JW r⟩
theorem qu (i n:Nat){x v:Str}{p2 p3 pv ap cp:Pos}(h:ME X E e m)(hN:autoParam (X.N[i]? = some x) aR._auto_1)(hv:autoParam (Vis X.env.scope x) aV._auto_1)(hd:autoParam ((x == ("__debug__" : Str))=false) aD._auto_1)
  (hcd:autoParam ((x == ("__classdict__" : Str))=false) aD._auto_1)(hN2:autoParam (X.N[n]? = some v) aR._auto_1)(hv2:autoParam (Vis X.env.scope v) aV._auto_1)(hd2:autoParam ((v == ("__debug__" : Str))=false) aD._auto_1)
  (hcd2:autoParam ((v == ("__classdict__" : Str))=false) aD._auto_1)(hix:PlainIx e:=by intro _ _;rfl)
  (hs0:autoParam (starEach [.Name v pv] X.env=(false,eval (.Name v pv) X.env)::starEach [] X.env) aR._auto_1)(hbase:autoParam (attributeBase (.Subscript (.Name x p2) e p3) "append" X.env (eval (.Subscript (.Name x p2) e p3) X.env)=eval (.Subscript (.Name x p2) e p3) X.env) aR._auto_1)
  (hfew:autoParam (((backTo cp (starEach [.Name v pv] X.env)).all (λx=>!x.1) && (backToKw cp (keywordEach [] X.env)).all (λx=>x.1.isSome) && decide ([Expr.Name v pv].length+([]:List Keyword).length+(if ([]:List Keyword).isEmpty then 0 else 1)<30))=true) aR._auto_1)
  (hline:autoParam ((ap.endLine == cp.line)=true) aR._auto_1)(hplain:autoParam ((backTo cp (starEach [] X.env)).any (·.1)=false) aR._auto_1)
  (hs:autoParam (swapsWith (.Call (.Attribute (.Subscript (.Name x p2) e p3) "append" ap) [.Name v pv] [] cp) none pos.line X.env=pure false) aR._auto_1):MS X E (.Expr (.Call (.Attribute (.Subscript (.Name x p2) e p3) "append" ap) [.Name v pv] [] cp) pos) (WE i m n):=by
 obtain⟨t,p,r⟩:=h
 exact⟨_,ps_expr (pe_bm PySem.F.plainAttrs_list PySem.F.slot_list_append PySem.F.type_list_append mt_append (pe_ix ix_seq (pe_var hN hv hd hcd) p hix) (pa_cons (pe_var hN2 hv2 hd2 hcd2) pa_nil hs0) hbase hfew hline hs0 hplain) hs,qZ r⟩
end
section
variable {X:Cx}{E:XK}{iter tg:Expr}{scope:Scope}{cl:List (Str×Addr)}{nt:Nat}{N':List Str}{idx:List Nat}{pos:Pos}{mi:M (List D)}{gm:GM}
theorem kU {k:Nat}{lp:Pos}:ElR X (.List [] lp) (xR k) k:=by
 intro pins s9 σ8 H9 G1 H2 G9 ρ9 p D E' I9 h9 k8 p9 hx
 unfold xR at p9
 cases eo:yD ρ9[k]? with
 |none=>rw[eo]at p9;exact p9.elim
 |some dss=>
  rw[eo]at p9
  obtain⟨a,as,e1,e2,ga,h0a,n1,n2,hl,r⟩:=h9.own2 eo
  rw[k8]at e1
  cases e1
  refine wpAny_mono (pe_lst (X:=X) (es:=[]) (pos:=lp) pa_nil _ s9 σ8 H9 (λxx H10=>∃ q,xx=.ref q/\H9 q=none/\H10=upd H9 q (.lst [])) I9 ⟨Nat.zero_le _,λq hq=>⟨q,rfl,hq,rfl⟩⟩) (λxu s10 ⟨xx,H10,I10,r10,q,ex,hq,eh⟩=>?_) hx
  subst ex eh
  have npq:p≠q:=λz=>by rw[z,hq]at e2;cases e2
  by_cases hz:dss.length<sizeLine
  ·simp only[zT,Res.bnd_ok,if_pos hz]at p9
   refine wpAny_mono (mt_append (X:=X) _ s10 σ8 _ (.ref _) [.ref q] (.ref _) [xu] (λ_ H11=>H11=upd (upd H9 q (.lst [])) p (.lst (as.map V.ref++[.ref q]))) I10 rfl (.cons r10 .nil) ⟨_,as.map V.ref,.ref q,rfl,rfl,by rw[upd_ne npq];exact e2,by simp[hl];exact hz,rfl⟩) (λ_ s11 ⟨_,H11,I11,_,e11⟩=>?_) hx
   subst e11
   exact⟨_,I11,p9 σ8 G9 _ (Same.refl _) (h9.app2 eo k8 e2 hq)⟩
  ·exfalso
   simp only[zT,Res.bnd_ok,if_neg hz]at p9
   exact p9
theorem Hold.setOwn2At {K:PySem.W.Frag}{G0 H0:Hp}{ρ ρ2:Rho}{σ σ7:St}{G H G7 H5:Hp}{i k:Nat}{p:Addr}{dss:List (List D)}(h:Hold K G0 H0 ρ σ G H)(h7:Hold K G H ρ2 σ7 G7 H5)(k7:σ7[k]? = some (some (.ref p)))(eo:yD ρ2[k]? = some dss)(h2:H p=none) :
  Hold K G0 H0 (ρ.set i (.own2 dss)) (σ.set i (some (.ref p))) G7 H5:=by
 have hh:=h.grow h7.e h7.b
 obtain⟨a,as,e1,e2,ga,h0a,n1,n2,hl,r⟩:=h7.own2 eo
 rw[k7]at e1
 cases e1
 have rr:∀ b ∈ as,H b=none:=λb hb=>by
  obtain⟨k,hk⟩:=List.getElem?_of_mem hb
  have hk':k<dss.length:=by rw[<-hl];exact (List.getElem?_eq_some_iff.mp hk).1
  obtain⟨vs,g1,g2,g3,_⟩:=r k b _ hk (List.getElem?_eq_getElem hk')
  exact g3
 refine hh.put (λ_ _ q=>q) hh.e hh.b (Same.refl _) (λj t c _ e f=>⟨rfl,((hh.sl j t e).foot_in f).2.1⟩) (λj n=>List.getElem?_set_ne (Ne.symm n)) (by rw[List.length_set]) (λhl'=>?_) λc f j t n e f'=>?_
 ·rw[ZV (by rw[<-h.len];exact hl')]
  refine⟨p,as,rfl,e2,ga,h.b.free h2,n1,n2,hl,λk b ds h1 h2=>?_⟩
  obtain⟨vs,g1,g2,g3,g4⟩:=r k b ds h1 h2
  exact⟨vs,g1,g2,h.b.free g3,g4⟩
 ·have hc:H c=none:=by
   by_cases hl':i<σ.length
   ·rw[ZV hl']at f
    rcases f with f | ⟨a2,vs,g1,g2,g3⟩
    ·cases f;exact h2
    ·cases g1
     rw[e2]at g2
     cases g2
     exact rr c (VI g3)
   ·rw[List.getElem?_eq_none (by rw[List.length_set];omega)]at f
    rcases f with f | ⟨a2,vs,g1,g2,g3⟩
    ·cases f
    ·cases g1
  refine h.mutAt e (yI (H:=H) (H':=H5) (h.sl j t e) (λ_ _ q=>h7.b _ _ q) (λb fb=>?_) f') hc
  have:=h.mutAt e fb
  cases q:H b with
  |none=>exact absurd q this
  |some o=>exact h7.b _ _ q
theorem jO (i:Nat){x:Str}{lp p2 spos:Pos}(hN:X.N.Nodup)(hcalm:X.calm=true)(B:BlkScope X scope cl nt N' idx)(hi:MI X E tg iter mi)(hidx:∀ i ∈ idx,i<X.N.length)
  (hg:∀ C s H fp pn,MGk (ZR X scope cl N' C s H fp pn) tg gm nt)
  (hx:autoParam (X.N[i]? = some x) aR._auto_1)(hl:autoParam (X.env.scope.names.lookup x=some .local) aR._auto_1)
  (hsw:autoParam (swapsWith (.ListComp (.List [] lp) [⟨tg,iter,[],0⟩] scope pos) (some (.Name x p2)) spos.line X.env=pure true) aR._auto_1)
  (hs:∀ x,foldedSetIterable iter X.env x=pure x:=by intro _;rfl):MS X E (.Assign [.Name x p2] (.ListComp (.List [] lp) [⟨tg,iter,[],0⟩] scope pos) spos) (YJ i mi nt idx gm):=by
 refine⟨λD σ H=>∃ G0 H0 ρ G,Hold X.K G0 H0 ρ σ G H/\zo X.K E G0 H0 G (YJ i mi nt idx gm ρ) D,?_,λG0 H0 ρ σ G H ho Q hQ=>⟨G0,H0,ρ,G,ho,hQ⟩⟩
 intro pins s σ H D I h
 obtain⟨G0,H0,ρ,G,ho,hD⟩:=h
 obtain⟨wi,pw,ri⟩:=hi
 unfold YJ at hD
 rw[exec_Assign_Name_used _ _ _ _ hsw]
 refine wpAny_bind (wpAny_standAt (wpAny_bind ?_))
 show wpAny _ X.A (do let _ <-comprehension (.ListComp (.List [] lp) [⟨tg,iter,[],0⟩] scope pos) scope X.env _ (newList []) false (eval iter X.env) (some (assign (.Name x p2) X.env))) _ _ s
 have hR:=ri G0 H0 ρ σ G H (λJ H'=>∃ ds ρ1 G1,mi ρ=.ok ds ρ1/\Same G G1/\Hold X.K G0 H0 ρ1 σ G1 H'/\ItOk X.K J G1 ds) ho (by
  cases q:mi ρ with
  |ok ds ρ1=>exact λJ G' H' sg h1 io=>⟨ds,ρ1,G',rfl,sg,h1,io⟩
  |exn cc ρ1=>rw[q]at hD;exact λG' H' sg h1=>hD σ G' H' sg h1
  |bad=>rw[q]at hD;exact hD)
 have core:∀ ds ρ1,mi ρ=.ok ds ρ1->∃ ρ2 dss,zj gm (xR (nt+idx.length)) ds (ZO (.own2 []) nt idx ρ1)=.ok .nx ρ2/\yD ρ2[nt+idx.length]? = some dss/\zo X.K E G0 H0 G (.ok .nx (ρ1.set i (.own2 dss))) D:=λds ρ1 emi=>by
  rw[emi]at hD
  simp only[Res.bnd_ok]at hD
  cases q:zj gm (xR (nt+idx.length)) ds (ZO (.own2 []) nt idx ρ1) with
  |ok fl ρ''=>
   rw[q]at hD
   cases fl with
   |nx=>
    cases q2:yD ρ''[nt+idx.length]? with
    |none=>simp only[Vh,q2]at hD;exact hD.elim
    |some dss=>simp only[Vh,q2,zT,Res.bnd_ok]at hD;exact⟨ρ'',dss,rfl,q2,hD⟩
   |ret d=>exact hD.elim
   |brk=>exact hD.elim
   |cont=>exact hD.elim
  |exn cc ρ''=>rw[q]at hD;exact hD.elim
  |bad=>rw[q]at hD;exact hD.elim
 refine wpAny_bind (wpAny_mono (xa (mi:=mi) (R0:=ZO (.own2 []) nt idx) (B:=λH=>H) (bm:=xR (nt+idx.length)) (c:=none) (QQ:=λ_ s'=>SP X pins D .next s') hcalm B hidx hg (λ_ _ _ _ _=>.inl ⟨rfl,rfl⟩) (λC s H fp pn=>kU) hs I pw G0 H0 G ρ (λρ1 G1 H2 p h hp=>Xl (.inr (.inl rfl)) h hp λi hi=>by rw[I.len];exact hidx i hi) hR (λds ρ1 emi=>?_)
  λds ρ1 ρ2 σ7 G1 H2 G7 H5 p C s6 emi e2 sg1 h1 h7 k7 hp IX ⟨m,hn⟩ c1 c2 c3 c4 c5=>?_) (λ_ s' hq=>wpAny_pure (wpAny_pure hq)) λ_ _ e=>e)
 ·obtain⟨ρ2,dss,q,_⟩:=core ds ρ1 emi
  exact⟨ρ2,q⟩
 ·obtain⟨ρ3,dss,q,eo,hD⟩:=core ds ρ1 emi
  have:ρ3=ρ2:=by
   have z:Res.ok Fl.nx ρ3=.ok .nx ρ2:=q.symm.trans e2
   cases z
   rfl
  subst this
  show wpAny (model X.prog X.w) X.A (assign (.Name x p2) X.env (.ref p)) _ _ s6
  refine wpAny_assign_Name (store_ok2 IX hN hx (.inl hl) (v:=.ref p) rfl (λs7 I7 ⟨a,hsb,ha⟩=>?_) (.inr hl))
  have hCa:C≠a:=by
   rintro rfl
   rcases ha with z | z
   ·exact c2 z
   ·exact c4 x C z rfl
  refine⟨m,hn.sameBut hsb hCa,λh' hs'=>?_⟩
  have IY:Inv X pins (σ.set i (some (.ref p))) H5 { s7 with heap:=h' }:=I7.turned (it:=C) (t':=s7.toks) (λb o n e=>(hs'.2 b n).trans e) c1 c2 (.inr c3) c4 c5
  exact⟨_,H5,IY,hD _ G7 H5 (sg1.trans h7.e.g) (h1.setOwn2At h7 (WD k7) eo hp)⟩
end
end PM
namespace PM
open PySem PySem.Spec PyProof.Rows L2
section
variable {K:PySem.W.Frag}{E:XK}{G:Hp}
end
end PM
namespace PM
open PySem PySem.Spec PyProof.Rows L2
section
variable {prog:Program}{w:World}{A:Around}{E:Value->Shared->Prop}{s:Shared}
end
end PM
namespace PM
open PySem PySem.Spec PyProof.Rows L2
section
variable {K:PySem.W.Frag}{E:XK}
end
end PM
namespace PM
open PySem PySem.Spec PyProof.Rows L2
section
variable {X:Cx}{pins:List (Addr×Obj)}{σ:St}{H:Hp}{s:Shared}
end
section
variable {K:PySem.W.Frag}{E:XK}
end
section
variable {X:Cx}{E:XK}{sts:List Stmt}{mf:M Fl}
end
end PM
namespace PM
open PySem PySem.Spec PyProof.Rows L2
section
variable {X:Cx}
end
section
variable {K:PySem.W.Frag}{E:XK}
end
section
variable {X:Cx}{E:XK}
variable {e f v:Expr}{pos p2 p3:Pos}{mk mx mv:M D}
end
end PM
namespace PM
open PySem PySem.Spec PyProof.Rows L2
end PM
namespace PM
open PySem PySem.Spec PyProof.Rows L2
noncomputable def rem (H:Hp)(a:Addr):Hp:=λc=>if c=a then none else H c
theorem V1 {H:Hp}{a:Addr}:rem H a a=none:=if_pos rfl
theorem yp {H:Hp}{a c:Addr}(h:c≠a):rem H a c=H c:=if_neg h
theorem uv {H:Hp}{a:Addr}:Same (rem H a) H:=λc u q=>by
 by_cases z:c=a
 ·rw[z,V1]at q;cases q
 ·rw[yp z]at q;exact q
section
variable (K:PySem.W.Frag)
end
section
variable {K:PySem.W.Frag}{E:XK}
end
section
variable {P:Program}{w:World}{K:PySem.W.Frag}{mg:Str->Option Value}{base:Heap}
end
section
variable {X:Cx}{E:XK}{e v:Expr}{es:List Expr}{pos p2 p3:Pos}{mk mv:M D}
end
end PM
namespace PM
open PySem PySem.Spec PyProof.Rows L2
section
variable {prog:Program}{w:World}{κ:Type} [DecidableEq κ] {knd:KeyKind prog w κ}{A:Around}{E:Value->Shared->Prop}{s:Shared}
end
section
variable {X:Cx}{K:PySem.W.Frag}{E:XK}
end
end PM
namespace PM
open PySem PySem.Spec PyProof.Rows L2
section
variable {X:Cx}{K:PySem.W.Frag}{E:XK}
variable {e:Expr}{es:List Expr}{pos:Pos}
end
end PM
namespace PM
open PySem PySem.Spec PyProof.Rows L2
section
variable {X:Cx}{E:XK}{elt iter tg:Expr}{scope:Scope}{cl:List (Str×Addr)}{N':List Str}{pos:Pos}{mi:M (List D)}{gm:GM}{me:M D}
end
end PM
namespace PM
open PySem PySem.Spec PyProof.Rows L2
section
variable {K:PySem.W.Frag}{E:XK}
end
section
variable {X:Cx}{E:XK}{a:Expr}{ma:M D}{pos p2:Pos}
end
end PM
namespace PM
open PySem
noncomputable abbrev Fds:=List (Str×Bool×D)
inductive OR where
 |ok (d:D)(fs:Fds) | exn (c:Addr) | bad
noncomputable def OR.of (C:Addr):Res Fl->OR
 |.ok .nx ρ=>match Z7 ρ[0]? with
  |some o=>if o.1=C then .ok .non o.2 else .bad
  |none=>.bad
 |.ok (.ret d) ρ=>match Z7 ρ[0]? with
  |some o=>if o.1=C then .ok d o.2 else .bad
  |none=>.bad
 |.exn c _=>.exn c
 |_=>.bad
noncomputable abbrev FO:=Addr->Fds->List D->OR
noncomputable def xK (n:Nat)(C:Addr)(fs:Fds)(ds:List D):Rho:=.obj C fs::ds.map .fz++List.replicate (n - (ds.length+1)) .un
noncomputable def Yu (n:Nat)(b:M Fl):FO:=λC fs ds=>OR.of C (b (xK n C fs ds))
noncomputable def vS (i:Nat)(C:Addr) (f:Str):M D:=λρ=>(zO (Z7 ρ[i]?) ρ).bnd λo ρ=>if o.1=C then (zO (o.2.lookup f) ρ).bnd λq ρ=>.ok q.2 ρ else .bad
noncomputable def XU (f:Str)(b:Bool)(d:D):Fds->Fds
 |[]=>[(f,b,d)]
 |(g,x)::r=>if g=f then (g,b,d)::r else (g,x)::XU f b d r
noncomputable def yk (i:Nat)(C:Addr) (f:Str)(e:M D):M Fl:=λρ=>(e ρ).bnd λx ρ=>(zO (Z7 ρ[i]?) ρ).bnd λo ρ=>if o.1=C/\o.2.length<1000 then .ok .nx (ρ.set i (.obj C (XU f false x o.2))) else .bad
noncomputable def Fds.free (fs:Fds):Bool:=fs.all λp=>!p.2.1
noncomputable def ZT (i:Nat)(C:Addr) (m:Str)(F:FO)(as:List (M D)):M D:=λρ=>(zO (Z7 ρ[i]?) ρ).bnd λo0 ρ=>if o0.1=C/\(o0.2.lookup m).isNone=true then (zk as ρ).bnd λds ρ=>(zO (Z7 ρ[i]?) ρ).bnd λo ρ=>
 match F C o.2 ds with
 |.ok d fs'=>if o.1=C/\Fds.free o.2=true/\Fds.free fs'=true then .ok d (ρ.set i (.obj C fs')) else .bad
 |_=>.bad
 else .bad
noncomputable def zAT:D->Option (List D)
 |.lst a=>some a
 |.tup a=>some a
 |_=>none
noncomputable abbrev Trp:=Bool×Int×List D
noncomputable def Qg (x1 x2 x3:D):Option Trp:=match x1,x2 with
 |.bl g,.int n=>(zAT x3).map λds=>(g,n,ds)
 |_,_=>none
noncomputable def JB (k:Nat)(t:Trp):M Fl:=λρ=>(zO (Zd ρ[k]?) ρ).bnd λms ρ=>if ms.length<sizeLine then .ok .nx (ρ.set k (.ownM (ms++[t]))) else .bad
noncomputable def yK (k:Nat)(e1 e2 e3:M D):M Fl:=λρ=>(e1 ρ).bnd λx1 ρ=>(e2 ρ).bnd λx2 ρ=>(e3 ρ).bnd λx3 ρ=>(zO (Qg x1 x2 x3) ρ).bnd λt ρ=>JB k t ρ
noncomputable def XL (k:Nat):Res Fl->Option (List Trp)
 |.ok .nx ρ'=>Zd ρ'[k]?
 |_=>none
noncomputable def dM (t:Trp):D:=.tup [.bl t.1,.int t.2.1,.lst t.2.2]
noncomputable def xM (mi:M (List D)) (nt:Nat)(idx:List Nat)(g:GM)(e1 e2 e3:M D):M (List Trp):=λρ=>(mi ρ).bnd λds ρ=>
 zO (XL (nt+idx.length) (zj g (yK (nt+idx.length) e1 e2 e3) ds (ZO (.ownM []) nt idx ρ))) ρ
noncomputable def yU (i:Nat)(mi:M (List D)) (nt:Nat)(idx:List Nat)(g:GM)(e1 e2 e3:M D):M Fl:=λρ=>(xM mi nt idx g e1 e2 e3 ρ).bnd λms ρ=>.ok .nx (ρ.set i (.ownM ms))
mutual
noncomputable def D.flat:D->Bool
 |.non=>true
 |.bl _=>true
 |.int _=>true
 |.str _=>true
 |.tup ds=>D.flats ds
 |_=>false
noncomputable def D.flats:List D->Bool
 |[]=>true
 |d::ds=>d.flat && D.flats ds
end
noncomputable def xt (ms:List Trp):Bool:=ms.all λt=>D.flats t.2.2
noncomputable def Y3 (i:Nat)(C:Addr) (f:Str)(m:M (List Trp)):M Fl:=λρ=>(m ρ).bnd λms ρ=>(zO (Z7 ρ[i]?) ρ).bnd λo ρ=>if xt ms=true/\o.1=C/\o.2.length<1000 then .ok .nx (ρ.set i (.obj C (XU f true (.lst (ms.map dM)) o.2))) else .bad
noncomputable def w9:List D->Bool
 |.tup (.int _::_)::_=>true
 |_=>false
noncomputable def qX (d:D):Bool:=d.flat || (match d with
 |.lst (.tup (.bl b::r)::ds)=>D.flats (.tup (.bl b::r)::ds)
 |_=>false)
noncomputable def qW (ms:List Trp)(fs:Fds):Bool:=!ms.isEmpty && ms.all (λt=>w9 t.2.2) && fs.all λp=>p.2.1 || qX p.2.2
noncomputable def unm (fs:Fds):Fds:=fs.map λp=>(p.1,false,p.2.2)
noncomputable def xF (iw ih:Nat)(C:Addr)(F:FO):M Fl:=λρ=>(zO (Zd ρ[ih]?) ρ).bnd λms ρ=>match F C [] [.lst (ms.map dM)] with
 |.ok .non fs=>if qW ms fs=true then .ok .nx (ρ.set iw (.obj C (unm fs))) else .bad
 |_=>.bad
noncomputable def Wj (C:Addr)(F:FO)(as:List (M D)):M D:=λρ=>(zk as ρ).bnd λds ρ=>match F C [] ds with
 |.exn c=>.exn c ρ
 |_=>.bad
noncomputable def lastM (d:D)(t:Trp):Trp:=(t.1,t.2.1,t.2.2.set (t.2.2.length - 1) d)
noncomputable def WH (ih ig ib im:Nat)(d:D):M Fl:=λρ=>(zO (Zd ρ[ih]?) ρ).bnd λms ρ=>if ms.all (λt=>!t.2.2.isEmpty)=true/\ig<ρ.length/\ib<ρ.length/\im<ρ.length then .ok .nx ((((ρ.set ig .un).set ib .un).set im .un).set ih (.junk ms.length)) else .bad
noncomputable def Wo:Option Slot->Option Nat
 |some (.junk n)=>some n
 |_=>none
noncomputable def ue (i:Nat)(e:M D):M Fl:=λρ=>(zO (Wo ρ[i]?) ρ).bnd λ_ ρ=>(e ρ).bnd λ_ ρ=>(zO (Wo ρ[i]?) ρ).bnd λn ρ=>if n<sizeLine then .ok .nx (ρ.set i (.junk (n+1))) else .bad
noncomputable def QE (a:Int):List Int->List Int
 |[]=>[a]
 |b::r=>if a<=b then a::b::r else b::QE a r
noncomputable def Z1:List Int->List Int
 |[]=>[]
 |a::r=>QE a (Z1 r)
noncomputable def xl:D->Option D
 |.lst ds=>(Zv ds).bind λns=>if ns.length<64 then some (.lst ((Z1 ns).map .int)) else none
 |.tup ds=>(Zv ds).bind λns=>if ns.length<64 then some (.lst ((Z1 ns).map .int)) else none
 |_=>none
noncomputable def Xh (d:D):Option D:=match d with
 |.tup [_,x]=>xl x
 |_=>none
noncomputable def Ys (f:Str):FO:=λ_ fs ds=>match fs.lookup f,ds with
 |some q,[]=>match Xh q.2 with
  |some d=>.ok d fs
  |none=>.bad
 |_,_=>.bad
noncomputable def YN (i j:Nat)(C:Addr) (f m:Str):M Fl:=λρ=>(zO (Z7 ρ[i]?) ρ).bnd λo ρ=>(zO (UU ρ[j]?) ρ).bnd λ_ ρ=>(zO ((o.2.lookup f).bind λq=>Xh q.2) ρ).bnd λ_ ρ=>if o.1=C/\(o.2.lookup m).isNone=true then .ok .nx ρ else .bad
noncomputable def tri:List D->List D->List D->List D
 |x::a,y::b,z::c=>.tup [x,y,z]::tri a b c
 |_,_,_=>[]
noncomputable def Qc:List D->Option (List D)
 |[.lst a,.lst b,.lst c]=>if b.length=a.length/\c.length=a.length then some (tri a b c) else none
 |_=>none
noncomputable def Vq (as:List (M D)):M (List D):=λρ=>(zk as ρ).bnd λds ρ=>zO (Qc ds) ρ
end PM
namespace PM
open PySem PySem.Spec PyProof.Rows L2
theorem ZX {o:Option Slot}{q:Addr×Fds}(h:Z7 o=some q):o=some (.obj q.1 q.2):=by
 unfold Z7 at h
 split at h
 ·cases h;rfl
 ·cases h
section
variable {K:PySem.W.Frag}{E:XK}{G G' H0 H0':Hp}
theorem yb {f:Str}{fs:Fds}{ws:List (Str×V)}(z:YW K H0 G fs ws):(∀ q,fs.lookup f=some q->∃ v,ws.lookup f=some v/\Rep K G q.2 v)/\(fs.lookup f=none->ws.lookup f=none):=by
 unfold YW at z
 induction z with
 |nil=>exact⟨λ_ h=>(by cases h),λ_=>rfl⟩
 |@cons p q r t h hs ih=>
  have rv:Rep K G p.2.2 q.2:=by
   have h2:=h.2
   split at h2
   ·exact h2.mono kW
   ·exact h2
  rw[List.lookup_cons,List.lookup_cons,h.1]
  cases e:f == p.1 with
  |true=>exact⟨λq hq=>⟨_,rfl,by cases hq;exact rv⟩,λz=>by cases z⟩
  |false=>exact ih
theorem uC {f:Str}{b:Bool}{d:D}{v:V}(r:Rep K (if b=true then Xp G H0 else G) d v){fs:Fds}{ws:List (Str×V)}(z:YW K H0 G fs ws):YW K H0 G (XU f b d fs) (putF f v ws):=by
 unfold YW at z
 induction z with
 |nil=>exact .cons ⟨rfl,r⟩ .nil
 |@cons p q a t h hs ih=>
  rw[XU,putF,h.1]
  by_cases e:p.1=f
  ·rw[if_pos e,if_pos e]
   exact .cons ⟨rfl,r⟩ hs
  ·rw[if_neg e,if_neg e]
   exact .cons ⟨rfl,h.2⟩ ih
theorem uD {fs:Fds}{ws:List (Str×V)}(h:YW K H0 G fs ws):fs.length=ws.length:=Paired.length h
theorem ve {fs:Fds}{ws:List (Str×V)}(hf:Fds.free fs=true)(z:YW K H0 G fs ws):YW K H0' G fs ws:=by
 unfold YW at z
 induction z with
 |nil=>exact .nil
 |@cons p q a t h hs ih=>
  unfold Fds.free at hf ih
  rw[List.all_cons,Bool.and_eq_true]at hf
  have hb:p.2.1=false:=Bool.not_eq_true' _ ▸ hf.1
  rw[hb]at h
  exact .cons (by rw[hb];exact h) (ih hf.2)
end
section
variable (K:PySem.W.Frag)(E:XK)
inductive SpO (C:Addr) (n:Nat)(F:FO)(vs:List V)(H:Hp)(Q:VK)(E:XK):Prop where
 |mk (a:Addr)(us:List V)(e:vs=.ref a::us)(hl:us.length+1=n)(G:Hp)(ds:List D)(fs:Fds)(ws:List (Str×V))(dx:Addr)(sg:Same G H)(r:zF K G ds us)(hw:H a=some (.ins C dx ws))(hg:G a=none)(dr:YW K (rem H a) G fs ws)(hq:match F C fs ds with
  |.ok d fs'=>∀ v G' H' dx' ws',Ext G (rem H a) G' H'->H' a=some (.ins C dx' ws')->G' a=none->YW K (rem H a) G' fs' ws'->Rep K G' d v->Q v H'
  |.exn c=>∀ G' H',Ext G (rem H a) G' H'->E (.ref c) none H'
  |.bad=>False)
noncomputable abbrev spO (C:Addr) (n:Nat)(F:FO):Sp:=λvs H Q E=>SpO K C n F vs H Q E
noncomputable def xw (σ:St)(G0 H0 G:Hp)(r:Res Fl)(D:Ends):Prop:=match r with
 |.ok .nx ρ'=>∀ G' H',Same G G'->Hold K G0 H0 ρ' σ G' H'->D.nx σ H'
 |.ok (.ret d) ρ'=>∀ v G' H',Same G G'->Hold K G0 H0 ρ' σ G' H'->Rep K G' d v->D.rt v H'
 |.exn c ρ'=>∀ G' H',Same G G'->Hold K G0 H0 ρ' σ G' H'->E (.ref c) none H'
 |_=>False
noncomputable def RC (t:TS)(m:M Fl):Prop:=∀ G0 H0 ρ σ G H,Hold K G0 H0 ρ σ G H->∀ D,xw K E σ G0 H0 G (m ρ) D->t D σ H
end
section
variable {K:PySem.W.Frag}{E:XK}{G0 H0:Hp}{ρ:Rho}{σ:St}{G H:Hp}
theorem xw.mono {r:Res Fl}{D:Ends}{G':Hp}(s:Same G G')(h:xw K E σ G0 H0 G r D):xw K E σ G0 H0 G' r D:=by
 cases r with
 |ok f ρ'=>
  cases f with
  |nx=>exact λG2 H2 s2 h2=>h G2 H2 (s.trans s2) h2
  |ret d=>exact λv G2 H2 s2 h2 r2=>h v G2 H2 (s.trans s2) h2 r2
  |brk=>exact h
  |cont=>exact h
 |exn c ρ'=>exact λG2 H2 s2 h2=>h G2 H2 (s.trans s2) h2
 |bad=>exact h
theorem Kp {t u:TS}{a b:M Fl}(ha:RC K E t a)(hb:RC K E u b):RC K E (tSeq t u) (zH a b):=by
 intro G0 H0 ρ σ G H ho D hD
 refine ha G0 H0 ρ σ G H ho _ ?_
 unfold zH at hD
 cases e:a ρ with
 |ok f ρ1=>
  rw[e]at hD
  cases f with
  |nx=>
   have hD':xw K E σ G0 H0 G (b ρ1) D:=by simpa[Res.bnd,Fl.isNx] using hD
   exact λG1 H1 s1 h1=>hb G0 H0 ρ1 σ G1 H1 h1 D (xw.mono s1 hD')
  |ret d=>exact hD
  |brk=>exact hD
  |cont=>exact hD
 |exn c ρ1=>rw[e]at hD;exact hD
 |bad=>rw[e]at hD;exact hD
theorem Ji {te:TE}{m:M D}(he:RE K E te m):RC K E (tDrop te) (yJ m):=by
 intro G0 H0 ρ σ G H ho D hD
 refine he G0 H0 ρ σ G H ho _ ?_
 unfold yJ at hD
 cases e:m ρ with
 |ok d ρ1=>rw[e]at hD;exact λv G1 H1 s1 h1 r1=>hD G1 H1 s1 h1
 |exn c ρ1=>rw[e]at hD;exact λG1 H1 s1 h1=>hD G1 H1 s1 h1
 |bad=>rw[e]at hD;exact hD
theorem Kq {te:TE}{m:M D}(he:RE K E te m):RC K E (tRet te) (ZQ m):=by
 intro G0 H0 ρ σ G H ho D hD
 refine he G0 H0 ρ σ G H ho _ ?_
 unfold ZQ at hD
 cases e:m ρ with
 |ok d ρ1=>rw[e]at hD;exact λv G1 H1 s1 h1 r1=>hD v G1 H1 s1 h1 r1
 |exn c ρ1=>rw[e]at hD;exact λG1 H1 s1 h1=>hD G1 H1 s1 h1
 |bad=>rw[e]at hD;exact hD
theorem Jg {i:Nat}{f:Str}{C:Addr}(cl:L2.Cls K C)(na:NoAttr K C f):RE K E (tFld K (tVar i) f) (vS i C f):=by
 intro G0 H0 ρ σ G H ho
 refine RAt.opt λo q=>?_
 obtain⟨a,dx,ws,e1,e2,e3,e4,r⟩:=ho.sl i _ (ZX q)
 intro Q hQ
 split at hQ
 ·rename_i hC
  cases ql:o.2.lookup f with
  |none=>rw[ql]at hQ;exact hQ.elim
  |some p=>
   rw[ql]at hQ
   obtain⟨v,l,rv⟩:=(yb r).1 p ql
   exact⟨.ref a,e1,a,o.1,dx,ws,v,rfl,e2,by rw[hC];exact cl,by rw[hC];exact na,l,hQ v G H (Same.refl _) ho rv⟩
 ·exact hQ.elim
theorem qh {i:Nat}{f:Str}{C:Addr}{te:TE}{m:M D}(cl:L2.Cls K C)(na:NoAttr K C f)(he:RE K E te m):RC K E (sFld K (tVar i) te f) (yk i C f m):=by
 intro G0 H0 ρ σ G H ho D hD
 unfold yk at hD
 refine he G0 H0 ρ σ G H ho _ ?_
 cases e:m ρ with
 |bad=>rw[e]at hD;exact hD
 |exn c ρ1=>rw[e]at hD;exact hD
 |ok x ρ1=>
  rw[e]at hD
  intro v G1 H1 s1 h1 r1
  have hD:xw K E σ G0 H0 G ((zO (Z7 ρ1[i]?) ρ1).bnd λo ρ=>if o.1=C/\o.2.length<1000 then .ok .nx (ρ.set i (.obj C (XU f false x o.2))) else .bad) D:=hD
  cases q:Z7 ρ1[i]? with
  |none=>rw[q]at hD;exact hD.elim
  |some o=>
   rw[q]at hD
   have hD:xw K E σ G0 H0 G (if o.1=C/\o.2.length<1000 then .ok .nx (ρ1.set i (.obj C (XU f false x o.2))) else .bad) D:=hD
   split at hD
   ·rename_i hC
    obtain⟨hC,hz⟩:=hC
    obtain⟨a,dx,ws,e1,e2,e3,e4,r⟩:=h1.sl i _ (ZX q)
    rw[hC]at e2
    refine⟨.ref a,e1,a,C,dx,ws,rfl,e2,cl,na,by rw[<-uD r];exact hz,?_⟩
    exact hD G1 _ s1 (h1.setMut (ZX q) rfl e1 e3 e4 (s':=.obj C (XU f false x o.2)) ⟨a,dx,_,rfl,upd_same,e3,e4,uC (by rw[if_neg (by decide)];exact r1) r⟩ rfl)
   ·exact hD.elim
theorem V4 {i n:Nat}{C:Addr}{m:Str}{F:FO}{ta:TA}{as:List (M D)}(ha:RL K E ta (zk as))(hn:as.length+1=n):RE K E (tMeth C m (spO K C n F) [] E (tVar i) ta) (ZT i C m F as):=by
 intro G0 H0 ρ σ G H ho
 refine RAt.opt λo0 q0=>?_
 obtain⟨a,dx0,ws0,e1,e2,e3,e4,r0⟩:=ho.sl i _ (ZX q0)
 intro Q hQ
 split at hQ
 ·rename_i hC
  obtain⟨hC,hl⟩:=hC
  rw[hC]at e2
  refine⟨.ref a,e1,a,dx0,ws0,rfl,e2,(yb r0).2 (by simpa using hl),?_⟩
  refine ha G0 H0 ρ σ G H ho _ ?_
  cases e:zk as ρ with
  |bad=>rw[e]at hQ;exact hQ
  |exn c ρ1=>rw[e]at hQ;exact hQ
  |ok ds ρ1=>
   rw[e]at hQ
   intro us G1 H1 s1 h1 r1
   have hQ:Vo K E (λG d v=>Rep K G d v) G0 H0 σ G ((zO (Z7 ρ1[i]?) ρ1).bnd λo ρ=>match F C o.2 ds with
    |.ok d fs'=>if o.1=C/\Fds.free o.2=true/\Fds.free fs'=true then .ok d (ρ.set i (.obj C fs')) else .bad
    |_=>.bad) Q:=hQ
   cases q:Z7 ρ1[i]? with
   |none=>rw[q]at hQ;exact hQ.elim
   |some o=>
    rw[q]at hQ
    have hQ:Vo K E (λG d v=>Rep K G d v) G0 H0 σ G (match F C o.2 ds with
     |.ok d fs'=>if o.1=C/\Fds.free o.2=true/\Fds.free fs'=true then .ok d (ρ1.set i (.obj C fs')) else .bad
     |_=>.bad) Q:=hQ
    cases q2:F C o.2 ds with
    |bad=>rw[q2]at hQ;exact hQ.elim
    |exn c=>rw[q2]at hQ;exact hQ.elim
    |ok d fs'=>
     rw[q2]at hQ
     dsimp only at hQ
     split at hQ
     ·rename_i hc
      obtain⟨hoC,hf,hf'⟩:=hc
      obtain⟨a',dx,ws,f1,f2,f3,f4,r'⟩:=h1.sl i _ (ZX q)
      rw[e1]at f1
      cases f1
      rw[hoC]at f2
      refine⟨a,us,by rw[List.append_nil],by rw[r1.ln,xf e];exact hn,G1,ds,o.2,ws,dx,h1.e.s,r1,f2,f3,ve hf r',?_⟩
      rw[q2]
      intro v G' H' dx' ws' x hw hg' dr rv
      have up:∀ b u,H0 b=some u->H' b=some u:=λb u q=>x.t _ _ (by rw[yp (ne_of_none q f4)];exact h1.b _ _ q)
      refine hQ v G' H' (s1.trans x.g) ?_ rv
      refine h1.put (λt ws q=>x.t _ _ (by rw[yp (λz=>by rw[z,f2]at q;cases q)];exact q)) ⟨h1.e.g.trans x.g,x.s,λb hb q=>?_,up⟩ up x.g (λj t c nj ej f=>?_) (λ_ _=>rfl) rfl (λ_=>⟨a,dx',ws',e1,hw,hg',f4,ve hf' dr⟩) λc fc j t nj ej f=>?_
      ·have nb:b≠a:=λz=>hb.1 (by rw[z];exact f4)
       exact x.n b (by rw[yp nb];exact hb.same h1.b) (h1.e.n b hb q)
      ·have nc:c≠a:=λz=>nj (h1.ds j i t _ c ej (ZX q) f (by rw[z];exact e1))
       obtain⟨k1,k2,_⟩:=(h1.sl j t ej).foot_in f
       refine⟨?_,x.n c (by rw[yp nc];exact k1) k2⟩
       cases qc:H1 c with
       |none=>exact absurd qc k1.1
       |some u=>exact x.t _ _ (by rw[yp nc];exact qc)
      ·exact nj (h1.ds j i t _ c ej (ZX q) f fc)
     ·exact hQ.elim
 ·exact hQ.elim
theorem uL {G H:Hp}{a C dx:Addr}{fs:Fds}{ws:List (Str×V)}{ds:List D}{us:List V}{N:List Str}(s:Same G H)(r:zF K G ds us)(hl:us.length+1<=N.length)(hw:H a=some (.ins C dx ws))(hg:G a=none)(dr:YW K (rem H a) G fs ws) :
  Hold K G (rem H a) (xK N.length C fs ds) (L2.start N (.ref a::us)) G H:=by
 have hlen:=r.len
 have c3:∀ (i:Nat)(sl:Slot),(xK N.length C fs ds)[i]? = some sl->(i=0/\sl=.obj C fs)\/(∃ j d,i=j+1/\ds[j]? = some d/\sl=.fz d)\/sl=.un:=λi sl e=>by
  unfold xK at e
  cases i with
  |zero=>simp at e;exact .inl ⟨rfl,e.symm⟩
  |succ j=>
   rw[List.cons_append,List.getElem?_cons_succ]at e
   by_cases hj:j<ds.length
   ·rw[List.getElem?_append_left (by simpa using hj),List.getElem?_map]at e
    cases q:ds[j]? with
    |none=>rw[q]at e;cases e
    |some d=>rw[q]at e;cases e;exact .inr (.inl ⟨j,d,rfl,q,rfl⟩)
   ·rw[List.getElem?_append_right (by simpa using hj),List.getElem?_replicate]at e
    split at e
    ·cases e;exact .inr (.inr rfl)
    ·cases e
 refine⟨⟨Same.refl _,s,λ_ _ e=>e,uv⟩,uv,λi sl e=>?_,λi j si sj c e1 e2 f1 f2=>?_,?_⟩
 ·rcases c3 i sl e with ⟨rfl,rfl⟩ | ⟨j,d,rfl,q,rfl⟩ | rfl
  ·exact⟨a,dx,ws,rfl,hw,hg,V1,dr⟩
  ·obtain⟨v,ev,rv⟩:=r.get q
   refine⟨v,?_,rv⟩
   unfold L2.start
   rw[List.map_cons,List.cons_append,List.getElem?_cons_succ,List.getElem?_append_left (by simpa using (List.getElem?_eq_some_iff.mp ev).1),List.getElem?_map,ev]
   rfl
  ·exact trivial
 ·rcases c3 i si e1 with ⟨rfl,rfl⟩ | ⟨j,d,rfl,q,rfl⟩ | rfl
  ·rcases c3 j sj e2 with ⟨rfl,rfl⟩ | ⟨j,d,rfl,q,rfl⟩ | rfl
   ·rfl
   ·exact f2.elim
   ·exact f2.elim
  ·exact f1.elim
  ·exact f1.elim
 ·unfold xK L2.start
  simp
  omega
end
noncomputable def MQ (X:Cx)(E:XK)(st:Stmt)(m:M Fl):Prop:=∃ t,PS X st t/\RC X.K E t m
noncomputable def MQs (X:Cx)(E:XK)(sts:List Stmt)(m:M Fl):Prop:=∃ t,PSs X sts t/\RC X.K E t m
section
variable {P:Program}{w:World}{K:PySem.W.Frag}{mg:Str->Option Value}{base:Heap}
theorem Vp {x qual:Str}{st:Stmt}{f:Addr}{fd:FuncData}{N ps:List Str}{k n:Nat}{m:M Fl}{C:Addr}(F:Fun K x qual st f fd)(S:FnScope N ps (defScope st))(hn:ps.length=n)(hN:n<=N.length)
  (hbody:∀ (cdv:Value)(A:Around)(outer:List Env)(s:Shared)(H:Hp)(E:XK),Room k (A.deeper (envOfC qual (defScope st) s.heap.objs.size f cdv)) ->
   MQs (cxOf (CX1 P w) P w K mg base N qual (defScope st) f cdv A outer s H E) E (defBody st) m):FnOk P w K mg base (CX1 P w) (k+1) f fd ps (spO K C n (Yu N.length m)):=by
 obtain⟨oc,od,kV,doc,pm,an,cdv,ct,osl,rfl,lk,hcd⟩:=F.ex
 refine fn_of lk hcd S (λvs H Q E h=>?_) λA outer s H vs Q E hr hsp=>?_
 ·obtain⟨a,us,rfl,hl,_⟩:=h
  rw[hn,List.length_cons]
  exact hl
 ·obtain⟨a,us,rfl,hl,G,ds,fs,ws,dx,sg,r,hw,hg,dr,hq⟩:=hsp
  obtain⟨t,p,rc⟩:=hbody cdv A outer s H E hr
  refine⟨t,p,rc G (rem H a) (xK N.length C fs ds) (L2.start N (.ref a::us)) G H (uL sg r (by omega) hw hg dr) _ ?_⟩
  have z:(L2.start N (.ref a::us))[0]? = some (some (.ref a)):=rfl
  unfold Yu at hq
  cases e:m (xK N.length C fs ds) with
  |bad=>rw[e]at hq;exact hq
  |exn c ρ'=>rw[e]at hq;exact λG' H' s1 h1=>hq G' H' h1.e
  |ok fl ρ'=>
   rw[e]at hq
   cases fl with
   |brk=>exact hq.elim
   |cont=>exact hq.elim
   |nx=>
    unfold OR.of at hq
    dsimp only at hq
    cases q:Z7 ρ'[0]? with
    |none=>rw[q]at hq;exact hq.elim
    |some o=>
     rw[q]at hq
     dsimp only at hq
     by_cases hC:o.1=C
     ·rw[if_pos hC]at hq
      intro G' H' s1 h1
      obtain⟨a',dx',ws',f1,f2,f3,f4,r'⟩:=h1.sl 0 _ (ZX q)
      rw[z]at f1
      cases f1
      rw[hC]at f2
      exact hq .non G' H' dx' ws' h1.e f2 f3 r' (ya.mpr rfl)
     ·rw[if_neg hC]at hq;exact hq.elim
   |ret d=>
    unfold OR.of at hq
    dsimp only at hq
    cases q:Z7 ρ'[0]? with
    |none=>rw[q]at hq;exact hq.elim
    |some o=>
     rw[q]at hq
     dsimp only at hq
     by_cases hC:o.1=C
     ·rw[if_pos hC]at hq
      intro v G' H' s1 h1 rv
      obtain⟨a',dx',ws',f1,f2,f3,f4,r'⟩:=h1.sl 0 _ (ZX q)
      rw[z]at f1
      cases f1
      rw[hC]at f2
      exact hq v G' H' dx' ws' h1.e f2 f3 r' rv
     ·rw[if_neg hC]at hq;exact hq.elim
end
section
variable {X:Cx}{E:XK}{e:Expr}{es:List Expr}{st:Stmt}{sts:List Stmt}{m:M D}{mf mf':M Fl}{pos p2 p3:Pos}
theorem VS (h:MQ X E st mf):MQs X E [st] mf:=by
 obtain⟨t,p,r⟩:=h
 exact⟨t,pss_one p,r⟩
theorem Xb (h:MQ X E st mf)(h2:MQs X E sts mf'):MQs X E (st::sts) (zH mf mf'):=by
 obtain⟨t,p,r⟩:=h
 obtain⟨t2,p2,r2⟩:=h2
 exact⟨_,pss_cons p p2,Kp r r2⟩
theorem J0 (h:ME X E e m)(hs:autoParam (swapsWith e none pos.line X.env=pure false) aR._auto_1):MQ X E (.Expr e pos) (yJ m):=by
 obtain⟨t,p,r⟩:=h
 exact⟨_,ps_expr p hs,Ji r⟩
theorem jP (h:ME X E e m):MQ X E (.Return (some e) pos) (ZQ m):=by
 obtain⟨t,p,r⟩:=h
 exact⟨_,ps_ret p,Kq r⟩
theorem VW (i:Nat){x f:Str}{C:Addr}(cl:L2.Cls X.K C)(na:NoAttr X.K C f)(hN:autoParam (X.N[i]? = some x) aR._auto_1)(hv:autoParam (Vis X.env.scope x) aV._auto_1)(hd:autoParam ((x == ("__debug__" : Str))=false) aD._auto_1)
  (hcd:autoParam ((x == ("__classdict__" : Str))=false) aD._auto_1)(hb:autoParam (attributeBase (.Name x p2) f X.env (eval (.Name x p2) X.env)=eval (.Name x p2) X.env) aR._auto_1):ME X E (.Attribute (.Name x p2) f pos) (vS i C f):=
 ⟨_,pe_fld (pe_var hN hv hd hcd) hb,Jg cl na⟩
theorem UE (i:Nat){x f:Str}{C:Addr}(cl:L2.Cls X.K C)(na:NoAttr X.K C f)(h:ME X E e m)(hN:autoParam (X.N[i]? = some x) aR._auto_1)(hv:autoParam (Vis X.env.scope x) aV._auto_1)(hd:autoParam ((x == ("__debug__" : Str))=false) aD._auto_1)
  (hcd:autoParam ((x == ("__classdict__" : Str))=false) aD._auto_1)(hs:autoParam (swapsWith e (some (.Attribute (.Name x p2) f p3)) pos.line X.env=pure false) aR._auto_1):MQ X E (.Assign [.Attribute (.Name x p2) f p3] e pos) (yk i C f m):=by
 obtain⟨t,p,r⟩:=h
 exact⟨_,ps_fld (pe_var hN hv hd hcd) p hs,qh cl na r⟩
noncomputable def FkO (P:Program)(w:World)(K:PySem.W.Frag)(mg:Str->Option Value)(base:Heap) (k:Nat)(C:Addr) (m:Str)(ps:List Str) (n:Nat)(F:FO):Prop:=
 ∃ f fd,FnOk P w K mg base (CX1 P w) k f fd ps (spO K C n F)/\Meth K C m f/\Binds K fd ps []
theorem YL {k:Nat}{C:Addr}{mt:Str}{ps:List Str}{F:FO}{ap:Pos} (i:Nat){x:Str}(cl:L2.Cls X.K C)(G:FkO X.prog X.w X.K X.mg X.base k C mt ps 1 F)(hr:Room k X.A)(hx:Passes (CX1 X.prog X.w) X E)
  (hN:autoParam (X.N[i]? = some x) aR._auto_1)(hv:autoParam (Vis X.env.scope x) aV._auto_1)(hd:autoParam ((x == ("__debug__" : Str))=false) aD._auto_1)(hcd:autoParam ((x == ("__classdict__" : Str))=false) aD._auto_1){pl:Sem Bool}
  (ht:eval (.Call (.Attribute (.Name x p2) mt ap) [] [] pos) X.env=(do
   let ov <-eval (.Name x p2) X.env
   standAt ap.atName
   let (f,first) <-holding [ov] (getMethod ov mt pl)
   callWith pos f first (backTo pos (starEach [] X.env)) (backToKw pos (keywordEach [] X.env))):=by rfl):ME X E (.Call (.Attribute (.Name x p2) mt ap) [] [] pos) (ZT i C mt F []):=by
 obtain⟨f,fd,G,hm,hb⟩:=G
 exact⟨_,pe_meth0 (pe_var hN hv hd hcd) cl hm G hr hb .nil hx ht,V4 ut rfl⟩
theorem kE {k n:Nat}{C:Addr}{mt:Str}{ps:List Str}{F:FO}{ap:Pos}{ms:List (M D)} (i:Nat){x:Str}(cl:L2.Cls X.K C)(G:FkO X.prog X.w X.K X.mg X.base k C mt ps n F)(hr:Room k X.A)(hx:Passes (CX1 X.prog X.w) X E)(ha:MA X E (e::es) ms)(hn:autoParam (ms.length+1=n) aR._auto_1)
  (hN:autoParam (X.N[i]? = some x) aR._auto_1)(hv:autoParam (Vis X.env.scope x) aV._auto_1)(hd:autoParam ((x == ("__debug__" : Str))=false) aD._auto_1)(hcd:autoParam ((x == ("__classdict__" : Str))=false) aD._auto_1){pl:Sem Bool}
  (hst:autoParam (starEach (e::es) X.env=(false,eval e X.env)::starEach es X.env) aR._auto_1)(hpl:autoParam ((backTo pos (starEach es X.env)).any (·.1)=false) aR._auto_1)
  (ht:eval (.Call (.Attribute (.Name x p2) mt ap) (e::es) [] pos) X.env=(do
   let ov <-eval (.Name x p2) X.env
   standAt ap.atName
   let (f,first) <-holding [ov] (getMethod ov mt pl)
   callWith pos f first (backTo pos (starEach (e::es) X.env)) (backToKw pos (keywordEach [] X.env))):=by rfl):ME X E (.Call (.Attribute (.Name x p2) mt ap) (e::es) [] pos) (ZT i C mt F ms):=by
 obtain⟨f,fd,G,hm,hb⟩:=G
 obtain⟨ta,pa,ra⟩:=ha
 exact⟨_,pe_meth (pe_var hN hv hd hcd) cl hm G hr hb .nil hx pa hst hpl ht,V4 ra hn⟩
end
end PM
namespace PM
open PySem PySem.Spec PyProof.Rows L2
theorem Zj {o:Option Slot}{d:List Trp}(h:Zd o=some d):o=some (.ownM d):=by
 unfold Zd at h
 split at h
 ·cases h;rfl
 ·cases h
section
variable {K:PySem.W.Frag}{E:XK}{G0 H0:Hp}{ρ:Rho}{σ:St}{G H:Hp}
theorem Hold.ownM {i:Nat}{ms:List Trp}(ho:Hold K G0 H0 ρ σ G H)(e:Zd ρ[i]? = some ms) :
  ∃ (a:Addr)(ts as:List Addr),σ[i]? = some (some (.ref a))/\H a=some (.lst (ts.map V.ref))/\G a=none/\H0 a=none/\a ∉ as/\as.Nodup/\ts.length=ms.length/\as.length=ms.length ∧
   ∀ (k:Nat)(t b:Addr)(g:Bool) (n:Int)(ds:List D),ts[k]? = some t->as[k]? = some b->ms[k]? = some (g,n,ds)->H t=some (.tup [.bl g,.int n,.ref b])/\InR K H0 G H ds b:=ho.sl i _ (Zj e)
theorem vw {ms:List Trp}{o:Option (Option V)}{a c:Addr}{ts as:List Addr}(e1:o=some (some (.ref a)))(e2:H a=some (.lst (ts.map V.ref)))(hl1:ts.length=ms.length)(hl2:as.length=ms.length)
  (r:∀ (k:Nat)(t b:Addr)(g:Bool) (n:Int)(ds:List D),ts[k]? = some t->as[k]? = some b->ms[k]? = some (g,n,ds)->H t=some (.tup [.bl g,.int n,.ref b])/\InR K H0 G H ds b):(Slot.ownM ms).foot H o c ↔ c=a\/c ∈ as:=by
 constructor
 ·rintro (f | ⟨a',vs,t,ws,f1,f2,f3,f4,f5⟩)
  ·rw[e1]at f;cases f;exact .inl rfl
  ·rw[e1]at f1
   cases f1
   rw[e2]at f2
   cases f2
   obtain⟨k,hk⟩:=List.getElem?_of_mem (VI f3)
   have hk':k<ms.length:=by rw[<-hl1];exact (List.getElem?_eq_some_iff.mp hk).1
   have hka:k<as.length:=by omega
   obtain⟨g1,_⟩:=r k t as[k] ms[k].1 ms[k].2.1 ms[k].2.2 hk (List.getElem?_eq_getElem hka) (List.getElem?_eq_getElem hk')
   rw[f4]at g1
   cases g1
   have:c=as[k]:=by simpa using f5
   rw[this]
   exact .inr (List.getElem_mem hka)
 ·rintro (rfl | hc)
  ·exact .inl e1
  ·obtain⟨k,hk⟩:=List.getElem?_of_mem hc
   have hk':k<ms.length:=by rw[<-hl2];exact (List.getElem?_eq_some_iff.mp hk).1
   have hkt:k<ts.length:=by omega
   obtain⟨g1,_⟩:=r k ts[k] c ms[k].1 ms[k].2.1 ms[k].2.2 (List.getElem?_eq_getElem hkt) hk (List.getElem?_eq_getElem hk')
   exact .inr ⟨a,_,ts[k],_,e1,e2,List.mem_map_of_mem (List.getElem_mem hkt),g1,by simp⟩
theorem Hold.appM {k:Nat}{ms:List Trp}{a p q:Addr}{ts:List Addr}{g:Bool}{n:Int}{ds:List D}{vs:List V}(h:Hold K G0 H0 ρ σ G H)(e:Zd ρ[k]? = some ms)(ea:σ[k]? = some (some (.ref a)))(ha:H a=some (.lst (ts.map V.ref)))(hp:H p=none)(hq:H q=none)(npq:q≠p)(rl:zF K G ds vs) :
  Hold K G0 H0 (ρ.set k (.ownM (ms++[(g,n,ds)]))) σ G (upd (upd (upd H p (.lst vs)) q (.tup [.bl g,.int n,.ref p])) a (.lst (ts.map V.ref++[.ref q]))):=by
 obtain⟨a',ts',as,f1,f2,ga,h0a,n1,n2,hl1,hl2,r⟩:=h.ownM e
 rw[ea]at f1
 cases f1
 rw[ha]at f2
 cases Y8 f2
 have nap:a≠p:=λz=>by rw[z,hp]at ha;cases ha
 have naq:a≠q:=λz=>by rw[z,hq]at ha;cases ha
 have gp:G p=none:=h.e.s.free hp
 have gq:G q=none:=h.e.s.free hq
 have h0p:H0 p=none:=h.b.free hp
 have h0q:H0 q=none:=h.b.free hq
 have kp:∀ c,c≠a->c≠p->c≠q->upd (upd (upd H p (.lst vs)) q (.tup [.bl g,.int n,.ref p])) a (.lst (ts.map V.ref++[.ref q])) c=H c:=λc n1 n2 n3=>by rw[upd_ne n1,upd_ne n3,upd_ne n2]
 have kq:upd (upd (upd H p (.lst vs)) q (.tup [.bl g,.int n,.ref p])) a (.lst (ts.map V.ref++[.ref q])) q=some (.tup [.bl g,.int n,.ref p]):=by rw[upd_ne (Ne.symm naq),upd_same]
 have kpp:upd (upd (upd H p (.lst vs)) q (.tup [.bl g,.int n,.ref p])) a (.lst (ts.map V.ref++[.ref q])) p=some (.lst vs):=by rw[upd_ne (Ne.symm nap),upd_ne (Ne.symm npq),upd_same]
 have kn:∀ c u,H c=some u->c≠p/\c≠q:=λc u z=>⟨ne_of_none z hp,ne_of_none z hq⟩
 have fa:∀ c,c=a\/c ∈ as->(Slot.ownM ms).foot H σ[k]? c:=λc hc=>(vw ea ha hl1 hl2 r).mpr hc
 have new:∀ (j:Nat)(t b:Addr)(g':Bool) (n':Int)(ds':List D),(ts++[q])[j]? = some t->(as++[p])[j]? = some b->(ms++[(g,n,ds)])[j]? = some (g',n',ds') ->
   upd (upd (upd H p (.lst vs)) q (.tup [.bl g,.int n,.ref p])) a (.lst (ts.map V.ref++[.ref q])) t=some (.tup [.bl g',.int n',.ref b])/\InR K H0 G (upd (upd (upd H p (.lst vs)) q (.tup [.bl g,.int n,.ref p])) a (.lst (ts.map V.ref++[.ref q]))) ds' b:=λj t b g' n' ds' h1 h2 h3=>by
  by_cases hj:j<ms.length
  ·rw[List.getElem?_append_left (by omega)]at h1 h2 h3
   obtain⟨g0,ws,g1,g2,g3,g4⟩:=r j t b g' n' ds' h1 h2 h3
   refine⟨?_,ws,?_,g2,g3,g4⟩
   ·rw[kp t (λz=>by rw[z,ha]at g0;cases g0) (kn _ _ g0).1 (kn _ _ g0).2];exact g0
   ·rw[kp b (λz=>n1 (by rw[<-z];exact List.mem_of_getElem? h2)) (kn _ _ g1).1 (kn _ _ g1).2];exact g1
  ·have hj':j=ms.length:=by
    have:=(List.getElem?_eq_some_iff.mp h3).1
    simp at this
    omega
   subst hj'
   rw[<-hl1,List.getElem?_append_right (Nat.le_refl _)]at h1
   rw[<-hl2,List.getElem?_append_right (Nat.le_refl _)]at h2
   rw[List.getElem?_append_right (Nat.le_refl _)]at h3
   simp at h1 h2 h3
   obtain⟨rfl,rfl,rfl⟩:=h3
   subst h1 h2
   exact⟨kq,vs,kpp,gp,h0p,rl⟩
 have ea':upd (upd (upd H p (.lst vs)) q (.tup [.bl g,.int n,.ref p])) a (.lst (ts.map V.ref++[.ref q])) a=some (.lst ((ts++[q]).map V.ref)):=by rw[upd_same,List.map_append];rfl
 refine h.put (λt ws z=>by rw[kp t (λy=>by rw[y,ha]at z;cases z) (kn _ _ z).1 (kn _ _ z).2];exact z) ⟨h.e.g,λb u z=>?_,h.e.n,λb u z=>?_⟩ (λb u z=>?_) (Same.refl _) (λj t c nj ej f=>⟨kp c (λz=>?_) (λz=>h.mutAt ej f (by rw[z];exact hp)) (λz=>h.mutAt ej f (by rw[z];exact hq)),((h.sl j t ej).foot_in f).2.1⟩) (λ_ _=>rfl) rfl (λ_=>?_) λc fc j t nj ej f=>?_
 ·rw[kp b (ne_of_none z ga) (ne_of_none z gp) (ne_of_none z gq)];exact h.e.s _ _ z
 ·rw[kp b (ne_of_none z h0a) (ne_of_none z h0p) (ne_of_none z h0q)];exact h.b _ _ z
 ·rw[kp b (ne_of_none z h0a) (ne_of_none z h0p) (ne_of_none z h0q)];exact h.b _ _ z
 ·exact nj (h.ds j k t _ c ej (Zj e) f (fa c (.inl z)))
 ·refine⟨a,ts++[q],as++[p],ea,ea',ga,h0a,λz=>?_,?_,by simp[hl1],by simp[hl2],new⟩
  ·rcases List.mem_append.mp z with z | z
   ·exact n1 z
   ·exact nap (List.mem_singleton.mp z)
  ·rw[List.nodup_append]
   refine⟨n2,(by simp),λx hx y hy z=>?_⟩
   rw[List.mem_singleton.mp hy]at z
   have:=((h.sl k _ (Zj e)).foot_in (fa x (.inr hx))).1.1
   rw[z]at this
   exact this hp
 ·have:c=a\/c ∈ as++[p]:=(vw (K:=K) (H0:=H0) (G:=G) ea ea' (by simp[hl1]) (by simp[hl2]) new).mp fc
  rcases this with z | z
  ·exact nj (h.ds j k t _ c ej (Zj e) f (fa c (.inl z)))
  ·rcases List.mem_append.mp z with z | z
   ·exact nj (h.ds j k t _ c ej (Zj e) f (fa c (.inr z)))
   ·exact h.mutAt ej f (by rw[List.mem_singleton.mp z];exact hp)
end
end PM
namespace PM
open PySem PySem.Spec PyProof.Rows L2
section
variable {K:PySem.W.Frag}{G G' H0 H:Hp}
mutual
theorem Rep.flat (ht:∀ a vs,G a=some (.tup vs)->G' a=some (.tup vs)):∀ {d:D}{v:V},d.flat=true->Rep K G d v->Rep K G' d v
 |.non,_,_,h=>h
 |.bl _,_,_,h=>h
 |.int _,_,_,h=>h
 |.str _,_,_,h=>h
 |.tup ds,v,hf,h=>by
  unfold Rep at h ⊢
  obtain⟨a,vs,h1,h2,h3⟩:=h
  exact⟨a,vs,h1,ht _ _ h2,zF.flat ht hf h3⟩
 |.lst ds,v,hf,h=>by cases hf
 |.exc c,v,hf,h=>by cases hf
 |.dct ks ds,v,hf,h=>by cases hf
 |.dcT ks ds,v,hf,h=>by cases hf
theorem zF.flat (ht:∀ a vs,G a=some (.tup vs)->G' a=some (.tup vs)):∀ {ds:List D}{vs:List V},D.flats ds=true->zF K G ds vs->zF K G' ds vs
 |[],_,_,h=>h
 |d::ds,vs,hf,h=>by
  unfold zF at h ⊢
  obtain⟨v,r,h1,h2,h3⟩:=h
  have hf:(d.flat && D.flats ds)=true:=hf
  rw[Bool.and_eq_true]at hf
  exact⟨v,r,h1,Rep.flat ht hf.1 h2,zF.flat ht hf.2 h3⟩
end
theorem jv (sg:Same G H)(s0:Same H0 H):∀ a vs,G a=some (.tup vs)->Xp G H0 a=some (.tup vs):=λa vs q=>WB q λws z=>by
 have h1:=sg _ _ q
 rw[s0 _ _ z]at h1
 cases h1
end
inductive El0 (K:PySem.W.Frag) (k:Nat)(G1 H2 G9:Hp)(σ8:St)(DD:Ends)(xx:V)(H10:Hp):Prop where
 |mk (H3 G3:Hp)(ρ3:Rho)(l q:Addr)(g:Bool) (n:Int)(ds:List D)(vs:List V)(e1:xx=.ref q)(e2:H10=upd (upd H3 l (.lst vs)) q (.tup [.bl g,.int n,.ref l]))(hl:H3 l=none)(hq:(upd H3 l (.lst vs)) q=none)(h3:Hold K G1 H2 ρ3 σ8 G3 H3)(rl:zF K G3 ds vs)(sg:Same G9 G3)(hp:zo K E0 G1 H2 G9 (JB k (g,n,ds) ρ3) DD)
section
variable {X:Cx}{E:XK}{a b c iter tg:Expr}{scope:Scope}{cl:List (Str×Addr)}{nt:Nat}{N':List Str}{idx:List Nat}{pos:Pos}{mi:M (List D)}{gm:GM}{e1 e2 e3:M D}
theorem U7 {k:Nat}{tp lp lp2:Pos}(h1:ME X E0 a e1)(h2:ME X E0 b e2)(h3:ME X E0 c e3)(hm:X.mg "list" = none)(hg:autoParam (Gl X "list") aR._auto_1)
  (hs0:autoParam (starEach [a,b,.Call (.Name "list" lp) [c] [] lp2] X.env=(false,eval a X.env)::starEach [b,.Call (.Name "list" lp) [c] [] lp2] X.env) aR._auto_1)(hs1:autoParam (starEach [b,.Call (.Name "list" lp) [c] [] lp2] X.env=(false,eval b X.env)::starEach [.Call (.Name "list" lp) [c] [] lp2] X.env) aR._auto_1)
  (hs2:autoParam (starEach [.Call (.Name "list" lp) [c] [] lp2] X.env=(false,eval (.Call (.Name "list" lp) [c] [] lp2) X.env)::starEach [] X.env) aR._auto_1)(hs3:autoParam (starEach [c] X.env=(false,eval c X.env)::starEach [] X.env) aR._auto_1)(hpl:autoParam ((backTo lp2 (starEach [] X.env)).any (·.1)=false) aR._auto_1) {x1} :
  ElR X (.Tuple [a,b,.Call (.Name "list" lp) [c] [] lp2] x1 tp) (yK k e1 e2 e3) k:=by
 intro pins s9 σ8 H9 G1 H2 G9 ρ9 p D E' I9 h9 k8 p9 hx
 obtain⟨ta,pa,ra⟩:=h1
 obtain⟨tb,pb,rb⟩:=h2
 obtain⟨tc,pc,rc⟩:=h3
 have pe:=pe_tup (x1:=x1) (pos:=tp) (pa_cons pa (pa_cons pb (pa_cons (pe_callTy (p:=lp) (pos:=lp2) call_list_of hg hm (by with_unfolding_all rfl) (pa_cons pc pa_nil hs3) (by decide) (by decide) hs3 hpl) pa_nil hs2) hs1) hs0)
 unfold yK at p9
 have step:tTup (tCons ta (tCons tb (tCons (tCB (λxs H Q=>∃ p ys,xs=[.ref p]/\(SqL X.K H p ys\/SqT X.K H p ys)/\∀ l,H l=none->Q (.ref l) (upd H l (.lst ys))) (tCons tc tNil)) tNil))) σ8 H9 (El0 X.K k G1 H2 G9 σ8 D):=by
  refine ra G1 H2 ρ9 σ8 G9 H9 h9 _ ?_
  cases q1:e1 ρ9 with
  |bad=>rw[q1]at p9;exact p9
  |exn cc ρ1=>rw[q1]at p9;exact λG' H' s h=>p9 σ8 G' H' s h
  |ok x1 ρ1=>
   rw[q1]at p9
   simp only[Res.bnd_ok]at p9
   intro v1 G1' H1' s1 h1 r1
   refine rb G1 H2 ρ1 σ8 G1' H1' h1 _ ?_
   cases q2:e2 ρ1 with
   |bad=>rw[q2]at p9;exact p9
   |exn cc ρ2=>rw[q2]at p9;exact λG' H' s h=>p9 σ8 G' H' (s1.trans s) h
   |ok x2 ρ2=>
    rw[q2]at p9
    simp only[Res.bnd_ok]at p9
    intro v2 G2' H2' s2 h2 r2
    refine rc G1 H2 ρ2 σ8 G2' H2' h2 _ ?_
    cases q3:e3 ρ2 with
    |bad=>rw[q3]at p9;exact p9
    |exn cc ρ3=>rw[q3]at p9;exact λG' H' s h=>p9 σ8 G' H' ((s1.trans s2).trans s) h
    |ok x3 ρ3=>
     rw[q3]at p9
     simp only[Res.bnd_ok]at p9
     intro v3 G3 H3 s3 h3 r3
     cases qt:Qg x1 x2 x3 with
     |none=>rw[qt]at p9;exact p9.elim
     |some t=>
      rw[qt]at p9
      simp only[zT,Res.bnd_ok]at p9
      unfold Qg at qt
      split at qt
      ·rename_i g n
       cases q4:zAT x3 with
       |none=>rw[q4]at qt;cases qt
       |some ds=>
        rw[q4]at qt
        cases qt
        have hv1:v1=.bl g:=ZL.mp r1
        have hv2:v2=.int n:=zJ.mp r2
        subst hv1 hv2
        have:∃ pa ys,v3=.ref pa/\(SqL X.K H3 pa ys\/SqT X.K H3 pa ys)/\zF X.K G3 ds ys:=by
         cases x3<;>first | (cases q4;done) | skip
         ·cases q4
          obtain⟨aa,vs,rfl,z1,z2⟩:=zh.mp r3
          exact⟨aa,vs,rfl,.inr (SqT.same h3.e.s z1),z2⟩
         ·cases q4
          obtain⟨aa,vs,rfl,z1,z2⟩:=zQ.mp r3
          exact⟨aa,vs,rfl,.inl (h3.e.s.seq z1),z2⟩
        obtain⟨pa,ys,rfl,hq,rl⟩:=this
        refine⟨pa,ys,rfl,hq,λl hl=>⟨by show 3<=sizeLine;decide,λq hq'=>?_⟩⟩
        exact⟨H3,G3,ρ3,l,q,g,n,ds,ys,rfl,rfl,hl,hq',h3,rl,(s1.trans s2).trans s3,p9⟩
      ·cases qt
 refine wpAny_mono (pe _ s9 σ8 H9 _ I9 step) (λxu s10 hh=>?_) hx
 obtain⟨xx,H10,I10,r10,H3,G3,ρ3,l,q,g,n,ds,vs,ex,eh,hl,hq,h3,rl,sg,p10⟩:=hh
 subst ex eh
 unfold JB at p10
 cases eo:Zd ρ3[k]? with
 |none=>rw[eo]at p10;exact p10.elim
 |some ms=>
  rw[eo]at p10
  obtain⟨aa,ts,as,f1,f2,ga,h0a,n1,n2,hl1,hl2,r⟩:=h3.ownM eo
  have f1':=f1
  rw[k8]at f1'
  cases f1'
  have npl:p≠l:=λz=>by rw[z,hl]at f2;cases f2
  have nql:q≠l:=λz=>by rw[z,upd_same]at hq;cases hq
  have hq3:H3 q=none:=by rw[upd_ne nql]at hq;exact hq
  have npq:p≠q:=λz=>by rw[z,hq3]at f2;cases f2
  by_cases hz:ms.length<sizeLine
  ·simp only[zT,Res.bnd_ok,if_pos hz]at p10
   refine wpAny_mono (mt_append (X:=X) _ s10 σ8 _ (.ref _) [.ref q] (.ref _) [xu] (λ_ H11=>H11=upd (upd (upd H3 l (.lst vs)) q (.tup [.bl g,.int n,.ref l])) p (.lst (ts.map V.ref++[.ref q]))) I10 rfl (.cons r10 .nil) ⟨_,ts.map V.ref,.ref q,rfl,rfl,by rw[upd_ne npq,upd_ne npl];exact f2,by simp[hl1];exact hz,rfl⟩) (λ_ s11 ⟨_,H11,I11,_,e11⟩=>?_) hx
   subst e11
   exact⟨_,I11,p10 σ8 G3 _ sg (h3.appM eo k8 f2 hl hq3 nql rl)⟩
  ·exfalso
   simp only[zT,Res.bnd_ok,if_neg hz]at p10
   exact p10
end
end PM
namespace PM
open PySem PySem.Spec PyProof.Rows L2
theorem Hold.setOwnMAt {K:PySem.W.Frag}{G0 H0:Hp}{ρ ρ2:Rho}{σ σ7:St}{G H G7 H5:Hp}{i k:Nat}{p:Addr}{ms:List Trp}(h:Hold K G0 H0 ρ σ G H)(h7:Hold K G H ρ2 σ7 G7 H5)(k7:σ7[k]? = some (some (.ref p)))(eo:Zd ρ2[k]? = some ms)(h2:H p=none) :
  Hold K G0 H0 (ρ.set i (.ownM ms)) (σ.set i (some (.ref p))) G7 H5:=by
 have hh:=h.grow h7.e h7.b
 obtain⟨a,ts,as,e1,e2,ga,h0a,n1,n2,hl1,hl2,r⟩:=h7.ownM eo
 rw[k7]at e1
 cases e1
 have rr:∀ b ∈ as,H b=none:=λb hb=>by
  obtain⟨k,hk⟩:=List.getElem?_of_mem hb
  have hk':k<ms.length:=by rw[<-hl2];exact (List.getElem?_eq_some_iff.mp hk).1
  have hkt:k<ts.length:=by omega
  obtain⟨_,vs,g1,g2,g3,_⟩:=r k ts[k] b ms[k].1 ms[k].2.1 ms[k].2.2 (List.getElem?_eq_getElem hkt) hk (List.getElem?_eq_getElem hk')
  exact g3
 have r':∀ (k:Nat)(t b:Addr)(g:Bool) (n:Int)(ds:List D),ts[k]? = some t->as[k]? = some b->ms[k]? = some (g,n,ds)->H5 t=some (.tup [.bl g,.int n,.ref b])/\InR K H0 G7 H5 ds b:=λk t b g n ds z1 z2 z3=>by
  obtain⟨g0,vs,g1,g2,g3,g4⟩:=r k t b g n ds z1 z2 z3
  exact⟨g0,vs,g1,g2,h.b.free g3,g4⟩
 refine hh.put (λ_ _ q=>q) hh.e hh.b (Same.refl _) (λj t c _ e f=>⟨rfl,((hh.sl j t e).foot_in f).2.1⟩) (λj n=>List.getElem?_set_ne (Ne.symm n)) (by rw[List.length_set]) (λhl'=>?_) λc f j t n e f'=>?_
 ·rw[ZV (by rw[<-h.len];exact hl')]
  exact⟨p,ts,as,rfl,e2,ga,h.b.free h2,n1,n2,hl1,hl2,r'⟩
 ·have hc:H c=none:=by
   by_cases hl':i<σ.length
   ·rw[ZV hl']at f
    rcases (vw (K:=K) (H0:=H0) (G:=G7) rfl e2 hl1 hl2 r').mp f with z | z
    ·rw[z];exact h2
    ·exact rr c z
   ·rw[List.getElem?_eq_none (by rw[List.length_set];omega)]at f
    rcases f with f | ⟨a2,vs,t2,ws,g1,_⟩
    ·cases f
    ·cases g1
  refine h.mutAt e (yI (H:=H) (H':=H5) (h.sl j t e) (λ_ _ q=>h7.b _ _ q) (λb fb=>?_) f') hc
  have:=h.mutAt e fb
  cases q:H b with
  |none=>exact absurd q this
  |some o=>exact h7.b _ _ q
section
variable {X:Cx}{E:XK}{elt iter tg:Expr}{scope:Scope}{cl:List (Str×Addr)}{nt:Nat}{N':List Str}{idx:List Nat}{pos:Pos}{mi:M (List D)}{gm:GM}{e1 e2 e3:M D}
theorem jN (i:Nat){x:Str}{p2 spos:Pos}(hN:X.N.Nodup)(hcalm:X.calm=true)(B:BlkScope X scope cl nt N' idx)(hi:MI X E tg iter mi)(hidx:∀ i ∈ idx,i<X.N.length)
  (hg:∀ C s H fp pn,MGk (ZR X scope cl N' C s H fp pn) tg gm nt)(he:∀ C s H fp pn,ElR (ZR X scope cl N' C s H fp pn) elt (yK (nt+idx.length) e1 e2 e3) (nt+idx.length))
  (hx:autoParam (X.N[i]? = some x) aR._auto_1)(hl:autoParam (X.env.scope.names.lookup x=some .local) aR._auto_1)
  (hsw:autoParam (swapsWith (.ListComp elt [⟨tg,iter,[],0⟩] scope pos) (some (.Name x p2)) spos.line X.env=pure true) aR._auto_1)
  (hs:∀ x,foldedSetIterable iter X.env x=pure x:=by intro _;rfl):MS X E (.Assign [.Name x p2] (.ListComp elt [⟨tg,iter,[],0⟩] scope pos) spos) (yU i mi nt idx gm e1 e2 e3):=by
 refine⟨λD σ H=>∃ G0 H0 ρ G,Hold X.K G0 H0 ρ σ G H/\zo X.K E G0 H0 G (yU i mi nt idx gm e1 e2 e3 ρ) D,?_,λG0 H0 ρ σ G H ho Q hQ=>⟨G0,H0,ρ,G,ho,hQ⟩⟩
 intro pins s σ H D I h
 obtain⟨G0,H0,ρ,G,ho,hD⟩:=h
 obtain⟨wi,pw,ri⟩:=hi
 unfold yU xM at hD
 rw[exec_Assign_Name_used _ _ _ _ hsw]
 refine wpAny_bind (wpAny_standAt (wpAny_bind ?_))
 show wpAny _ X.A (do let _ <-comprehension (.ListComp elt [⟨tg,iter,[],0⟩] scope pos) scope X.env _ (newList []) false (eval iter X.env) (some (assign (.Name x p2) X.env))) _ _ s
 have hR:=ri G0 H0 ρ σ G H (λJ H'=>∃ ds ρ1 G1,mi ρ=.ok ds ρ1/\Same G G1/\Hold X.K G0 H0 ρ1 σ G1 H'/\ItOk X.K J G1 ds) ho (by
  cases q:mi ρ with
  |ok ds ρ1=>exact λJ G' H' sg h1 io=>⟨ds,ρ1,G',rfl,sg,h1,io⟩
  |exn cc ρ1=>rw[q]at hD;exact λG' H' sg h1=>hD σ G' H' sg h1
  |bad=>rw[q]at hD;exact hD)
 have core:∀ ds ρ1,mi ρ=.ok ds ρ1->∃ ρ2 ms,zj gm (yK (nt+idx.length) e1 e2 e3) ds (ZO (.ownM []) nt idx ρ1)=.ok .nx ρ2/\Zd ρ2[nt+idx.length]? = some ms/\zo X.K E G0 H0 G (.ok .nx (ρ1.set i (.ownM ms))) D:=λds ρ1 emi=>by
  rw[emi]at hD
  simp only[Res.bnd_ok]at hD
  cases q:zj gm (yK (nt+idx.length) e1 e2 e3) ds (ZO (.ownM []) nt idx ρ1) with
  |ok fl ρ''=>
   rw[q]at hD
   cases fl with
   |nx=>
    cases q2:Zd ρ''[nt+idx.length]? with
    |none=>simp only[XL,q2]at hD;exact hD.elim
    |some dss=>simp only[XL,q2,zT,Res.bnd_ok]at hD;exact⟨ρ'',dss,rfl,q2,hD⟩
   |ret d=>exact hD.elim
   |brk=>exact hD.elim
   |cont=>exact hD.elim
  |exn cc ρ''=>rw[q]at hD;exact hD.elim
  |bad=>rw[q]at hD;exact hD.elim
 refine wpAny_bind (wpAny_mono (xa (mi:=mi) (R0:=ZO (.ownM []) nt idx) (B:=λH=>H) (bm:=yK (nt+idx.length) e1 e2 e3) (c:=none) (QQ:=λ_ s'=>SP X pins D .next s') hcalm B hidx hg (λ_ _ _ _ _=>.inl ⟨rfl,rfl⟩) he hs I pw G0 H0 G ρ (λρ1 G1 H2 p h hp=>Xl (.inr (.inr rfl)) h hp λi hi=>by rw[I.len];exact hidx i hi) hR (λds ρ1 emi=>?_)
  λds ρ1 ρ2 σ7 G1 H2 G7 H5 p C s6 emi e2 sg1 h1 h7 k7 hp IX ⟨m,hn⟩ c1 c2 c3 c4 c5=>?_) (λ_ s' hq=>wpAny_pure (wpAny_pure hq)) λ_ _ e=>e)
 ·obtain⟨ρ2,dss,q,_⟩:=core ds ρ1 emi
  exact⟨ρ2,q⟩
 ·obtain⟨ρ3,dss,q,eo,hD⟩:=core ds ρ1 emi
  have:ρ3=ρ2:=by
   have z:Res.ok Fl.nx ρ3=.ok .nx ρ2:=q.symm.trans e2
   cases z
   rfl
  subst this
  show wpAny (model X.prog X.w) X.A (assign (.Name x p2) X.env (.ref p)) _ _ s6
  refine wpAny_assign_Name (store_ok2 IX hN hx (.inl hl) (v:=.ref p) rfl (λs7 I7 ⟨a,hsb,ha⟩=>?_) (.inr hl))
  have hCa:C≠a:=by
   rintro rfl
   rcases ha with z | z
   ·exact c2 z
   ·exact c4 x C z rfl
  refine⟨m,hn.sameBut hsb hCa,λh' hs'=>?_⟩
  have IY:Inv X pins (σ.set i (some (.ref p))) H5 { s7 with heap:=h' }:=I7.turned (it:=C) (t':=s7.toks) (λb o n e=>(hs'.2 b n).trans e) c1 c2 (.inr c3) c4 c5
  exact⟨_,H5,IY,hD _ G7 H5 (sg1.trans h7.e.g) (h1.setOwnMAt h7 (WD k7) eo hp)⟩
noncomputable def ko (K:PySem.W.Frag)(E:XK)(m:M (List Trp)):TE:=λσ H Q=>∃ G0 H0 ρ G,Hold K G0 H0 ρ σ G H/\(match m ρ with
 |.ok ms ρ'=>xt ms=true/\∀ v G' H',Same G G'->Hold K G0 H0 ρ' σ G' H'->Rep K (Xp G' H0) (.lst (ms.map dM)) v->Q v H'
 |.exn c ρ'=>∀ G' H',Same G G'->Hold K G0 H0 ρ' σ G' H'->E (.ref c) none H'
 |.bad=>False)
theorem QG {K:PySem.W.Frag}{G0 H0:Hp}{ρ1 ρ2:Rho}{σ σ7:St}{G1 H2 G7 H5:Hp}{k:Nat}{p:Addr}{ms:List Trp}(h1:Hold K G0 H0 ρ1 σ G1 H2)(h7:Hold K G1 H2 ρ2 σ7 G7 H5)(k7:σ7[k]? = some (some (.ref p)))(eo:Zd ρ2[k]? = some ms)(hp:H2 p=none)(hf:xt ms=true) :
  ∃ G',Same G1 G'/\Hold K G0 H0 ρ1 σ G' H5/\Rep K (Xp G' H0) (.lst (ms.map dM)) (.ref p):=by
 obtain⟨a,ts,as,e1,e2,ga,h0a,n1,n2,hl1,hl2,r⟩:=h7.ownM eo
 rw[k7]at e1
 cases e1
 have get:∀ b ∈ as,∃ vs,H5 b=some (.lst vs)/\H2 b=none:=λb hb=>by
  obtain⟨k,hk⟩:=List.getElem?_of_mem hb
  have hk':k<ms.length:=by rw[<-hl2];exact (List.getElem?_eq_some_iff.mp hk).1
  have hkt:k<ts.length:=by omega
  obtain⟨_,vs,g1,g2,g3,_⟩:=r k ts[k] b ms[k].1 ms[k].2.1 ms[k].2.2 (List.getElem?_eq_getElem hkt) hk (List.getElem?_eq_getElem hk')
  exact⟨vs,g1,g3⟩
 have gtt:∀ t ∈ ts,∃ vs,H5 t=some (.tup vs):=λt ht=>by
  obtain⟨k,hk⟩:=List.getElem?_of_mem ht
  have hk':k<ms.length:=by rw[<-hl1];exact (List.getElem?_eq_some_iff.mp hk).1
  have hka:k<as.length:=by omega
  obtain⟨g0,_⟩:=r k t as[k] ms[k].1 ms[k].2.1 ms[k].2.2 hk (List.getElem?_eq_getElem hka) (List.getElem?_eq_getElem hk')
  exact⟨_,g0⟩
 let G':Hp:=λc=>if c=p\/c ∈ as\/c ∈ ts then H5 c else G7 c
 have gi:∀ c,c=p\/c ∈ as\/c ∈ ts->G' c=H5 c:=λc hc=>if_pos hc
 have sh:Same G' H5:=λc u q=>by
  have q:(if c=p\/c ∈ as\/c ∈ ts then H5 c else G7 c)=some u:=q
  split at q
  ·exact q
  ·exact h7.e.s _ _ q
 have sg:Same G7 G':=λc u q=>by
  show (if c=p\/c ∈ as\/c ∈ ts then H5 c else G7 c)=some u
  split
  ·exact h7.e.s _ _ q
  ·exact q
 have ex:Ext G1 H2 G' H5:=⟨h7.e.g.trans sg,sh,λb hb q=>by
  show (if b=p\/b ∈ as\/b ∈ ts then H5 b else G7 b)=none
  rw[if_neg]
  ·exact h7.e.n b hb q
  ·rintro (rfl | hc | hc)
   ·exact hb.1 hp
   ·obtain⟨_,_,z⟩:=get b hc;exact hb.1 z
   ·obtain⟨vs,z⟩:=gtt b hc;exact (hb.same h7.b).2 vs z,h7.b⟩
 have hh:=h1.grow ex h7.b
 refine⟨G',ex.g,hh,?_⟩
 have nl:∀ c,H2 c=none->∀ ws,H0 c≠some (.lst ws):=λc hc ws z=>by rw[h1.b _ _ z]at hc;cases hc
 refine zQ.mpr ⟨p,ts.map V.ref,rfl,SqL.of (WB ((gi p (.inl rfl)).trans e2) (nl p hp)),zF.of (by simp[hl1]) λk d v hd hv=>?_⟩
 rw[List.getElem?_map]at hd hv
 cases q1:ms[k]? with
 |none=>rw[q1]at hd;cases hd
 |some t3=>
  cases q2:ts[k]? with
  |none=>rw[q2]at hv;cases hv
  |some t=>
   rw[q1]at hd;rw[q2]at hv
   cases hd;cases hv
   obtain⟨g,n,ds⟩:=t3
   have hka:k<as.length:=by rw[hl2];exact (List.getElem?_eq_some_iff.mp q1).1
   have q3:as[k]? = some as[k]:=List.getElem?_eq_getElem hka
   obtain⟨g0,vs,g1,g2,g3,g4⟩:=r k t as[k] g n ds q2 q3 q1
   have fl:D.flats ds=true:=by
    unfold xt at hf
    exact List.all_eq_true.mp hf _ (List.mem_of_getElem? q1)
   have tup0:=jv (G:=G') (H:=H5) (H0:=H0) sh hh.b
   refine zh.mpr ⟨t,_,rfl,tup0 _ _ ((gi t (.inr (.inr (List.mem_of_getElem? q2)))).trans g0),zF.cons (ZL.mpr rfl) (zF.cons (zJ.mpr rfl) (zF.cons ?_ zF.nil))⟩
   exact zQ.mpr ⟨as[k],vs,rfl,SqL.of (WB ((gi _ (.inr (.inl (List.mem_of_getElem? q3)))).trans g1) (nl _ g3)),zF.flat (λa vs z=>tup0 a vs (sg _ _ z)) fl g4⟩
theorem jA (hcalm:X.calm=true)(B:BlkScope X scope cl nt N' idx)(hi:MI X E tg iter mi)(hidx:∀ i ∈ idx,i<X.N.length)
  (hg:∀ C s H fp pn,MGk (ZR X scope cl N' C s H fp pn) tg gm nt)(he:∀ C s H fp pn,ElR (ZR X scope cl N' C s H fp pn) elt (yK (nt+idx.length) e1 e2 e3) (nt+idx.length))
  (hs:∀ x,foldedSetIterable iter X.env x=pure x:=by intro _;rfl):PE X (.ListComp elt [⟨tg,iter,[],0⟩] scope pos) (ko X.K E (xM mi nt idx gm e1 e2 e3)):=by
 intro pins s σ H Q I h
 obtain⟨G0,H0,ρ,G,ho,hQ⟩:=h
 obtain⟨wi,pw,ri⟩:=hi
 rw[eval_ListComp]
 unfold xM at hQ
 have hR:=ri G0 H0 ρ σ G H (λJ H'=>∃ ds ρ1 G1,mi ρ=.ok ds ρ1/\Same G G1/\Hold X.K G0 H0 ρ1 σ G1 H'/\ItOk X.K J G1 ds) ho (by
  cases q:mi ρ with
  |ok ds ρ1=>exact λJ G' H' sg h1 io=>⟨ds,ρ1,G',rfl,sg,h1,io⟩
  |exn cc ρ1=>rw[q]at hQ;exact hQ
  |bad=>rw[q]at hQ;exact hQ)
 have core:∀ ds ρ1,mi ρ=.ok ds ρ1->∃ ρ2 ms,zj gm (yK (nt+idx.length) e1 e2 e3) ds (ZO (.ownM []) nt idx ρ1)=.ok .nx ρ2/\Zd ρ2[nt+idx.length]? = some ms/\xt ms=true/\∀ v G' H',Same G G'->Hold X.K G0 H0 ρ1 σ G' H'->Rep X.K (Xp G' H0) (.lst (ms.map dM)) v->Q v H':=λds ρ1 emi=>by
  rw[emi]at hQ
  simp only[Res.bnd_ok]at hQ
  cases q:zj gm (yK (nt+idx.length) e1 e2 e3) ds (ZO (.ownM []) nt idx ρ1) with
  |ok fl ρ''=>
   rw[q]at hQ
   cases fl with
   |nx=>
    cases q2:Zd ρ''[nt+idx.length]? with
    |none=>simp only[XL,q2]at hQ;exact hQ.elim
    |some ms=>simp only[XL,q2,zT]at hQ;exact⟨ρ'',ms,rfl,q2,hQ.1,hQ.2⟩
   |ret d=>exact hQ.elim
   |brk=>exact hQ.elim
   |cont=>exact hQ.elim
  |exn cc ρ''=>rw[q]at hQ;exact hQ.elim
  |bad=>rw[q]at hQ;exact hQ.elim
 refine xa (mi:=mi) (R0:=ZO (.ownM []) nt idx) (B:=λH=>H) (bm:=yK (nt+idx.length) e1 e2 e3) (c:=none) hcalm B hidx hg (λ_ _ _ _ _=>.inl ⟨rfl,rfl⟩) he hs I pw G0 H0 G ρ (λρ1 G1 H2 p h hp=>Xl (.inr (.inr rfl)) h hp λi hi=>by rw[I.len];exact hidx i hi) hR (λds ρ1 emi=>?_)
  λds ρ1 ρ2 σ7 G1 H2 G7 H5 p C s6 emi e2 sg1 h1 h7 k7 hp IX ⟨m,hn⟩ c1 c2 c3 c4 c5=>?_
 ·obtain⟨ρ2,ms,q,_⟩:=core ds ρ1 emi
  exact⟨ρ2,q⟩
 ·obtain⟨ρ3,ms,q,eo,hf,hQ⟩:=core ds ρ1 emi
  have:ρ3=ρ2:=by
   have z:Res.ok Fl.nx ρ3=.ok .nx ρ2:=q.symm.trans e2
   cases z
   rfl
  subst this
  obtain⟨G',sg',hG,rG⟩:=QG h1 h7 (WD k7) eo hp hf
  refine⟨m,hn,λh' hs'=>?_⟩
  have IY:Inv X pins σ H5 { s6 with heap:=h' }:=IX.turned (it:=C) (t':=s6.toks) (λb o n e=>(hs'.2 b n).trans e) c1 c2 (.inr c3) c4 c5
  exact⟨.ref p,H5,IY,rfl,hQ _ G' H5 (sg1.trans sg') hG rG⟩
end
section
variable {K:PySem.W.Frag}{E:XK}
theorem ux {i:Nat}{f:Str}{C:Addr}{m:M (List Trp)}(cl:L2.Cls K C)(na:NoAttr K C f):RC K E (sFld K (tVar i) (ko K E m) f) (Y3 i C f m):=by
 intro G0 H0 ρ σ G H ho D hD
 unfold Y3 at hD
 refine⟨G0,H0,ρ,G,ho,?_⟩
 cases e:m ρ with
 |bad=>rw[e]at hD;exact hD
 |exn c ρ1=>rw[e]at hD;exact hD
 |ok ms ρ1=>
  rw[e]at hD
  have hD:xw K E σ G0 H0 G ((zO (Z7 ρ1[i]?) ρ1).bnd λo ρ=>if xt ms=true/\o.1=C/\o.2.length<1000 then .ok .nx (ρ.set i (.obj C (XU f true (.lst (ms.map dM)) o.2))) else .bad) D:=hD
  cases q:Z7 ρ1[i]? with
  |none=>rw[q]at hD;exact hD.elim
  |some o=>
   rw[q]at hD
   have hD:xw K E σ G0 H0 G (if xt ms=true/\o.1=C/\o.2.length<1000 then .ok .nx (ρ1.set i (.obj C (XU f true (.lst (ms.map dM)) o.2))) else .bad) D:=hD
   split at hD
   ·rename_i hC
    obtain⟨hf,hC,hz⟩:=hC
    refine⟨hf,λv G1 H1 s1 h1 r1=>?_⟩
    obtain⟨a,dx,ws,e1,e2,e3,e4,r⟩:=h1.sl i _ (ZX q)
    rw[hC]at e2
    refine⟨.ref a,e1,a,C,dx,ws,rfl,e2,cl,na,by rw[<-uD r];exact hz,?_⟩
    exact hD G1 _ s1 (h1.setMut (ZX q) rfl e1 e3 e4 (s':=.obj C (XU f true (.lst (ms.map dM)) o.2)) ⟨a,dx,_,rfl,upd_same,e3,e4,uC (by rw[if_pos rfl];exact r1) r⟩ rfl)
   ·exact hD.elim
end
section
variable {X:Cx}{E:XK}{elt iter tg:Expr}{scope:Scope}{cl:List (Str×Addr)}{nt:Nat}{N':List Str}{idx:List Nat}{pos:Pos}{mi:M (List D)}{gm:GM}{e1 e2 e3:M D}
theorem Jz (i:Nat){x f:Str}{C:Addr}{p2 p3 spos:Pos}(cc:L2.Cls X.K C)(na:NoAttr X.K C f)(hcalm:X.calm=true)(B:BlkScope X scope cl nt N' idx)(hi:MI X E tg iter mi)(hidx:∀ i ∈ idx,i<X.N.length)
  (hg:∀ C s H fp pn,MGk (ZR X scope cl N' C s H fp pn) tg gm nt)(he:∀ C s H fp pn,ElR (ZR X scope cl N' C s H fp pn) elt (yK (nt+idx.length) e1 e2 e3) (nt+idx.length))
  (hN:autoParam (X.N[i]? = some x) aR._auto_1)(hv:autoParam (Vis X.env.scope x) aV._auto_1)(hd:autoParam ((x == ("__debug__" : Str))=false) aD._auto_1)
  (hcd:autoParam ((x == ("__classdict__" : Str))=false) aD._auto_1)(hsw:autoParam (swapsWith (.ListComp elt [⟨tg,iter,[],0⟩] scope pos) (some (.Attribute (.Name x p2) f p3)) spos.line X.env=pure false) aR._auto_1)
  (hs:∀ x,foldedSetIterable iter X.env x=pure x:=by intro _;rfl):MQ X E (.Assign [.Attribute (.Name x p2) f p3] (.ListComp elt [⟨tg,iter,[],0⟩] scope pos) spos) (Y3 i C f (xM mi nt idx gm e1 e2 e3)):=
 ⟨_,ps_fld (pe_var hN hv hd hcd) (jA hcalm B hi hidx hg he hs) hsw,ux cc na⟩
end
end PM
namespace PM
open PySem PySem.Spec PyProof.Rows L2
section
variable {K:PySem.W.Frag}{E:XK}{G' GC H':Hp}
theorem jF {H0 H0':Hp}{S:Addr->Prop}(ht:∀ a vs,G' a=some (.tup vs)->GC a=some (.tup vs))(hc:Same (Xp G' H0) GC)(hn:∀ b u,G' b=some u->¬ S b->GC b=some u)
  (hS:∀ b d r ds,S b->D.flats (.tup (.bl d::r)::ds)=true->¬ ∃ vs,G' b=some (.lst vs)/\zF K G' (.tup (.bl d::r)::ds) vs)(hZ:∀ b o u,S b->G' b≠some (.frz o u)){fs:Fds}{ws:List (Str×V)}(hf:(fs.all λp=>p.2.1 || qX p.2.2)=true)(z:YW K H0 G' fs ws):YW K H0' GC (unm fs) ws:=by
 unfold YW at z
 induction z with
 |nil=>exact .nil
 |@cons p q a t h hs ih=>
  rw[List.all_cons,Bool.and_eq_true]at hf
  refine .cons ⟨h.1,?_⟩ (ih hf.2)
  show Rep K GC p.2.2 q.2
  have hd:=hf.1
  have h2:=h.2
  by_cases c:p.2.1=true
  ·rw[if_pos c]at h2
   exact h2.mono hc
  ·rw[if_neg c]at h2
   rw[Bool.eq_false_iff.mpr c,Bool.false_or]at hd
   generalize p.2.2=d at hd h2 ⊢
   unfold qX at hd
   rw[Bool.or_eq_true]at hd
   rcases hd with hd | hd
   ·exact Rep.flat ht hd h2
   ·split at hd
    ·rename_i b' r' ds'
     obtain⟨a,vs,e,hq,rl⟩:=zQ.mp h2
     refine zQ.mpr ⟨a,vs,e,?_,zF.flat ht hd rl⟩
     by_cases hs:S a
     ·rcases hq with (hq | ⟨o,hq⟩) | hq
      ·exact absurd ⟨vs,hq,rl⟩ (hS a b' r' ds' hs hd)
      ·exact absurd hq (hZ a o _ hs)
      ·exact .inr hq
     ·rcases hq with (hq | ⟨o,hq⟩) | hq
      ·exact .inl (.inl (hn _ _ hq hs))
      ·exact .inl (.inr ⟨o,hn _ _ hq hs⟩)
      ·exact .inr hq
    ·cases hd
theorem JV {iw ih:Nat}{C:Addr}{F:FO}:RS K E (tAsg (tMake C (spO K C 2 F) [] E (tCons (tVar ih) tNil)) (gName iw)) (xF iw ih C F):=by
 intro G0 H0 ρ σ G H ho
 refine RSt.opt λms e=>?_
 obtain⟨a,ts,as,e1,e2,ga,h0a,n1,n2,hl1,hl2,r⟩:=ho.ownM e
 intro DD hD
 cases qF:F C [] [.lst (ms.map dM)] with
 |bad=>rw[qF]at hD;exact hD.elim
 |exn c=>rw[qF]at hD;exact hD.elim
 |ok d0 fs=>
  rw[qF]at hD
  cases d0<;>first | (exact hD.elim) | skip
  dsimp only at hD
  split at hD
  ·rename_i hsep
   unfold qW at hsep
   rw[Bool.and_eq_true,Bool.and_eq_true]at hsep
   obtain⟨⟨hne,hin⟩,hfs⟩:=hsep
   have ra:∀ b ∈ as,∃ vs k t g n ds,as[k]? = some b/\ts[k]? = some t/\ms[k]? = some (g,n,ds)/\H b=some (.lst vs)/\G b=none/\zF K G ds vs:=λb hb=>by
    obtain⟨k,hk⟩:=List.getElem?_of_mem hb
    have hk':k<ms.length:=by rw[<-hl2];exact (List.getElem?_eq_some_iff.mp hk).1
    have hkt:k<ts.length:=by omega
    obtain⟨_,vs,g1,g2,g3,g4⟩:=r k ts[k] b ms[k].1 ms[k].2.1 ms[k].2.2 (List.getElem?_eq_getElem hkt) hk (List.getElem?_eq_getElem hk')
    exact⟨vs,k,ts[k],ms[k].1,ms[k].2.1,ms[k].2.2,hk,List.getElem?_eq_getElem hkt,List.getElem?_eq_getElem hk',g1,g2,g4⟩
   have rt:∀ t ∈ ts,∃ vs,H t=some (.tup vs):=λt ht=>by
    obtain⟨k,hk⟩:=List.getElem?_of_mem ht
    have hk':k<ms.length:=by rw[<-hl1];exact (List.getElem?_eq_some_iff.mp hk).1
    have hka:k<as.length:=by omega
    obtain⟨g0,_⟩:=r k t as[k] ms[k].1 ms[k].2.1 ms[k].2.2 hk (List.getElem?_eq_getElem hka) (List.getElem?_eq_getElem hk')
    exact⟨_,g0⟩
   let GB:Hp:=λc=>if c=a\/c ∈ as\/c ∈ ts then H c else G c
   have gi:∀ c,c=a\/c ∈ as\/c ∈ ts->GB c=H c:=λc hc=>if_pos hc
   have sB:Same GB H:=λc u q=>by
    have q:(if c=a\/c ∈ as\/c ∈ ts then H c else G c)=some u:=q
    split at q
    ·exact q
    ·exact ho.e.s _ _ q
   have sGB:Same G GB:=λc u q=>by
    show (if c=a\/c ∈ as\/c ∈ ts then H c else G c)=some u
    split
    ·exact ho.e.s _ _ q
    ·exact q
   have nGB:∀ c,NT (H c)->G c=none->¬ (c=a\/c ∈ as)->GB c=none:=λc hc hg hn=>by
    show (if c=a\/c ∈ as\/c ∈ ts then H c else G c)=none
    rw[if_neg]
    ·exact hg
    ·rintro (z | z | z)
     ·exact hn (.inl z)
     ·exact hn (.inr z)
     ·obtain⟨vs,q⟩:=rt c z;exact hc.2 vs q
   have rep:∀ G',Same GB G'->Rep K G' (.lst (ms.map dM)) (.ref a):=λG' sg=>by
    refine zQ.mpr ⟨a,ts.map V.ref,rfl,SqL.of (sg _ _ ((gi a (.inl rfl)).trans e2)),zF.of (by simp[hl1]) λk d v hd hv=>?_⟩
    rw[List.getElem?_map]at hd hv
    cases q1:ms[k]? with
    |none=>rw[q1]at hd;cases hd
    |some t3=>
     cases q2:ts[k]? with
     |none=>rw[q2]at hv;cases hv
     |some t=>
      rw[q1]at hd;rw[q2]at hv
      cases hd;cases hv
      obtain⟨g,n,ds⟩:=t3
      have hka:k<as.length:=by rw[hl2];exact (List.getElem?_eq_some_iff.mp q1).1
      have q3:as[k]? = some as[k]:=List.getElem?_eq_getElem hka
      obtain⟨g0,vs,g1,g2,g3,g4⟩:=r k t as[k] g n ds q2 q3 q1
      refine zh.mpr ⟨t,_,rfl,sg _ _ ((gi t (.inr (.inr (List.mem_of_getElem? q2)))).trans g0),zF.cons (ZL.mpr rfl) (zF.cons (zJ.mpr rfl) (zF.cons ?_ zF.nil))⟩
      exact zQ.mpr ⟨as[k],vs,rfl,SqL.of (sg _ _ ((gi _ (.inr (.inl (List.mem_of_getElem? q3)))).trans g1)),g4.mono (sGB.trans sg)⟩
   refine⟨.ref a,e1,λx dx hx hdx ndx=>?_⟩
   have hH:∀ c u,H c=some u->upd (upd H dx (.own x)) x (.ins C dx []) c=some u/\c≠x:=λc u q=>⟨by rw[upd_ne (ne_of_none q hx),upd_ne (ne_of_none q hdx)];exact q,ne_of_none q hx⟩
   have hR:∀ c u,H c=some u->rem (upd (upd H dx (.own x)) x (.ins C dx [])) x c=some u:=λc u q=>by rw[yp (hH c u q).2];exact (hH c u q).1
   have gbx:GB x=none:=sB.free hx
   refine⟨x,[.ref a],rfl,rfl,GB,[.lst (ms.map dM)],[],[],dx,λc u q=>(hH c u (sB _ _ q)).1,zF.cons (rep GB (Same.refl _)) zF.nil,upd_same,gbx,.nil,?_⟩
   rw[qF]
   intro v G' H' dx' ws' x1 hw hg' dr rv
   refine⟨ya.mp rv,?_⟩
   have kH:∀ c u,H c=some u->H' c=some u:=λc u q=>x1.t _ _ (hR c u q)
   let GC:Hp:=λc=>if c=a\/c ∈ as then none else G' c
   have gc0:∀ c,c=a\/c ∈ as->GC c=none:=λc hc=>if_pos hc
   have gc1:∀ c,¬ (c=a\/c ∈ as)->GC c=G' c:=λc hc=>if_neg hc
   have sS:∀ c,c=a\/c ∈ as->∃ vs,H c=some (.lst vs)/\G c=none:=λc hc=>by
    rcases hc with rfl | hc
    ·exact⟨_,e2,ga⟩
    ·obtain⟨vs,k,t,g,n,ds,_,_,_,z1,z2,_⟩:=ra c hc;exact⟨vs,z1,z2⟩
   have sCG:Same GC G':=λc u q=>by
    have q:(if c=a\/c ∈ as then none else G' c)=some u:=q
    split at q
    ·cases q
    ·exact q
   have sGC:Same G GC:=λc u q=>by
    rw[gc1 c (λhc=>by obtain⟨_,_,z⟩:=sS c hc;rw[z]at q;cases q)]
    exact x1.g _ _ (sGB _ _ q)
   have nC:∀ c,NT (H c)->G c=none->GC c=none:=λc hc hg=>by
    by_cases hs:c=a\/c ∈ as
    ·exact gc0 c hs
    ·rw[gc1 c hs]
     refine x1.n c ?_ (nGB c hc hg hs)
     cases q:H c with
     |none=>exact absurd q hc.1
     |some u=>rw[hR c u q,<-q];exact hc
   have h0x:H0 x=none:=ho.b.free hx
   have t0:Same H0 H':=λb u q=>kH b u (ho.b _ _ q)
   have obj:YW K H0 GC (unm fs) ws':=by
    refine jF (S:=λc=>c=a\/c ∈ as) (λc vs q=>?_) (λc u q=>?_) (λc u q hn=>by rw[gc1 c hn];exact q) (λb d r' ds' hb hfl hh=>?_) (λb o u hb q=>?_) hfs dr
    ·rw[gc1 c (λhc=>by
      obtain⟨ws,z,_⟩:=sS c hc
      have:=x1.s _ _ q
      rw[kH c _ z]at this
      cases this)]
     exact q
    ·obtain⟨q1,q2⟩:=xZ q
     rw[gc1 c (λhc=>by obtain⟨ws,z,_⟩:=sS c hc;exact q2 ws (hR c _ z))]
     exact q1
    ·obtain⟨vs,q1,q2⟩:=hh
     obtain⟨v0,rr,rfl,rv0,_⟩:=q2.cons_inv
     obtain⟨t0',us,rfl,hu,ru⟩:=zh.mp rv0
     obtain⟨w0,rr2,rfl,rw0,rw1⟩:=ru.cons_inv
     rcases hb with rfl | hb
     ·have z:=x1.s _ _ q1
      rw[kH b _ e2]at z
      injection z with z
      injection z with z
      have hm:ms≠[]:=by intro z;rw[z]at hne;cases hne
      cases qt:ts with
      |nil=>rw[qt]at z;cases z
      |cons t1 tr=>
       rw[qt,List.map_cons]at z
       injection z with z1 z2
       injection z1 with z1
       subst z1
       have hk0:0<ms.length:=List.length_pos_iff.mpr hm
       have hka:0<as.length:=by omega
       obtain⟨g0,vs1,g1,_⟩:=r 0 t1 as[0] ms[0].1 ms[0].2.1 ms[0].2.2 (by rw[qt];rfl) (List.getElem?_eq_getElem hka) (List.getElem?_eq_getElem hk0)
       have z3:=x1.s _ _ hu
       rw[kH _ _ g0]at z3
       injection z3 with z3
       injection z3 with z3
       injection z3 with z3 z4
       subst z4
       have hfl':(D.flats (.bl d::r') && D.flats ds')=true:=hfl
       rw[Bool.and_eq_true]at hfl'
       have hfl2:(D.flat (.bl d) && D.flats r')=true:=hfl'.1
       rw[Bool.and_eq_true]at hfl2
       cases r' with
       |nil=>exact absurd rw1.nil_inv (by simp)
       |cons d1 r1=>
        obtain⟨_,rr3,z5,_,rw2⟩:=rw1.cons_inv
        injection z5 with z5 z6
        subst z6
        have hfl3:(d1.flat && D.flats r1)=true:=hfl2.2
        rw[Bool.and_eq_true]at hfl3
        cases r1 with
        |nil=>exact absurd rw2.nil_inv (by simp)
        |cons d2 r2=>
         obtain⟨_,rr4,z7,rw3,_⟩:=rw2.cons_inv
         injection z7 with z7 z8
         subst z7
         have hfl4:(d2.flat && D.flats r2)=true:=hfl3.2
         rw[Bool.and_eq_true]at hfl4
         have hd2:=hfl4.1
         cases d2 with
         |non=>exact absurd (ya.mp rw3) (by simp)
         |bl _=>exact absurd (ZL.mp rw3) (by simp)
         |int _=>exact absurd (zJ.mp rw3) (by simp)
         |str _=>unfold Rep at rw3;cases rw3
         |tup xs=>
          obtain⟨_,us2,z9,hu2,_⟩:=zh.mp rw3
          injection z9 with z9
          subst z9
          have z10:=x1.s _ _ hu2
          rw[kH _ _ g1]at z10
          cases z10
         |lst _=>cases hd2
         |exc _=>cases hd2
         |dct _ _=>cases hd2
         |dcT _ _=>cases hd2
     ·obtain⟨vs1,k,t,g,n,ds,k1,k2,k3,k4,k5,k6⟩:=ra b hb
      have z:=x1.s _ _ q1
      rw[kH b _ k4]at z
      injection z with z
      injection z with z
      subst z
      have hh1:w9 ds=true:=List.all_eq_true.mp hin _ (List.mem_of_getElem? k3)
      unfold w9 at hh1
      split at hh1
      ·rename_i i r1 r2
       obtain⟨_,_,z1,z2,_⟩:=k6.cons_inv
       injection z1 with z1 z3
       subst z1
       obtain⟨_,us2,z4,hu2,ru2⟩:=zh.mp z2
       injection z4 with z4
       subst z4
       have z5:=x1.g _ _ (sGB _ _ hu2)
       rw[hu]at z5
       injection z5 with z5
       injection z5 with z5
       subst z5
       obtain⟨_,_,z6,z7,_⟩:=ru2.cons_inv
       injection z6 with z6 z8
       rw[<-z6,ZL.mp rw0]at z7
       cases zJ.mp z7
      ·cases hh1
    ·obtain⟨ws,z,_⟩:=sS b hb
     have:=x1.s _ _ q
     rw[kH b _ z]at this
     cases this
   have fin:Hold K G0 H0 (ρ.set iw (.obj C (unm fs))) (σ.set iw (some (.ref x))) GC H':=by
    refine ho.put (λt ws q=>kH t _ q) ⟨ho.e.g.trans sGC,sCG.trans x1.s,λb hb q=>nC b (hb.same ho.b) (ho.e.n b hb q),t0⟩ t0 sGC (λj t c nj ej f=>?_) (λj n=>List.getElem?_set_ne (Ne.symm n)) (by rw[List.length_set]) (λhl=>?_) λc f j t nj ej f'=>?_
    ·obtain⟨k1,k2,_⟩:=(ho.sl j t ej).foot_in f
     refine⟨?_,nC c k1 k2⟩
     cases qc:H c with
     |none=>exact absurd qc k1.1
     |some u=>exact kH c u qc
    ·rw[ZV (by rw[<-ho.len];exact hl)]
     refine⟨x,dx',ws',rfl,hw,?_,h0x,obj⟩
     cases q:GC x with
     |none=>rfl
     |some u=>rw[sCG _ _ q]at hg';cases hg'
    ·by_cases hl:iw<σ.length
     ·rw[ZV hl]at f
      have f:some (some (V.ref x))=some (some (.ref c)):=f
      cases f
      exact ho.mutAt ej f' hx
     ·rw[List.getElem?_eq_none (by rw[List.length_set];omega)]at f
      have f:none=some (some (V.ref c)):=f
      cases f
   exact hD _ GC H' sGC fin
  ·exact hD.elim
end
end PM
namespace PM
open PySem PySem.Spec PyProof.Rows L2
noncomputable def FkI (P:Program)(w:World)(K:PySem.W.Frag)(mg:Str->Option Value)(base:Heap) (k:Nat) (x:Str)(C:Addr)(ps:List Str) (n:Nat)(F:FO):Prop:=
 ∃ f fd,FnOk P w K mg base (CX1 P w) k f fd ps (spO K C n F)/\Mk K C f/\mg x=some (.ref C)/\Binds K fd ps []
section
variable {K:PySem.W.Frag}{E:XK}
theorem Q5 {n:Nat}{C:Addr}{F:FO}{ta:TA}{as:List (M D)}(ha:RL K E ta (zk as))(hn:as.length+1=n):RE K E (tMake C (spO K C n F) [] E ta) (Wj C F as):=by
 intro G0 H0 ρ σ G H ho Q hQ
 unfold Wj at hQ
 refine ha G0 H0 ρ σ G H ho _ ?_
 cases e:zk as ρ with
 |bad=>rw[e]at hQ;exact hQ
 |exn c ρ1=>rw[e]at hQ;exact hQ
 |ok ds ρ1=>
  rw[e]at hQ
  simp only[Res.bnd_ok]at hQ
  intro us G1 H1 s1 h1 r1 x dx hx hdx ndx
  have hR:∀ c u,H1 c=some u->upd (upd H1 dx (.own x)) x (.ins C dx []) c=some u/\c≠x:=λc u q=>⟨by rw[upd_ne (ne_of_none q hx),upd_ne (ne_of_none q hdx)];exact q,ne_of_none q hx⟩
  refine⟨x,us,by rw[List.append_nil],by rw[r1.ln,xf e];exact hn,G1,ds,[],[],dx,λc u q=>(hR c u (h1.e.s _ _ q)).1,r1,upd_same,h1.e.s.free hx,.nil,?_⟩
  cases q:F C [] ds with
  |bad=>rw[q]at hQ;exact hQ
  |ok d fs=>rw[q]at hQ;exact hQ.elim
  |exn c=>
   rw[q]at hQ
   intro G' H' x1
   have kH:Same H1 H':=λb u z=>x1.t _ _ (by rw[yp (hR b u z).2];exact (hR b u z).1)
   refine hQ G' H' (s1.trans x1.g) (h1.grow ⟨x1.g,x1.s,λb hb z=>x1.n b ?_ z,kH⟩ kH)
   cases qb:H1 b with
   |none=>exact absurd qb hb.1
   |some u=>rw[yp (hR b u qb).2,(hR b u qb).1,<-qb];exact hb
end
section
variable {X:Cx}{E:XK}{e:Expr}{es:List Expr}{pos p2 p3:Pos}
theorem jU {k n:Nat}{C:Addr}{ps:List Str}{F:FO}{x:Str}{fp:Pos}{ms:List (M D)}(G:FkI X.prog X.w X.K X.mg X.base k x C ps n F)(hr:Room (k+1) X.A)(hx:Passes (CX1 X.prog X.w) X E)(ha:MA X E (e::es) ms)(hn:autoParam (ms.length+1=n) aR._auto_1)
  (hg:autoParam (Gl X x) aR._auto_1)(hdb:autoParam ((x == ("__debug__" : Str))=false) aD._auto_1)(he:autoParam (starEach (e::es) X.env=(false,eval e X.env)::starEach es X.env) aR._auto_1)(hpl:autoParam ((backTo pos (starEach es X.env)).any (·.1)=false) aR._auto_1) :
  ME X E (.Call (.Name x fp) (e::es) [] pos) (Wj C F ms):=by
 obtain⟨f,fd,G,hm,hmg,hb⟩:=G
 obtain⟨ta,pa,ra⟩:=ha
 exact⟨_,pe_make hm G hr hg hmg hb .nil hx pa hdb he hpl,Q5 ra hn⟩
theorem Ux {k:Nat}{C:Addr}{ps:List Str}{F:FO}{x:Str}{fp cp:Pos} (iw ih:Nat){y z:Str}(G:FkI X.prog X.w X.K X.mg X.base k x C ps 2 F)(hr:Room (k+1) X.A)(hx:Passes (CX1 X.prog X.w) X E)(hN:X.N.Nodup)
  (hi:autoParam (X.N[iw]? = some y) aR._auto_1)(hl:autoParam (Loc X.env.scope y) aL._auto_1)(hN2:autoParam (X.N[ih]? = some z) aR._auto_1)(hvi:autoParam (Vis X.env.scope z) aV._auto_1)(hd:autoParam ((z == ("__debug__" : Str))=false) aD._auto_1)(hcd:autoParam ((z == ("__classdict__" : Str))=false) aD._auto_1)
  (hg:autoParam (Gl X x) aR._auto_1)(hdb:autoParam ((x == ("__debug__" : Str))=false) aD._auto_1)(he:autoParam (starEach [.Name z p3] X.env=(false,eval (.Name z p3) X.env)::starEach [] X.env) aR._auto_1)(hpl:autoParam ((backTo cp (starEach [] X.env)).any (·.1)=false) aR._auto_1)
  (hs:autoParam (swapsWith (.Call (.Name x fp) [.Name z p3] [] cp) (some (.Name y p2)) pos.line X.env=pure false) aR._auto_1)(hf:autoParam (X.fn y=true\/X.env.scope.names.lookup y=some .local) aF._auto_1) :
  MS X E (.Assign [.Name y p2] (.Call (.Name x fp) [.Name z p3] [] cp) pos) (xF iw ih C F):=by
 obtain⟨f,fd,G,hm,hmg,hb⟩:=G
 exact⟨_,ps_set hN hi hl (pe_make hm G hr hg hmg hb .nil hx (pa_cons (pe_var hN2 hvi hd hcd) pa_nil he) hdb he hpl) hs hf,JV⟩
end
end PM
namespace PM
open PySem PySem.Spec PyProof.Rows L2
section
variable {K:PySem.W.Frag}{E:XK}{G0 H0:Hp}{ρ:Rho}{σ:St}{G H:Hp}
theorem Hold.forget {i:Nat}(h:Hold K G0 H0 ρ σ G H):Hold K G0 H0 (ρ.set i .un) σ G H:=
 h.put (λ_ _ q=>q) h.e h.b (Same.refl _) (λj t c _ e f=>⟨rfl,((h.sl j t e).foot_in f).2.1⟩) (λ_ _=>rfl) rfl (λ_=>trivial) λc f=>f.elim
theorem Hold.blank (s:Same G H):Hold K G H (List.replicate σ.length .un) σ G H:=by
 refine⟨Ext.refl s,Same.refl _,λi sl e=>?_,λi j si sj c e1 e2 f1 f2=>?_,by simp⟩
 ·rw[List.getElem?_replicate]at e
  split at e
  ·cases e;exact trivial
  ·cases e
 ·rw[List.getElem?_replicate]at e1
  split at e1
  ·cases e1;exact f1.elim
  ·cases e1
theorem Hold.junkM {i:Nat}{ms:List Trp}(h:Hold K G0 H0 ρ σ G H)(e:Zd ρ[i]? = some ms):Hold K G0 H0 (ρ.set i (.junk ms.length)) σ G H:=by
 obtain⟨a,ts,as,e1,e2,ga,h0a,n1,n2,hl1,hl2,r⟩:=h.ownM e
 refine h.put (λ_ _ q=>q) h.e h.b (Same.refl _) (λj t c _ e f=>⟨rfl,((h.sl j t e).foot_in f).2.1⟩) (λ_ _=>rfl) rfl (λ_=>⟨a,_,e1,e2,ga,h0a,by simp[hl1]⟩) λc f j t n ej f'=>?_
 have f:σ[i]? = some (some (.ref c)):=f
 exact n (h.ds j i t _ c ej (Zj e) f' (.inl f))
theorem Hold.lastM {i k:Nat}{ms:List Trp}{a t b:Addr}{ts:List Addr}{g:Bool}{n:Int}{ds:List D}{vs:List V}{d:D}{v:V}(h:Hold K G0 H0 ρ σ G H)(e:Zd ρ[i]? = some ms)(ea:σ[i]? = some (some (.ref a)))(ha:H a=some (.lst (ts.map V.ref)))
  (ht:ts[k]? = some t)(htt:H t=some (.tup [.bl g,.int n,.ref b]))(hm:ms[k]? = some (g,n,ds))(hb:H b=some (.lst vs))(rl:zF K G ds vs)(rv:Rep K G d v) :
  Hold K G0 H0 (ρ.set i (.ownM (ms.set k (lastM d (g,n,ds))))) σ G (upd H b (.lst (vs.set (vs.length - 1) v)))/\b≠a:=by
 obtain⟨a',ts',as,f1,f2,ga,h0a,n1,n2,hl1,hl2,r⟩:=h.ownM e
 rw[ea]at f1
 cases f1
 rw[ha]at f2
 cases Y8 f2
 have hka:k<as.length:=by rw[hl2];exact (List.getElem?_eq_some_iff.mp hm).1
 have q3:as[k]? = some as[k]:=List.getElem?_eq_getElem hka
 obtain⟨g0,vs0,g1,g2,g3,g4⟩:=r k t as[k] g n ds ht q3 hm
 rw[htt]at g0
 have hbk:b=as[k]:=by simpa using g0
 have hbm:b ∈ as:=by rw[hbk];exact List.getElem_mem hka
 have nba:b≠a:=λz=>n1 (by rw[<-z];exact hbm)
 rw[<-hbk]at q3 g1 g2 g3
 have tupk:∀ t' ws,H t'=some (.tup ws)->upd H b (.lst (vs.set (vs.length - 1) v)) t'=some (.tup ws):=λt' ws q=>by rw[upd_ne (λz=>by rw[z,hb]at q;cases q)];exact q
 have new:∀ (j:Nat)(t' b':Addr)(g':Bool) (n':Int)(ds':List D),ts[j]? = some t'->as[j]? = some b'->(ms.set k (PM.lastM d (g,n,ds)))[j]? = some (g',n',ds')->upd H b (.lst (vs.set (vs.length - 1) v)) t'=some (.tup [.bl g',.int n',.ref b'])/\InR K H0 G (upd H b (.lst (vs.set (vs.length - 1) v))) ds' b':=λj t' b' g' n' ds' z1 z2 z3=>by
  by_cases hj:j=k
  ·subst hj
   rw[ZV (List.getElem?_eq_some_iff.mp hm).1]at z3
   cases z3
   rw[ht]at z1
   cases z1
   rw[q3]at z2
   cases z2
   refine⟨tupk _ _ htt,_,upd_same,g2,g3,?_⟩
   show zF K G (ds.set (ds.length - 1) d) _
   rw[<-rl.len]
   exact rl.set rv _
  ·rw[List.getElem?_set_ne (Ne.symm hj)]at z3
   obtain⟨y0,ws,y1,y2,y3,y4⟩:=r j t' b' g' n' ds' z1 z2 z3
   refine⟨tupk _ _ y0,ws,?_,y2,y3,y4⟩
   rw[upd_ne (λz=>?_)]
   ·exact y1
   ·subst z
    have k1:=(List.getElem?_eq_some_iff.mp z2)
    have k2:=(List.getElem?_eq_some_iff.mp q3)
    exact hj ((List.getElem_inj n2).mp (k1.2.trans k2.2.symm))
 have ea':upd H b (.lst (vs.set (vs.length - 1) v)) a=some (.lst (ts.map V.ref)):=by rw[upd_ne (Ne.symm nba)];exact ha
 refine⟨h.setAt (Zj e) ((vw ea ha hl1 hl2 r).mpr (.inr hbm)) ⟨a,ts,as,ea,ea',ga,h0a,n1,n2,by simp[hl1],by simp[hl2],new⟩ λc fc=>?_,nba⟩
 exact (vw ea ha hl1 hl2 r).mpr ((vw (K:=K) (H0:=H0) (G:=G) ea ea' (by simp[hl1]) (by simp[hl2]) new).mp fc)
theorem Qx {ih ig ib im:Nat}{te tv:TE}{mk mv:M D}{d:D}(hk:RE K E te mk)(hv:RE K E tv mv)(ek:∀ ρ,mk ρ=.ok (.int (-1)) ρ)(ev:∀ ρ,mv ρ=.ok d ρ)(h1:ih≠ig)(h2:ih≠ib)(h3:ih≠im)(h4:ig≠ib)(h5:ig≠im)(h6:ib≠im) :
  RS K E (tFor (iList K (tVar ih)) (gTup K 3 (gCons (gName ig) (gCons (gName ib) (gCons (gName im) gNil)))) (tAsg tv (gSub (tVar im) te rSetL))) (WH ih ig ib im d):=by
 intro G0 H0 ρ σ G H ho
 refine RSt.opt λms e=>?_
 obtain⟨a,ts,as,e1,e2,ga,h0a,n1,n2,hl1,hl2,r⟩:=ho.ownM e
 intro DD hD
 split at hD
 ·rename_i hne
  obtain⟨hne,lg,lb,lm⟩:=hne
  have hih:ih<ρ.length:=(List.getElem?_eq_some_iff.mp (Zj e)).1
  let ρu:Rho:=((ρ.set ig .un).set ib .un).set im .un
  have e0:Zd ρu[ih]? = some ms:=by
   show Zd (((ρ.set ig .un).set ib .un).set im .un)[ih]? = some ms
   rw[List.getElem?_set_ne (Ne.symm h3),List.getElem?_set_ne (Ne.symm h2),List.getElem?_set_ne (Ne.symm h1)]
   exact e
  refine⟨.ref a,e1,a,rfl,⟨_,SqL.of e2⟩,λi m σ' H'=>m=ms.length - i/\i<=ms.length/\∃ G' ms',Same G G'/\Hold K G0 H0 (ρu.set ih (.ownM ms')) σ' G' H'/\σ'[ih]? = some (some (.ref a))/\H' a=some (.lst (ts.map V.ref))/\ms'.length=ms.length/\(∀ t ∈ ms',t.2.2≠[]),⟨ms.length,by simp,Nat.zero_le _,G,ms,Same.refl _,?_,e1,e2,rfl,λt ht=>?_⟩,?_⟩
  ·have:=(ho.forget (i:=ig)).forget (i:=ib) |>.forget (i:=im)
   rw[show ρu.set ih (.ownM ms)=ρu from ?_]
   ·exact this
   ·refine List.ext_getElem? λj=>?_
    by_cases hj:j=ih
    ·subst hj
     rw[ZV (by simp[ρu];exact hih),Zj e0]
    ·rw[List.getElem?_set_ne (Ne.symm hj)]
  ·have:=List.all_eq_true.mp hne t ht
   intro z
   rw[z]at this
   cases this
  ·rintro i m σ' H' ⟨rfl,hi,G',ms',sg,h,ea,ha,hl',hn'⟩
   have eo:Zd (ρu.set ih (.ownM ms'))[ih]? = some ms':=by rw[ZV (by simp[ρu];exact hih)];rfl
   by_cases hlt:i<ms.length
   ·refine .inr ?_
    obtain⟨a',ts',as',f1,f2,ga',h0a',n1',n2',hl1',hl2',r'⟩:=h.ownM eo
    rw[ea]at f1
    cases f1
    rw[ha]at f2
    cases Y8 f2
    have hti:i<ts.length:=by omega
    have hai:i<as'.length:=by omega
    have hmi:i<ms'.length:=by omega
    have q1:ts[i]? = some ts[i]:=List.getElem?_eq_getElem hti
    have q2:as'[i]? = some as'[i]:=List.getElem?_eq_getElem hai
    have q3:ms'[i]? = some (ms'[i].1,ms'[i].2.1,ms'[i].2.2):=List.getElem?_eq_getElem hmi
    generalize ts[i]=t at q1
    generalize as'[i]=b at q2
    generalize hg:ms'[i].1=g at q3
    generalize ms'[i].2.1=n at q3
    generalize ms'[i].2.2=ds at q3
    obtain⟨g0,vs,g1,g2,g3,g4⟩:=r' i t b g n ds q1 q2 q3
    have qt:(ts.map V.ref)[i]? = some (.ref t):=by rw[List.getElem?_map,q1];rfl
    refine⟨⟨_,_,SqL.of ha,qt⟩,λσ2 H2=>i+1<=ms.length/\∃ G' ms',Same G G'/\Hold K G0 H0 (ρu.set ih (.ownM ms')) σ2 G' H2/\σ2[ih]? = some (some (.ref a))/\H2 a=some (.lst (ts.map V.ref))/\ms'.length=ms.length/\(∀ t ∈ ms',t.2.2≠[]),λσ2 H2 ⟨hi2,q⟩=>⟨ms.length - (i+1),by omega,rfl,hi2,q⟩,λx H2 y=>?_⟩
    obtain⟨rfl,hx⟩:=y
    have hx:=hx _ (SqL.of ha)
    rw[qt]at hx
    cases hx
    refine⟨t,[.bl g,.int n,.ref b],rfl,SqT.of g0,rfl,_,_,rfl,_,_,rfl,_,_,rfl,rfl,?_⟩
    have un:∀ {σ':St}{j:Nat}{o:Option V},j<ρu.length->(j=ig\/j=ib\/j=im)->Hold K G0 H0 (ρu.set ih (.ownM ms')) σ' G' H2->Hold K G0 H0 (ρu.set ih (.ownM ms')) (σ'.set j o) G' H2:=fun {σ' j o} hj hjj hh=>by
     have z:=hh.unk (i:=j) (o:=o)
     rw[show (ρu.set ih (.ownM ms')).set j .un=ρu.set ih (.ownM ms') from ?_]at z
     ·exact z
     ·refine List.ext_getElem? λl=>?_
      by_cases hl:l=j
      ·subst hl
       have nl:l≠ih:=by rcases hjj with z | z | z<;>rw[z]<;>first | exact Ne.symm h1 | exact Ne.symm h2 | exact Ne.symm h3
       rw[ZV (by rw[List.length_set];exact hj),List.getElem?_set_ne (Ne.symm nl)]
       show some Slot.un=(((ρ.set ig .un).set ib .un).set im .un)[l]?
       have hl0:l<ρ.length:=by simpa[ρu] using hj
       rcases hjj with z | z | z
       ·subst z
        rw[List.getElem?_set_ne (Ne.symm h5),List.getElem?_set_ne (Ne.symm h4),ZV hl0]
       ·subst z
        rw[List.getElem?_set_ne (Ne.symm h6),ZV (by simpa using hl0)]
       ·subst z
        rw[ZV (by simpa using hl0)]
      ·rw[List.getElem?_set_ne (Ne.symm hl)]
    have lu:ρu.length=ρ.length:=by simp[ρu]
    have hA:=un (o:=some (.ref b)) (by rw[lu];exact lm) (.inr (.inr rfl)) (un (o:=some (.int n)) (by rw[lu];exact lb) (.inr (.inl rfl)) (un (o:=some (.bl g)) (by rw[lu];exact lg) (.inl rfl) h))
    have sl:σ'.length=ρ.length:=by rw[<-h.len,List.length_set,lu]
    generalize hσ3:((σ'.set ig (some (.bl g))).set ib (some (.int n))).set im (some (.ref b))=σ3 at hA
    have vm:σ3[im]? = some (some (.ref b)):=by rw[<-hσ3];exact ZV (by simp[sl];exact lm)
    have vh:σ3[ih]? = some (some (.ref a)):=by rw[<-hσ3,List.getElem?_set_ne (Ne.symm h3),List.getElem?_set_ne (Ne.symm h2),List.getElem?_set_ne (Ne.symm h1)];exact ea
    have bl:Hold K G' H2 (List.replicate σ3.length .un) σ3 G' H2:=Hold.blank hA.e.s
    refine hv G' H2 _ σ3 G' H2 bl _ ?_
    rw[ev]
    intro v G1 H3 s1 h7 r1
    refine⟨.ref b,vm,?_⟩
    refine hk G' H2 _ σ3 G1 H3 h7 _ ?_
    rw[ek]
    intro kv G2 H4 s2 h8 r2
    have hB:=hA.grow h8.e h8.b
    have hds:ds≠[]:=hn' _ (List.mem_of_getElem? q3)
    have hvl:0<vs.length:=by rw[<-g4.len];exact List.length_pos_iff.mpr hds
    have hix:ixN vs.length (-1)=some (vs.length - 1):=by
     rw[<-Xi]
     unfold yf
     rw[if_neg (by omega),if_pos (by omega)]
     congr 1
     omega
    obtain⟨hC,nba⟩:=hB.lastM (d:=d) (v:=v) eo vh (h8.b _ _ ha) q1 (h8.b _ _ g0) q3 (h8.b _ _ g1) (g4.mono h8.e.g) (r1.mono s2)
    refine⟨b,vs,-1,vs.length - 1,rfl,zJ.mp r2,h8.b _ _ g1,hix,hlt,G2,ms'.set i (lastM d (g,n,ds)),sg.trans h8.e.g,?_,vh,by rw[upd_ne (Ne.symm nba)];exact h8.b _ _ ha,by rw[List.length_set];exact hl',λt' ht'=>?_⟩
    ·rw[List.set_set]at hC
     exact hC
    ·rcases List.mem_or_eq_of_mem_set ht' with z | z
     ·exact hn' t' z
     ·rw[z]
      show ds.set (ds.length - 1) d≠[]
      intro y
      have:=congrArg List.length y
      rw[List.length_set]at this
      exact hds (List.length_eq_zero_iff.mp this)
   ·have:i=ms.length:=by omega
    subst this
    refine .inl ⟨⟨_,SqL.of ha,by simp[hl1]⟩,?_⟩
    refine hD σ' G' H' sg ?_
    have z:=h.junkM eo
    rw[List.set_set,hl']at z
    exact z
 ·exact hD.elim
end
end PM
namespace PM
open PySem PySem.Spec PyProof.Rows L2
theorem XE {o:Option Slot}{n:Nat}(h:Wo o=some n):o=some (.junk n):=by
 unfold Wo at h
 split at h
 ·cases h;rfl
 ·cases h
section
variable {K:PySem.W.Frag}{E:XK}
theorem Jb {i:Nat}{te:TE}{m:M D}(he:RE K E te m):RS K E (tDrop (tBM K "list" rAppend (tVar i) (tCons te tNil))) (ue i m):=by
 intro G0 H0 ρ σ G H ho
 refine RSt.opt λn0 e0=>?_
 obtain⟨a,vs0,e1,e2,_,_,_⟩:=ho.sl i _ (XE e0)
 intro D hD
 refine⟨_,e1,.inl ⟨rfl,vs0,SqL.of e2⟩,?_⟩
 have q:RSt K E (λD σ H1=>te σ H1 λy H2=>rAppend (.ref a) [y] H2 λ_ H3=>D.nx σ H3) ((m ρ).bnd λ_ ρ=>(zO (Wo ρ[i]?) ρ).bnd λn ρ=>if n<sizeLine then .ok .nx (ρ.set i (.junk (n+1))) else .bad) G0 H0 σ G H:=by
  refine RSt.bind (t2:=λy D σ H2=>rAppend (.ref a) [y] H2 λ_ H3=>D.nx σ H3) (he G0 H0 ρ σ G H ho) λx ρ1 y G1 H1 s1 h1 r1=>?_
  refine RSt.opt λn e=>?_
  obtain⟨a',vs,f1,f2,f3,f4,f5⟩:=h1.sl i _ (XE e)
  rw[e1]at f1
  cases f1
  intro D hD
  split at hD
  ·rename_i hz
   refine⟨a,vs,y,rfl,rfl,f2,by rw[f5];exact hz,hD σ G1 _ (Same.refl _) ?_⟩
   exact h1.setMut (XE e) rfl e1 f3 f4 (s':=.junk (n+1)) ⟨a,vs++[y],rfl,upd_same,f3,f4,by simp[f5]⟩ rfl
  ·exact hD.elim
 exact q D hD
end
section
variable {X:Cx}{E:XK}{e v:Expr}{m mk mv:M D}{pos p2 p3:Pos}
theorem Jy (i:Nat){x:Str}{ap cp:Pos}(h:ME X E e m)(hN:autoParam (X.N[i]? = some x) aR._auto_1)(hv:autoParam (Vis X.env.scope x) aV._auto_1)(hd:autoParam ((x == ("__debug__" : Str))=false) aD._auto_1)
  (hcd:autoParam ((x == ("__classdict__" : Str))=false) aD._auto_1)(hs0:autoParam (starEach [e] X.env=(false,eval e X.env)::starEach [] X.env) aR._auto_1)(hbase:autoParam (attributeBase (.Name x p2) "append" X.env (eval (.Name x p2) X.env)=eval (.Name x p2) X.env) aR._auto_1)
  (hfew:autoParam (((backTo cp (starEach [e] X.env)).all (λx=>!x.1) && (backToKw cp (keywordEach [] X.env)).all (λx=>x.1.isSome) && decide ([e].length+([]:List Keyword).length+(if ([]:List Keyword).isEmpty then 0 else 1)<30))=true) aR._auto_1)
  (hline:autoParam ((ap.endLine == cp.line)=true) aR._auto_1)(hplain:autoParam ((backTo cp (starEach [] X.env)).any (·.1)=false) aR._auto_1)
  (hs:autoParam (swapsWith (.Call (.Attribute (.Name x p2) "append" ap) [e] [] cp) none pos.line X.env=pure false) aR._auto_1):MS X E (.Expr (.Call (.Attribute (.Name x p2) "append" ap) [e] [] cp) pos) (ue i m):=by
 obtain⟨t,p,r⟩:=h
 exact⟨_,ps_expr (pe_bm PySem.F.plainAttrs_list PySem.F.slot_list_append PySem.F.type_list_append mt_append (pe_var hN hv hd hcd) (pa_cons p pa_nil hs0) hbase hfew hline hs0 hplain) hs,Jb r⟩
end
end PM
namespace PM
open PySem PySem.Spec PyProof.Rows L2
theorem wC (a:Int):∀ l:List Int,(QE a l).Perm (a::l)
 |[]=>List.Perm.refl _
 |b::r=>by
  unfold QE
  split
  ·exact List.Perm.refl _
  ·exact ((wC a r).cons b).trans (List.Perm.swap a b r)
theorem xy:∀ l:List Int,(Z1 l).Perm l
 |[]=>List.Perm.refl _
 |a::r=>(wC a (Z1 r)).trans ((xy r).cons a)
theorem wc (a:Int):∀ l:List Int,l.Pairwise (· ≤ ·)->(QE a l).Pairwise (· ≤ ·)
 |[],_=>List.pairwise_singleton _ _
 |b::r,h=>by
  unfold QE
  obtain⟨h1,h2⟩:=List.pairwise_cons.mp h
  split
  ·rename_i hab
   refine List.pairwise_cons.mpr ⟨λc hc=>?_,h⟩
   rcases List.mem_cons.mp hc with rfl | hc
   ·exact hab
   ·exact Int.le_trans hab (h1 c hc)
  ·rename_i hab
   refine List.pairwise_cons.mpr ⟨λc hc=>?_,wc a r h2⟩
   rcases List.mem_cons.mp ((wC a r).mem_iff.mp hc) with rfl | hc
   ·omega
   ·exact h1 c hc
theorem XN:∀ l:List Int,(Z1 l).Pairwise (· ≤ ·)
 |[]=>List.Pairwise.nil
 |a::r=>wc a _ (XN r)
theorem wR:∀ {a b:List Int},a.Perm b->a.Pairwise (· ≤ ·)->b.Pairwise (· ≤ ·)->a=b
 |[],b,h,_,_=>(List.nil_perm.mp h).symm
 |x::a,[],h,_,_=>by simp at h
 |x::a,y::b,h,ha,hb=>by
  obtain⟨h1,h2⟩:=List.pairwise_cons.mp ha
  obtain⟨h3,h4⟩:=List.pairwise_cons.mp hb
  have e:x=y:=by
   have m1:x ∈ y::b:=h.mem_iff.mp List.mem_cons_self
   have m2:y ∈ x::a:=h.mem_iff.mpr List.mem_cons_self
   rcases List.mem_cons.mp m1 with e | m1
   ·exact e
   ·rcases List.mem_cons.mp m2 with e | m2
    ·exact e.symm
    ·have q1:=h3 x m1
     have q2:=h1 y m2
     omega
  subst e
  rw[wR (List.Perm.cons_inv h) h2 h4]
section
variable {prog:Program}{w:World}{A:Around}{E:Value->Shared->Prop}{s:Shared}
theorem jm {T:String}{p:Addr}{o:Obj}{items:Array Value}{n:Nat}{Q:List Value->Shared->Prop}(hT:T = "list"\/T = "tuple")(ho:s.heap.get? p=some o)(hc:o.cls=.type T)(hd:o.data=.seq items n)(hz:items.size<=sizeLine)
  (hq:∀ h',s.heap.objs.size<=h'.objs.size->(∀ b o,s.heap.get? b=some o->h'.get? b=some o)->Q items.toList { s with heap:=h' }):wpAny (model prog w) A (collect (.ref p)) Q E s:=by
 have ho':(s.heap.push (seqObj "list" #[] 0)).get? p=some o:=Heap.get?_push_of_some _ ho
 unfold collect
 refine wpAny_bind (wpAny_runValue (codeAny_builtin entry_proto_collect' ?_))
 refine wpAny_bind (m:=newList []) (wpAny_newList (wpAny_pure ⟨Code.quiet_builtin _ (by decide +kernel),codeAny_builtin entry_list_iadd' ?_⟩))
 show wpAny _ _ (Builtin.List.listExtendWith (.ref s.heap.objs.size) (.ref p) (.ref s.heap.objs.size)) _ _ { s with heap:=s.heap.push (seqObj "list" #[] 0) }
 unfold Builtin.List.listExtendWith
 refine wpAny_bind (wpAny_typeOf (T:=T) ⟨o,ho',hc⟩ ?_)
 rw[if_pos (by simp;rcases hT with z | z<;>simp[z])]
 refine wpAny_bind (listItems_at ho' hd (wpAny_bind (listItems_at (xs:=#[]) (n:=0) (Heap.get?_push_size _ rfl) rfl ?_)))
 rw[if_neg (by simp;try omega)]
 refine wpAny_bind (listUpdate_at (xs:=#[]) (n:=0) (Heap.get?_push_size _ rfl) rfl (wpAny_pure ?_) (Nat.zero_le _) (by simp;omega))
 refine wpAny_bind (m:=load s.heap.objs.size) (wpAny_load (get?_update_seq (Heap.get?_push_size _ rfl) _) ?_)
 show wpAny _ _ (pure ((#[]:Array Value)++items).toList) Q E _
 rw[show ((#[]:Array Value)++items).toList=items.toList by simp]
 refine wpAny_pure (hq _ (by rw[Heap.size_update,size_push'];exact Nat.le_succ _) λb o' eb=>?_)
 have hlt:=Heap.lt_size eb
 rw[Heap.get?_update_ne _ _ _ _ (Nat.ne_of_lt hlt)]
 exact Heap.get?_push_of_some _ eb
theorem WI {T:String}{p:Addr}{o:Obj}{items:Array Value}{n:Nat}{ns:List Int}{Q:Value->Shared->Prop}(hT:T = "list"\/T = "tuple")(ho:s.heap.get? p=some o)(hc:o.cls=.type T)(hd:o.data=.seq items n)(hI:IntsAre items.toList ns)(h64:ns.length<64)
  (q:∀ (L:Addr)(h':Heap)(out:Array Value)(ms:List Int) (e:Nat),IntsAre out.toList ms->ms.Perm ns->ms.Pairwise (· ≤ ·)->s.heap.objs.size<=L->h'.get? L=some (seqObj "list" out e)->(∀ b o,s.heap.get? b=some o->h'.get? b=some o)->Q (.ref L) { s with heap:=h' }) :
  wpAny (model prog w) A (call (.builtin "sorted") [.ref p]) Q E s:=by
 have hlen:items.toList.length=ns.length:=hI.length
 refine Calls.call_function_entry kind_sorted plain_sorted entry_sorted (args_sorted1 _) ?_
 unfold Builtin.«sorted»
 refine wpAny_bind (m:=checkCount "sorted" 1 1 _) (wpAny_pure ?_)
 refine wpAny_bind (jm hT ho hc hd (by rw[sizeLine_eq,<-Array.length_toList,hlen];omega) λh' hle keep=>?_)
 refine wpAny_bind (wpAny_newList ?_ (by rw[hlen,sizeLine_eq];omega))
 have hoL:(h'.push (seqObj "list" items.toList.toArray 0)).get? h'.objs.size=some (seqObj "list" items.toList.toArray 0):=Heap.get?_push_size _ rfl
 refine wpAny_bind (wpAny_holding (wpAny_call_entry slot_list_sort ⟨_,hoL,rfl⟩ entry_list_sort (list_sort_tree hoL hI (by rw[hlen];exact h64) λout ns' a1 a2 a3=>⟨_,rfl,?_⟩) (args_list_sort _)))
 obtain⟨e,he⟩:=sortedHeap_at (out:=out) hoL
 refine wpAny_pure ⟨_,rfl,q _ _ out ns' e a1 a2 a3 hle he λb o eb=>?_⟩
 have hlt:b<h'.objs.size:=Heap.lt_size (keep b o eb)
 rw[sortedHeap_old (Nat.ne_of_lt hlt) (by rw[size_push'];exact Nat.lt_succ_of_lt hlt)]
 exact Heap.get?_push_of_some _ (keep b o eb)
end
section
variable {X:Cx}{K:PySem.W.Frag}{E:XK}
noncomputable def V6 (K:PySem.W.Frag):List V->Hp->VK->Prop:=λxs H Q=>∃ (p:Addr)(ns:List Int),xs=[.ref p]/\(SqL K H p (ns.map V.int)\/SqT K H p (ns.map V.int))/\ns.length<64/\∀ (l:Addr),H l=none->Q (.ref l) (upd H l (.lst ((Z1 ns).map V.int)))
theorem v6:CallR X (.builtin "sorted") (V6 X.K):=by
 intro pins s σ H xs us Q I r h
 obtain⟨p,ns,rfl,hq,h64,q⟩:=h
 obtain⟨u,rfl,rx⟩:=vals1 r
 cases rx
 have fin:∀ (L:Addr)(h':Heap)(out:Array Value)(ms:List Int) (e:Nat),IntsAre out.toList ms->ms.Perm ns->ms.Pairwise (· ≤ ·)->s.heap.objs.size<=L->h'.get? L=some (seqObj "list" out e)->(∀ b o,s.heap.get? b=some o->h'.get? b=some o)->EP X pins σ Q (.ref L) { s with heap:=h' }:=λL h' out ms e hI hpm hs hL hg k=>by
  have hlen:=hpm.length_eq
  cases wR (hpm.trans (xy ns).symm) hs (XN ns)
  exact⟨.ref L,_,I.laid (t':=s.toks) (o:=.lst ((Z1 ns).map V.int)) k hL ⟨by rw[List.length_map,sizeLine_eq];omega,out.toList,e,vA hI,by rw[Array.toArray_toList];exact hg⟩,rfl,q L (I.hok.fresh hL)⟩
 rcases hq with hq | hq
 ·obtain⟨its,r',pl,hz⟩:=I.list hq
  obtain⟨o,ho,hcl,n,hd⟩:=pl.isList
  exact WI (.inl rfl) ho hcl hd (by simpa using Yz r') h64 fin
 ·obtain⟨its,r',pl,hz⟩:=I.tuple hq
  obtain⟨o,ho,hcl,n,hd⟩:=pl
  exact WI (.inr rfl) ho hcl hd (by simpa using Yz r') h64 fin
theorem jx:ClM K (V6 K) (ZB xl):=by
 intro G H xs ds d Q s r e q
 cases ds with
 |nil=>cases e
 |cons x t=>
  cases t with
  |cons _ _=>cases e
  |nil=>
   obtain⟨v,vr,rfl,rv,rr⟩:=r.cons_inv
   rw[rr.nil_inv]
   have e':xl x=some d:=e
   have key:∀ (ds:List D),(x=.tup ds\/x=.lst ds)->((Zv ds).bind λns=>if ns.length<64 then some (D.lst ((Z1 ns).map .int)) else none)=some d->V6 K [v] H Q:=by
    intro ds hd e
    obtain⟨ns,e1,e2⟩:=Option.bind_eq_some_iff.mp e
    split at e2
    ·rename_i hz
     cases e2
     obtain⟨p,rfl,hq⟩:=XO s hd rv e1
     refine⟨p,ns,rfl,hq,hz,λl hl=>?_⟩
     have x:=Ext.new (o:=.lst ((Z1 ns).map V.int)) s hl
     exact q _ _ _ x (Same.upd hl) (zQ.mpr ⟨l,_,rfl,SqL.of upd_same,y9 _ _⟩)
    ·cases e2
   cases x<;>first | (cases e';done) | skip
   ·exact key _ (.inl rfl) e'
   ·exact key _ (.inr rfl) e'
end
section
variable {X:Cx}{E:XK}{e:Expr}{es:List Expr}{pos:Pos}
theorem kD {p:Pos}{ms:List (M D)}(hm:X.mg "sorted" = none)(ha:MA X E (e::es) ms)(hg:Gl X "sorted":=by rfl)(he:autoParam (starEach (e::es) X.env=(false,eval e X.env)::starEach es X.env) aR._auto_1)(hpl:autoParam ((backTo pos (starEach es X.env)).any (·.1)=false) aR._auto_1) :
  ME X E (.Call (.Name "sorted" p) (e::es) [] pos) (zY (ZB xl) ms):=ZE v6 jx hg hm (by with_unfolding_all rfl) ha (by decide) (by decide) he hpl
end
end PM
namespace PM
open PySem PySem.Spec PyProof.Rows L2
section
variable {X:Cx}{E:XK}{e v:Expr}{mk mv:M D}{pos p1 p2 p3 p4 p5 p6 p7 apos:Pos}
theorem jK (ih ig ib im:Nat){x a b c:Str}{kt:Nat}(d:D)(hp:PassesOwn (model X.prog X.w) X.A X.env X.xe)(hc:X.calm=true)(hN:X.N.Nodup)(hk:ME X E e mk)(hv:ME X E v mv)(ek:∀ ρ,mk ρ=.ok (.int (-1)) ρ)(ev:∀ ρ,mv ρ=.ok d ρ)
  (h1:autoParam (ih≠ig) aD._auto_1)(h2:autoParam (ih≠ib) aD._auto_1)(h3:autoParam (ih≠im) aD._auto_1)(h4:autoParam (ig≠ib) aD._auto_1)(h5:autoParam (ig≠im) aD._auto_1)(h6:autoParam (ib≠im) aD._auto_1)
  (n0:autoParam (X.N[ih]? = some x) aR._auto_1)(v0:autoParam (Vis X.env.scope x) aV._auto_1)(d0:autoParam ((x == ("__debug__" : Str))=false) aD._auto_1)(c0:autoParam ((x == ("__classdict__" : Str))=false) aD._auto_1)
  (n1:autoParam (X.N[ig]? = some a) aR._auto_1)(l1:autoParam (Loc X.env.scope a) aL._auto_1)(f1:autoParam (X.fn a=true\/X.env.scope.names.lookup a=some .local) aF._auto_1)
  (n2:autoParam (X.N[ib]? = some b) aR._auto_1)(l2:autoParam (Loc X.env.scope b) aL._auto_1)(f2:autoParam (X.fn b=true\/X.env.scope.names.lookup b=some .local) aF._auto_1)
  (n3:autoParam (X.N[im]? = some c) aR._auto_1)(l3:autoParam (Loc X.env.scope c) aL._auto_1)(f3:autoParam (X.fn c=true\/X.env.scope.names.lookup c=some .local) aF._auto_1)
  (v3:autoParam (Vis X.env.scope c) aV._auto_1)(d3:autoParam ((c == ("__debug__" : Str))=false) aD._auto_1)(c3:autoParam ((c == ("__classdict__" : Str))=false) aD._auto_1)
  (a1:autoParam ((assignEach [.Name a p1,.Name b p2,.Name c p3] X.env).map (·.2)=assign (.Name a p1) X.env::(assignEach [.Name b p2,.Name c p3] X.env).map (·.2)) aR._auto_1)(a2:autoParam ((assignEach [.Name b p2,.Name c p3] X.env).map (·.2)=assign (.Name b p2) X.env::(assignEach [.Name c p3] X.env).map (·.2)) aR._auto_1)
  (a3:autoParam ((assignEach [.Name c p3] X.env).map (·.2)=assign (.Name c p3) X.env::(assignEach [] X.env).map (·.2)) aR._auto_1)(hn:autoParam ((assignEach [.Name a p1,.Name b p2,.Name c p3] X.env).length=3) aR._auto_1)(hst:autoParam ((assignEach [.Name a p1,.Name b p2,.Name c p3] X.env).findIdx? (·.1)=none) aR._auto_1)
  (ha:∀ v,assign (.Subscript (.Name c p5) e p6) X.env v=(do
   let ov <-holding [v] (eval (.Name c p5) X.env)
   let iv <-holding [v,ov] (eval e X.env)
   standAt p6
   holding [v,ov,iv] (setItem ov iv v)
   release [v,ov,iv] []):=by intro _;rfl)
  (hs:autoParam (swapsWithSole [.Subscript (.Name c p5) e p6] v apos.line X.env=pure false) aR._auto_1)(hw:autoParam (swappedStores [.Subscript (.Name c p5) e p6] v X.env=pure none) aR._auto_1)
  (hh:autoParam ((assignEach [.Subscript (.Name c p5) e p6] X.env).map (·.2)=[assign (.Subscript (.Name c p5) e p6) X.env]) aR._auto_1)(hf:∀ y,foldedSetIterable (.Name x p7) X.env y=pure y:=by intro _;rfl) :
  MS X E (.For (.Tuple [.Name a p1,.Name b p2,.Name c p3] kt p4) (.Name x p7) [.Assign [.Subscript (.Name c p5) e p6] v apos] [] pos) (WH ih ig ib im d):=by
 obtain⟨tk,pk,rk⟩:=hk
 obtain⟨tv,pv,rv⟩:=hv
 exact⟨_,ps_for hp hc (pi_list (pe_var n0 v0 d0 c0)) (pg_tup hc (pgs_cons (pg_name hN n1 l1 f1) (pgs_cons (pg_name hN n2 l2 f2) (pgs_cons (pg_name hN n3 l3 f3) pgs_nil a3) a2) a1) hn hst) (pss_one (ps_asg pv (pg_sub (pe_var n3 v3 d3 c3) pk set_list ha) hs hw hh)) hf,Qx rk rv ek ev h1 h2 h3 h4 h5 h6⟩
end
end PM
namespace PM
open PySem PySem.Spec PyProof.Rows L2
section
variable (K:PySem.W.Frag)
inductive SpK (C:Addr) (f:Str)(vs:List V)(H:Hp)(Q:VK):Prop where
 |mk (a dx:Addr)(ws:List (Str×V))(p:Addr)(us:List V)(q:Addr)(ns:List Int)(e:vs=[.ref a])(hw:H a=some (.ins C dx ws))(hf:ws.lookup f=some (.ref p))(hp:SqT K H p us)(h2:us.length=2)(hq:us[1]? = some (.ref q))(hs:SqL K H q (ns.map V.int)\/SqT K H q (ns.map V.int))(hz:ns.length<64)(hQ:∀ l,H l=none->Q (.ref l) (upd H l (.lst ((Z1 ns).map V.int))))
noncomputable abbrev spK (C:Addr) (f:Str):Sp:=λvs H Q _=>SpK K C f vs H Q
end
section
variable {K:PySem.W.Frag}{E:XK}
theorem qT {x d:D}(h:xl x=some d):∃ ds ns,(x=.tup ds\/x=.lst ds)/\Zv ds=some ns/\ns.length<64/\d=.lst ((Z1 ns).map .int):=by
 cases x<;>first | (cases h;done) | skip
 all_goals
  obtain⟨ns,e1,e2⟩:=Option.bind_eq_some_iff.mp h
  split at e2
  ·rename_i hz
   cases e2
   first | exact⟨_,ns,.inl rfl,e1,hz,rfl⟩ | exact⟨_,ns,.inr rfl,e1,hz,rfl⟩
  ·cases e2
theorem Uz {G H:Hp}{d0 d:D}{v:V}(s:Same G H)(r:Rep K G d0 v)(h:Xh d0=some d):∃ p us q ns,v=.ref p/\SqT K H p us/\us.length=2/\us[1]? = some (.ref q)/\(SqL K H q (ns.map V.int)\/SqT K H q (ns.map V.int))/\ns.length<64/\d=.lst ((Z1 ns).map .int):=by
 unfold Xh at h
 split at h
 ·rename_i x0 x
  obtain⟨ds,ns,hx,e1,hz,rfl⟩:=qT h
  obtain⟨p,us,rfl,hp,ru⟩:=zh.mp r
  obtain⟨v0,r0,rfl,_,ru1⟩:=ru.cons_inv
  obtain⟨v1,r1,rfl,rv1,ru2⟩:=ru1.cons_inv
  rw[ru2.nil_inv]at hp
  obtain⟨q,rfl,hq⟩:=XO s hx rv1 e1
  exact⟨p,[v0,.ref q],q,ns,rfl,SqT.same s hp,rfl,rfl,hq,hz,rfl⟩
 ·cases h
theorem KU {C:Addr}{f:Str}:∀ vs H Q E,spO K C 1 (Ys f) vs H Q E->spK K C f vs H Q E:=by
 intro vs H Q E h
 obtain⟨a,us,rfl,hl,G,ds,fs,ws,dx,sg,r,hw,hg,dr,hq⟩:=h
 have hu:us=[]:=List.length_eq_zero_iff.mp (by omega)
 subst hu
 have hd:ds=[]:=List.length_eq_zero_iff.mp r.len
 subst hd
 unfold Ys at hq
 cases ql:fs.lookup f with
 |none=>rw[ql]at hq;exact hq.elim
 |some q0=>
  rw[ql]at hq
  dsimp only at hq
  cases qk:Xh q0.2 with
  |none=>rw[qk]at hq;exact hq.elim
  |some d=>
   rw[qk]at hq
   dsimp only at hq
   obtain⟨v,lv,rv⟩:=(yb dr).1 q0 ql
   obtain⟨p,us,q,ns,rfl,h1,h2,h3,h4,h5,rfl⟩:=Uz sg rv qk
   refine⟨a,dx,ws,p,us,q,ns,rfl,hw,lv,h1,h2,h3,h4,h5,λl hl=>?_⟩
   have nla:l≠a:=λz=>by rw[z,hw]at hl;cases hl
   have x:Ext G (rem H a) (upd G l (.lst ((Z1 ns).map V.int))) (upd H l (.lst ((Z1 ns).map V.int))):=by
    have gl:G l=none:=sg.free hl
    refine⟨Same.upd gl,λb u z=>?_,λb hb z=>?_,λb u z=>?_⟩
    ·by_cases y:b=l
     ·subst y;rw[upd_same]at z ⊢;exact z
     ·rw[upd_ne y]at z ⊢;exact sg _ _ z
    ·rw[upd_ne (λy=>hb.1 (by rw[y,yp nla];exact hl))];exact z
    ·rw[upd_ne (λy=>by rw[y,yp nla,hl]at z;cases z)];exact uv _ _ z
   exact hq _ _ _ dx ws x (by rw[upd_ne (Ne.symm nla)];exact hw) (by rw[upd_ne (Ne.symm nla)];exact hg) (dr.mono x.g) (zQ.mpr ⟨l,_,rfl,SqL.of upd_same,y9 _ _⟩)
theorem ur {i j:Nat}{C:Addr}{f m:Str}:RS K E (tDrop (tBM K "list" rAppend (tMeth C m (spK K C f) [] E (tVar i) tNil) (tCons (tVar j) tNil))) (YN i j C f m):=by
 intro G0 H0 ρ σ G H ho
 refine RSt.opt λo q=>?_
 refine RSt.opt λdy ey=>?_
 refine RSt.opt λdk ek=>?_
 intro D hD
 split at hD
 ·rename_i hC
  obtain⟨hC,hm⟩:=hC
  obtain⟨a,dx,ws,e1,e2,e3,e4,r⟩:=ho.sl i _ (ZX q)
  rw[hC]at e2
  obtain⟨yv,v1,v2⟩:=ho.sl j _ (Ws ey)
  obtain⟨q0,ql,qk⟩:=Option.bind_eq_some_iff.mp ek
  obtain⟨v,lv,rv⟩:=(yb r).1 q0 ql
  obtain⟨p,us,q1,ns,rfl,h1,h2,h3,h4,h5,rfl⟩:=Uz ho.e.s rv qk
  refine⟨.ref a,e1,a,dx,ws,rfl,e2,(yb r).2 (by simpa using hm),a,dx,ws,p,us,q1,ns,rfl,e2,lv,h1,h2,h3,h4,h5,λl hl=>?_⟩
  refine⟨.inl ⟨rfl,_,SqL.of upd_same⟩,yv,v1,l,_,yv,rfl,rfl,upd_same,by rw[List.length_map,(xy ns).length_eq,sizeLine_eq];omega,?_⟩
  have sH:Same H (upd (upd H l (.lst ((Z1 ns).map V.int))) l (.lst ((Z1 ns).map V.int++[yv]))):=λb u z=>by rw[upd_ne (ne_of_none z hl),upd_ne (ne_of_none z hl)];exact z
  exact hD σ G _ (Same.refl _) (ho.grow ⟨Same.refl _,ho.e.s.trans sH,λ_ _ z=>z,sH⟩ sH)
 ·exact hD.elim
end
section
variable {P:Program}{w:World}{K:PySem.W.Frag}{mg:Str->Option Value}{base:Heap}
theorem kl {x qual:Str}{st:Stmt}{f:Addr}{fd:FuncData}{N ps:List Str}{k:Nat}{C:Addr}{fl:Str}(F:Fun K x qual st f fd)(S:FnScope N ps (defScope st))(hn:ps.length=1)(hN:1<=N.length)(cl:L2.Cls K C)(na:NoAttr K C fl)
  (hbody:∀ (cdv:Value)(A:Around)(outer:List Env)(s:Shared)(H:Hp)(E:XK),Room k (A.deeper (envOfC qual (defScope st) s.heap.objs.size f cdv)) ->
   PSs (cxOf (CX1 P w) P w K mg base N qual (defScope st) f cdv A outer s H E) (defBody st) (tRet (tCB (V6 K) (tCons (tOp (rIx K) (tFld K (tVar 0) fl) (tC (.int 1))) tNil)))):FnOk P w K mg base (CX1 P w) (k+1) f fd ps (spK K C fl):=by
 obtain⟨oc,od,kV,doc,pm,an,cdv,ct,osl,rfl,lk,hcd⟩:=F.ex
 refine fn_of lk hcd S (λvs H Q E h=>?_) λA outer s H vs Q E hr hsp=>?_
 ·obtain⟨a,dx,ws,p,us,q,ns,rfl,_⟩:=h
  rw[hn]
  rfl
 ·obtain⟨a,dx,ws,p,us,q,ns,rfl,hw,lv,h1,h2,h3,h4,h5,hq⟩:=hsp
  refine⟨_,hbody cdv A outer s H E hr,.ref a,rfl,a,C,dx,ws,.ref p,rfl,hw,cl,na,lv,.inr (.inl ⟨p,us,1,.ref q,rfl,rfl,h1,?_,q,ns,rfl,h4,h5,λl hl=>hq l hl⟩)⟩
  unfold atI
  rw[h2]
  exact h3
end
noncomputable def FkK (P:Program)(w:World)(K:PySem.W.Frag)(mg:Str->Option Value)(base:Heap) (k:Nat)(C:Addr) (m:Str)(ps:List Str) (fl:Str):Prop:=
 ∃ f fd,FnOk P w K mg base (CX1 P w) k f fd ps (spK K C fl)/\Meth K C m f/\Binds K fd ps []
theorem FkK.to {P:Program}{w:World}{K:PySem.W.Frag}{mg:Str->Option Value}{base:Heap}{k:Nat}{C:Addr}{m:Str}{ps:List Str}{fl:Str}(h:FkK P w K mg base k C m ps fl):FkO P w K mg base k C m ps 1 (Ys fl):=by
 obtain⟨f,fd,F,hm,hb⟩:=h
 exact⟨f,fd,F.imp KU,hm,hb⟩
section
variable {X:Cx}{E:XK}{pos p2 p3:Pos}
theorem QA {x fl:Str}{sp ap ip rp:Pos}{j:Nat}(hm:X.mg "sorted" = none)(hN:autoParam (X.N[0]? = some x) aR._auto_1)(hv:autoParam (Vis X.env.scope x) aV._auto_1)(hd:autoParam ((x == ("__debug__" : Str))=false) aD._auto_1)
  (hcd:autoParam ((x == ("__classdict__" : Str))=false) aD._auto_1)(hb:autoParam (attributeBase (.Name x p2) fl X.env (eval (.Name x p2) X.env)=eval (.Name x p2) X.env) aR._auto_1)(hix:PlainIx (.Constant (.int 1) j ip):=by intro _ _;rfl)
  (hg:Gl X "sorted":=by rfl)(he:autoParam (starEach [.Subscript (.Attribute (.Name x p2) fl ap) (.Constant (.int 1) j ip) p3] X.env=(false,eval (.Subscript (.Attribute (.Name x p2) fl ap) (.Constant (.int 1) j ip) p3) X.env)::starEach [] X.env) aR._auto_1)(hpl:autoParam ((backTo pos (starEach [] X.env)).any (·.1)=false) aR._auto_1) :
  PSs X [.Return (some (.Call (.Name "sorted" sp) [.Subscript (.Attribute (.Name x p2) fl ap) (.Constant (.int 1) j ip) p3] [] pos)) rp] (tRet (tCB (V6 X.K) (tCons (tOp (rIx X.K) (tFld X.K (tVar 0) fl) (tC (.int 1))) tNil))):=
 pss_one (ps_ret (pe_callB v6 hg hm (by with_unfolding_all rfl) (pa_cons (pe_ix ix_seq (pe_fld (pe_var hN hv hd hcd) hb) pe_int hix) pa_nil he) (by decide) (by decide) he hpl))
theorem UD {k:Nat}{C:Addr}{mt fl:Str}{ps:List Str}{ap mp cp cp2:Pos} (i j:Nat){x y:Str}(cl:L2.Cls X.K C)(G:FkK X.prog X.w X.K X.mg X.base k C mt ps fl)(hr:Room k X.A)(hx:Passes (CX1 X.prog X.w) X E)
  (hN:autoParam (X.N[i]? = some x) aR._auto_1)(hv:autoParam (Vis X.env.scope x) aV._auto_1)(hd:autoParam ((x == ("__debug__" : Str))=false) aD._auto_1)(hcd:autoParam ((x == ("__classdict__" : Str))=false) aD._auto_1)
  (hN2:autoParam (X.N[j]? = some y) aR._auto_1)(hv2:autoParam (Vis X.env.scope y) aV._auto_1)(hd2:autoParam ((y == ("__debug__" : Str))=false) aD._auto_1)(hcd2:autoParam ((y == ("__classdict__" : Str))=false) aD._auto_1){pl:Sem Bool}
  (ht:eval (.Call (.Attribute (.Name x p2) mt mp) [] [] cp2) X.env=(do
   let ov <-eval (.Name x p2) X.env
   standAt mp.atName
   let (f,first) <-holding [ov] (getMethod ov mt pl)
   callWith cp2 f first (backTo cp2 (starEach [] X.env)) (backToKw cp2 (keywordEach [] X.env))):=by rfl)
  (hs0:autoParam (starEach [.Name y p3] X.env=(false,eval (.Name y p3) X.env)::starEach [] X.env) aR._auto_1)
  (hbase:autoParam (attributeBase (.Call (.Attribute (.Name x p2) mt mp) [] [] cp2) "append" X.env (eval (.Call (.Attribute (.Name x p2) mt mp) [] [] cp2) X.env)=eval (.Call (.Attribute (.Name x p2) mt mp) [] [] cp2) X.env) aR._auto_1)
  (hfew:autoParam (((backTo cp (starEach [.Name y p3] X.env)).all (λx=>!x.1) && (backToKw cp (keywordEach [] X.env)).all (λx=>x.1.isSome) && decide ([Expr.Name y p3].length+([]:List Keyword).length+(if ([]:List Keyword).isEmpty then 0 else 1)<30))=true) aR._auto_1)
  (hline:autoParam ((ap.endLine == cp.line)=true) aR._auto_1)(hplain:autoParam ((backTo cp (starEach [] X.env)).any (·.1)=false) aR._auto_1)
  (hs:autoParam (swapsWith (.Call (.Attribute (.Call (.Attribute (.Name x p2) mt mp) [] [] cp2) "append" ap) [.Name y p3] [] cp) none pos.line X.env=pure false) aR._auto_1) :
  MS X E (.Expr (.Call (.Attribute (.Call (.Attribute (.Name x p2) mt mp) [] [] cp2) "append" ap) [.Name y p3] [] cp) pos) (YN i j C fl mt):=by
 obtain⟨f,fd,G,hm,hb⟩:=G
 exact⟨_,ps_expr (pe_bm PySem.F.plainAttrs_list PySem.F.slot_list_append PySem.F.type_list_append mt_append (pe_meth0 (pe_var hN hv hd hcd) cl hm G hr hb .nil hx ht) (pa_cons (pe_var hN2 hv2 hd2 hcd2) pa_nil hs0) hbase hfew hline hs0 hplain) hs,ur⟩
end
end PM
namespace PM
open PySem PySem.Spec PyProof.Rows L2
noncomputable abbrev YU (h:Heap)(T:Addr)(xs:Array Value):Prop:=h.get? T=some { cls:=.type "tuple",data:=.seq xs }
structure Zip3 (h:Heap)(z TI TO i1 i2 i3 l1 l2 l3:Addr) (f0 a b c:Value) (k:Nat):Prop where
 z:IsZip h z TI TO f0
 ti:YU h TI #[.ref i1,.ref i2,.ref i3]
 to:YU h TO #[a,b,c]
 j1:h.IsListIter i1 l1 k
 j2:h.IsListIter i2 l2 k
 j3:h.IsListIter i3 l3 k
theorem ZM {h:Heap}{a b:Addr}{o o':Obj}{T T':String}(ha:h.get? a=some o)(hb:h.get? b=some o')(ca:o.cls=.type T)(cb:o'.cls=.type T')(n:autoParam (T≠T') aD._auto_1):a≠b:=λe=>by
 subst e
 rw[ha]at hb
 cases hb
 rw[ca]at cb
 cases cb
 exact n rfl
section
variable {prog:Program}{w:World}{A:Around}{E:Value->Shared->Prop}{s:Shared}{z TI TO i1 i2 i3 l1 l2 l3:Addr}{a b c x y v:Value}{k:Nat}{xs ys zs:Array Value}
theorem VC {T:Addr}{p q r:Value}{j:Nat}{Q:Unit->Shared->Prop}(hT:YU s.heap T #[p,q,r])
  (h:∀ h',YU h' T ((#[p,q,r]:Array Value).setIfInBounds j x)->Heap.SameBut T s.heap h'->Q () { s with heap:=h' }):wpAny (model prog w) A (updateSeq T (·.setIfInBounds j x)) Q E s:=by
 refine wpAny_updateSeq hT rfl (h _ ?_ (Heap.SameBut.update ..))
 show (s.heap.update T _).get? T=_
 rw[Heap.get?_update_self _ hT rfl]
 simp[Obj.mapSeq]
theorem qH {Q:Value->Shared->Prop}(Z:Zip3 s.heap z TI TO i1 i2 i3 l1 l2 l3 .none a b c k)(nT:TI≠TO)(n12:i1≠i2)(n13:i1≠i3)(n23:i2≠i3)
  (L1:s.heap.IsList l1 xs)(L2:s.heap.IsList l2 ys)(L3:s.heap.IsList l3 zs)(hx:xs[k]? = some x)(hy:ys[k]? = some y)(hv:zs[k]? = some v)
  (hQ:∀ h',Zip3 h' z TI TO i1 i2 i3 l1 l2 l3 (rawInt s.heap.objs.size) x y v (k+1)->YU h' s.heap.objs.size #[x,y,v]->h'.objs.size=s.heap.objs.size+1 ->
   (∀ d o,d≠z->d≠TO->d≠i1->d≠i2->d≠i3->s.heap.get? d=some o->h'.get? d=some o)->Q (.ref s.heap.objs.size) { s with heap:=h' }) :
  wpAny (model prog w) A (Builtin.«zip.__next__» ⟨[.ref z],[]⟩) (λfin s'=>∃ v,fin=.done (.ret v)/\Q v s') E s:=by
 obtain⟨hz,hti,hto,⟨o1,g1,c1,d1⟩,⟨o2,g2,c2,d2⟩,⟨o3,g3,c3,d3⟩⟩:=id Z
 obtain⟨ol1,q1,cl1,_⟩:=id L1
 obtain⟨ol2,q2,cl2,_⟩:=id L2
 obtain⟨ol3,q3,cl3,_⟩:=id L3
 have nzTO:TO≠z:=ZM hto hz rfl rfl
 have nz1:i1≠z:=ZM g1 hz c1 rfl
 have nz2:i2≠z:=ZM g2 hz c2 rfl
 have nz3:i3≠z:=ZM g3 hz c3 rfl
 have nzTI:TI≠z:=ZM hti hz rfl rfl
 have nO1:TO≠i1:=ZM hto g1 rfl c1
 have nO2:TO≠i2:=ZM hto g2 rfl c2
 have nO3:TO≠i3:=ZM hto g3 rfl c3
 have nI1:TI≠i1:=ZM hti g1 rfl c1
 have nI2:TI≠i2:=ZM hti g2 rfl c2
 have nI3:TI≠i3:=ZM hti g3 rfl c3
 have lz:∀ {l o},s.heap.get? l=some o->o.cls=.type "list"->l≠z/\l≠TO/\l≠i1/\l≠i2/\l≠i3:=fun {l o} g e=>
  ⟨ZM g hz e rfl,ZM g hto e rfl,ZM g g1 e c1,ZM g g2 e c2,ZM g g3 e c3⟩
 obtain⟨m11,m12,m13,m14,m15⟩:=lz q1 cl1
 obtain⟨m21,m22,m23,m24,m25⟩:=lz q2 cl2
 obtain⟨m31,m32,m33,m34,m35⟩:=lz q3 cl3
 show wpAny _ _ (field (.ref z) 2 >>= _) _ _ _
 refine wpAny_bind (wpAny_field hz rfl (x:=.bool false) rfl ?_)
 show wpAny _ _ (field (.ref z) 3 >>= _) _ _ _
 refine wpAny_bind (wpAny_field hz rfl (x:=.ref TI) rfl (wpAny_bind (wpAny_seqItems hti rfl ?_)))
 show wpAny _ _ (Builtin.SmallTypes.ownedTupleIsFree (.ref z) >>= _) _ _ _
 refine wpAny_bind ?_
 unfold Builtin.SmallTypes.ownedTupleIsFree
 refine wpAny_bind (wpAny_field hz rfl (x:=.none) rfl (wpAny_pure ?_))
 simp only[if_true]
 refine wpAny_bind (wpAny_rule (wpAny_bind (wpAny_field hz rfl (x:=.ref TO) rfl (wpAny_bind (wpAny_setField_rec hz (by simp) λha hza sa=>?_)))))
 replace hza:IsZip ha z TI TO .ellipsis:=hza
 refine wpAny_bind ?_
 simp only[List.zipIdx_cons,List.zipIdx_nil,List.forIn_cons,List.forIn_nil]
 -- the first
 refine wpAny_bind (wpAny_bind (wpAny_onRaise ?_))
 show wpAny _ _ (Builtin.SmallTypes.nextOf (.ref i1) >>= _) _ _ _
 refine wpAny_bind (wpAny_nextOf_list_item (Z.j1.extBut sa.extBut nz1) (L1.extBut sa.extBut m11) hx λhb jb sb=>wpAny_pure ?_)
 have tb:YU hb TO #[a,b,c]:=sb.extBut _ _ nO1 (sa.extBut _ _ nzTO hto)
 refine wpAny_bind (wpAny_seqItems tb rfl (wpAny_bind (VC tb λhc tc sc=>wpAny_bind (wpAny_letGo (wpAny_pure ?_)))))
 replace tc:YU hc TO #[x,b,c]:=tc
 -- the second
 refine wpAny_bind (wpAny_bind (wpAny_onRaise ?_))
 show wpAny _ _ (Builtin.SmallTypes.nextOf (.ref i2) >>= _) _ _ _
 refine wpAny_bind (wpAny_nextOf_list_item (((Z.j2.extBut sa.extBut nz2).extBut sb.extBut n12.symm).extBut sc.extBut nO2.symm) (((L2.extBut sa.extBut m21).extBut sb.extBut m23).extBut sc.extBut m22) hy λhd jd sd=>wpAny_pure ?_)
 have td:YU hd TO #[x,b,c]:=sd.extBut _ _ nO2 tc
 refine wpAny_bind (wpAny_seqItems td rfl (wpAny_bind (VC td λhe te se=>wpAny_bind (wpAny_letGo (wpAny_pure ?_)))))
 replace te:YU he TO #[x,y,c]:=te
 -- the third
 refine wpAny_bind (wpAny_bind (wpAny_onRaise ?_))
 show wpAny _ _ (Builtin.SmallTypes.nextOf (.ref i3) >>= _) _ _ _
 refine wpAny_bind (wpAny_nextOf_list_item (((((Z.j3.extBut sa.extBut nz3).extBut sb.extBut n13.symm).extBut sc.extBut nO3.symm).extBut sd.extBut n23.symm).extBut se.extBut nO3.symm) (((((L3.extBut sa.extBut m31).extBut sb.extBut m33).extBut sc.extBut m32).extBut sd.extBut m34).extBut se.extBut m32) hv λhf jf sf=>wpAny_pure ?_)
 have tf:YU hf TO #[x,y,c]:=sf.extBut _ _ nO3 te
 refine wpAny_bind (wpAny_seqItems tf rfl (wpAny_bind (VC tf λhg tg sg=>wpAny_bind (wpAny_letGo (wpAny_pure (wpAny_pure ?_))))))
 replace tg:YU hg TO #[x,y,v]:=tg
 -- the tuple
 refine wpAny_bind (wpAny_seqItems tg rfl (wpAny_bind (wpAny_newTuple ?_)))
 have hsz:hg.objs.size=s.heap.objs.size:=by rw[sg.1,sf.1,se.1,sd.1,sc.1,sb.1,sa.1]
 have kp:∀ d o,d≠z->d≠TO->d≠i1->d≠i2->d≠i3->s.heap.get? d=some o->hg.get? d=some o:=λd o w1 w2 w3 w4 w5 e=>
  sg.extBut _ _ w2 (sf.extBut _ _ w5 (se.extBut _ _ w2 (sd.extBut _ _ w4 (sc.extBut _ _ w2 (sb.extBut _ _ w3 (sa.extBut _ _ w1 e))))))
 have zg:IsZip hg z TI TO .ellipsis:=sg.extBut _ _ nzTO.symm (sf.extBut _ _ nz3.symm (se.extBut _ _ nzTO.symm (sd.extBut _ _ nz2.symm (sc.extBut _ _ nzTO.symm (sb.extBut _ _ nz1.symm hza)))))
 have r1:hg.IsListIter i1 l1 (k+1):=((((jb.extBut sc.extBut nO1.symm).extBut sd.extBut n12).extBut se.extBut nO1.symm).extBut sf.extBut n13).extBut sg.extBut nO1.symm
 have r2:hg.IsListIter i2 l2 (k+1):=((jd.extBut se.extBut nO2.symm).extBut sf.extBut n23).extBut sg.extBut nO2.symm
 have r3:hg.IsListIter i3 l3 (k+1):=jf.extBut sg.extBut nO3.symm
 have zlt:z<hg.objs.size:=Heap.lt_size zg
 show wpAny _ _ (Builtin.SmallTypes.ownedTupleHandOut (.ref z) (.ref hg.objs.size) >>= _) _ _ _
 refine wpAny_bind ?_
 unfold Builtin.SmallTypes.ownedTupleHandOut
 have zp:IsZip (hg.push { cls:=.type "tuple",data:=.seq #[x,y,v] }) z TI TO .ellipsis:=Heap.get?_push_of_some _ zg
 refine wpAny_bind (wpAny_setField_rec zp (by simp) λhm zm sm=>?_)
 replace zm:IsZip hm z TI TO (rawInt hg.objs.size):=zm
 refine wpAny_setField_rec zm (by simp) λhn zn sn=>?_
 replace zn:IsZip hn z TI TO (rawInt hg.objs.size):=zn
 have up:∀ d o,d≠z->hg.get? d=some o->hn.get? d=some o:=λd o w1 e=>sn.extBut _ _ w1 (sm.extBut _ _ w1 (Heap.get?_push_of_some _ e))
 have tn:YU hn hg.objs.size #[x,y,v]:=sn.extBut _ _ (Nat.ne_of_gt zlt) (sm.extBut _ _ (Nat.ne_of_gt zlt) (Heap.get?_push_size _ rfl))
 have szn:hn.objs.size=hg.objs.size+1:=by rw[sn.1,sm.1,Heap.size_push]
 rw[hsz]at zn tn szn
 refine wpAny_pure ⟨_,rfl,?_⟩
 show Q (.ref hg.objs.size) _
 rw[hsz]
 exact hQ hn ⟨zn,up _ _ nzTI (kp TI _ nzTI nT nI1 nI2 nI3 hti),up _ _ nzTO tg,r1.at λo e=>up _ o nz1 e,r2.at λo e=>up _ o nz2 e,r3.at λo e=>up _ o nz3 e⟩ tn szn λd o w1 w2 w3 w4 w5 e=>up d o w1 (kp d o w1 w2 w3 w4 w5 e)
end
end PM
namespace PM
open PySem PySem.Spec PyProof.Rows L2
section
variable {prog:Program}{w:World}{A:Around}{E:Value->Shared->Prop}{s:Shared}{z TI TO i1 i2 i3 l1 l2 l3:Addr}{a b c x y v:Value}{k:Nat}{xs ys zs:Array Value}
theorem Qb {Q:Fin->Shared->Prop}(hh:A.handled=none)(Z:Zip3 s.heap z TI TO i1 i2 i3 l1 l2 l3 .none a b c k)(L1:s.heap.IsList l1 xs)(hx:xs[k]? = none)
  (hE:∀ h' e,(∀ d o,d≠z->d≠i1->s.heap.get? d=some o->h'.get? d=some o)->(∃ o,h'.get? e=some o/\o.cls=.type "StopIteration")->E (.ref e) { s with heap:=h' }) :
  wpAny (model prog w) A (Builtin.«zip.__next__» ⟨[.ref z],[]⟩) Q E s:=by
 obtain⟨hz,hti,hto,⟨o1,g1,c1,d1⟩,_,_⟩:=id Z
 obtain⟨ol1,q1,cl1,_⟩:=id L1
 have nz1:i1≠z:=ZM g1 hz c1 rfl
 have m11:l1≠z:=ZM q1 hz cl1 rfl
 show wpAny _ _ (field (.ref z) 2 >>= _) _ _ _
 refine wpAny_bind (wpAny_field hz rfl (x:=.bool false) rfl ?_)
 show wpAny _ _ (field (.ref z) 3 >>= _) _ _ _
 refine wpAny_bind (wpAny_field hz rfl (x:=.ref TI) rfl (wpAny_bind (wpAny_seqItems hti rfl ?_)))
 show wpAny _ _ (Builtin.SmallTypes.ownedTupleIsFree (.ref z) >>= _) _ _ _
 refine wpAny_bind ?_
 unfold Builtin.SmallTypes.ownedTupleIsFree
 refine wpAny_bind (wpAny_field hz rfl (x:=.none) rfl (wpAny_pure ?_))
 simp only[if_true]
 refine wpAny_bind (wpAny_rule (wpAny_bind (wpAny_field hz rfl (x:=.ref TO) rfl (wpAny_bind (wpAny_setField_rec hz (by simp) λha hza sa=>?_)))))
 replace hza:IsZip ha z TI TO .ellipsis:=hza
 refine wpAny_bind ?_
 simp only[List.zipIdx_cons,List.zipIdx_nil,List.forIn_cons,List.forIn_nil]
 refine wpAny_bind (wpAny_bind (wpAny_onRaise ?_))
 show wpAny _ _ (Builtin.SmallTypes.nextOf (.ref i1) >>= _) _ _ _
 refine wpAny_bind (wpAny_nextOf_list_end hh (Z.j1.extBut sa.extBut nz1) (L1.extBut sa.extBut m11) hx λhb e sb he=>?_)
 obtain⟨oe,hoe,hce⟩:=he
 have zb:IsZip hb z TI TO .ellipsis:=sb _ _ nz1.symm hza
 have nez:e≠z:=ZM hoe zb hce rfl
 exact wpAny_setField_rec zb (by simp) λhc _ sc=>hE hc e (λd o w1 w2 q=>sc.extBut _ _ w1 (sb _ _ w2 (sa.extBut _ _ w1 q))) ⟨oe,sc.extBut _ _ nez hoe,hce⟩
theorem qp {Q:Option Value->Shared->Prop}(Z:Zip3 s.heap z TI TO i1 i2 i3 l1 l2 l3 .none a b c k)(nT:TI≠TO)(n12:i1≠i2)(n13:i1≠i3)(n23:i2≠i3)
  (L1:s.heap.IsList l1 xs)(L2:s.heap.IsList l2 ys)(L3:s.heap.IsList l3 zs)(hx:xs[k]? = some x)(hy:ys[k]? = some y)(hv:zs[k]? = some v)
  (hQ:∀ h',Zip3 h' z TI TO i1 i2 i3 l1 l2 l3 (rawInt s.heap.objs.size) x y v (k+1)->YU h' s.heap.objs.size #[x,y,v]->h'.objs.size=s.heap.objs.size+1 ->
   (∀ d o,d≠z->d≠TO->d≠i1->d≠i2->d≠i3->s.heap.get? d=some o->h'.get? d=some o)->Q (some (.ref s.heap.objs.size)) { s with heap:=h' }) :
  wpAny (model prog w) A (pyNext (.ref z)) Q E s:=by
 have hT:s.TypeIs (.ref z) "zip":=⟨_,Z.z,rfl⟩
 unfold pyNext
 exact wpAny_bind (wpAny_attempt (wpAny_callSpecial?_slot (name:=Str.ofString "__next__") hT PySem.F.slot_zip_next (wpAny_call_entry PySem.F.slot_zip_next hT PySem.F.entry_zip_next (qH Z nT n12 n13 n23 L1 L2 L3 hx hy hv λh' a1 a2 a3 a4=>wpAny_pure (hQ h' a1 a2 a3 a4)) (PySem.F.args_zip_next_1 _))))
theorem qS {Q:Option Value->Shared->Prop}(hh:A.handled=none)(Z:Zip3 s.heap z TI TO i1 i2 i3 l1 l2 l3 .none a b c k)(L1:s.heap.IsList l1 xs)(hx:xs[k]? = none)
  (hQ:∀ h',(∀ d o,d≠z->d≠i1->s.heap.get? d=some o->h'.get? d=some o)->Q none { s with heap:=h' }):wpAny (model prog w) A (pyNext (.ref z)) Q E s:=by
 have hT:s.TypeIs (.ref z) "zip":=⟨_,Z.z,rfl⟩
 unfold pyNext
 refine wpAny_bind (wpAny_attempt (wpAny_callSpecial?_slot (name:=Str.ofString "__next__") hT PySem.F.slot_zip_next (wpAny_call_entry PySem.F.slot_zip_next hT PySem.F.entry_zip_next (Qb hh Z L1 hx λh' e hk he=>?_) (PySem.F.args_zip_next_1 _))))
 obtain⟨o,ho,hc⟩:=he
 exact wpAny_bind (wpAny_isInstance (T:="StopIteration") (b:=true) ⟨o,ho,hc⟩ isSubtype_stop (wpAny_pure (hQ _ hk)))
noncomputable abbrev z3a (h:Heap)(l1:Addr):Heap:=h.push { cls:=.type "list_iterator",data:=.fields #[.ref l1,.int 0 0] }
noncomputable abbrev z3b (h:Heap)(l1 l2:Addr):Heap:=(z3a h l1).push { cls:=.type "list_iterator",data:=.fields #[.ref l2,.int 0 0] }
noncomputable abbrev z3c (h:Heap)(l1 l2 l3:Addr):Heap:=(z3b h l1 l2).push { cls:=.type "list_iterator",data:=.fields #[.ref l3,.int 0 0] }
noncomputable abbrev z3d (h:Heap)(l1 l2 l3:Addr):Heap:=(z3c h l1 l2 l3).push { cls:=.type "tuple",data:=.seq #[.ref h.objs.size,.ref (z3a h l1).objs.size,.ref (z3b h l1 l2).objs.size] }
noncomputable abbrev z3e (h:Heap)(l1 l2 l3:Addr):Heap:=(z3d h l1 l2 l3).push { cls:=.type "tuple",data:=.seq #[.none,.none,.none] }
noncomputable abbrev z3f (h:Heap)(l1 l2 l3:Addr):Heap:=(z3e h l1 l2 l3).push { cls:=.type "zip",data:=.fields #[.none,.bool false,.bool false,.ref (z3c h l1 l2 l3).objs.size,.ref (z3d h l1 l2 l3).objs.size] }
set_option maxHeartbeats 2000000 in
theorem UF (l1 l2 l3:Addr)(xs ys zs:Array Value):Meets (Builtin.«zip.__new__» ⟨[.type "zip",.ref l1,.ref l2,.ref l3],[]⟩) (λ_ R s=>s.heap.IsList l1 xs/\s.heap.IsList l2 ys/\s.heap.IsList l3 zs ∧
   R (.ok (.ret (.ref (z3e s.heap l1 l2 l3).objs.size))) { s with heap:=z3f s.heap l1 l2 l3 }):=
 .of_wp λprog w A R s h=>by
  obtain⟨hp,g,d,tk,os⟩:=s
  obtain⟨e1,e2,e3,h⟩:=h
  have hsub:=sub_zip
  have hA:Heap.IsList (Shared.heap ⟨hp,g,d,tk,os⟩) l1 xs:=e1
  have hB:Heap.IsList (Shared.heap ⟨hp.push { cls:=.type "list_iterator",data:=.fields #[.ref l1,.int 0 0] },g,d,tk,os⟩) l2 ys:=Heap.IsList.push e2 _
  have hC:Heap.IsList (Shared.heap ⟨(hp.push { cls:=.type "list_iterator",data:=.fields #[.ref l1,.int 0 0] }).push { cls:=.type "list_iterator",data:=.fields #[.ref l2,.int 0 0] },g,d,tk,os⟩) l3 zs:=Heap.IsList.push (Heap.IsList.push e3 _) _
  wp_walk using wpAny_pyIter_list hA,wpAny_pyIter_list hB,wpAny_pyIter_list hC
  exact⟨_,rfl,h⟩
end
end PM
namespace PM
open PySem PySem.Spec PyProof.Rows L2
theorem vF (a b c:Value):checkTypeCall "zip" ⟨[a,b,c],[]⟩=pure ():=by kernel_rfl
theorem VP (a b c:Value):checkBuiltinCall "zip.__new__" ⟨[.type "zip",a,b,c],[]⟩=pure ():=by kernel_rfl
theorem US (a b c d:Value):argsOk "object.__init__" ⟨[a,b,c,d],[]⟩:=by
 unfold argsOk;rw[PySem.signature?_of (id:="object.__init__") (n:=['_','_','t','i','n','i','_','_']) (o:=['t','c','e','j','b','o']) (by kernel_rfl) PySem.F.owner_object];kernel_rfl
section
variable {prog:Program}{w:World}{A:Around}{E:Value->Shared->Prop}{s:Shared}{l1 l2 l3:Addr}{xs ys zs:Array Value}
theorem QU {Q:Value->Shared->Prop}(L1:s.heap.IsList l1 xs)(L2:s.heap.IsList l2 ys)(L3:s.heap.IsList l3 zs)
  (h:∀ h',Zip3 h' (s.heap.objs.size+5) (s.heap.objs.size+3) (s.heap.objs.size+4) s.heap.objs.size (s.heap.objs.size+1) (s.heap.objs.size+2) l1 l2 l3 .none .none .none .none 0->h'.objs.size=s.heap.objs.size+6 ->
   (∀ d o,s.heap.get? d=some o->h'.get? d=some o)->Q (.ref (s.heap.objs.size+5)) { s with heap:=h' }):wpAny (model prog w) A (call (.type "zip") [.ref l1,.ref l2,.ref l3]) Q E s:=by
 refine callType_new PySem.F.called_zip (by decide) (vF _ _ _) (VP _ _ _) (λobj=>US obj _ _ _) PySem.F.entry_zip_new (UF l1 l2 l3 xs ys zs) ⟨L1,L2,L3,?_⟩
 have za:(z3a s.heap l1).objs.size=s.heap.objs.size+1:=Heap.size_push ..
 have zb:(z3b s.heap l1 l2).objs.size=s.heap.objs.size+2:=by rw[Heap.size_push,za]
 have zc:(z3c s.heap l1 l2 l3).objs.size=s.heap.objs.size+3:=by rw[Heap.size_push,zb]
 have zd:(z3d s.heap l1 l2 l3).objs.size=s.heap.objs.size+4:=by rw[Heap.size_push,zc]
 have ze:(z3e s.heap l1 l2 l3).objs.size=s.heap.objs.size+5:=by rw[Heap.size_push,zd]
 have zf:(z3f s.heap l1 l2 l3).objs.size=s.heap.objs.size+6:=by rw[Heap.size_push,ze]
 have up:∀ {h:Heap}{o:Obj}{d:Addr}{u:Obj},h.get? d=some u->(h.push o).get? d=some u:=λq=>Heap.get?_push_of_some _ q
 have g6:(z3f s.heap l1 l2 l3).get? (z3e s.heap l1 l2 l3).objs.size=some _:=Heap.get?_push_size _ rfl
 have g5:(z3f s.heap l1 l2 l3).get? (z3d s.heap l1 l2 l3).objs.size=some _:=up (Heap.get?_push_size _ rfl)
 have g4:(z3f s.heap l1 l2 l3).get? (z3c s.heap l1 l2 l3).objs.size=some _:=up (up (Heap.get?_push_size _ rfl))
 have g3:(z3f s.heap l1 l2 l3).get? (z3b s.heap l1 l2).objs.size=some _:=up (up (up (Heap.get?_push_size _ rfl)))
 have g2:(z3f s.heap l1 l2 l3).get? (z3a s.heap l1).objs.size=some _:=up (up (up (up (Heap.get?_push_size _ rfl))))
 have g1:(z3f s.heap l1 l2 l3).get? s.heap.objs.size=some _:=up (up (up (up (up (Heap.get?_push_size _ rfl)))))
 show _/\_
 rw[zc,zd,ze]at g6
 rw[zd]at g5
 rw[za,zb,zc]at g4
 rw[zb]at g3
 rw[za]at g2
 rw[ze]
 exact⟨⟨_,g6,rfl⟩,h _ ⟨g6,g4,g5,⟨_,g1,rfl,rfl⟩,⟨_,g2,rfl,rfl⟩,⟨_,g3,rfl,rfl⟩⟩ zf λd o q=>up (up (up (up (up (up q)))))⟩
end
end PM
namespace PM
open PySem PySem.Spec PyProof.Rows L2
noncomputable def Itz (K:PySem.W.Frag)(a b c:Addr):It:=
 ⟨λi H=>∃ xs ys zs x y z,SqL K H a xs/\SqL K H b ys/\SqL K H c zs/\xs[i]? = some x/\ys[i]? = some y/\zs[i]? = some z,
  λi H x H'=>∃ p x1 x2 x3,x=.ref p/\H p=none/\H'=upd H p (.tup [x1,x2,x3])/\(∀ xs,SqL K H a xs->xs[i]? = some x1)/\(∀ xs,SqL K H b xs->xs[i]? = some x2)/\∀ xs,SqL K H c xs->xs[i]? = some x3,
  λi H=>∃ xs,SqL K H a xs/\xs.length<=i⟩
theorem qL {P:Program}{w:World}{K:PySem.W.Frag}{elts:List Expr} {x1}{pos:Pos}(a b c z TI TO i1 i2 i3:Addr)(nT:TI≠TO)(n12:i1≠i2)(n13:i1≠i3)(n23:i2≠i3) :
  Turn P w K (.Tuple elts x1 pos) (Itz K a b c) [z,TI,TO,i1,i2,i3] z (λi h=>∃ u v y,Zip3 h z TI TO i1 i2 i3 a b c .none u v y i) where
 mem:=by simp
 obj:=λi h st d hd=>by
  obtain⟨u,v,y,Z⟩:=st
  obtain⟨hz,hti,hto,⟨o1,g1,c1,d1⟩,⟨o2,g2,c2,d2⟩,⟨o3,g3,c3,d3⟩⟩:=Z
  simp only[List.mem_cons,List.not_mem_nil,or_false]at hd
  rcases hd with rfl | rfl | rfl | rfl | rfl | rfl
  ·exact⟨_,hz,λv q=>by have q':Data.fields _=Data.cell v:=q;cases q'⟩
  ·exact⟨_,hti,λv q=>by have q':Data.seq _ _=Data.cell v:=q;cases q'⟩
  ·exact⟨_,hto,λv q=>by have q':Data.seq _ _=Data.cell v:=q;cases q'⟩
  ·exact⟨o1,g1,λv q=>by rw[d1]at q;cases q⟩
  ·exact⟨o2,g2,λv q=>by rw[d2]at q;cases q⟩
  ·exact⟨o3,g3,λv q=>by rw[d3]at q;cases q⟩
 keep:=λi h h' st k=>by
  obtain⟨u,v,y,Z⟩:=st
  exact⟨u,v,y,k z (by simp) _ Z.z,k TI (by simp) _ Z.ti,k TO (by simp) _ Z.to,Z.j1.at λo q=>k i1 (by simp) o q,Z.j2.at λo q=>k i2 (by simp) o q,Z.j3.at λo q=>k i3 (by simp) o q⟩
 item:=by
  intro X hP hw hK hc i pins s σ H E I hf st hg
  subst hP hw hK
  obtain⟨xs,ys,zs,x,y,v,hq1,hq2,hq3,hx,hy,hv⟩:=hg
  obtain⟨its1,rv1,p1,hz1⟩:=I.list hq1
  obtain⟨its2,rv2,p2,hz2⟩:=I.list hq2
  obtain⟨its3,rv3,p3,hz3⟩:=I.list hq3
  obtain⟨u1,hu1,ru1⟩:=rv1.get hx
  obtain⟨u2,hu2,ru2⟩:=rv2.get hy
  obtain⟨u3,hu3,ru3⟩:=rv3.get hv
  obtain⟨q1,q2,q3,Z⟩:=st
  refine qp Z nT n12 n13 n23 p1.isList p2.isList p3.isList (x:=u1) (y:=u2) (v:=u3) (by simpa using hu1) (by simpa using hu2) (by simpa using hu3) λh' Z' hT hsz hk=>?_
  refine⟨_,rfl,wpAny_letOwnedTupleGo_zip Z'.z λh2 z2 sb=>?_⟩
  have lt:∀ d ∈ [z,TI,TO,i1,i2,i3],d<s.heap.objs.size:=λd hd=>by
   obtain⟨hz,hti,hto,⟨o1,g1,c1,d1⟩,⟨o2,g2,c2,d2⟩,⟨o3,g3,c3,d3⟩⟩:=Z
   simp only[List.mem_cons,List.not_mem_nil,or_false]at hd
   rcases hd with rfl | rfl | rfl | rfl | rfl | rfl<;>first | exact Heap.lt_size hz | exact Heap.lt_size hti | exact Heap.lt_size hto | exact Heap.lt_size g1 | exact Heap.lt_size g2 | exact Heap.lt_size g3
  have kk:∀ d o,d ∉ [z,TI,TO,i1,i2,i3]->s.heap.get? d=some o->h2.get? d=some o:=λd o hd q=>by
   simp only[List.mem_cons,List.not_mem_nil,or_false,not_or]at hd
   exact (sb.2 d hd.1).trans (hk d o hd.1 hd.2.2.1 hd.2.2.2.1 hd.2.2.2.2.1 hd.2.2.2.2.2 q)
  have nz:s.heap.objs.size≠z:=Nat.ne_of_gt (lt z (by simp))
  have hT2:h2.get? s.heap.objs.size=some { cls:=.type "tuple",data:=.seq #[u1,u2,u3] }:=(sb.2 _ nz).trans hT
  have I1:Inv X pins σ (upd H s.heap.objs.size (.tup [x,y,v])) { s with heap:=h2,toks:=s.toks }:=
   wb I hf kk (Nat.le_refl _) ⟨by show 3<=sizeLine;decide,[u1,u2,u3],.cons ru1 (.cons ru2 (.cons ru3 .nil)),⟨_,hT2,rfl,⟨0,rfl⟩,rfl⟩⟩
  have hfree:=I.hok.fresh (Nat.le_refl s.heap.objs.size)
  have ne1:i1≠z:=by obtain⟨o,g,c,_⟩:=Z.j1;exact ZM g Z.z c rfl
  have ne2:i2≠z:=by obtain⟨o,g,c,_⟩:=Z.j2;exact ZM g Z.z c rfl
  have ne3:i3≠z:=by obtain⟨o,g,c,_⟩:=Z.j3;exact ZM g Z.z c rfl
  refine⟨.ref s.heap.objs.size,_,I1,rfl,⟨s.heap.objs.size,x,y,v,rfl,hfree,rfl,λl hl=>by rw[I.list_inj hl hq1];exact hx,λl hl=>by rw[I.list_inj hl hq2];exact hy,λl hl=>by rw[I.list_inj hl hq3];exact hv⟩,
   ⟨u1,u2,u3,z2,(sb.2 _ (ZM Z.ti Z.z rfl rfl)).trans Z'.ti,(sb.2 _ (ZM Z.to Z.z rfl rfl)).trans Z'.to,Z'.j1.at λo q=>(sb.2 _ ne1).trans q,Z'.j2.at λo q=>(sb.2 _ ne2).trans q,Z'.j3.at λo q=>(sb.2 _ ne3).trans q⟩,λd hd=>?_⟩
  rw[upd_ne (Nat.ne_of_lt (lt d hd))]
  exact (hf d hd).1
 done:=by
  intro X hP hw hK hc i pins s σ H E I hf st hg
  subst hP hw hK
  obtain⟨xs,hq,hx⟩:=hg
  obtain⟨its,rv,p,hz⟩:=I.list hq
  obtain⟨q1,q2,q3,Z⟩:=st
  have hl:=rv.length
  exact qS (I.ok.hd hc) Z p.isList (by simp;omega) λh' eb=>⟨rfl,vk (t':=s.toks) I hf λd o hd q=>by
   simp only[List.mem_cons,List.not_mem_nil,or_false,not_or]at hd
   exact eb d o hd.1 hd.2.2.2.1 q⟩
 self:=λ_ _ _ _ _ st h=>by
  obtain⟨q1,q2,q3,Z⟩:=st
  exact wpAny_pyIter_zip Z.z h
end PM
namespace PM
open PySem PySem.Spec PyProof.Rows L2
theorem Ui:∀ (a b c:List D),b.length=a.length->c.length=a.length->(tri a b c).length=a.length
 |[],_,_,_,_=>by unfold tri;rfl
 |x::a,[],_,h,_=>by cases h
 |x::a,y::b,[],_,h=>by cases h
 |x::a,y::b,z::c,h1,h2=>by rw[tri,List.length_cons,List.length_cons,Ui a b c (by simpa using h1) (by simpa using h2)]
theorem Uj:∀ (a b c:List D) (i:Nat)(d:D),(tri a b c)[i]? = some d->∃ x y z,a[i]? = some x/\b[i]? = some y/\c[i]? = some z/\d=.tup [x,y,z]
 |[],_,_,i,d,h=>by simp[tri]at h
 |x::a,[],_,i,d,h=>by simp[tri]at h
 |x::a,y::b,[],i,d,h=>by simp[tri]at h
 |x::a,y::b,z::c,0,d,h=>by
  simp[tri]at h
  exact⟨x,y,z,rfl,rfl,rfl,h.symm⟩
 |x::a,y::b,z::c,i+1,d,h=>by
  rw[tri,List.getElem?_cons_succ]at h
  obtain⟨x',y',z',h1,h2,h3,h4⟩:=Uj a b c i d h
  exact⟨x',y',z',by simpa using h1,by simpa using h2,by simpa using h3,h4⟩
theorem K5 {K:PySem.W.Frag}{G:Hp}{a b c:Addr}{da db dc:List D}{va vb vc:List V}(qa:SqL K G a va)(qb:SqL K G b vb)(qc:SqL K G c vc)(ra:zF K G da va)(rb:zF K G db vb)(rc:zF K G dc vc)(h1:db.length=da.length)(h2:dc.length=da.length):ItOk K (Itz K a b c) G (tri da db dc):=by
 refine⟨λG' H' i d sg sh hd=>?_,λG' H' sg sh=>⟨va,sh.seq (sg.seq qa),by rw[Ui _ _ _ h1 h2,ra.len];exact Nat.le_refl _⟩⟩
 obtain⟨x,y,z,e1,e2,e3,rfl⟩:=Uj _ _ _ _ _ hd
 obtain⟨v1,g1,r1⟩:=ra.get e1
 obtain⟨v2,g2,r2⟩:=rb.get e2
 obtain⟨v3,g3,r3⟩:=rc.get e3
 have q1:SqL K H' a va:=sh.seq (sg.seq qa)
 have q2:SqL K H' b vb:=sh.seq (sg.seq qb)
 have q3:SqL K H' c vc:=sh.seq (sg.seq qc)
 refine⟨⟨va,vb,vc,v1,v2,v3,q1,q2,q3,g1,g2,g3⟩,λu H'' ⟨p,x1,x2,x3,eu,hp,eh,f1,f2,f3⟩=>?_⟩
 subst eu eh
 have f1:=f1 _ q1
 have f2:=f2 _ q2
 have f3:=f3 _ q3
 rw[g1]at f1
 rw[g2]at f2
 rw[g3]at f3
 cases f1
 cases f2
 cases f3
 have ex:=Ext.new (o:=.tup [v1,v2,v3]) sh hp
 have ss:=sg.trans ex.g
 exact⟨_,ex,Same.upd hp,zh.mpr ⟨p,_,rfl,upd_same,zF.cons (r1.mono ss) (zF.cons (r2.mono ss) (zF.cons (r3.mono ss) zF.nil))⟩⟩
section
variable {X:Cx}{E:XK}
noncomputable def zAp (K:PySem.W.Frag)(ta:TA):TI:=λσ H R=>ta σ H λvs H1=>∃ a b c,vs=[.ref a,.ref b,.ref c]/\(∃ xs,SqL K H1 a xs)/\(∃ xs,SqL K H1 b xs)/\(∃ xs,SqL K H1 c xs)/\R (Itz K a b c) H1
theorem Jl {l1 l2 l3:Expr}{ta:TA}{elts:List Expr} {x1}{tp p pos:Pos}(hg:Gl X "zip")(hm:X.mg "zip" = none)(ha:PA X [l1,l2,l3] ta)(hs:starEach [l1,l2,l3] X.env=(false,eval l1 X.env)::starEach [l2,l3] X.env)(hpl:(backTo pos (starEach [l2,l3] X.env)).any (·.1)=false) :
  PI X (.Tuple elts x1 tp) (.Call (.Name "zip" p) [l1,l2,l3] [] pos) (zAp X.K ta):=by
 intro pins s σ H R I h
 refine Call_ (ld_blt I hg hm boot_zip (PyProof.Rows.callWith_type1 (thn (ha pos pins s σ H _ I h) λus s1 ⟨vs,H1,I1,r1,q1⟩=>?_) hs hpl))
 obtain⟨a,b,c,e,⟨xs,hqa⟩,⟨ys,hqb⟩,⟨zs,hqc⟩,q⟩:=q1
 subst e
 have:us=[.ref a,.ref b,.ref c]:=by
  cases r1 with
  |cons t1 r1=>
   cases r1 with
   |cons t2 r1=>
    cases r1 with
    |cons t3 r1=>
     cases r1
     cases t1
     cases t2
     cases t3
     rfl
 subst this
 obtain⟨its1,rv1,p1,_⟩:=I1.list hqa
 obtain⟨its2,rv2,p2,_⟩:=I1.list hqb
 obtain⟨its3,rv3,p3,_⟩:=I1.list hqc
 refine QU p1.isList p2.isList p3.isList λh' Z hsz hk=>?_
 have k1:s1.heap.objs.size+3≠s1.heap.objs.size+4:=by omega
 have k2:s1.heap.objs.size≠s1.heap.objs.size+1:=by omega
 have k3:s1.heap.objs.size≠s1.heap.objs.size+2:=by omega
 have k4:s1.heap.objs.size+1≠s1.heap.objs.size+2:=by omega
 refine wpAny_pyIter_zip Z.z ?_
 refine⟨s1.heap.objs.size+5,[s1.heap.objs.size+5,s1.heap.objs.size+3,s1.heap.objs.size+4,s1.heap.objs.size,s1.heap.objs.size+1,s1.heap.objs.size+2],_,_,H1,rfl,I1.kept (t':=s1.toks) hk,qL a b c (s1.heap.objs.size+5) (s1.heap.objs.size+3) (s1.heap.objs.size+4) s1.heap.objs.size (s1.heap.objs.size+1) (s1.heap.objs.size+2) k1 k2 k3 k4,⟨_,_,_,Z⟩,λd hd=>?_,q⟩
 have hb2:s1.heap.objs.size<=d:=by
  simp only[List.mem_cons,List.not_mem_nil,or_false]at hd
  rcases hd with rfl | rfl | rfl | rfl | rfl | rfl<;>omega
 exact I1.fpOk hb2 (I1.hok.fresh hb2)
theorem kB {e1 e2 e3:Expr}{ms:List (M D)}{elts:List Expr} {x1}{tp p q:Pos}(hr:X.mg "zip" = none)(h:MA X E [e1,e2,e3] ms)(hgl:Gl X "zip":=by rfl)(hst:autoParam (starEach [e1,e2,e3] X.env=(false,eval e1 X.env)::starEach [e2,e3] X.env) aR._auto_1)(hpl:autoParam ((backTo q (starEach [e2,e3] X.env)).any (·.1)=false) aR._auto_1) :
  MI X E (.Tuple elts x1 tp) (.Call (.Name "zip" p) [e1,e2,e3] [] q) (Vq ms):=by
 obtain⟨ta,pa,ra⟩:=h
 refine⟨_,Jl hgl hr pa hst hpl,?_⟩
 intro G0 H0 ρ σ G H R ho hR
 unfold Vq at hR
 refine ra G0 H0 ρ σ G H ho _ ?_
 cases qa:zk ms ρ with
 |bad=>rw[qa]at hR;exact hR
 |exn c ρ1=>rw[qa]at hR;exact hR
 |ok ds ρ1=>
  rw[qa]at hR
  simp only[Res.bnd_ok]at hR
  intro vs G1 H1 s1 h1 r1
  cases qz:Qc ds with
  |none=>rw[qz]at hR;exact hR.elim
  |some out=>
   rw[qz]at hR
   unfold Qc at qz
   split at qz
   ·rename_i a b c
    split at qz
    ·rename_i hl
     cases qz
     obtain⟨va,r,rfl,ra1,r1⟩:=r1.cons_inv
     obtain⟨vb,r,rfl,rb1,r1⟩:=r1.cons_inv
     obtain⟨vc,r,rfl,rc1,r1⟩:=r1.cons_inv
     rw[r1.nil_inv]
     obtain⟨pa,xs,rfl,qa1,la⟩:=zQ.mp ra1
     obtain⟨pb,ys,rfl,qb1,lb⟩:=zQ.mp rb1
     obtain⟨pc,zs,rfl,qc1,lc⟩:=zQ.mp rc1
     exact⟨pa,pb,pc,rfl,⟨xs,h1.e.s.seq qa1⟩,⟨ys,h1.e.s.seq qb1⟩,⟨zs,h1.e.s.seq qc1⟩,hR _ G1 H1 s1 h1 (K5 qa1 qb1 qc1 la lb lc hl.1 hl.2)⟩
    ·cases qz
   ·cases qz
end
end PM
namespace PM
open PySem
inductive Res.wp {α:Type}:Res α->(α->Rho->Prop)->(Addr->Prop)->Prop where
 |ok {a:α}{ρ:Rho}{Q:α->Rho->Prop}{X:Addr->Prop}(h:Q a ρ):Res.wp (.ok a ρ) Q X
 |exn {c:Addr}{ρ:Rho}{Q:α->Rho->Prop}{X:Addr->Prop}(h:X c):Res.wp (.exn c ρ) Q X
section
variable {α β:Type}{Q:α->Rho->Prop}{R:β->Rho->Prop}{X:Addr->Prop}
theorem WF (a:α)(ρ:Rho):(Res.ok a ρ).wp Q X=Q a ρ:=propext ⟨λh=>by cases h;assumption,.ok⟩
theorem ug (c:Addr)(ρ:Rho):(Res.exn c ρ:Res α).wp Q X=X c:=propext ⟨λh=>by cases h;assumption,.exn⟩
theorem Qe:(Res.bad:Res α).wp Q X=False:=propext ⟨λh=>(by cases h),False.elim⟩
theorem v9 (r:Res α)(k:α->Rho->Res β):(r.bnd k).wp R X=r.wp (λa ρ=>(k a ρ).wp R X) X:=by
 cases r<;>simp only[Res.bnd,WF,ug,Qe]
theorem KO (c:Prop) [Decidable c] (a b:Res α):(if c then a else b).wp Q X=if c then a.wp Q X else b.wp Q X:=by split<;>rfl
theorem Res.wp.mono {r:Res α}{Q':α->Rho->Prop}{X':Addr->Prop}(h:r.wp Q X)(hq:∀ a ρ,Q a ρ->Q' a ρ)(hx:∀ c,X c->X' c):r.wp Q' X':=by
 cases h with
 |ok h=>exact .ok (hq _ _ h)
 |exn h=>exact .exn (hx _ h)
theorem zZ {r:Res α}{a:α}{ρ:Rho}(e:r=.ok a ρ)(h:Q a ρ):r.wp Q X:=by rw[e];exact .ok h
theorem V8 {r:Res α}{a:α}{ρ:Rho}(h:r.wp (λa' ρ'=>a'=a/\ρ'=ρ) (λ_=>False)):r=.ok a ρ:=by
 cases h with
 |ok h=>obtain⟨rfl,rfl⟩:=h;rfl
 |exn h=>exact h.elim
end
inductive FR.wp:FR->(D->Prop)->(Addr->Prop)->Prop where
 |ok {d:D}{Q:D->Prop}{X:Addr->Prop}(h:Q d):FR.wp (.ok d) Q X
 |exn {c:Addr}{Q:D->Prop}{X:Addr->Prop}(h:X c):FR.wp (.exn c) Q X
theorem FR.ok_of {r:FR}{d:D}(h:r.wp (λx=>x=d) λ_=>False):r=.ok d:=by
 cases h with
 |ok h=>exact congrArg _ h
 |exn h=>exact h.elim
theorem FR.exn_of {r:FR}{c:Addr}(h:r.wp (λ_=>False) λx=>x=c):r=.exn c:=by
 cases h with
 |ok h=>exact h.elim
 |exn h=>exact congrArg _ h
noncomputable def Fl.fin (Q:D->Prop):Fl->Rho->Prop
 |.nx,_=>Q .non
 |.ret d,_=>Q d
 |_,_=>False
theorem YY {n:Nat}{b:M Fl}{args:List D}{Q:D->Prop}{X:Addr->Prop}(h:(b (Zm n args)).wp (Fl.fin Q) X):(Z4 n b args).wp Q X:=by
 unfold Z4
 generalize b (Zm n args)=r at h
 cases h with
 |@ok f ρ _ _ h=>
  cases f with
  |nx=>exact .ok h
  |ret d=>exact .ok h
  |brk=>exact h.elim
  |cont=>exact h.elim
 |exn h=>exact .exn h
theorem yO {n:Nat}{b:M Fl}{args:List D}{d:D}(h:(b (Zm n args)).wp (Fl.fin (· = d)) λ_=>False):Z4 n b args=.ok d:=FR.ok_of (YY h)
theorem to_ok (d:D)(ρ:Rho):(FR.ok d).to ρ=.ok d ρ:=rfl
theorem to_exn (d:Addr)(ρ:Rho):(FR.exn d).to ρ=.exn d ρ:=rfl
section
variable {g:GM}{b:M Fl}{Q:Fl->Rho->Prop}{X:Addr->Prop}
noncomputable def xk (J:Rho->Prop)(Q:Fl->Rho->Prop):Fl->Rho->Prop
 |.nx,ρ=>J ρ
 |.cont,ρ=>J ρ
 |.brk,ρ=>Q .nx ρ
 |.ret d,ρ=>Q (.ret d) ρ
theorem Ug {J:Rho->Prop}{go:M Fl}{r:Res Fl}(h:r.wp (xk J Q) X)(hj:∀ ρ,J ρ->(go ρ).wp Q X):(r.bnd λf ρ=>Ym f ρ go).wp Q X:=by
 rw[v9]
 refine h.mono (λf ρ q=>?_) λ_ q=>q
 cases f with
 |nx=>exact hj ρ q
 |cont=>exact hj ρ q
 |brk=>exact .ok q
 |ret d=>exact .ok q
theorem Uh {ds:List D}{ρ:Rho}(J:Nat->Rho->Prop)(h0:J 0 ρ)(hs:∀ (i:Nat)(d:D)(ρ:Rho),ds[i]? = some d->J i ρ->∃ ρ1,g d ρ=some ρ1/\(b ρ1).wp (xk (J (i+1)) Q) X)
  (he:∀ ρ,J ds.length ρ->Q .nx ρ):(zj g b ds ρ).wp Q X:=by
 induction ds generalizing ρ J with
 |nil=>exact .ok (he ρ h0)
 |cons d ds ih=>
  unfold zj
  obtain⟨ρ1,e,w⟩:=hs 0 d ρ rfl h0
  rw[v9,e]
  rw[show zO (some ρ1) ρ=.ok ρ1 ρ from rfl,WF]
  exact Ug w λρ2 j=>ih (λi=>J (i+1)) j (λi d ρ hd hj=>hs (i+1) d ρ (by simpa using hd) hj) λρ hj=>he ρ (by simpa using hj)
theorem YX {α:Type}{f:α->D}{xs:List α}{ρ:Rho}(J:Nat->Rho->Prop)(h0:J 0 ρ)(hs:∀ (i:Nat)(x:α)(ρ:Rho),xs[i]? = some x->J i ρ->∃ ρ1,g (f x) ρ=some ρ1/\(b ρ1).wp (xk (J (i+1)) Q) X)
  (he:∀ ρ,J xs.length ρ->Q .nx ρ):(zj g b (xs.map f) ρ).wp Q X:=by
 refine Uh J h0 (λi d ρ hd hj=>?_) λρ hj=>he ρ (by simpa using hj)
 rw[List.getElem?_map]at hd
 cases q:xs[i]? with
 |none=>rw[q]at hd;cases hd
 |some x=>rw[q]at hd;cases hd;exact hs i x ρ q hj
theorem y6 {n:Nat}{ρ:Rho}(J:Nat->Rho->Prop)(h0:J 0 ρ)(hs:∀ (i:Nat)(ρ:Rho),i<n->J i ρ->∃ ρ1,g (.int i) ρ=some ρ1/\(b ρ1).wp (xk (J (i+1)) Q) X)
  (he:∀ ρ,J n ρ->Q .nx ρ):(zj g b (yw n) ρ).wp Q X:=by
 unfold yw
 refine YX J h0 (λi x ρ hx hj=>?_) λρ hj=>he ρ (by simpa using hj)
 have hi:i<n:=by simpa using (List.getElem?_eq_some_iff.mp hx).1
 have:x=i:=by rw[List.getElem?_range hi]at hx;exact (Option.some.inj hx).symm
 subst this
 exact hs _ ρ hi hj
theorem Vr {c:M Bool}{n:Nat}{ρ:Rho}(J:Nat->Rho->Prop) (k:Nat)(hk:k<n)(h0:J k ρ)
  (hs:∀ (i:Nat)(ρ:Rho),J i ρ->(c ρ).wp (λt ρ1=>if t=true then (b ρ1).wp (xk (λρ2=>∃ j,j<i/\J j ρ2) Q) X else Q .nx ρ1) X):(yo c b n ρ).wp Q X:=by
 induction n generalizing k ρ with
 |zero=>exact absurd hk (Nat.not_lt_zero _)
 |succ n ih=>
  unfold yo
  rw[v9]
  refine (hs k ρ h0).mono (λt ρ1 q=>?_) λ_ q=>q
  cases t with
  |true=>
   rw[if_pos rfl]at q ⊢
   exact Ug q λρ2 ⟨j,hj,jj⟩=>ih j (by omega) jj
  |false=>
   rw[if_neg (by simp)]at q ⊢
   exact .ok q
end
section
variable {e:M D}{c:M Bool}
theorem xg (a:Slot)(caps:List Slot)(s:Slot):([a]++caps++[s])[1+caps.length]? = some s:=by
 rw[List.getElem?_append_right (by simp;omega)]
 simp[Nat.add_comm]
theorem vB (a:Slot)(caps:List Slot)(s t:Slot):([a]++caps++[s]).set (1+caps.length) t=[a]++caps++[t]:=by
 rw[List.set_append_right _ _ (by simp;omega)]
 simp[Nat.add_comm]
theorem vt {caps:List Slot}{f:D->D}:∀ {ds:List D}{acc:List D}{a:Slot},acc.length+ds.length<=sizeLine->(∀ d ∈ ds,∀ acc,e ([.fz d]++caps++[.own acc])=.ok (f d) ([.fz d]++caps++[.own acc])) ->
  ∃ a',zj (zz 0) (yA (1+caps.length) none e) ds ([a]++caps++[.own acc])=.ok .nx ([a']++caps++[.own (acc++ds.map f)])
 |[],acc,a,_,_=>⟨a,by simp[zj]⟩
 |d::ds,acc,a,hl,h=>by
  obtain⟨a',e'⟩:=vt (caps:=caps) (f:=f) (ds:=ds) (acc:=acc++[f d]) (a:=.fz d) (by simp at hl ⊢;omega) (λx hx=>h x (List.mem_cons_of_mem _ hx))
  refine⟨a',?_⟩
  have h1:acc.length<sizeLine:=by simp at hl;omega
  have hd:=h d List.mem_cons_self acc
  unfold zj
  have g1:zz 0 d ([a]++caps++[.own acc])=some ([.fz d]++caps++[.own acc]):=by simp[zz]
  have ap:yA (1+caps.length) none e ([.fz d]++caps++[.own acc])=.ok .nx ([.fz d]++caps++[.own (acc++[f d])]):=by
   unfold yA Zx
   simp only[xg,xW,zT,Res.bnd_ok,hd,if_pos h1,vB]
  rw[g1,zT,Res.bnd_ok,ap,Res.bnd_ok]
  unfold Ym
  dsimp only
  rw[e']
  simp
theorem xL {caps:List Slot}{idx:List Nat}{ds:List D}{ρ ρ':Rho}{mi:M (List D)}(f:D->D)(hm:mi ρ=.ok ds ρ')(hc:(idx.map λi=>Vj (ρ'.getD i .un))=caps)(hl:ds.length<=sizeLine)
  (h:∀ d ∈ ds,∀ acc,e ([.fz d]++caps++[.own acc])=.ok (f d) ([.fz d]++caps++[.own acc])) :
  yS mi 1 idx (zz 0) none e ρ=.ok (.lst (ds.map f)) ρ':=by
 have hi:idx.length=caps.length:=by rw[<-hc];simp
 unfold yS
 rw[hm,Res.bnd_ok,hi]
 have eb:yh 1 idx ρ'=[.un]++caps++[.own []]:=by unfold yh;rw[hc];rfl
 obtain⟨a',e'⟩:=vt (caps:=caps) (f:=f) (ds:=ds) (acc:=[]) (a:=.un) (by simpa using hl) h
 rw[eb,e']
 unfold xN
 dsimp only
 rw[xg,xW,zT,Res.bnd_ok]
 simp
theorem wT {caps:List Slot}{idx:List Nat}{ds:List D}{ρ ρ':Rho}{mi:M (List D)}{own:Bool}{i:Nat}(f:D->D)(hm:mi ρ=.ok ds ρ')(hc:(idx.map λi=>Vj (ρ'.getD i .un))=caps)(hl:ds.length<=sizeLine)
  (h:∀ d ∈ ds,∀ acc,e ([.fz d]++caps++[.own acc])=.ok (f d) ([.fz d]++caps++[.own acc])) :
  ZP own i mi 1 idx (zz 0) none e ρ=.ok .nx (ρ'.set i (if own then .own (ds.map f) else .fz (.lst (ds.map f)))):=by
 have q:=xL f hm hc hl h
 unfold yS at q
 unfold ZP
 rw[hm,Res.bnd_ok]at q ⊢
 cases z:xN (1+idx.length) (zj (zz 0) (yA (1+idx.length) none e) ds (yh 1 idx ρ')) with
 |none=>rw[z]at q;cases q
 |some ys=>rw[z]at q;cases q;rfl
theorem XI {caps:List Slot}{f:D->D}{p:D->Bool}:∀ {ds:List D}{acc:List D}{a:Slot},acc.length+ds.length<=sizeLine ->
  (∀ d ∈ ds,∀ acc,c ([.fz d]++caps++[.own acc])=.ok (p d) ([.fz d]++caps++[.own acc]))->(∀ d ∈ ds,∀ acc,p d=true->e ([.fz d]++caps++[.own acc])=.ok (f d) ([.fz d]++caps++[.own acc])) ->
  ∃ a',zj (zz 0) (yA (1+caps.length) (some c) e) ds ([a]++caps++[.own acc])=.ok .nx ([a']++caps++[.own (acc++(ds.filter p).map f)])
 |[],acc,a,_,_,_=>⟨a,by simp[zj]⟩
 |d::ds,acc,a,hl,hc,h=>by
  have h1:acc.length<sizeLine:=by simp at hl;omega
  have g1:zz 0 d ([a]++caps++[.own acc])=some ([.fz d]++caps++[.own acc]):=by simp[zz]
  have hcd:=hc d List.mem_cons_self acc
  by_cases hp:p d=true
  ·obtain⟨a',e'⟩:=XI (caps:=caps) (f:=f) (p:=p) (ds:=ds) (acc:=acc++[f d]) (a:=.fz d) (by simp at hl ⊢;omega) (λx hx=>hc x (List.mem_cons_of_mem _ hx)) (λx hx=>h x (List.mem_cons_of_mem _ hx))
   refine⟨a',?_⟩
   have hd:=h d List.mem_cons_self acc hp
   have ap:yA (1+caps.length) (some c) e ([.fz d]++caps++[.own acc])=.ok .nx ([.fz d]++caps++[.own (acc++[f d])]):=by
    unfold yA ifM Zx
    simp only[hcd,hp,xg,xW,zT,Res.bnd_ok,hd,if_pos h1,vB,if_true]
   unfold zj
   rw[g1,zT,Res.bnd_ok,ap,Res.bnd_ok]
   unfold Ym
   dsimp only
   rw[e']
   simp[hp]
  ·obtain⟨a',e'⟩:=XI (caps:=caps) (f:=f) (p:=p) (ds:=ds) (acc:=acc) (a:=.fz d) (by simp at hl ⊢;omega) (λx hx=>hc x (List.mem_cons_of_mem _ hx)) (λx hx=>h x (List.mem_cons_of_mem _ hx))
   refine⟨a',?_⟩
   have hp':p d=false:=by simpa using hp
   have ap:yA (1+caps.length) (some c) e ([.fz d]++caps++[.own acc])=.ok .nx ([.fz d]++caps++[.own acc]):=by
    unfold yA ifM
    simp[hcd,hp',Res.bnd_ok,nxM]
    simp only[List.singleton_append]at hcd
    rw[show (Slot.fz d::(caps++[Slot.own acc]))=[.fz d]++caps++[.own acc] by simp,hc d List.mem_cons_self acc]
    simp[Res.bnd_ok,hp']
   unfold zj
   rw[g1,zT,Res.bnd_ok,ap,Res.bnd_ok]
   unfold Ym
   dsimp only
   rw[e']
   simp[hp']
theorem WJ {caps:List Slot}{idx:List Nat}{ds:List D}{ρ ρ':Rho}{mi:M (List D)}{own:Bool}{i:Nat}(p:D->Bool)(f:D->D)(hm:mi ρ=.ok ds ρ')(hc:(idx.map λi=>Vj (ρ'.getD i .un))=caps)(hl:ds.length<=sizeLine)
  (hp:∀ d ∈ ds,∀ acc,c ([.fz d]++caps++[.own acc])=.ok (p d) ([.fz d]++caps++[.own acc]))(h:∀ d ∈ ds,∀ acc,p d=true->e ([.fz d]++caps++[.own acc])=.ok (f d) ([.fz d]++caps++[.own acc])) :
  ZP own i mi 1 idx (zz 0) (some c) e ρ=.ok .nx (ρ'.set i (if own then .own ((ds.filter p).map f) else .fz (.lst ((ds.filter p).map f)))):=by
 have hi:idx.length=caps.length:=by rw[<-hc];simp
 unfold ZP
 rw[hm,Res.bnd_ok,hi]
 have eb:yh 1 idx ρ'=[.un]++caps++[.own []]:=by unfold yh;rw[hc];rfl
 obtain⟨a',e'⟩:=XI (caps:=caps) (f:=f) (p:=p) (ds:=ds) (acc:=[]) (a:=.un) (by simpa using hl) hp h
 rw[eb,e']
 unfold xN
 dsimp only
 rw[xg,xW,zT,Res.bnd_ok]
 simp
end
end PM
namespace PM
open PySem
inductive oP {α:Type}:Option α->(α->Prop)->Prop where
 |mk {a:α}{Q:α->Prop}(h:Q a):oP (some a) Q
@[simp] theorem oP_some {α:Type}(a:α)(Q:α->Prop):oP (some a) Q=Q a:=propext ⟨λh=>by cases h;assumption,.mk⟩
@[simp] theorem oP_none {α:Type}(Q:α->Prop):oP none Q=False:=propext ⟨λh=>(by cases h),False.elim⟩
theorem jr {Q:D->Prop}{X:Addr->Prop}(d:D):(FR.ok d).wp Q X=Q d:=propext ⟨λh=>by cases h;assumption,.ok⟩
theorem U4 {Q:D->Prop}{X:Addr->Prop}(d:Addr):(FR.exn d).wp Q X=X d:=propext ⟨λh=>by cases h;assumption,.exn⟩
theorem kQ {Q:D->Prop}{X:Addr->Prop}:(FR.bad).wp Q X=False:=propext ⟨λh=>(by cases h),False.elim⟩
section
variable {α β:Type}{Q:α->Rho->Prop}{X:Addr->Prop}{ρ:Rho}{a b:M D}{c d:M Bool}{s t:M Fl}{i:Nat}{R:Fl->Rho->Prop}{S:D->Rho->Prop}{U:Bool->Rho->Prop}
@[simp] theorem p_ok (a:α)(ρ:Rho):(Res.ok a ρ).wp Q X=Q a ρ:=WF a ρ
@[simp] theorem p_exn (c:Addr)(ρ:Rho):(Res.exn c ρ:Res α).wp Q X=X c:=ug c ρ
@[simp] theorem p_bad:(Res.bad:Res α).wp Q X=False:=Qe
@[simp] theorem p_bnd {R:β->Rho->Prop}(r:Res α)(k:α->Rho->Res β):(r.bnd k).wp R X=r.wp (λa ρ=>(k a ρ).wp R X) X:=v9 r k
@[simp] theorem p_opt (o:Option α)(ρ:Rho):(zO o ρ).wp Q X=oP o λa=>Q a ρ:=by cases o<;>simp[zO]
@[simp] theorem p_ite (c:Prop) [Decidable c] (a b:Res α):(if c then a else b).wp Q X=if c then a.wp Q X else b.wp Q X:=KO c a b
@[simp] theorem p_seq:(zH s t ρ).wp R X=(s ρ).wp (λf ρ=>if f.isNx=true then (t ρ).wp R X else R f ρ) X:=by
 unfold zH;simp
theorem KN (J:Rho->Prop)(h:(s ρ).wp (λf ρ=>f=.nx/\J ρ) X)(k:∀ ρ,J ρ->(t ρ).wp R X):(zH s t ρ).wp R X:=by
 rw[p_seq]
 refine h.mono (λf ρ q=>?_) λ_ q=>q
 obtain⟨rfl,j⟩:=q
 rw[if_pos (show Fl.nx.isNx=true from rfl)]
 exact k ρ j
@[simp] theorem p_vM:(vM i ρ).wp S X=oP (UU ρ[i]?) λd=>S d ρ:=by unfold vM;simp
@[simp] theorem p_cM {d:D}:(cM d ρ).wp S X=S d ρ:=WF _ _
@[simp] theorem p_op2 {f:D->D->Option D}:(op2 f a b ρ).wp S X=(a ρ).wp (λx ρ=>(b ρ).wp (λy ρ=>oP (f x y) λd=>S d ρ) X) X:=by unfold op2;simp
@[simp] theorem p_op1 {f:D->Option D}:(op1 f a ρ).wp S X=(a ρ).wp (λx ρ=>oP (f x) λd=>S d ρ) X:=by unfold op1;simp
@[simp] theorem p_test {f:D->Option Bool}:(zL f a ρ).wp U X=(a ρ).wp (λx ρ=>oP (f x) λd=>U d ρ) X:=by unfold zL;simp
@[simp] theorem p_or:(orM c d ρ).wp U X=(c ρ).wp (λx ρ=>if x=true then U true ρ else (d ρ).wp U X) X:=by unfold orM;simp
@[simp] theorem p_not:(X3 c ρ).wp U X=(c ρ).wp (λx ρ=>U (!x) ρ) X:=by unfold X3;simp
@[simp] theorem p_notV:(qo a ρ).wp S X=(a ρ).wp (λx ρ=>oP (zV x) λk=>S (.bl (!k)) ρ) X:=by unfold qo;simp
@[simp] theorem p_iteM:(ym c a b ρ).wp S X=(c ρ).wp (λx ρ=>if x=true then (a ρ).wp S X else (b ρ).wp S X) X:=by unfold ym;simp
@[simp] theorem p_args0 {R:List D->Rho->Prop}:(zk [] ρ).wp R X=R [] ρ:=WF _ _
@[simp] theorem p_args {as:List (M D)}{R:List D->Rho->Prop}:(zk (a::as) ρ).wp R X=(a ρ).wp (λx ρ=>(zk as ρ).wp (λxs ρ=>R (x::xs) ρ) X) X:=by rw[show zk (a::as) ρ=(a ρ).bnd λx ρ=>(zk as ρ).bnd λxs ρ=>.ok (x::xs) ρ from rfl];simp only[p_bnd,p_ok]
@[simp] theorem p_callB {f:List D->Option D}{as:List (M D)}:(zY f as ρ).wp S X=(zk as ρ).wp (λxs ρ=>oP (f xs) λd=>S d ρ) X:=by unfold zY;simp
@[simp] theorem p_callM {F:List D->FR}{as:List (M D)}:(zR F as ρ).wp S X=(zk as ρ).wp (λxs ρ=>(F xs).wp (λd=>S d ρ) X) X:=by
 unfold zR
 simp only[p_bnd]
 congr 1
 funext xs ρ
 cases F xs<;>simp[FR.to,jr,U4,kQ]
@[simp] theorem p_tup {as:List (M D)}:(ZU as ρ).wp S X=(zk as ρ).wp (λxs ρ=>xs.length<=sizeLine/\S (.tup xs) ρ) X:=by
 unfold ZU
 simp only[p_bnd]
 congr 1
 funext xs ρ
 by_cases h:xs.length<=sizeLine<;>simp[h]
@[simp] theorem p_lst {as:List (M D)}:(lstM as ρ).wp S X=(zk as ρ).wp (λxs ρ=>xs.length<=sizeLine/\S (.lst xs) ρ) X:=by
 unfold lstM
 simp only[p_bnd]
 congr 1
 funext xs ρ
 by_cases h:xs.length<=sizeLine<;>simp[h]
@[simp] theorem p_part0 {R:Option Int->Rho->Prop}:(XV none ρ).wp R X=R none ρ:=WF _ _
@[simp] theorem p_part1 {R:Option Int->Rho->Prop}:(XV (some a) ρ).wp R X=(a ρ).wp (λx ρ=>oP (YC x) λk=>R (some k) ρ) X:=by unfold XV;simp
@[simp] theorem p_slice {lo hi:Option (M D)}:(Xu a lo hi ρ).wp S X=(a ρ).wp (λx ρ=>(XV lo ρ).wp (λl ρ=>(XV hi ρ).wp (λh ρ=>oP (slD x l h) λd=>S d ρ) X) X) X:=by unfold Xu;simp
@[simp] theorem p_set:(ZK i a ρ).wp R X=(a ρ).wp (λx ρ=>R .nx (ρ.set i (.fz x))) X:=by unfold ZK;simp
@[simp] theorem p_ret:(ZQ a ρ).wp R X=(a ρ).wp (λx ρ=>R (.ret x) ρ) X:=by unfold ZQ;simp
@[simp] theorem p_expr:(yJ a ρ).wp R X=(a ρ).wp (λx ρ=>R .nx ρ) X:=by unfold yJ;simp
@[simp] theorem p_nx:(nxM ρ).wp R X=R .nx ρ:=WF _ _
@[simp] theorem p_if:(ifM c s t ρ).wp R X=(c ρ).wp (λx ρ=>if x=true then (s ρ).wp R X else (t ρ).wp R X) X:=by unfold ifM;simp
@[simp] theorem p_new {as:List (M D)}:(x8 i as ρ).wp R X=(zk as ρ).wp (λxs ρ=>xs.length<=sizeLine/\R .nx (ρ.set i (.own xs))) X:=by
 unfold x8
 simp only[p_bnd]
 congr 1
 funext xs ρ
 by_cases h:xs.length<=sizeLine<;>simp[h]
@[simp] theorem p_frz:(xI i s ρ).wp R X=oP (zl ρ[i]?) λds=>(s (ρ.set i (.fz (.lst ds)))).wp R X:=by unfold xI;simp
@[simp] theorem p_app:(Zx i a ρ).wp R X=oP (zl ρ[i]?) λds=>(a ρ).wp (λx ρ=>oP (zl ρ[i]?) λds=>ds.length<sizeLine/\R .nx (ρ.set i (.own (ds++[x])))) X:=by
 unfold Zx
 simp only[p_bnd,p_opt]
 congr 1
 funext ds
 congr 2
 funext x ρ
 congr 1
 funext ds
 by_cases h:ds.length<sizeLine<;>simp[h]
@[simp] theorem p_lenO:(Yh i ρ).wp S X=oP (zl ρ[i]?) λds=>S (.int ds.length) ρ:=by unfold Yh;simp
@[simp] theorem p_ixO:(ixO i a ρ).wp S X=oP (zl ρ[i]?) λds=>(a ρ).wp (λx ρ=>oP (zl ρ[i]?) λds=>oP (ixD (.lst ds) x) λd=>S d ρ) X:=by unfold ixO;simp
@[simp] theorem p_truO:(qN i ρ).wp U X=oP (zl ρ[i]?) λds=>U (!ds.isEmpty) ρ:=by unfold qN;simp
@[simp] theorem p_popAtO:(YE i a ρ).wp S X=oP (zl ρ[i]?) λds=>(a ρ).wp (λx ρ=>oP (zl ρ[i]?) λds=>oP (YC x) λk=>oP ((if ds.length<=sizeLine then yf ds.length k else none)) λj=>oP (ds[j]?) λy=>S y (ρ.set i (.own (ds.eraseIdx j)))) X:=by
 unfold YE;simp only[p_bnd,p_opt,p_ok]
@[simp] theorem p_setIx {b:M D}:(Y2 i a b ρ).wp R X=(b ρ).wp (λy ρ=>oP (zl ρ[i]?) λds=>(a ρ).wp (λx ρ=>oP (zl ρ[i]?) λds=>oP (YC x) λk=>oP (yf ds.length k) λj=>R .nx (ρ.set i (.own (ds.set j y)))) X) X:=by
 unfold Y2;simp only[p_bnd,p_opt,p_ok]
@[simp] theorem p_asg {g:GM}:(XM a g ρ).wp R X=(a ρ).wp (λx ρ=>oP (g x ρ) λρ'=>R .nx ρ') X:=by
 unfold XM;simp only[p_bnd,p_opt,p_ok]
@[simp] theorem p_forE {items:D->Option (List D)}{g:GM}:(xJ a items g s ρ).wp R X=(a ρ).wp (λx ρ=>oP (items x) λds=>(zj g s ds ρ).wp R X) X:=by unfold xJ;simp
@[simp] theorem p_forR {g:GM}:(YQ a g s ρ).wp R X=(a ρ).wp (λx ρ=>oP (yM x) λds=>(zj g s ds ρ).wp R X) X:=by unfold YQ;simp
@[simp] theorem p_newRange:(yX i a ρ).wp R X=(a ρ).wp (λx ρ=>oP (yM x) λds=>ds.length<=sizeLine/\R .nx (ρ.set i (.own ds))) X:=by
 unfold yX
 simp only[p_bnd,p_opt]
 congr 1
 funext x ρ
 congr 1
 funext ds
 by_cases h:ds.length<=sizeLine<;>simp[h]
@[simp] theorem p_methT {f:D->D->Option D}{b:M D}:(Wf f a b ρ).wp S X=(a ρ).wp (λx ρ=>oP (YH x) λ_=>(b ρ).wp (λy ρ=>oP (f x y) λd=>S d ρ) X) X:=by
 unfold Wf;simp only[p_bnd,p_opt]
@[simp] theorem p_methO {f:D->D->Option D}:(Xd f i a ρ).wp S X=oP (zl ρ[i]?) λds=>(a ρ).wp (λx ρ=>oP (zl ρ[i]?) λds=>oP (f (.lst ds) x) λd=>S d ρ) X:=by
 unfold Xd;simp only[p_bnd,p_opt,p_ok]
@[simp] theorem p_raise {c:Addr}:(yd c ρ).wp R X=X c:=ug _ _
@[simp] theorem fz_fz (d:D):UU (some (.fz d))=some d:=rfl
@[simp] theorem own_own (d:List D):zl (some (.own d))=some d:=rfl
@[simp] theorem nx_nx:Fl.nx.isNx=true:=rfl
@[simp] theorem nx_ret (d:D):(Fl.ret d).isNx=false:=rfl
@[simp] theorem nx_brk:Fl.brk.isNx=false:=rfl
@[simp] theorem nx_cont:Fl.cont.isNx=false:=rfl
@[simp] theorem fin_ret {Q:D->Prop}(d:D)(ρ:Rho):Fl.fin Q (.ret d) ρ=Q d:=propext Iff.rfl
@[simp] theorem fin_nx {Q:D->Prop}(ρ:Rho):Fl.fin Q .nx ρ=Q .non:=propext Iff.rfl
@[simp] theorem turn_nx {J:Rho->Prop}(ρ:Rho):xk J R .nx ρ=J ρ:=propext Iff.rfl
@[simp] theorem turn_ret {J:Rho->Prop}(d:D)(ρ:Rho):xk J R (.ret d) ρ=R (.ret d) ρ:=propext Iff.rfl
@[simp] theorem turn_brk {J:Rho->Prop}(ρ:Rho):xk J R .brk ρ=R .nx ρ:=propext Iff.rfl
@[simp] theorem turn_cont {J:Rho->Prop}(ρ:Rho):xk J R .cont ρ=J ρ:=propext Iff.rfl
@[simp] theorem fr_ok {Q:D->Prop}(d:D):(FR.ok d).wp Q X=Q d:=jr d
@[simp] theorem fr_exn {Q:D->Prop}(d:Addr):(FR.exn d).wp Q X=X d:=U4 d
end
@[simp] theorem sizeLine_eq:sizeLine=16777216:=by decide
@[simp] theorem s_mod (a b:Int)(h:0<b):Zo (.int a) (.int b)=some (.int (a % b)):=by show (if _ then _ else _)=_;rw[if_pos h]
@[simp] theorem s_fdiv (a b:Int)(h:0<b/\b<1073741824):Z3 (.int a) (.int b)=some (.int (a / b)):=by show (if _ then _ else _)=_;rw[if_pos h]
@[simp] theorem s_add (a b:Int):ZC (.int a) (.int b)=some (.int (a+b)):=rfl
@[simp] theorem s_sub (a b:Int):Vw (.int a) (.int b)=some (.int (a - b)):=rfl
@[simp] theorem s_neg (a:Int):VQ (.int a)=some (.int (-a)):=rfl
theorem Qv (a b:Int)(h:(-(2 ^ 64)<a/\a<2 ^ 64)\/(-(2 ^ 64)<b/\b<2 ^ 64)):Yd (.int a) (.int b)=some (.int (a * b)):=by show (if _ then _ else _)=_;rw[if_pos h]
@[simp] theorem s_mulL (a b:Int) (h : -(2 ^ 64)<a/\a<2 ^ 64):Yd (.int a) (.int b)=some (.int (a * b)):=Qv a b (.inl h)
@[simp] theorem s_mulR (a b:Int) (h : -(2 ^ 64)<b/\b<2 ^ 64):Yd (.int a) (.int b)=some (.int (a * b)):=Qv a b (.inr h)
@[simp] theorem s_lt (a b:Int):ltD (.int a) (.int b)=some (.bl (decide (a<b))):=rfl
@[simp] theorem s_le (a b:Int):leD (.int a) (.int b)=some (.bl (decide (a<=b))):=rfl
@[simp] theorem s_gt (a b:Int):gtD (.int a) (.int b)=some (.bl (decide (b<a))):=rfl
@[simp] theorem s_ge (a b:Int):geD (.int a) (.int b)=some (.bl (decide (b<=a))):=rfl
@[simp] theorem s_eq (a b:Int):eqD (.int a) (.int b)=some (.bl (decide (a=b))):=rfl
@[simp] theorem s_ne (a b:Int):neD (.int a) (.int b)=some (.bl (!decide (a=b))):=rfl
@[simp] theorem s_lenL (a:List D):Z8 (.lst a)=some (.int a.length):=rfl
@[simp] theorem s_lenT (a:List D):Z8 (.tup a)=some (.int a.length):=rfl
@[simp] theorem s_arg1 (f:D->Option D)(x:D):ZB f [x]=f x:=rfl
@[simp] theorem s_ixL (a:List D) (i:Int):ixD (.lst a) (.int i)=atD a i:=rfl
@[simp] theorem s_ixT (a:List D) (i:Int):ixD (.tup a) (.int i)=atD a i:=rfl
@[simp] theorem s_boolB (b:Bool):zV (.bl b)=some b:=rfl
@[simp] theorem s_truB (b:Bool):Zc (.bl b)=some b:=rfl
@[simp] theorem s_truL (b:List D):Zc (.lst b)=some (!b.isEmpty):=rfl
@[simp] theorem s_lstOf (b:List D):Zg (.lst b)=some b:=rfl
@[simp] theorem s_tupOf (b:List D):YH (.tup b)=some b:=rfl
@[simp] theorem s_intOf (b:Int):YC (.int b)=some b:=rfl
@[simp] theorem s_asIntB (b:Bool):Xr (.bl b)=some (.int (if b then 1 else 0)):=rfl
@[simp] theorem s_asIntI (b:Int):Xr (.int b)=some (.int b):=rfl
@[simp] theorem s_listL (b:List D):Wn (.lst b)=some (.lst b):=rfl
@[simp] theorem s_listT (b:List D):Wn (.tup b)=some (.lst b):=rfl
@[simp] theorem s_tupleL (b:List D):tupleD (.lst b)=some (.tup b):=rfl
@[simp] theorem s_tupleT (b:List D):tupleD (.tup b)=some (.tup b):=rfl
@[simp] theorem s_slL (b:List D)(lo hi:Option Int):slD (.lst b) lo hi=some (.lst (cut b lo hi)):=rfl
@[simp] theorem s_slT (b:List D)(lo hi:Option Int):slD (.tup b) lo hi=some (.tup (cut b lo hi)):=rfl
@[simp] theorem s_range (j:Int) (h : -(2 ^ 62)<=j/\j<2 ^ 62):yM (.int j)=some (yw j.toNat):=by show (if _ then _ else _)=_;rw[if_pos h]
@[simp] theorem s_isN (d:D):isD d .non=some (.bl (X8 d)):=rfl
@[simp] theorem s_gVar (i:Nat)(d:D)(ρ:Rho):zz i d ρ=some (ρ.set i (.fz d)):=rfl
@[simp] theorem s_gTup (is:List Nat)(ds:List D)(ρ:Rho):Zi is (.tup ds) ρ=xH is ds ρ:=rfl
@[simp] theorem s_gTup0 (ρ:Rho):xH [] [] ρ=some ρ:=rfl
@[simp] theorem s_gTup1 (i:Nat)(is:List Nat)(d:D)(ds:List D)(ρ:Rho):xH (i::is) (d::ds) ρ=xH is ds (ρ.set i (.fz d)):=rfl
theorem ku (a:List D) (j:Nat)(h:j<a.length):atD a (j:Int)=a[j]?:=by
 unfold atD yf
 simp[h]
theorem ZI {α:Type}(f:α->D)(xs:List α) (j:Nat)(x:α)(h:xs[j]? = some x):atD (xs.map f) (j:Int)=some (f x):=by
 have hj:=(List.getElem?_eq_some_iff.mp h).1
 rw[ku _ _ (by simpa using hj),List.getElem?_map,h]
 rfl
section
variable {s t:M Fl}{ρ ρ':Rho}{R:Fl->Rho->Prop}{X:Addr->Prop}{a b c:M Bool}{r:Res Bool}
theorem zP (e:s ρ=.ok .nx ρ')(h:(t ρ').wp R X):(zH s t ρ).wp R X:=by unfold zH;rw[e];exact h
theorem yZ {k:Addr}(e:s ρ=.exn k ρ')(h:X k):(zH s t ρ).wp R X:=by unfold zH;rw[e];exact .exn h
theorem xi (e:c ρ=.ok true ρ'):ifM c s t ρ=s ρ':=by unfold ifM;rw[e];rfl
theorem xG (e:c ρ=.ok false ρ'):ifM c s t ρ=t ρ':=by unfold ifM;rw[e];rfl
theorem Jm (e:a ρ=.ok true ρ'):orM a b ρ=.ok true ρ':=by unfold orM;rw[e];rfl
theorem wk (e:a ρ=.ok false ρ')(e2:b ρ'=r):orM a b ρ=r:=by unfold orM;rw[e];exact e2
theorem Yw {p:Prop} [Decidable p] (h:p)(e:a ρ=.ok (decide p) ρ'):a ρ=.ok true ρ':=by rw[e,decide_eq_true h]
theorem yy {p:Prop} [Decidable p] (h:¬ p)(e:a ρ=.ok (decide p) ρ'):a ρ=.ok false ρ':=by rw[e,decide_eq_false h]
end
theorem zI {f:D->D->Option D}{a b:M D}{ρ ρ1 ρ2:Rho}{x y z:D}(ea:a ρ=.ok x ρ1)(eb:b ρ1=.ok y ρ2)(e:f x y=some z):op2 f a b ρ=.ok z ρ2:=by unfold op2;rw[ea,Res.bnd_ok,eb,Res.bnd_ok,e];rfl
theorem X2 {f:D->Option D}{a:M D}{ρ ρ1:Rho}{x z:D}(ea:a ρ=.ok x ρ1)(e:f x=some z):op1 f a ρ=.ok z ρ1:=by unfold op1;rw[ea,Res.bnd_ok,e];rfl
theorem ZD {f:D->Option Bool}{a:M D}{ρ ρ1:Rho}{x:D}{z:Bool}(ea:a ρ=.ok x ρ1)(e:f x=some z):zL f a ρ=.ok z ρ1:=by unfold zL;rw[ea,Res.bnd_ok,e];rfl
theorem wz (a b:Int):neD (.int a) (.int b)=some (.bl (decide (a≠b))):=by
 rw[s_ne,show decide (a≠b) = !decide (a=b) from decide_not]
theorem zS {a:M D}{as:List (M D)}{ρ ρ1 ρ2:Rho}{x:D}{xs:List D}(e:a ρ=.ok x ρ1)(er:zk as ρ1=.ok xs ρ2):zk (a::as) ρ=.ok (x::xs) ρ2:=by
 show (a ρ).bnd _=_
 rw[e,Res.bnd_ok]
 show (zk as ρ1).bnd _=_
 rw[er]
 rfl
theorem wI {F:List D->FR}{as:List (M D)}{ρ ρ':Rho}{xs:List D}{R:Fl->Rho->Prop}{X:Addr->Prop}(e:zk as ρ=.ok xs ρ')(h:(F xs).wp (λ_=>R .nx ρ') X):(yJ (zR F as) ρ).wp R X:=by
 rw[p_expr,p_callM,e,p_ok]
 exact h
theorem wH {it:M D}{items:D->Option (List D)}{g:GM}{b:M Fl}{ρ ρ':Rho}{x:D}{ds:List D}{R:Fl->Rho->Prop}{X:Addr->Prop}(e:it ρ=.ok x ρ')(ei:items x=some ds)(h:(zj g b ds ρ').wp R X):(xJ it items g b ρ).wp R X:=by
 rw[p_forE,e,p_ok,ei,oP_some]
 exact h
theorem Qo {a:M D}{hi:M D}{ρ ρ1 ρ2:Rho}{x z:D}{k:Int}(e:a ρ=.ok x ρ1)(eh:hi ρ1=.ok (.int k) ρ2)(ez:slD x none (some k)=some z):Xu a none (some hi) ρ=.ok z ρ2:=by
 unfold Xu XV
 rw[e,Res.bnd_ok]
 dsimp only
 rw[Res.bnd_ok,eh,Res.bnd_ok]
 show ((Res.ok k ρ2).bnd _).bnd _=_
 rw[Res.bnd_ok,Res.bnd_ok,ez]
 rfl
theorem yV {s t:M Fl}{ρ:Rho}{R:Fl->Rho->Prop}{X:Addr->Prop}(J:Rho->Prop)(h:(s ρ).wp (λf ρ=>f=.nx/\J ρ) X)(k:∀ ρ,J ρ->(t ρ).wp R X):(zH s t ρ).wp R X:=KN J h k
end PM
namespace PM
open PySem
noncomputable section
noncomputable def Zu (C:Addr):M Fl:=
 ZQ (op2 ixD (vS 0 C "tellings") (op2 ixD (vS 0 C "place") (cM (.int 0))))
noncomputable def zM:FO:=λC=>Yu 1 (Zu C) C
noncomputable def uH (A:Cls):M Fl:=
 zH (ZK 3 (op2 ixD (vM 1) (cM (.int 0))))
 (zH (ZK 4 (op2 ixD (vM 1) (cM (.int 1))))
 (zH (ifM (orM (zL zV (op2 ltD (vM 3) (cM (.int 0)))) (zL zV (op2 geD (vM 3) (zY (ZB Z8) [vM 0])))) (yd A.bm) (nxM))
 (zH (ifM (zL zV (op2 neD (zY (ZB Z8) [vM 4]) (op2 ixD (op2 ixD (vM 0) (vM 3)) (cM (.int 1))))) (yd A.bm) (nxM))
 (zH (ifM (zL zV (op2 neD (op1 xY (vM 4)) (zY (ZB Z8) [vM 4]))) (yd A.bm) (nxM))
 (xJ (vM 4) YH (zz 5) (ifM (orM (zL zV (op2 ltD (vM 5) (cM (.int 0)))) (zL zV (op2 geD (vM 5) (vM 2)))) (yd A.bm) (nxM)))))))
noncomputable def yL (A:Cls):List D->FR:=Z4 6 (uH A)
noncomputable def q8:M Fl:=
 zH (ZK 3 (op2 ixD (op2 ixD (vM 0) (op2 ixD (vM 1) (cM (.int 0)))) (cM (.int 2))))
 (zH (ZK 4 (op2 ixD (vM 1) (cM (.int 1))))
 (zH (ifM (zL zV (op2 inD (vM 2) (vM 4))) (ZK 5 (op2 ixD (vM 3) (Wf Yi (vM 4) (vM 2)))) (ZK 5 (op2 ixD (vM 3) (zY (ZB Z8) [vM 4]))))
 (zH (ZK 6 (op2 ZC (vM 4) (ZU [vM 2])))
 (ZQ (ZU [op2 ixD (vM 5) (cM (.int 0)),zY (ZB tupleD) [yS (zq YH (op2 ixD (vM 5) (cM (.int 1)))) 1 [6] (zz 0) none (op2 ixD (vM 1) (vM 0))]])))))
noncomputable def yn:List D->FR:=Z4 7 q8
noncomputable def Wk:M Fl:=
 zH (YJ 1 (zq Zg (vM 0)) 1 [] (zz 0))
 (zH (xJ (vM 0) wJ (Zi [2,3]) (xJ (op2 ixD (vM 3) (cM (.int 2))) Zg (zz 4) (WE 1 (op2 ixD (vM 4) (cM (.int 0))) 2)))
 (jp 1 (ZQ (vM 1))))
noncomputable def Zh:List D->FR:=Z4 5 Wk
noncomputable def q5:M Fl:=
 zH (ifM (zL zV (op2 isD (vM 1) (cM .non))) (ZQ (cM (.str "always"))) (nxM))
 (zH (ifM (zL zV (op2 isD (vM 0) (cM .non))) (ZQ (cM (.str "never"))) (nxM))
 (ZQ (cM (.str "open"))))
noncomputable def Zn:List D->FR:=Z4 2 q5
noncomputable def Wm:M Fl:=
 zH (ifM (zL Zc (vM 0)) (ZQ (op2 ixD (vM 0) (op2 Zo (vM 1) (zY (ZB Z8) [vM 0])))) (nxM))
 (ZQ (cM (.int 0)))
noncomputable def yx:List D->FR:=Z4 2 Wm
noncomputable def UL:M Fl:=
 zH (XM (op2 ixD (vM 0) (vM 1)) (Zi [4,5,6]))
 (zH (XM (op2 ixD (vM 6) (vM 5)) (Zi [7,8]))
 (zH (YQ (vM 5) (zz 9) (ifM (zL zV (op2 eqD (op2 ixD (vM 2) (vM 9)) (vM 3))) (XM (op2 ixD (vM 6) (vM 9)) (Zi [7,8])) (nxM)))
 (ZQ (ZU [vM 7,yS (zq YH (vM 8)) 1 [2,3,5] (zz 0) none (ym (zL zV (op2 eqD (vM 0) (vM 3))) (vM 2) (op2 ixD (vM 1) (vM 0)))]))))
noncomputable def Zz:List D->FR:=Z4 10 UL
noncomputable def vP (A:Cls):M Fl:=
 zH (ifM (zL zV (op2 isD (vM 0) (cM .non))) (ZQ (cM (.str "ok"))) (nxM))
 (zH (x8 1 [op1 (yQ (A.is A.bm)) (vM 0),op1 (yQ (A.is A.bt)) (vM 0),op1 (yQ (A.is A.bw)) (vM 0)])
 (zH (Zx 1 (op1 (yQ (A.is A.tm)) (vM 0)))
 (zH (ifM (orM (zL zV (op2 neD (Xd W0 1 (cM (.bl true))) (cM (.int 1)))) (X3 (zL Zc (op1 (yQ A.isVE) (vM 0))))) (ZQ (cM (.str "wrong"))) (nxM))
 (ZQ (op2 ixD (lstM [cM (.str "machine"),cM (.str "text"),cM (.str "word"),cM (.str "many")]) (Xd Yi 1 (cM (.bl true))))))))
noncomputable def Za (A:Cls):List D->FR:=Z4 2 (vP A)
noncomputable def uI:M Fl:=
 zH (ZK 2 (lstM [vM 1]))
 (zH (YQ (zY (ZB Z8) [vM 0]) (zz 3) (YQ (zY (ZB Z8) [vM 0]) (zz 4) (ifM (zL zV (op2 inD (vM 4) (vM 2))) (ZK 2 (op1 YI (op2 ZC (vM 2) (yS (zq Zg (op2 ixD (op2 ixD (vM 0) (vM 4)) (cM (.int 2)))) 1 [] (zz 0) none (op2 ixD (vM 0) (cM (.int 0))))))) (nxM))))
 (zH (ZP false 5 (zq Zg (vM 2)) 1 [0] (zz 0) none (op2 ixD (op2 ixD (vM 1) (vM 0)) (cM (.int 0))))
 (ZQ (ym (zL Zc (zY (ZB JD) [vM 5])) (cM (.str "always")) (ym (zL Zc (zY (ZB JC) [vM 5])) (cM (.str "open")) (cM (.str "never")))))))
noncomputable def zt:List D->FR:=Z4 6 uI
noncomputable def Zf (C:Addr):M Fl:=
 zH (yk 0 C "place" (zR yn [vS 0 C "machine",vS 0 C "place",vM 1]))
 (ZQ (ZT 0 C "told" zM []))
noncomputable def zw:FO:=λC=>Yu 2 (Zf C) C
noncomputable def Va (A:Cls):M Fl:=
 zH (ZK 2 (op2 ixD (vM 1) (cM (.int 1))))
 (zH (ZK 3 (op2 ixD (vM 1) (cM (.int 2))))
 (zH (ifM (orM (zL zV (op2 ltD (vM 2) (cM (.int 0)))) (zL zV (op2 gtD (vM 2) (cM (.int 6))))) (yd A.bm) (nxM))
 (zH (ifM (zL zV (op2 neD (zY (ZB Z8) [vM 3]) (op2 ZC (vM 2) (cM (.int 1))))) (yd A.bm) (nxM))
 (zH (xJ (Xu (vM 3) none (some (vM 2))) Zg (zz 4) (yJ (zR (yL A) [vM 0,vM 4,vM 2])))
 (yJ (zR (yL A) [vM 0,op2 ixD (vM 3) (vM 2),op2 ZC (vM 2) (cM (.int 1))]))))))
noncomputable def yP (A:Cls):List D->FR:=Z4 5 (Va A)
noncomputable def VZ:M Fl:=
 zH (ZP true 1 (zq Zg (vM 0)) 1 [] (zz 0) none (ym (zL Zc (op2 ixD (vM 0) (cM (.int 0)))) (cM (.int 0)) (cM .non)))
 (zH (ZK 2 (zR Zh [vM 0]))
 (zH (ZP true 3 (zq wJ (vM 0)) 2 [] (Zi [0,1]) (some (zL Zc (op2 ixD (vM 1) (cM (.int 0))))) (vM 0))
 (zH (ZK 4 (cM (.int 0)))
 (zH (yo (zL zV (op2 ltD (vM 4) (Yh 3))) (zH (ZK 5 (ixO 3 (vM 4)))
 (zH (zAI 4 (cM (.int 1)))
 (xJ (op2 ixD (vM 2) (vM 5)) Zg (zz 6) (ifM (zL zV (op2 isD (ixO 1 (vM 6)) (cM .non))) (zH (Y2 1 (vM 6) (op2 ZC (ixO 1 (vM 5)) (cM (.int 1))))
 (Zx 3 (vM 6))) (nxM))))) jo)
 (xI 1 (ZQ (vM 1)))))))
noncomputable def Zl:List D->FR:=Z4 7 VZ
noncomputable def vj:M Fl:=
 zH (ZK 2 (op2 Zo (op2 ZC (zR yx [vM 0,vM 1]) (op2 Yd (cM (.int 104729)) (op2 ZC (vM 1) (cM (.int 1))))) (cM (.int 4294967291))))
 (zH (ZK 2 (op2 Zo (op2 Yd (vM 2) (cM (.int 48271))) (cM (.int 4294967279))))
 (ZQ (op2 Zo (op2 ZC (op2 Yd (op2 Z3 (vM 2) (cM (.int 64))) (cM (.int 69621))) (vM 2)) (cM (.int 4294967231)))))
noncomputable def zN:List D->FR:=Z4 3 vj
noncomputable def Wl (A:Cls):M Fl:=
 zH (ifM (orM (zL zV (op2 ltD (zY (ZB Z8) [vM 0]) (cM (.int 1)))) (zL zV (op2 gtD (zY (ZB Z8) [vM 0]) (cM (.int 400))))) (yd A.bm) (nxM))
 (zH (ifM (zL zV (op2 neD (op2 ixD (op2 ixD (vM 0) (cM (.int 0))) (cM (.int 1))) (cM (.int 0)))) (yd A.bm) (nxM))
 (xJ (vM 0) Zg (zz 1) (yJ (zR (yP A) [vM 0,vM 1]))))
noncomputable def zr (A:Cls):List D->FR:=Z4 2 (Wl A)
noncomputable def vO:M Fl:=
 zH (yX 4 (vM 3))
 (zH (x8 5 [])
 (zH (yo (zL zV (op2 ltD (Yh 5) (vM 2))) (Zx 5 (YE 4 (op2 Zo (zR zN [vM 0,op2 ZC (vM 1) (Yh 5)]) (Yh 4)))) jo)
 (xI 5 (ZQ (zY (ZB tupleD) [vM 5])))))
noncomputable def ZZ:List D->FR:=Z4 6 vO
noncomputable def UK:M Fl:=
 zH (x8 3 [])
 (zH (YQ (op2 Zo (zR zN [vM 0,vM 1]) (op2 ZC (vM 2) (cM (.int 1)))) (zz 4) (zH (ZK 5 (zR zN [vM 0,op2 ZC (op2 ZC (vM 1) (cM (.int 1))) (vM 4)]))
 (zH (ZK 6 (ym (qN 3) (ixO 3 (op2 Vw (op1 VQ (cM (.int 1))) (op2 Zo (op2 Z3 (vM 5) (cM (.int 8))) (Yh 3)))) (cM (.int 0))))
 (Zx 3 (op2 ixD (lstM [vM 6,vM 6,op2 Zo (op2 Z3 (vM 5) (cM (.int 64))) (cM (.int 3)),op2 Zo (op2 Z3 (vM 5) (cM (.int 64))) (cM (.int 9)),op2 ZC (vM 6) (cM (.int 1)),op2 Zo (op2 Z3 (op1 VQ (vM 5)) (cM (.int 64))) (cM (.int 1000))]) (op2 Zo (vM 5) (cM (.int 6))))))))
 (xI 3 (ZQ (vM 3))))
noncomputable def Zy:List D->FR:=Z4 7 UK
noncomputable def jW (A:Cls):M Fl:=
 zH (yJ (zR (zr A) [vM 0]))
 (ZQ (yS (zq Zg (vM 0)) 1 [] (zz 0) none (ZU [qo (op2 ixD (vM 0) (cM (.int 0))),op2 ixD (vM 0) (cM (.int 1)),zY (ZB Wn) [op2 ixD (vM 0) (cM (.int 2))]])))
noncomputable def xS (A:Cls):List D->FR:=Z4 1 (jW A)
noncomputable def vQ:M Fl:=
 zH (x8 3 [cM (.int 0)])
 (zH (YQ (op2 Zo (zR zN [vM 0,vM 1]) (vM 2)) (zz 4) (Zx 3 (op2 ixD (lstM [cM (.int 0),cM (.int 1),cM (.int 1),cM (.int 2)]) (op2 Zo (zR zN [vM 0,op2 ZC (op2 ZC (vM 1) (cM (.int 1))) (vM 4)]) (cM (.int 4))))))
 (zH (x8 5 [])
 (xI 3 (zH (YQ (zY (ZB Z8) [vM 3]) (zz 6) (zH (x8 7 [])
 (zH (YQ (op2 ZC (op2 ixD (vM 3) (vM 6)) (cM (.int 1))) (zz 8) (zH (ZK 9 (op2 ZC (op2 ixD (vM 3) (vM 6)) (zY (ZB Xr) [op2 eqD (vM 8) (op2 ixD (vM 3) (vM 6))])))
 (zH (ZP false 10 (zq yM (zY (ZB Z8) [vM 3])) 1 [3,9] (zz 0) (some (zL zV (op2 leD (op2 ixD (vM 1) (vM 0)) (vM 2)))) (vM 0))
 (zH (ZK 11 (op2 ixD (vM 10) (op2 Zo (zR zN [vM 0,op2 ZC (op2 ZC (op2 ZC (vM 1) (cM (.int 8))) (op2 Yd (cM (.int 5)) (vM 6))) (vM 8)]) (zY (ZB Z8) [vM 10]))))
 (Zx 7 (ZU [vM 11,zR ZZ [vM 0,op2 ZC (op2 ZC (op2 ZC (vM 1) (cM (.int 40))) (op2 Yd (cM (.int 9)) (vM 6))) (op2 Yd (cM (.int 3)) (vM 8)),op2 ixD (vM 3) (vM 11),vM 9]]))))))
 (xI 7 (Zx 5 (ZU [op2 eqD (op2 Zo (op2 Z3 (zR zN [vM 0,op2 ZC (op2 ZC (vM 1) (cM (.int 30))) (vM 6)]) (cM (.int 4))) (cM (.int 2))) (cM (.int 0)),op2 ixD (vM 3) (vM 6),vM 7]))))))
 (xI 5 (ZQ (vM 5)))))))
noncomputable def yC:List D->FR:=Z4 12 vQ
noncomputable def vN (A:Cls):M Fl:=
 zH (ZK 1 (zR Zl [vM 0]))
 (zH (ZK 2 (zR Zl [zR (xS A) [vM 0]]))
 (ZQ (yS (Vq [vM 0,vM 1,vM 2]) 3 [] (Zi [0,1,2]) none (ZU [op2 ixD (vM 0) (cM (.int 0)),zR Zn [vM 1,vM 2]]))))
noncomputable def yB (A:Cls):List D->FR:=Z4 3 (vN A)
noncomputable def Ze (A:Cls)(C:Addr):M Fl:=
 zH (yJ (zR (zr A) [vM 1]))
 (zH (Y3 0 C "machine" (xM (zq Zg (vM 1)) 1 [] (zz 0) (op2 ixD (vM 0) (cM (.int 0))) (op2 ixD (vM 0) (cM (.int 1))) (op2 ixD (vM 0) (cM (.int 2)))))
 (zH (yk 0 C "tellings" (zR (yB A) [vM 1]))
 (yk 0 C "place" (ZU [cM (.int 0),ZU []]))))
noncomputable def zK (A:Cls):FO:=λC=>Yu 2 (Ze A C) C
noncomputable def zAe (A:Cls)(C:Addr):M Fl:=
 zH (ZK 1 (zR yC [vM 0,cM (.int 0),cM (.int 4)]))
 (zH (ZK 2 (op2 Zo (zR zN [vM 0,cM (.int 100)]) (cM (.int 3))))
 (zH (ifM (zL zV (op2 gtD (vM 2) (cM (.int 0)))) (zH (ZK 3 (op2 Zo (zR zN [vM 0,cM (.int 101)]) (zY (ZB Z8) [vM 1])))
 (zH (x8 4 [])
 (zH (YQ (zY (ZB Z8) [vM 1]) (zz 5) (Zx 4 (ZU [ym (zL zV (op2 geD (vM 5) (vM 3))) (op2 eqD (vM 2) (cM (.int 1))) (op2 ixD (op2 ixD (vM 1) (vM 5)) (cM (.int 0))),op2 ixD (op2 ixD (vM 1) (vM 5)) (cM (.int 1)),op2 ixD (op2 ixD (vM 1) (vM 5)) (cM (.int 2))])))
 (xI 4 (ZK 1 (vM 4)))))) (nxM))
 (zH (yU 6 (zq Zg (vM 1)) 3 [] (Zi [0,1,2]) (vM 0) (vM 1) (vM 2))
 (zH (xF 7 6 C (zK A))
 (zH (xF 8 6 C (zK A))
 (zH (WH 6 9 10 11 (.tup [.int 0,.tup []]))
 (zH (ue 6 (ZU [cM (.bl true),cM (.int 0),lstM []]))
 (zH (ZK 12 (cM (.int 0)))
 (zH (ZK 13 (lstM []))
 (zH (ifM (zL zV (op2 neD (ZT 7 C "told" zM []) (ZU [op2 ixD (op2 ixD (vM 1) (cM (.int 0))) (cM (.int 0)),zR zt [vM 1,cM (.int 0)]]))) (ZQ (cM (.bl false))) (nxM))
 (zH (xJ (zR Zy [vM 0,cM (.int 102),cM (.int 9)]) Zg (zz 14) (zH (XM (zR Zz [vM 1,vM 12,vM 13,vM 14]) (Zi [12,13]))
 (zH (ZK 15 (ZT 7 C "come" zw [vM 14]))
 (zH (ifM (orM (X3 (zL Zc (op1 (X9 D.isBl) (op2 ixD (vM 15) (cM (.int 0)))))) (zL zV (op2 neD (vM 15) (ZU [op2 ixD (op2 ixD (vM 1) (vM 12)) (cM (.int 0)),zR zt [vM 1,vM 12]])))) (ZQ (cM (.bl false))) (nxM))
 (zH (ifM (orM (zL zV (op2 neD (ZT 7 C "told" zM []) (vM 15))) (zL zV (op2 neD (ZT 7 C "kept" (Ys "place") []) (zY (ZB xl) [vM 13])))) (ZQ (cM (.bl false))) (nxM))
 (YN 7 14 C "place" "kept"))))))
 (zH (ifM (orM (zL zV (op2 neD (ZT 8 C "told" zM []) (ZU [op2 ixD (op2 ixD (vM 1) (cM (.int 0))) (cM (.int 0)),zR zt [vM 1,cM (.int 0)]]))) (zL zV (op2 neD (ZT 8 C "kept" (Ys "place") []) (lstM [])))) (ZQ (cM (.bl false))) (nxM))
 (zH (ZK 16 (cM .non))
 (zH (Vu A.all 16 (yJ (Wj C (zK A) [lstM []])))
 (ZQ (op2 eqD (zR (Za A) [vM 16]) (cM (.str "machine"))))))))))))))))))
noncomputable def JE (A:Cls)(C:Addr):List D->FR:=Z4 18 (zAe A C)
end
end PM
namespace PM
open PySem
noncomputable def cell (ns:List Int) (k:Nat):Int:=if ns=[] then 0 else ns.getD (k % ns.length) 0
noncomputable def K0 (c:Int) (k:Nat):Int:=
 ((c+104729 * (k+1)) % 4294967291 * 48271 % 4294967279 / 64 * 69621+(c+104729 * (k+1)) % 4294967291 * 48271 % 4294967279) % 4294967231
noncomputable def mix (ns:List Int) (k:Nat):Nat:=(K0 (cell ns k) k).toNat
theorem KT (ns:List Int) (k:Nat):yx [.lst (ns.map .int),.int k]=.ok (.int (cell ns k)):=by
 refine yO ?_
 unfold Wm Zm
 by_cases h:ns=[]
 ·subst h
  simp[cell]
 ·have hl:0<ns.length:=List.length_pos_iff.mpr h
  have hm:k % ns.length<ns.length:=Nat.mod_lt _ hl
  simp[h,hl,cell]
  rw[show ((k:Int) % (ns.length:Int))=((k % ns.length:Nat):Int) by omega]
  rw[ZI D.int ns (k % ns.length) (ns.getD (k % ns.length) 0) (by rw[List.getD_eq_getElem?_getD,List.getElem?_eq_getElem hm];rfl)]
  simp
theorem Kz (ns:List Int) (k:Nat):(mix ns k:Int)=K0 (cell ns k) k:=by
 unfold mix
 exact Int.toNat_of_nonneg (Int.emod_nonneg _ (by decide))
theorem zAN (ns:List Int) (k:Nat):zN [.lst (ns.map .int),.int k]=.ok (.int (mix ns k)):=by
 refine yO ?_
 unfold vj Zm
 simp[KT,Kz,K0]
noncomputable def Xs (s:D)(mx:Nat->Nat):Prop:=∀ k:Nat,zN [s,.int k]=.ok (.int (mx k))
theorem zAd (ns:List Int):Xs (.lst (ns.map .int)) (mix ns):=λk=>zAN ns k
noncomputable def nth (l:List Nat) (i:Nat):Nat:=(l[i]?).getD 0
noncomputable def dn (n:Nat):D:=.int n
noncomputable abbrev dns (l:List Nat):List D:=l.map dn
noncomputable abbrev dS (ns:List Int):D:=.lst (ns.map .int)
noncomputable def WU (mx:Nat->Nat) (k:Nat):Nat->List Nat->List Nat->List Nat
 |0,_,found=>found
 |n+1,left,found=>WU mx k n (left.eraseIdx (mx (k+found.length) % left.length)) (found++[nth left (mx (k+found.length) % left.length)])
noncomputable def Xt (mx:Nat->Nat) (k many most:Nat):List Nat:=WU mx k many (List.range most) []
theorem intsD_eq (n:Nat):yw n=dns (List.range n):=rfl
theorem Xo {α β:Type}(f:α->β):∀ (l:List α) (i:Nat),(l.map f).eraseIdx i=(l.eraseIdx i).map f
 |[],_=>rfl
 |a::r,0=>rfl
 |a::r,i+1=>by simp[Xo f r i]
theorem getElem?_getD {l:List Nat}{j:Nat}(h:j<l.length):l[j]? = some (nth l j):=by
 unfold nth;rw[List.getElem?_eq_getElem h];rfl
theorem Wp {n j:Nat}(h:j<n):yf n (j:Int)=some j:=by
 unfold yf
 rw[if_pos (by omega),if_pos (by omega)]
 simp
theorem Wz (a b:Int):D.eqv (.int a) (.int b)=decide (a=b):=by
 show (a == b)=_
 rfl
theorem VG {s t:M Fl}{ρ ρ':Rho}(e:s ρ=.ok .nx ρ'):zH s t ρ=t ρ':=by unfold zH;rw[e];rfl
theorem b_set {i:Nat}{e:M D}{ρ ρ':Rho}{x:D}(he:e ρ=.ok x ρ'):ZK i e ρ=.ok .nx (ρ'.set i (.fz x)):=by unfold ZK;rw[he];rfl
theorem v8 {e:M D}{ρ ρ':Rho}{x:D}(he:e ρ=.ok x ρ'):ZQ e ρ=.ok (.ret x) ρ':=by unfold ZQ;rw[he];rfl
theorem xQ {F:List D->FR}{as:List (M D)}{ρ ρ':Rho}{xs:List D}{d:D}(ha:zk as ρ=.ok xs ρ')(h:F xs=.ok d):zR F as ρ=.ok d ρ':=by unfold zR;rw[ha,Res.bnd_ok,h];rfl
theorem ki {f:List D->Option D}{as:List (M D)}{ρ ρ':Rho}{xs:List D}{d:D}(ha:zk as ρ=.ok xs ρ')(h:f xs=some d):zY f as ρ=.ok d ρ':=by unfold zY;rw[ha,Res.bnd_ok,h];rfl
theorem xc {f:D->Option D}{a:M D}{ρ ρ':Rho}{x d:D}(ha:a ρ=.ok x ρ')(h:f x=some d):zY (ZB f) [a] ρ=.ok d ρ':=ki (xs:=[x]) (zS ha (by rfl)) h
theorem ud {i:Nat}{e:M D}{ρ:Rho}{ds:List D}{x:D}(ho:zl ρ[i]? = some ds)(he:e ρ=.ok x ρ)(hs:ds.length<16777216):Zx i e ρ=.ok .nx (ρ.set i (.own (ds++[x]))):=by
 unfold Zx
 rw[ho,zT,Res.bnd_ok,he,Res.bnd_ok,ho,zT,Res.bnd_ok,if_pos (by rw[sizeLine_eq];exact hs)]
theorem uc {i:Nat}{m:M Fl}{ρ:Rho}{ds:List D}{R:Fl->Rho->Prop}{X:Addr->Prop}(ho:zl ρ[i]? = some ds)(h:(m (ρ.set i (.fz (.lst ds)))).wp R X):(xI i m ρ).wp R X:=by unfold xI;rw[ho];exact h
theorem W9 {a:M D}{g:GM}{b:M Fl}{ρ ρ':Rho}{n:Nat}{R:Fl->Rho->Prop}{X:Addr->Prop}(e:a ρ=.ok (dn n) ρ')(h:n<1000000)(hw:(zj g b (yw n) ρ').wp R X):(YQ a g b ρ).wp R X:=by
 rw[p_forR,e,p_ok]
 unfold dn
 rw[s_range _ (by omega),oP_some,Int.toNat_natCast]
 exact hw
theorem Uc {a b:M D}{ρ ρ1 ρ2:Rho}{x y:D}(ea:a ρ=.ok x ρ1)(eb:b ρ1=.ok y ρ2):ZU [a,b] ρ=.ok (.tup [x,y]) ρ2:=by
 unfold ZU
 rw[zS ea (zS eb (show zk [] ρ2=.ok [] ρ2 from rfl)),Res.bnd_ok]
 rfl
theorem zAG {a b c:M D}{ρ ρ1 ρ2 ρ3:Rho}{x y z:D}(ea:a ρ=.ok x ρ1)(eb:b ρ1=.ok y ρ2)(ec:c ρ2=.ok z ρ3):ZU [a,b,c] ρ=.ok (.tup [x,y,z]) ρ3:=by
 unfold ZU
 rw[zS ea (zS eb (zS ec (show zk [] ρ3=.ok [] ρ3 from rfl))),Res.bnd_ok]
 rfl
theorem yj {a b:M D}{ρ ρ1 ρ2:Rho}{x y z:Int}(ea:a ρ=.ok (.int x) ρ1)(eb:b ρ1=.ok (.int y) ρ2)(h:z=x+y):op2 ZC a b ρ=.ok (.int z) ρ2:=by rw[h];exact zI ea eb rfl
theorem j8 {a b:M D}{ρ ρ1 ρ2:Rho}{x y z:Int}(ea:a ρ=.ok (.int x) ρ1)(eb:b ρ1=.ok (.int y) ρ2) (hx : -(2 ^ 64)<x/\x<2 ^ 64)(h:z=x * y):op2 Yd a b ρ=.ok (.int z) ρ2:=by rw[h];exact zI ea eb (Qv _ _ (.inl hx))
theorem W8 {a b:M D}{ρ ρ1 ρ2:Rho}{x y z:Int}(ea:a ρ=.ok (.int x) ρ1)(eb:b ρ1=.ok (.int y) ρ2)(hy:0<y)(h:z=x % y):op2 Zo a b ρ=.ok (.int z) ρ2:=by rw[h];exact zI ea eb (s_mod _ _ hy)
theorem zAr (a b:Nat):eqD (dn a) (dn b)=some (.bl (decide (a=b))):=by
 show some (D.bl ((D.int (a:Int)).eqv (.int (b:Int))))=_
 rw[Wz,decide_eq_decide.mpr (show ((a:Int)=(b:Int)) ↔ a=b by omega)]
theorem b_len {l:List Nat}:Z8 (.lst (dns l))=some (dn l.length):=by show some (D.int ((dns l).length:Nat))=_;rw[List.length_map];rfl
theorem j9 {e:M D}{g:GM}{ρ ρ1 ρ2:Rho}{x:D}(he:e ρ=.ok x ρ1)(hg:g x ρ1=some ρ2):XM e g ρ=.ok .nx ρ2:=by unfold XM;rw[he,Res.bnd_ok,hg];rfl
theorem zAi {c:M Bool}{ρ ρ':Rho}{b:Bool}(h:c ρ=.ok b ρ'):X3 c ρ=.ok (!b) ρ':=by unfold X3;rw[h];rfl
theorem Ue {i:Nat}{ρ:Rho}{l:List Nat}(h:zl ρ[i]? = some (dns l)):Yh i ρ=.ok (dn l.length) ρ:=by unfold Yh;rw[h];show Res.ok (D.int ((dns l).length:Nat)) ρ=_;rw[List.length_map];rfl
theorem zAq {a b:M D}{ρ ρ1 ρ2:Rho}{x y:Nat}(ea:a ρ=.ok (dn x) ρ1)(eb:b ρ1=.ok (dn y) ρ2):zL zV (op2 ltD a b) ρ=.ok (decide (x<y)) ρ2:=by
 refine ZD (x:=.bl (decide (x<y))) (zI ea eb ?_) rfl
 show some (D.bl (decide ((x:Int)<(y:Int))))=_
 rw[decide_eq_decide.mpr (show ((x:Int)<(y:Int)) ↔ x<y by omega)]
theorem kd {i j:Nat}{e:M D}{ρ:Rho}{l:List Nat}(ho:zl ρ[i]? = some (dns l))(he:e ρ=.ok (dn j) ρ)(hj:j<l.length)(hz:l.length<=16777216):YE i e ρ=.ok (dn (nth l j)) (ρ.set i (.own (dns (l.eraseIdx j)))):=by
 unfold YE
 rw[ho,zT,Res.bnd_ok,he,Res.bnd_ok,ho,zT,Res.bnd_ok]
 have h1:(dns l)[j]? = some (dn (nth l j)):=by rw[List.getElem?_map,getElem?_getD hj];rfl
 have hl:(dns l).length=l.length:=List.length_map _
 have h2:(dns l).eraseIdx j=dns (l.eraseIdx j):=Xo _ _ _
 have h3:yf (dns l).length (j:Int)=some j:=by rw[hl];exact Wp hj
 show (zO (if (dns l).length<=sizeLine then yf (dns l).length (j:Int) else none) ρ).bnd _=_
 rw[if_pos (by rw[hl,sizeLine_eq];exact hz),h3,zT,Res.bnd_ok,h1,zT,Res.bnd_ok,h2]
theorem Ud {i n:Nat}{e:M D}{ρ ρ':Rho}(he:e ρ=.ok (dn n) ρ')(h:n<1000000):yX i e ρ=.ok .nx (ρ'.set i (.own (dns (List.range n)))):=by
 unfold yX
 rw[he,Res.bnd_ok,show dn n=.int (n:Int) from rfl,s_range _ (by omega),zT,Res.bnd_ok,Int.toNat_natCast,if_pos (by rw[sizeLine_eq];simp[yw];omega)]
 rfl
theorem zAH {a b:M D}{ρ ρ1 ρ2:Rho}{x y z:Int}(ea:a ρ=.ok (.int x) ρ1)(eb:b ρ1=.ok (.int y) ρ2)(hy:0<y/\y<1073741824)(h:z=x / y):op2 Z3 a b ρ=.ok (.int z) ρ2:=by
 rw[h]
 refine zI ea eb ?_
 show (if 0<y/\y<1073741824 then _ else _)=_
 rw[if_pos hy]
theorem zAg {a b:M D}{ρ ρ1 ρ2:Rho}{x y z:Int}(ea:a ρ=.ok (.int x) ρ1)(eb:b ρ1=.ok (.int y) ρ2)(h:z=x - y):op2 Vw a b ρ=.ok (.int z) ρ2:=by rw[h];exact zI ea eb rfl
theorem KJ {a b:M D}{ρ ρ1 ρ2:Rho}{x y:Int}(ea:a ρ=.ok (.int x) ρ1)(eb:b ρ1=.ok (.int y) ρ2):zL zV (op2 eqD a b) ρ=.ok (decide (x=y)) ρ2:=by
 refine ZD (x:=.bl (decide (x=y))) (zI ea eb ?_) rfl
 show some (D.bl ((D.int x).eqv (.int y)))=_
 rw[Wz]
theorem kg {c:M Bool}{a b:M D}{ρ ρ':Rho}{r:Res D}(e:c ρ=.ok true ρ')(h:a ρ'=r):ym c a b ρ=r:=by unfold ym;rw[e];exact h
theorem kh {c:M Bool}{a b:M D}{ρ ρ':Rho}{r:Res D}(e:c ρ=.ok false ρ')(h:b ρ'=r):ym c a b ρ=r:=by unfold ym;rw[e];exact h
noncomputable def rR (s:D) (k many most:Nat)(left found:List Nat):Rho:=[.fz s,.fz (dn k),.fz (dn many),.fz (dn most),.own (dns left),.own (dns found)]
theorem qO {s:D}{mx:Nat->Nat}(hs:Xs s mx) (k many most:Nat)(h:many<=most)(hm:most<1000):ZZ [s,dn k,dn many,dn most]=.ok (.tup (dns (Xt mx k many most))):=by
 refine yO ?_
 refine zP (ρ':=[.fz s,.fz (dn k),.fz (dn many),.fz (dn most),.own (dns (List.range most)),.un]) (Ud (i:=4) (n:=most) (by rfl) (by omega)) ?_
 refine zP (ρ':=(rR s k many most (List.range most) [])) (by rfl) ?_
 refine yV (λρ=>∃ left,ρ=(rR s k many most left (Xt mx k many most))) ?_ ?_
 ·refine Vr (λi ρ=>∃ left found:List Nat,i=many - found.length/\found.length<=many/\left.length+found.length=most/\WU mx k (many - found.length) left found=Xt mx k many most/\ρ=(rR s k many most left found)) many (by rw[U3];omega) ⟨List.range most,[],rfl,Nat.zero_le _,by simp,rfl,rfl⟩ ?_
  rintro i ρ ⟨left,found,rfl,hf,hl,hp,rfl⟩
  refine zZ (zAq (x:=found.length) (y:=many) (ρ1:=(rR s k many most left found)) (Ue (by rfl)) (by rfl)) ?_
  by_cases hlt:found.length<many
  ·rw[decide_eq_true hlt,if_pos rfl]
   have hleft:0<left.length:=by omega
   have hj:mx (k+found.length) % left.length<left.length:=Nat.mod_lt _ hleft
   have hc:YE 4 (op2 Zo (zR zN [vM 0,op2 ZC (vM 1) (Yh 5)]) (Yh 4)) (rR s k many most left found)=.ok (dn (nth left (mx (k+found.length) % left.length))) (rR s k many most (left.eraseIdx (mx (k+found.length) % left.length)) found):=
    kd (i:=4) (j:=mx (k+found.length) % left.length) (l:=left) (ρ:=(rR s k many most left found)) (by rfl) (W8 (x:=(mx (k+found.length):Int)) (y:=(left.length:Int)) (xQ (F:=zN) (xs:=[s,.int ((k+found.length:Nat):Int)]) (zS (x:=s) (ρ1:=(rR s k many most left found)) (by rfl) (zS (ρ1:=(rR s k many most left found)) (yj (x:=(k:Int)) (y:=(found.length:Int)) (by rfl) (Ue (by rfl)) (by omega)) (by rfl))) (hs _)) (Ue (by rfl)) (by omega) (by omega)) hj (by omega)
   have ha:Zx 5 (YE 4 (op2 Zo (zR zN [vM 0,op2 ZC (vM 1) (Yh 5)]) (Yh 4))) (rR s k many most left found)=.ok .nx (rR s k many most (left.eraseIdx (mx (k+found.length) % left.length)) (found++[nth left (mx (k+found.length) % left.length)])):=by
    unfold Zx
    show (YE 4 _ _).bnd _=_
    rw[hc,Res.bnd_ok]
    show (if (dns found).length<sizeLine then _ else _)=_
    unfold rR
    rw[if_pos (by rw[List.length_map,sizeLine_eq];omega),show dns (found++[nth left (mx (k+found.length) % left.length)])=dns found++[dn (nth left (mx (k+found.length) % left.length))] from List.map_append]
    rfl
   refine zZ ha ⟨many - (found.length+1),by omega,left.eraseIdx (mx (k+found.length) % left.length),found++[nth left (mx (k+found.length) % left.length)],by rw[List.length_append];rfl,by rw[List.length_append];show found.length+1<=many;omega,by rw[List.length_append,List.length_eraseIdx,if_pos hj];show left.length - 1+(found.length+1)=most;omega,?_,rfl⟩
   rw[<-hp,List.length_append,show many - found.length=(many - (found.length+1))+1 by omega]
   rfl
  ·rw[decide_eq_false hlt,if_neg (by decide)]
   have e:many - found.length=0:=by omega
   rw[e]at hp
   exact⟨rfl,left,by rw[<-hp];rfl⟩
 ·rintro ρ ⟨left,rfl⟩
  exact uc (ds:=dns (Xt mx k many most)) (by rfl) (zZ (v8 (x:=.tup (dns (Xt mx k many most))) (by rfl)) rfl)
theorem WV {α:Type}:∀ {l:List α}{j:Nat}(h:j<l.length),(l[j]::l.eraseIdx j).Perm l
 |a::r,0,_=>List.Perm.refl _
 |a::r,j+1,h=>(List.Perm.swap _ _ _).trans ((WV (l:=r) (j:=j) (by simpa using h)).cons a)
theorem vY (mx:Nat->Nat) (k:Nat):∀ (n:Nat)(left found:List Nat),n<=left.length->(left++found).Nodup->(WU mx k n left found).length=found.length+n/\(WU mx k n left found).Nodup/\∀ x ∈ WU mx k n left found,x ∈ left\/x ∈ found
 |0,left,found,_,hd=>⟨by simp[WU],by simpa[WU] using (List.nodup_append.mp hd).2.1,λx hx=>by simp[WU]at hx;exact .inr hx⟩
 |n+1,left,found,hn,hd=>by
  have hj:mx (k+found.length) % left.length<left.length:=Nat.mod_lt _ (by omega)
  generalize hJ:mx (k+found.length) % left.length=j at hj
  have hm:nth left j ∈ left:=List.mem_of_getElem? (getElem?_getD hj)
  have hpm:left.Perm (nth left j::left.eraseIdx j):=by
   unfold nth
   rw[List.getElem?_eq_getElem hj]
   exact (WV hj).symm
  have hd2:(left.eraseIdx j++(found++[nth left j])).Nodup:=by
   refine (List.Perm.nodup_iff ?_).mp hd
   refine (hpm.append_right found).trans ?_
   rw[List.cons_append,<-List.append_assoc]
   exact (List.perm_append_singleton _ _).symm
  obtain⟨h1,h2,h3⟩:=vY mx k n (left.eraseIdx j) (found++[nth left j]) (by rw[List.length_eraseIdx,if_pos hj];omega) hd2
  have e:WU mx k (n+1) left found=WU mx k n (left.eraseIdx j) (found++[nth left j]):=by rw[<-hJ];rfl
  rw[e]
  refine⟨by rw[h1];simp;omega,h2,λx hx=>?_⟩
  rcases h3 x hx with h | h
  ·exact .inl (List.mem_of_mem_eraseIdx h)
  ·rcases List.mem_append.mp h with h | h
   ·exact .inr h
   ·rw[List.mem_singleton.mp h];exact .inl hm
theorem JO (mx:Nat->Nat) (k many most:Nat)(h:many<=most):(Xt mx k many most).length=many/\(Xt mx k many most).Nodup/\∀ x ∈ Xt mx k many most,x<most:=by
 obtain⟨h1,h2,h3⟩:=vY mx k many (List.range most) [] (by simpa using h) (by simpa using List.nodup_range)
 exact⟨by simpa[Xt] using h1,h2,λx hx=>by simpa using h3 x hx⟩
noncomputable abbrev Mv:=Int×List Int
noncomputable abbrev Stt:=Bool×Int×List Mv
noncomputable def eMv (m:Mv):D:=.tup [.int m.1,.tup (m.2.map .int)]
noncomputable def eSt (s:Stt):D:=.tup [.bl s.1,.int s.2.1,.lst (s.2.2.map eMv)]
noncomputable def eM (m:List Stt):D:=.lst (m.map eSt)
noncomputable def zs (l:List Nat):List Int:=l.map λn:Nat=>(n:Int)
noncomputable def z0 (mx:Nat->Nat) (k most:Nat):List Nat:=0::(List.range (mx k % most)).map λj=>nth [0,1,1,2] (mx (k+1+j) % 4)
noncomputable def YG (bs:List Nat) (s c:Nat):Nat:=nth bs s+if c=nth bs s then 1 else 0
noncomputable def zx (bs:List Nat) (far:Nat):List Nat:=(List.range bs.length).filter λg=>decide (nth bs g<=far)
noncomputable def gGoal (mx:Nat->Nat) (k:Nat)(bs:List Nat) (s c:Nat):Nat:=nth (zx bs (YG bs s c)) (mx (k+8+5 * s+c) % (zx bs (YG bs s c)).length)
noncomputable def U1 (mx:Nat->Nat) (k:Nat)(bs:List Nat) (s c:Nat):List Nat:=Xt mx (k+40+9 * s+3 * c) (nth bs (gGoal mx k bs s c)) (YG bs s c)
noncomputable def YO (mx:Nat->Nat) (k:Nat)(bs:List Nat) (s c:Nat):Mv:=((gGoal mx k bs s c:Int),zs (U1 mx k bs s c))
noncomputable def uN (mx:Nat->Nat) (k s:Nat):Bool:=decide (mx (k+30+s) / 4 % 2=0)
noncomputable def ZW (mx:Nat->Nat) (k:Nat)(bs:List Nat) (s:Nat):Stt:=(uN mx k s,(nth bs s:Int),(List.range (nth bs s+1)).map (YO mx k bs s))
noncomputable def gM (mx:Nat->Nat) (k most:Nat):List Stt:=(List.range (z0 mx k most).length).map (ZW mx k (z0 mx k most))
theorem zAE (l:List Nat):dns l=(zs l).map .int:=by simp[dns,zs,dn]
theorem XG (mx:Nat->Nat) (k most:Nat)(h:0<most):(z0 mx k most).length<=most/\0<(z0 mx k most).length:=by
 have:=Nat.mod_lt (mx k) h
 simp[z0];omega
theorem vq (mx:Nat->Nat) (k most s:Nat):nth (z0 mx k most) s<=2:=by
 unfold nth
 cases q:(z0 mx k most)[s]? with
 |none=>simp
 |some b=>
  have hb:=List.mem_of_getElem? q
  unfold z0 at hb
  rcases List.mem_cons.mp hb with rfl | hb
  ·simp
  ·obtain⟨j,_,rfl⟩:=List.mem_map.mp hb
   have:mx (k+1+j) % 4<4:=Nat.mod_lt _ (by decide)
   generalize mx (k+1+j) % 4=x at this
   match x,this with
   |0,_=>decide
   |1,_=>decide
   |2,_=>decide
   |3,_=>decide
theorem XF {bs:List Nat}{far g:Nat}:g ∈ zx bs far ↔ g<bs.length/\nth bs g<=far:=by simp[zx]
theorem Wr (mx:Nat->Nat) (k most far:Nat):0<(zx (z0 mx k most) far).length:=by
 refine List.length_pos_of_mem (a:=0) (XF.mpr ⟨by simp[z0],by simp[z0,nth]⟩)
theorem vp (mx:Nat->Nat) (k most s c:Nat):gGoal mx k (z0 mx k most) s c ∈ zx (z0 mx k most) (YG (z0 mx k most) s c):=by
 unfold gGoal
 exact List.mem_of_getElem? (getElem?_getD (Nat.mod_lt _ (Wr mx k most _)))
theorem wM {l:List Nat}{j:Nat}(h:j<l.length):atD (dns l) (j:Int)=some (dn (nth l j)):=ZI dn l j _ (getElem?_getD h)
theorem zAJ {l:List Nat}{j:Nat}{z:Int}(e:z=j)(h:j<l.length):atD (dns l) z=some (dn (nth l j)):=by rw[e];exact wM h
noncomputable def rM (s:D) (k most:Nat)(bs:List Nat)(st:List D)(j1 j2 j3 j4 j5 j6 j7:Slot):Rho:=[.fz s,.fz (dn k),.fz (dn most),.fz (.lst (dns bs)),j1,.own st,j2,j3,j4,j5,j6,j7]
noncomputable def inM:M Fl:=(zH (ZK 9 (op2 ZC (op2 ixD (vM 3) (vM 6)) (zY (ZB Xr) [op2 eqD (vM 8) (op2 ixD (vM 3) (vM 6))])))
 (zH (ZP false 10 (zq yM (zY (ZB Z8) [vM 3])) 1 [3,9] (zz 0) (some (zL zV (op2 leD (op2 ixD (vM 1) (vM 0)) (vM 2)))) (vM 0))
 (zH (ZK 11 (op2 ixD (vM 10) (op2 Zo (zR zN [vM 0,op2 ZC (op2 ZC (op2 ZC (vM 1) (cM (.int 8))) (op2 Yd (cM (.int 5)) (vM 6))) (vM 8)]) (zY (ZB Z8) [vM 10]))))
 (Zx 7 (ZU [vM 11,zR ZZ [vM 0,op2 ZC (op2 ZC (op2 ZC (vM 1) (cM (.int 40))) (op2 Yd (cM (.int 9)) (vM 6))) (op2 Yd (cM (.int 3)) (vM 8)),op2 ixD (vM 3) (vM 11),vM 9]])))))
theorem kL {s:D}{mx:Nat->Nat}(hs:Xs s mx) (k most:Nat)(bs:List Nat)(hbl:bs.length<=100/\0<bs.length)(hb2:∀ s,nth bs s<=2)(hgp:∀ far,0<(zx bs far).length)(hgm:∀ s c,gGoal mx k bs s c ∈ zx bs (YG bs s c)){i c:Nat}(hi:i<bs.length){st mv:List D}(hmv:mv.length<=100){j1 j5 j6 j7:Slot} :
  inM (rM s k most bs st j1 (.fz (dn i)) (.own mv) (.fz (dn c)) j5 j6 j7)=.ok .nx (rM s k most bs st j1 (.fz (dn i)) (.own (mv++[eMv (YO mx k bs i c)])) (.fz (dn c)) (.fz (dn (YG bs i c))) (.fz (.lst (dns (zx bs (YG bs i c))))) (.fz (dn (gGoal mx k bs i c)))):=by
 have eb:atD (dns bs) (i:Int)=some (dn (nth bs i)):=wM hi
 have b2:=hb2 i
 have hix:op2 ixD (vM 3) (vM 6) (rM s k most bs st j1 (.fz (dn i)) (.own mv) (.fz (dn c)) j5 j6 j7)=.ok (dn (nth bs i)) (rM s k most bs st j1 (.fz (dn i)) (.own mv) (.fz (dn c)) j5 j6 j7):=zI (x:=.lst (dns bs)) (y:=dn i) (by rfl) (by rfl) eb
 have hf:dn (YG bs i c)=.int ((nth bs i:Int)+if c=nth bs i then 1 else 0):=by
  unfold dn YG
  split<;>simp
 unfold inM
 rw[VG (ρ':=rM s k most bs st j1 (.fz (dn i)) (.own mv) (.fz (dn c)) (.fz (dn (YG bs i c))) j6 j7) (b_set (i:=9) (ρ':=rM s k most bs st j1 (.fz (dn i)) (.own mv) (.fz (dn c)) j5 j6 j7) (by rw[hf];exact yj hix (xc (zI (x:=dn c) (y:=dn (nth bs i)) (by rfl) hix (zAr _ _)) (show Xr (.bl (decide (c=nth bs i)))=some (.int (if c=nth bs i then 1 else 0)) by by_cases h:c=nth bs i<;>simp[h,Xr])) rfl))]
 have hgi:=hgm i c
 have hsr:U1 mx k bs i c=Xt mx (k+40+9 * i+3 * c) (nth bs (gGoal mx k bs i c)) (YG bs i c):=rfl
 have hgo:gGoal mx k bs i c=nth (zx bs (YG bs i c)) (mx (k+8+5 * i+c) % (zx bs (YG bs i c)).length):=rfl
 have hmvq:YO mx k bs i c=((gGoal mx k bs i c:Int),zs (U1 mx k bs i c)):=rfl
 have hf3:YG bs i c<=3:=by unfold YG;split<;>omega
 rw[hmvq,hsr]
 generalize YG bs i c=far at hf3 hgi hgo ⊢
 have hpos:=hgp far
 have hmod:mx (k+8+5 * i+c) % (zx bs far).length<(zx bs far).length:=Nat.mod_lt _ hpos
 obtain⟨hg1,hg2⟩:=XF.mp hgi
 have hm:zq yM (zY (ZB Z8) [vM 3]) (rM s k most bs st j1 (.fz (dn i)) (.own mv) (.fz (dn c)) (.fz (dn far)) j6 j7)=.ok (dns (List.range bs.length)) (rM s k most bs st j1 (.fz (dn i)) (.own mv) (.fz (dn c)) (.fz (dn far)) j6 j7):=by
  unfold zq
  rw[xc (x:=.lst (dns bs)) (d:=dn bs.length) (ρ':=rM s k most bs st j1 (.fz (dn i)) (.own mv) (.fz (dn c)) (.fz (dn far)) j6 j7) (by rfl) b_len,Res.bnd_ok]
  unfold dn
  rw[s_range _ (by omega),Int.toNat_natCast]
  rfl
 rw[VG (ρ':=rM s k most bs st j1 (.fz (dn i)) (.own mv) (.fz (dn c)) (.fz (dn far)) (.fz (.lst (dns (zx bs far)))) j7) (by
  rw[WJ (own:=false) (i:=10) (caps:=[.fz (.lst (dns bs)),.fz (dn far)]) (λd=>match d with | .int z=>decide (nth bs z.toNat<=far) | _=>false) id hm rfl (by rw[List.length_map,List.length_range,sizeLine_eq];omega) (λd hd acc=>by
   obtain⟨x,hx,rfl⟩:=List.mem_map.mp hd
   have hx':x<bs.length:=by simpa using hx
   refine ZD (x:=.bl (decide (nth bs x<=far))) (zI (x:=dn (nth bs x)) (y:=dn far) (ρ1:=[.fz (dn x)]++[.fz (.lst (dns bs)),.fz (dn far)]++[.own acc]) (zI (f:=ixD) (x:=.lst (dns bs)) (y:=dn x) (by rfl) (by rfl) (wM hx')) (by rfl) (by
    show some (D.bl (decide ((nth bs x:Int)<=(far:Int))))=_
    rw[decide_eq_decide.mpr (show ((nth bs x:Int)<=(far:Int)) ↔ nth bs x<=far by omega)])) (by
    show some (decide (nth bs x<=far))=some (decide (nth bs ((x:Int)).toNat<=far))
    rw[Int.toNat_natCast])) (λd hd acc hp=>by rfl)]
  unfold rM
  rw[List.map_id,dns,List.filter_map]
  rfl)]
 rw[VG (ρ':=rM s k most bs st j1 (.fz (dn i)) (.own mv) (.fz (dn c)) (.fz (dn far)) (.fz (.lst (dns (zx bs far)))) (.fz (dn (gGoal mx k bs i c)))) (b_set (i:=11) (ρ':=rM s k most bs st j1 (.fz (dn i)) (.own mv) (.fz (dn c)) (.fz (dn far)) (.fz (.lst (dns (zx bs far)))) j7) (zI (x:=.lst (dns (zx bs far))) (y:=dn (mx (k+8+5 * i+c) % (zx bs far).length)) (ρ1:=rM s k most bs st j1 (.fz (dn i)) (.own mv) (.fz (dn c)) (.fz (dn far)) (.fz (.lst (dns (zx bs far)))) j7) (by rfl)
  (W8 (x:=(mx (k+8+5 * i+c):Int)) (y:=((zx bs far).length:Int)) (ρ1:=rM s k most bs st j1 (.fz (dn i)) (.own mv) (.fz (dn c)) (.fz (dn far)) (.fz (.lst (dns (zx bs far)))) j7) (xQ (F:=zN) (xs:=[s,.int ((k+8+5 * i+c:Nat):Int)]) (zS (x:=s) (ρ1:=rM s k most bs st j1 (.fz (dn i)) (.own mv) (.fz (dn c)) (.fz (dn far)) (.fz (.lst (dns (zx bs far)))) j7) (by rfl) (zS (ρ1:=rM s k most bs st j1 (.fz (dn i)) (.own mv) (.fz (dn c)) (.fz (dn far)) (.fz (.lst (dns (zx bs far)))) j7) (yj (x:=(k:Int)+8+5 * (i:Int)) (y:=(c:Int)) (yj (x:=(k:Int)+8) (y:=5 * (i:Int)) (yj (x:=(k:Int)) (y:=8) (by rfl) (by rfl) rfl) (j8 (x:=5) (y:=(i:Int)) (by rfl) (by rfl) (by decide) rfl) rfl) (by rfl) (by omega)) (by rfl))) (hs _)) (xc (x:=.lst (dns (zx bs far))) (by rfl) b_len) (by omega) (by omega)) (by rw[hgo];exact wM hmod)))]
 have es:=qO hs (k+40+9 * i+3 * c) (nth bs (gGoal mx k bs i c)) far hg2 (by omega)
 rw[ud (i:=7) (ds:=mv) (x:=.tup [dn (gGoal mx k bs i c),.tup (dns (Xt mx (k+40+9 * i+3 * c) (nth bs (gGoal mx k bs i c)) far))]) (by rfl) (Uc (ρ1:=rM s k most bs st j1 (.fz (dn i)) (.own mv) (.fz (dn c)) (.fz (dn far)) (.fz (.lst (dns (zx bs far)))) (.fz (dn (gGoal mx k bs i c)))) (by rfl) (xQ (F:=ZZ) (xs:=[s,dn (k+40+9 * i+3 * c),dn (nth bs (gGoal mx k bs i c)),dn far]) (zS (x:=s) (ρ1:=rM s k most bs st j1 (.fz (dn i)) (.own mv) (.fz (dn c)) (.fz (dn far)) (.fz (.lst (dns (zx bs far)))) (.fz (dn (gGoal mx k bs i c)))) (by rfl) (zS (ρ1:=rM s k most bs st j1 (.fz (dn i)) (.own mv) (.fz (dn c)) (.fz (dn far)) (.fz (.lst (dns (zx bs far)))) (.fz (dn (gGoal mx k bs i c)))) (yj (x:=(k:Int)+40+9 * (i:Int)) (y:=3 * (c:Int)) (yj (x:=(k:Int)+40) (y:=9 * (i:Int)) (yj (x:=(k:Int)) (y:=40) (by rfl) (by rfl) rfl) (j8 (x:=9) (y:=(i:Int)) (by rfl) (by rfl) (by decide) rfl) rfl) (j8 (x:=3) (y:=(c:Int)) (by rfl) (by rfl) (by decide) rfl) (by omega)) (zS (ρ1:=rM s k most bs st j1 (.fz (dn i)) (.own mv) (.fz (dn c)) (.fz (dn far)) (.fz (.lst (dns (zx bs far)))) (.fz (dn (gGoal mx k bs i c)))) (zI (f:=ixD) (x:=.lst (dns bs)) (y:=dn (gGoal mx k bs i c)) (by rfl) (by rfl) (wM hg1)) (by rfl)))) es)) (by omega)]
 unfold eMv
 rw[zAE (Xt mx (k+40+9 * i+3 * c) (nth bs (gGoal mx k bs i c)) far)]
 rfl
theorem VY {s:D}{mx:Nat->Nat}(hs:Xs s mx) (k most:Nat)(bs:List Nat)(j:Slot)(hbl:bs.length<=100/\0<bs.length)(hb2:∀ s,nth bs s<=2)(hgp:∀ far,0<(zx bs far).length)(hgm:∀ s c,gGoal mx k bs s c ∈ zx bs (YG bs s c)) :
  ((zH (x8 5 [])
 (xI 3 (zH (YQ (zY (ZB Z8) [vM 3]) (zz 6) (zH (x8 7 [])
 (zH (YQ (op2 ZC (op2 ixD (vM 3) (vM 6)) (cM (.int 1))) (zz 8) inM)
 (xI 7 (Zx 5 (ZU [op2 eqD (op2 Zo (op2 Z3 (zR zN [vM 0,op2 ZC (op2 ZC (vM 1) (cM (.int 30))) (vM 6)]) (cM (.int 4))) (cM (.int 2))) (cM (.int 0)),op2 ixD (vM 3) (vM 6),vM 7]))))))
 (xI 5 (ZQ (vM 5)))))) [.fz s,.fz (dn k),.fz (dn most),.own (dns bs),j,.un,.un,.un,.un,.un,.un,.un]).wp (Fl.fin λx=>x=eM ((List.range bs.length).map (ZW mx k bs))) λ_=>False:=by
 refine zP (ρ':=[.fz s,.fz (dn k),.fz (dn most),.own (dns bs),j,.own [],.un,.un,.un,.un,.un,.un]) (by rfl) (uc (ds:=dns bs) (by rfl) ?_)
 refine yV (λρ=>∃ j1 j2 j3 j4 j5 j6 j7,ρ=rM s k most bs ((List.range bs.length).map λi=>eSt (ZW mx k bs i)) j1 j2 j3 j4 j5 j6 j7) (W9 (n:=bs.length) (ρ':=rM s k most bs [] j .un .un .un .un .un .un) (xc (x:=.lst (dns bs)) (by rfl) b_len) (by omega)
  (y6 (λi ρ=>∃ j1 j2 j3 j4 j5 j6 j7,ρ=rM s k most bs ((List.range i).map λi=>eSt (ZW mx k bs i)) j1 j2 j3 j4 j5 j6 j7) ⟨_,_,_,_,_,_,_,rfl⟩ ?_ λρ h=>⟨rfl,h⟩)) ?_
 ·rintro i ρ hi ⟨j1,j2,j3,j4,j5,j6,j7,rfl⟩
  have eb:atD (dns bs) (i:Int)=some (dn (nth bs i)):=wM hi
  have b2:=hb2 i
  generalize hst:((List.range i).map λi=>eSt (ZW mx k bs i))=st
  have hsl:st.length=i:=by rw[<-hst];simp
  refine⟨rM s k most bs st j1 (.fz (dn i)) j3 j4 j5 j6 j7,rfl,?_⟩
  refine zP (ρ':=rM s k most bs st j1 (.fz (dn i)) (.own []) j4 j5 j6 j7) (by rfl) ?_
  refine yV (λρ=>∃ j4 j5 j6 j7,ρ=rM s k most bs st j1 (.fz (dn i)) (.own ((List.range (nth bs i+1)).map λc=>eMv (YO mx k bs i c))) j4 j5 j6 j7) (W9 (n:=nth bs i+1) (ρ':=rM s k most bs st j1 (.fz (dn i)) (.own []) j4 j5 j6 j7) (yj (zI (f:=ixD) (x:=.lst (dns bs)) (y:=dn i) (by rfl) (by rfl) eb) (by rfl) (by omega)) (by omega)
   (y6 (λc ρ=>∃ j4 j5 j6 j7,ρ=rM s k most bs st j1 (.fz (dn i)) (.own ((List.range c).map λc=>eMv (YO mx k bs i c))) j4 j5 j6 j7) ⟨_,_,_,_,rfl⟩ ?_ λρ h=>⟨rfl,h⟩)) ?_
  ·rintro c ρ hc ⟨j4,j5,j6,j7,rfl⟩
   refine⟨rM s k most bs st j1 (.fz (dn i)) (.own ((List.range c).map λc=>eMv (YO mx k bs i c))) (.fz (dn c)) j5 j6 j7,rfl,zZ (kL hs k most bs hbl hb2 hgp hgm hi (by simp;omega)) ⟨.fz (dn c),.fz (dn (YG bs i c)),.fz (.lst (dns (zx bs (YG bs i c)))),.fz (dn (gGoal mx k bs i c)),?_⟩⟩
   rw[List.range_succ,List.map_append]
   rfl
  ·rintro ρ ⟨j4,j5,j6,j7,rfl⟩
   refine uc (ds:=(List.range (nth bs i+1)).map λc=>eMv (YO mx k bs i c)) (by rfl) ?_
   have e:decide ((mx (k+30+i):Int) / 4 % 2=0)=uN mx k i:=decide_eq_decide.mpr (by omega)
   generalize hmvs:((List.range (nth bs i+1)).map λc=>eMv (YO mx k bs i c))=mvs
   have hk:zR zN [vM 0,op2 ZC (op2 ZC (vM 1) (cM (.int 30))) (vM 6)] (rM s k most bs st j1 (.fz (dn i)) (.fz (.lst mvs)) j4 j5 j6 j7)=.ok (.int (mx (k+30+i):Int)) (rM s k most bs st j1 (.fz (dn i)) (.fz (.lst mvs)) j4 j5 j6 j7):=xQ (F:=zN) (xs:=[s,.int ((k+30+i:Nat):Int)]) (zS (x:=s) (ρ1:=(rM s k most bs st j1 (.fz (dn i)) (.fz (.lst mvs)) j4 j5 j6 j7)) (by rfl) (zS (ρ1:=(rM s k most bs st j1 (.fz (dn i)) (.fz (.lst mvs)) j4 j5 j6 j7)) (yj (x:=(k:Int)+30) (y:=(i:Int)) (yj (x:=(k:Int)) (y:=30) (by rfl) (by rfl) rfl) (by rfl) (by omega)) (by rfl))) (hs _)
   have hd:op2 Zo (op2 Z3 (zR zN [vM 0,op2 ZC (op2 ZC (vM 1) (cM (.int 30))) (vM 6)]) (cM (.int 4))) (cM (.int 2)) (rM s k most bs st j1 (.fz (dn i)) (.fz (.lst mvs)) j4 j5 j6 j7)=.ok (.int ((mx (k+30+i):Int) / 4 % 2)) (rM s k most bs st j1 (.fz (dn i)) (.fz (.lst mvs)) j4 j5 j6 j7):=W8 (x:=(mx (k+30+i):Int) / 4) (y:=2) (zI (f:=Z3) (x:=.int (mx (k+30+i):Int)) (y:=.int 4) hk (by rfl) (by rfl)) (by rfl) (by omega) rfl
   have hg:op2 eqD (op2 Zo (op2 Z3 (zR zN [vM 0,op2 ZC (op2 ZC (vM 1) (cM (.int 30))) (vM 6)]) (cM (.int 4))) (cM (.int 2))) (cM (.int 0)) (rM s k most bs st j1 (.fz (dn i)) (.fz (.lst mvs)) j4 j5 j6 j7)=.ok (.bl (uN mx k i)) (rM s k most bs st j1 (.fz (dn i)) (.fz (.lst mvs)) j4 j5 j6 j7):=zI (f:=eqD) (y:=.int 0) hd (by rfl) (by
    show some (D.bl ((D.int ((mx (k+30+i):Int) / 4 % 2)).eqv (.int 0)))=_
    rw[Wz,e])
   refine zZ (ud (i:=5) (ρ:=(rM s k most bs st j1 (.fz (dn i)) (.fz (.lst mvs)) j4 j5 j6 j7)) (ds:=st) (x:=.tup [.bl (uN mx k i),dn (nth bs i),.lst mvs]) (by rfl) (zAG hg (zI (f:=ixD) (x:=.lst (dns bs)) (y:=dn i) (by rfl) (by rfl) eb) (by rfl)) (by omega)) ?_
   refine⟨j1,.fz (dn i),.fz (.lst mvs),j4,j5,j6,j7,?_⟩
   rw[show List.range (i+1)=List.range i++[i] from List.range_succ,List.map_append,hst]
   have:eSt (ZW mx k bs i)=.tup [.bl (uN mx k i),dn (nth bs i),.lst mvs]:=by rw[<-hmvs];unfold eSt ZW;rw[List.map_map];rfl
   rw[show [i].map (λi=>eSt (ZW mx k bs i))=[eSt (ZW mx k bs i)] from rfl,this]
   rfl
 ·rintro ρ ⟨j1,j2,j3,j4,j5,j6,j7,rfl⟩
  refine uc (ds:=(List.range bs.length).map λi=>eSt (ZW mx k bs i)) (by rfl) (zZ (v8 (by rfl)) ?_)
  show D.lst _=eM _
  unfold eM
  rw[List.map_map]
  rfl
noncomputable def rX (s:D) (k most:Nat)(l:List Nat)(j:Slot):Rho:=[.fz s,.fz (dn k),.fz (dn most),.own (dns l),j,.un,.un,.un,.un,.un,.un,.un]
theorem qQ {s:D}{mx:Nat->Nat}(hs:Xs s mx) (k most:Nat)(h:0<most)(hm:most<100):yC [s,dn k,dn most]=.ok (eM (gM mx k most)):=by
 refine yO (zP (ρ':=rX s k most [0] .un) (by rfl) ?_)
 have hlt:=Nat.mod_lt (mx k) h
 refine yV (λρ=>∃ j,ρ=rX s k most (z0 mx k most) j) (W9 (n:=mx k % most) (ρ':=rX s k most [0] .un) (W8 (x:=(mx k:Int)) (y:=(most:Int)) (xQ (F:=zN) (xs:=[s,.int (k:Int)]) (by rfl) (hs k)) (by rfl) (by omega) (by push_cast;rfl)) (by omega)
  (y6 (λi ρ=>∃ j,ρ=rX s k most (0::(List.range i).map λj=>nth [0,1,1,2] (mx (k+1+j) % 4)) j) ⟨_,rfl⟩ ?_ λρ h=>⟨rfl,h⟩)) ?_
 ·rintro i ρ hi ⟨j,rfl⟩
  generalize hl:(0::(List.range i).map λj=>nth [0,1,1,2] (mx (k+1+j) % 4))=l
  have hll:l.length=i+1:=by rw[<-hl];simp
  refine⟨rX s k most l (.fz (dn i)),rfl,?_⟩
  have e:atD [D.int 0,D.int 1,D.int 1,D.int 2] ((mx (k+1+i):Int) % 4)=some (dn (nth [0,1,1,2] (mx (k+1+i) % 4))):=zAJ (l:=[0,1,1,2]) (by omega) (Nat.mod_lt _ (by decide))
  refine zZ (ud (i:=3) (ρ:=rX s k most l (.fz (dn i))) (ds:=dns l) (x:=dn (nth [0,1,1,2] (mx (k+1+i) % 4))) (by rfl) (zI (f:=ixD) (x:=.lst [.int 0,.int 1,.int 1,.int 2]) (y:=.int ((mx (k+1+i):Int) % 4)) (ρ1:=rX s k most l (.fz (dn i))) (by rfl) (W8 (x:=(mx (k+1+i):Int)) (y:=4) (xQ (F:=zN) (xs:=[s,.int ((k+1+i:Nat):Int)]) (zS (x:=s) (ρ1:=rX s k most l (.fz (dn i))) (by rfl) (zS (ρ1:=rX s k most l (.fz (dn i))) (yj (x:=(k:Int)+1) (y:=(i:Int)) (yj (x:=(k:Int)) (y:=1) (by rfl) (by rfl) rfl) (by rfl) (by omega)) (by rfl))) (hs _)) (by rfl) (by decide) rfl) e) (by rw[List.length_map];omega)) ⟨.fz (dn i),?_⟩
  rw[List.range_succ,List.map_append,<-List.cons_append,hl]
  unfold rX
  rw[show dns (l++[i].map λj=>nth [0,1,1,2] (mx (k+1+j) % 4))=dns l++[dn (nth [0,1,1,2] (mx (k+1+i) % 4))] from List.map_append]
  rfl
 ·rintro ρ ⟨j,rfl⟩
  have hbl:=XG mx k most h
  exact VY hs k most _ j ⟨by omega,hbl.2⟩ (vq mx k most) (Wr mx k most) (vp mx k most)
theorem FR.wp.mono {r:FR}{Q Q':D->Prop}{X X':Addr->Prop}(h:r.wp Q X)(hq:∀ d,Q d->Q' d)(hx:∀ c,X c->X' c):r.wp Q' X':=by
 cases h with
 |ok h=>exact .ok (hq _ h)
 |exn h=>exact .exn (hx _ h)
noncomputable def yi (m:List Stt) (g:Int):Int:=((m[g.toNat]?).map (·.2.1)).getD 0
noncomputable def vZ (most:Int)(ss:List Int):Bool:=decide ((ZA ss).length=ss.length) && ss.all λx=>decide (0<=x) && decide (x<most)
noncomputable def xh (m:List Stt) (most:Int)(v:Mv):Bool:=decide (0<=v.1) && decide (v.1<m.length) && decide ((v.2.length:Int)=yi m v.1) && vZ most v.2
noncomputable def wg (m:List Stt)(s:Stt):Bool:=decide (0<=s.2.1) && decide (s.2.1<=6) && decide ((s.2.2.length:Int)=s.2.1+1) && (s.2.2.take s.2.1.toNat).all (xh m s.2.1) && ((s.2.2[s.2.1.toNat]?).map (xh m (s.2.1+1))).getD false
noncomputable def Xm (m:List Stt):Bool:=decide (1<=m.length) && decide (m.length<=400) && decide (yi m 0=0) && m.all (wg m)
noncomputable def qD (m:List Stt):Prop:=∀ s ∈ m,∀ v ∈ s.2.2,v.2.length<1000
theorem KK {m:List Stt}{g:Int}(h0:0<=g)(h1:g<m.length):∃ s,m[g.toNat]? = some s/\atD (m.map eSt) g=some (eSt s)/\yi m g=s.2.1:=by
 have hl:g.toNat<m.length:=by omega
 refine⟨m[g.toNat],List.getElem?_eq_getElem hl,?_,?_⟩
 ·have:=ZI eSt m g.toNat _ (List.getElem?_eq_getElem hl)
  rwa [show ((g.toNat:Nat):Int)=g by omega]at this
 ·unfold yi;rw[List.getElem?_eq_getElem hl];rfl
theorem yu (ns:List Int):Zv (ns.map .int)=some ns:=by
 induction ns with
 |nil=>rfl
 |cons a r ih=>simp[Zv,ih]
theorem UM (ns:List Int)(h:ns.length<1000):xY (.tup (ns.map .int))=some (.int (ZA ns).length):=by
 simp[xY,yu,h]
@[simp] theorem at0 (a:D)(r:List D):atD (a::r) 0=some a:=by simp[atD,yf]
@[simp] theorem at1 (a b:D)(r:List D):atD (a::b::r) 1=some b:=by
 unfold atD yf
 rw[if_pos (by decide),if_pos (by simp;omega)]
 rfl
@[simp] theorem at2 (a b c:D)(r:List D):atD (a::b::c::r) 2=some c:=by
 unfold atD yf
 rw[if_pos (by decide),if_pos (by simp;omega)]
 rfl
theorem take_succ {α:Type}{l:List α}{i:Nat}{x:α}(h:l[i]? = some x):l.take (i+1)=l.take i++[x]:=by
 rw[List.take_succ,h];rfl
noncomputable def vV {α:Type}(l:List α)(p:α->Bool):Prop:=l.all p=true
theorem allT_nil {α:Type}(p:α->Bool):vV [] p:=rfl
theorem wN {α:Type}{l:List α}{i:Nat}{x:α}{p:α->Bool}(h:l[i]? = some x)(ha:vV (l.take i) p)(hx:p x=true):vV (l.take (i+1)) p:=by
 unfold vV at *
 rw[take_succ h,List.all_append,ha]
 simp[hx]
theorem vD {α:Type}{l:List α}{p:α->Bool}(h:vV (l.take l.length) p):l.all p=true:=by
 unfold vV at h
 rwa [List.take_length]at h
noncomputable def rLM (m:List Stt)(v:Mv) (l:Int)(j:Slot):Rho:=[.fz (eM m),.fz (eMv v),.fz (.int l),.fz (.int v.1),.fz (.tup (v.2.map .int)),j]
theorem kI (A:Cls)(m:List Stt)(v:Mv) (l x:Int):((ifM (orM (zL zV (op2 ltD (vM 5) (cM (.int 0)))) (zL zV (op2 geD (vM 5) (vM 2)))) (yd A.bm) (nxM)) (rLM m v l (.fz (.int x))))=if 0<=x/\x<l then .ok .nx (rLM m v l (.fz (.int x))) else .exn A.bm (rLM m v l (.fz (.int x))):=by
 by_cases h0:x<0
 ·rw[if_neg (by omega)]
  exact xi (Jm (Yw h0 rfl))
 ·by_cases h1:l<=x
  ·rw[if_neg (by omega)]
   exact xi (wk (yy h0 rfl) (Yw h1 rfl))
  ·rw[if_pos (by omega)]
   exact xG (wk (yy h0 rfl) (yy h1 rfl))
theorem wQ (A:Cls)(m:List Stt)(v:Mv) (l:Int)(hv:v.2.length<1000):(yL A [eM m,eMv v,.int l]).wp (λd=>d=.non/\xh m l v=true) (λc=>c=A.bm/\xh m l v=false):=by
 refine YY (zP (ρ':=[.fz (eM m),.fz (eMv v),.fz (.int l),.fz (.int v.1),.un,.un]) rfl (zP (ρ':=rLM m v l .un) rfl ?_))
 have el:((m.map eSt).length:Int)=m.length:=by rw[List.length_map]
 by_cases h0:v.1<0
 ·exact yZ (xi (Jm (Yw h0 rfl))) ⟨rfl,by simp[xh];omega⟩
 by_cases h1:((m.map eSt).length:Int)<=v.1
 ·exact yZ (xi (wk (yy h0 rfl) (Yw h1 rfl))) ⟨rfl,by simp[xh];omega⟩
 refine zP (xG (wk (yy h0 rfl) (yy h1 rfl))) ?_
 obtain⟨s,hs,ea,eb⟩:=KK (m:=m) (g:=v.1) (by omega) (by omega)
 have e1:op2 neD (zY (ZB Z8) [vM 4]) (op2 ixD (op2 ixD (vM 0) (vM 3)) (cM (.int 1))) (rLM m v l .un)=.ok (.bl (decide (((v.2.map D.int).length:Int)≠s.2.1))) (rLM m v l .un):=
  zI rfl (zI (zI rfl rfl ea) rfl rfl) (wz _ _)
 have e2:op2 neD (op1 xY (vM 4)) (zY (ZB Z8) [vM 4]) (rLM m v l .un)=.ok (.bl (decide (((ZA v.2).length:Int)≠((v.2.map D.int).length:Int)))) (rLM m v l .un):=
  zI (X2 rfl (UM v.2 hv)) rfl (wz _ _)
 have em:(v.2.map D.int).length=v.2.length:=by rw[List.length_map]
 rw[em]at e1 e2
 by_cases h2:(v.2.length:Int)=s.2.1
 case neg=>exact yZ (xi (Yw h2 (ZD e1 rfl))) ⟨rfl,by simp[xh,eb,h2]⟩
 refine zP (xG (yy (λz=>z h2) (ZD e1 rfl))) ?_
 have hc:xh m l v=vZ l v.2:=by simp[xh,eb,h2];omega
 rw[hc]
 by_cases h3:((ZA v.2).length:Int)=(v.2.length:Int)
 case neg=>exact yZ (xi (Yw h3 (ZD e2 rfl))) ⟨rfl,by simp[vZ];omega⟩
 refine zP (xG (yy (λz=>z h3) (ZD e2 rfl))) ?_
 rw[p_forE,p_vM]
 refine .mk (.mk (YX (λi ρ=>vV (v.2.take i) (λx=>decide (0<=x) && decide (x<l))/\∃ j,ρ=rLM m v l j) ⟨rfl,_,rfl⟩ ?_ ?_))
 ·rintro i x ρ hx ⟨hall,j,rfl⟩
  refine⟨rLM m v l (.fz (.int x)),rfl,?_⟩
  rw[kI A m v l x]
  by_cases hx0:0<=x/\x<l
  ·rw[if_pos hx0,p_ok]
   exact⟨wN hx hall (by simp[hx0]),_,rfl⟩
  ·rw[if_neg hx0,p_exn]
   refine⟨rfl,?_⟩
   unfold vZ
   rw[Bool.and_eq_false_iff]
   exact .inr (List.all_eq_false.mpr ⟨x,List.mem_of_getElem? hx,by simpa using hx0⟩)
 ·rintro ρ ⟨hall,j,rfl⟩
  have:=vD hall
  exact⟨rfl,by unfold vZ;rw[this,Bool.and_true];exact decide_eq_true (by omega)⟩
theorem zAF {α:Type}(xs:List α) (b:Int)(h:0<=b):cut xs none (some b)=xs.take b.toNat:=by
 unfold cut uW
 simp only[List.drop_zero,Nat.sub_zero]
 rw[if_neg (by omega)]
 by_cases hb:b.toNat<=xs.length
 ·rw[Nat.min_eq_left hb]
 ·rw[Nat.min_eq_right (by omega),List.take_of_length_le (Nat.le_refl _),List.take_of_length_le (by omega)]
noncomputable def rLS (m:List Stt)(s:Stt)(j:Slot):Rho:=[.fz (eM m),.fz (eSt s),.fz (.int s.2.1),.fz (.lst (s.2.2.map eMv)),j]
theorem VA (A:Cls)(m:List Stt)(s:Stt)(hs:∀ v ∈ s.2.2,v.2.length<1000):(yP A [eM m,eSt s]).wp (λd=>d=.non/\wg m s=true) (λc=>c=A.bm/\wg m s=false):=by
 refine YY (zP (ρ':=[.fz (eM m),.fz (eSt s),.fz (.int s.2.1),.un,.un]) rfl (zP (ρ':=rLS m s .un) rfl ?_))
 by_cases h0:s.2.1<0
 ·exact yZ (xi (Jm (Yw h0 rfl))) ⟨rfl,by simp[wg];omega⟩
 by_cases h6:6<s.2.1
 ·exact yZ (xi (wk (yy h0 rfl) (Yw h6 rfl))) ⟨rfl,by simp[wg];omega⟩
 refine zP (xG (wk (yy h0 rfl) (yy h6 rfl))) ?_
 have e1:op2 neD (zY (ZB Z8) [vM 3]) (op2 ZC (vM 2) (cM (.int 1))) (rLS m s .un)=.ok (.bl (decide (((s.2.2.map eMv).length:Int)≠s.2.1+1))) (rLS m s .un):=zI rfl rfl (wz _ _)
 rw[List.length_map]at e1
 by_cases hl:(s.2.2.length:Int)=s.2.1+1
 case neg=>exact yZ (xi (Yw hl (ZD e1 rfl))) ⟨rfl,by simp[wg];omega⟩
 refine zP (xG (yy (λz=>z hl) (ZD e1 rfl))) ?_
 have hb:s.2.1.toNat<s.2.2.length:=by omega
 have hbl:=List.getElem?_eq_getElem hb
 generalize s.2.2[s.2.1.toNat]=vl at hbl
 have hcond:wg m s=((s.2.2.take s.2.1.toNat).all (xh m s.2.1) && xh m (s.2.1+1) vl):=by
  unfold wg
  rw[decide_eq_true (show 0<=s.2.1 by omega),decide_eq_true (show s.2.1<=6 by omega),decide_eq_true hl,hbl]
  rfl
 have eat:atD (s.2.2.map eMv) s.2.1=some (eMv vl):=by
  have:=ZI eMv s.2.2 s.2.1.toNat _ hbl
  rwa [show ((s.2.1.toNat:Nat):Int)=s.2.1 by omega]at this
 rw[hcond]
 refine yV (λρ=>vV (s.2.2.take s.2.1.toNat) (xh m s.2.1)/\∃ j,ρ=rLS m s j) (wH (Qo rfl rfl rfl) rfl ?_) ?_
 ·rw[zAF _ _ (by omega),<-List.map_take]
  refine YX (λi ρ=>vV ((s.2.2.take s.2.1.toNat).take i) (xh m s.2.1)/\∃ j,ρ=rLS m s j) ⟨rfl,_,rfl⟩ ?_ ?_
  ·rintro i v ρ hv ⟨hall,j,rfl⟩
   have hvm:v ∈ s.2.2.take s.2.1.toNat:=List.mem_of_getElem? hv
   refine⟨rLS m s (.fz (eMv v)),rfl,wI (xs:=[eM m,eMv v,.int s.2.1]) rfl ?_⟩
   refine (wQ A m v s.2.1 (hs v (List.mem_of_mem_take hvm))).mono (λd hd=>?_) λc hc=>?_
   ·exact⟨wN hv hall hd.2,_,rfl⟩
   ·exact⟨hc.1,Bool.and_eq_false_iff.mpr (.inl (List.all_eq_false.mpr ⟨v,hvm,by rw[hc.2];decide⟩))⟩
  ·rintro ρ ⟨hall,j,rfl⟩
   exact⟨rfl,vD hall,j,rfl⟩
 ·rintro ρ ⟨hall,j,rfl⟩
  rw[show (s.2.2.take s.2.1.toNat).all (xh m s.2.1)=true from hall]
  refine wI (ρ':=rLS m s j) (xs:=[eM m,eMv vl,.int (s.2.1+1)]) (zS (ρ1:=rLS m s j) rfl (zS (zI rfl rfl eat) rfl)) ?_
  refine (wQ A m vl (s.2.1+1) (hs _ (List.mem_of_getElem? hbl))).mono (λd hd=>?_) λc hc=>?_
  ·exact⟨rfl,hd.2⟩
  ·exact⟨hc.1,hc.2⟩
theorem Yy (A:Cls)(m:List Stt)(hs:qD m):(zr A [eM m]).wp (λd=>d=.non/\Xm m=true) (λc=>c=A.bm/\Xm m=false):=by
 refine YY ?_
 have el:((m.map eSt).length:Int)=m.length:=by rw[List.length_map]
 by_cases h1:((m.map eSt).length:Int)<1
 ·exact yZ (ρ':=Zm 2 [eM m]) (xi (Jm (Yw h1 rfl))) ⟨rfl,by unfold Xm;rw[decide_eq_false (by omega)];rfl⟩
 by_cases h4:400<((m.map eSt).length:Int)
 ·exact yZ (ρ':=Zm 2 [eM m]) (xi (wk (yy h1 rfl) (Yw h4 rfl))) ⟨rfl,by unfold Xm;rw[decide_eq_false (show ¬ m.length<=400 by omega),Bool.and_false];rfl⟩
 refine zP (ρ':=Zm 2 [eM m]) (xG (wk (yy h1 rfl) (yy h4 rfl))) ?_
 obtain⟨s,e1,e2,e3⟩:=KK (m:=m) (g:=0) (by omega) (by omega)
 have hg:Xm m=(decide (s.2.1=0) && m.all (wg m)):=by
  unfold Xm
  rw[decide_eq_true (show 1<=m.length by omega),decide_eq_true (show m.length<=400 by omega),e3]
  rfl
 have eq:op2 neD (op2 ixD (op2 ixD (vM 0) (cM (.int 0))) (cM (.int 1))) (cM (.int 0)) (Zm 2 [eM m])=.ok (.bl (decide (s.2.1≠0))) (Zm 2 [eM m]):=zI (zI (zI rfl rfl e2) rfl rfl) rfl (wz _ _)
 rw[hg]
 by_cases h0:s.2.1=0
 case neg=>exact yZ (xi (Yw h0 (ZD eq rfl))) ⟨rfl,by rw[decide_eq_false h0];rfl⟩
 refine zP (xG (yy (λz=>z h0) (ZD eq rfl))) ?_
 rw[decide_eq_true h0,Bool.true_and]
 refine wH rfl rfl (YX (λi ρ=>vV (m.take i) (wg m)/\∃ j,ρ=[.fz (eM m),j]) ⟨rfl,_,rfl⟩ ?_ ?_)
 ·rintro i v ρ hv ⟨hall,j,rfl⟩
  have hvm:v ∈ m:=List.mem_of_getElem? hv
  refine⟨[.fz (eM m),.fz (eSt v)],rfl,wI (xs:=[eM m,eSt v]) rfl ?_⟩
  refine (VA A m v (hs v hvm)).mono (λd hd=>?_) λc hc=>?_
  ·exact⟨wN hv hall hd.2,_,rfl⟩
  ·exact⟨hc.1,List.all_eq_false.mpr ⟨v,hvm,by rw[hc.2];decide⟩⟩
 ·rintro ρ ⟨hall,j,rfl⟩
  exact⟨rfl,vD hall⟩
theorem Wv:∀ l:List Int,(ZA l).length<=l.length
 |[]=>Nat.le_refl _
 |a::r=>by
  unfold ZA
  have:=List.length_filter_le (· != a) (ZA r)
  have:=Wv r
  simp;omega
theorem Ww:∀ (l:List Int) (x:Int),x ∈ l->x ∈ ZA l
 |a::r,x,h=>by
  unfold ZA
  by_cases e:x=a
  ·subst e;exact List.mem_cons_self
  ·refine List.mem_cons_of_mem _ (List.mem_filter.mpr ⟨Ww r x ((List.mem_cons.mp h).resolve_left e),by simpa using e⟩)
theorem Xn:∀ l:List Int,(ZA l).length=l.length->l.Nodup
 |[],_=>List.nodup_nil
 |a::r,h=>by
  unfold ZA at h
  have h1:=List.length_filter_le (· != a) (ZA r)
  have h2:=Wv r
  simp at h
  have h3:(ZA r).length=r.length:=by omega
  have h4:((ZA r).filter (· != a)).length=(ZA r).length:=by omega
  refine List.nodup_cons.mpr ⟨λm=>?_,Xn r h3⟩
  have:=(List.length_filter_eq_length_iff.mp h4) a (Ww r a m)
  simp at this
theorem XX:∀ l:List Int,l.Nodup->ZA l=l
 |[],_=>rfl
 |a::r,h=>by
  obtain⟨h1,h2⟩:=List.nodup_cons.mp h
  unfold ZA
  rw[XX r h2,List.filter_eq_self.mpr]
  intro x hx
  have:x≠a:=λe=>h1 (e ▸ hx)
  simpa using this
structure GoodMv (m:List Stt) (most:Int)(v:Mv):Prop where
 t0:0<=v.1
 t1:v.1<m.length
 ln:(v.2.length:Int)=yi m v.1
 nd:v.2.Nodup
 lo:∀ x ∈ v.2,0<=x
 hi:∀ x ∈ v.2,x<most
structure GoodSt (m:List Stt)(s:Stt):Prop where
 b0:0<=s.2.1
 b6:s.2.1<=6
 ml:s.2.2.length=s.2.1.toNat+1
 mv:∀ (c:Nat)(v:Mv),s.2.2[c]? = some v->GoodMv m (s.2.1+if c=s.2.1.toNat then 1 else 0) v
structure GoodM (m:List Stt):Prop where
 pos:0<m.length
 few:m.length<=400
 zer:yi m 0=0
 sts:∀ s ∈ m,GoodSt m s
theorem XY {m:List Stt}{most:Int}{v:Mv}:xh m most v=true ↔ GoodMv m most v:=by
 unfold xh vZ
 simp only[Bool.and_eq_true,decide_eq_true_eq,List.all_eq_true]
 constructor
 ·rintro⟨⟨⟨h1,h2⟩,h3⟩,h4,h5⟩
  exact⟨h1,h2,h3,Xn _ h4,λx hx=>(h5 x hx).1,λx hx=>(h5 x hx).2⟩
 ·rintro⟨h1,h2,h3,h4,h5,h6⟩
  exact⟨⟨⟨h1,h2⟩,h3⟩,by rw[XX _ h4],λx hx=>⟨h5 x hx,h6 x hx⟩⟩
theorem Vx {m:List Stt}{s:Stt}:wg m s=true ↔ GoodSt m s:=by
 unfold wg
 simp only[Bool.and_eq_true,decide_eq_true_eq,List.all_eq_true]
 constructor
 ·rintro⟨⟨⟨⟨h1,h2⟩,h3⟩,h4⟩,h5⟩
  have hb:s.2.1.toNat<s.2.2.length:=by omega
  have hbl:=List.getElem?_eq_getElem hb
  rw[hbl]at h5
  refine⟨h1,h2,by omega,λc v hv=>?_⟩
  have hc:=(List.getElem?_eq_some_iff.mp hv).1
  by_cases e:c=s.2.1.toNat
  ·subst e
   rw[hbl]at hv
   cases hv
   rw[if_pos rfl]
   exact XY.mp h5
  ·rw[if_neg e,Int.add_zero]
   refine XY.mp (h4 v (List.mem_iff_getElem?.mpr ⟨c,?_⟩))
   rw[List.getElem?_take,if_pos (by omega),hv]
 ·rintro⟨h1,h2,h3,h4⟩
  have hb:s.2.1.toNat<s.2.2.length:=by omega
  have hbl:=List.getElem?_eq_getElem hb
  refine⟨⟨⟨⟨h1,h2⟩,by omega⟩,λv hv=>?_⟩,?_⟩
  ·obtain⟨c,hc⟩:=List.mem_iff_getElem?.mp hv
   rw[List.getElem?_take]at hc
   split at hc
   ·rename_i hlt
    have:=h4 c v hc
    rw[if_neg (by omega),Int.add_zero]at this
    exact XY.mpr this
   ·cases hc
  ·rw[hbl]
   have:=h4 _ _ hbl
   rw[if_pos rfl]at this
   exact XY.mpr this
theorem QI {m:List Stt}:Xm m=true ↔ GoodM m:=by
 unfold Xm
 simp only[Bool.and_eq_true,decide_eq_true_eq,List.all_eq_true]
 constructor
 ·rintro⟨⟨⟨h1,h2⟩,h3⟩,h4⟩
  exact⟨h1,h2,h3,λs hs=>Vx.mp (h4 s hs)⟩
 ·rintro⟨h1,h2,h3,h4⟩
  exact⟨⟨⟨h1,h2⟩,h3⟩,λs hs=>Vx.mpr (h4 s hs)⟩
noncomputable abbrev Pl:=Nat×List Int
structure At (m:List Stt)(p:Pl)(s:Stt):Prop where
 st:m[p.1]? = some s
 ln:p.2.length=s.2.1.toNat
 nd:p.2.Nodup
noncomputable def Zw (s:Stt)(held:List Int) (x:Int):Mv:=(s.2.2[held.findIdx (λy=>decide (y=x))]?).getD (0,[])
noncomputable def yR (held:List Int) (x:Int) (src:Int):Int:=((held++[x])[src.toNat]?).getD 0
noncomputable def step (m:List Stt)(p:Pl) (x:Int):Pl:=match m[p.1]? with
 |some s=>((Zw s p.2 x).1.toNat,(Zw s p.2 x).2.map (yR p.2 x))
 |none=>(0,[])
theorem YT {m:List Stt}{g:Int}{s:Stt}(h:m[g.toNat]? = some s):yi m g=s.2.1:=by unfold yi;rw[h];rfl
section
variable {m:List Stt}(hm:GoodM m){p:Pl}{s:Stt}(hp:At m p s) (x:Int)
theorem K8:p.2.findIdx (λy=>decide (y=x))<=p.2.length:=List.findIdx_le_length
include hm hp
theorem YR:s.2.2[p.2.findIdx (λy=>decide (y=x))]? = some (Zw s p.2 x)/\GoodMv m (s.2.1+if p.2.findIdx (λy=>decide (y=x))=s.2.1.toNat then 1 else 0) (Zw s p.2 x):=by
 have hs:=hm.sts s (List.mem_of_getElem? hp.st)
 have hi:p.2.findIdx (λy=>decide (y=x))<s.2.2.length:=by
  have:=K8 (p:=p) x
  rw[hs.ml,<-hp.ln]
  omega
 have e:s.2.2[p.2.findIdx (λy=>decide (y=x))]? = some (Zw s p.2 x):=by
  unfold Zw
  rw[List.getElem?_eq_getElem hi]
  rfl
 exact⟨e,hs.mv _ _ e⟩
theorem QK:∀ a ∈ (Zw s p.2 x).2,∀ b ∈ (Zw s p.2 x).2,yR p.2 x a=yR p.2 x b->a=b:=by
 obtain⟨e,g⟩:=YR hm hp x
 intro a ha b hb hab
 have hnd:=hp.nd
 by_cases q:p.2.findIdx (λy=>decide (y=x))=s.2.1.toNat
 ·rw[if_pos q]at g
  have hx:x ∉ p.2:=λhx=>by
   have:=List.findIdx_lt_length_of_exists (p:=λy=>decide (y=x)) (xs:=p.2) ⟨x,hx,by simp⟩
   rw[hp.ln]at this
   omega
  have nd2:(p.2++[x]).Nodup:=by
   rw[List.nodup_append]
   exact⟨hnd,by simp,λy hy z hz=>by rw[List.mem_singleton.mp hz];exact λe=>hx (e ▸ hy)⟩
  have hla:a.toNat<(p.2++[x]).length:=by
   have:=g.hi a ha;have:=g.lo a ha;simp[hp.ln];omega
  have hlb:b.toNat<(p.2++[x]).length:=by
   have:=g.hi b hb;have:=g.lo b hb;simp[hp.ln];omega
  unfold yR at hab
  rw[List.getElem?_eq_getElem hla,List.getElem?_eq_getElem hlb]at hab
  have:=(List.getElem_inj nd2).mp hab
  have:=g.lo a ha;have:=g.lo b hb
  omega
 ·rw[if_neg q,Int.add_zero]at g
  have hla:a.toNat<p.2.length:=by
   have:=g.hi a ha;have:=g.lo a ha;rw[hp.ln];omega
  have hlb:b.toNat<p.2.length:=by
   have:=g.hi b hb;have:=g.lo b hb;rw[hp.ln];omega
  unfold yR at hab
  rw[List.getElem?_append_left hla,List.getElem?_append_left hlb,List.getElem?_eq_getElem hla,List.getElem?_eq_getElem hlb]at hab
  have:=(List.getElem_inj hnd).mp hab
  have:=g.lo a ha;have:=g.lo b hb
  omega
theorem Um:∃ s',At m (step m p x) s':=by
 obtain⟨e,g⟩:=YR hm hp x
 have ht:(Zw s p.2 x).1.toNat<m.length:=by have:=g.t0;have:=g.t1;omega
 have es:step m p x=((Zw s p.2 x).1.toNat,(Zw s p.2 x).2.map (yR p.2 x)):=by unfold step;rw[hp.st]
 refine⟨m[(Zw s p.2 x).1.toNat],?_⟩
 rw[es]
 refine⟨List.getElem?_eq_getElem ht,?_,?_⟩
 ·have:=g.ln
  rw[YT (List.getElem?_eq_getElem ht)]at this
  simp only[List.length_map]
  omega
 ·refine List.pairwise_map.mpr ?_
  refine List.Pairwise.imp_of_mem ?_ g.nd
  intro a b ha hb hne he
  exact hne (QK hm hp x a ha b hb he)
end
theorem JA {m:List Stt}(hm:GoodM m):∃ s,At m (0,[]) s:=by
 have h:=hm.pos
 refine⟨m[0],List.getElem?_eq_getElem h,?_,List.nodup_nil⟩
 have:=hm.zer
 rw[YT (g:=0) (List.getElem?_eq_getElem h)]at this
 rw[show m[0].2.1=0 from this]
 rfl
theorem YA (l:List Int):D.plains (l.map .int)=true:=by
 induction l with
 |nil=>simp[D.plains]
 |cons a r ih=>simp[D.plains,D.plain,ih]
theorem Yj (l:List Int):D.deeps (l.map .int)=0:=by
 induction l with
 |nil=>simp[D.deeps]
 |cons a r ih=>simp[D.deeps,D.deep,ih]
theorem WA (a b:Int):D.eqv (.int a) (.int b)=decide (a=b):=rfl
theorem K6 (x:Int)(l:List Int):inD (.int x) (.tup (l.map .int))=some (.bl (decide (x ∈ l))):=by
 simp only[inD,D.items?,D.plain,YA,Yj,List.any_map]
 simp
 rw[Bool.eq_iff_iff]
 simp[WA]
theorem ji (x:Int)(l:List Int):inD (.int x) (.lst (l.map .int))=some (.bl (decide (x ∈ l))):=by
 simp only[inD,D.items?,D.plain,YA,Yj,List.any_map]
 simp
 rw[Bool.eq_iff_iff]
 simp[WA]
theorem QF (x:Int)(l:List Int)(h:x ∈ l):Yi (.tup (l.map .int)) (.int x)=some (.int (l.findIdx λy=>decide (y=x))):=by
 have hlt:=List.findIdx_lt_length_of_exists (p:=λy=>decide (y=x)) (xs:=l) ⟨x,h,by simp⟩
 have e:uQ (l.map .int) (.int x)=some (l.findIdx λy=>decide (y=x)):=by
  unfold uQ
  rw[List.findIdx?_map]
  have:(λy=>D.eqv y (.int x)) ∘ D.int=λy=>decide (y=x):=by funext y;exact WA y x
  rw[this,List.findIdx?_eq_some_iff_findIdx_eq]
  exact⟨hlt,rfl⟩
 simp only[Yi,D.items?,D.plain,YA,Yj,e]
 simp
noncomputable def ePl (p:Pl):D:=.tup [dn p.1,.tup (p.2.map .int)]
theorem kM {l:List Int}{x:Int}(h:x ∉ l):l.findIdx (λy=>decide (y=x))=l.length:=by
 rw[List.findIdx_eq_length]
 intro y hy
 have:y≠x:=λe=>h (e ▸ hy)
 simpa using this
noncomputable def rGo (m:List Stt)(p:Pl) (x:Int)(a b c d:Slot):Rho:=[.fz (eM m),.fz (ePl p),.fz (.int x),a,b,c,d]
theorem kf {f:D->D->Option D}{a b:M D}{ρ ρ1 ρ2:Rho}{x y z:D}{l:List D}(ea:a ρ=.ok x ρ1)(et:YH x=some l)(eb:b ρ1=.ok y ρ2)(e:f x y=some z):Wf f a b ρ=.ok z ρ2:=by unfold Wf;rw[ea,Res.bnd_ok,et,zT,Res.bnd_ok,eb,Res.bnd_ok,e];rfl
section
variable {m:List Stt}(hm:GoodM m){p:Pl}{s:Stt}(hp:At m p s) (x:Int)
include hm hp
theorem uS {a:Int}(ha:a ∈ (Zw s p.2 x).2):∃ z,(p.2++[x])[a.toNat]? = some z/\yR p.2 x a=z/\0<=a/\a.toNat<p.2.length+1:=by
 obtain⟨e,g⟩:=YR hm hp x
 have h0:=g.lo a ha
 have h1:=g.hi a ha
 have hs:=hm.sts s (List.mem_of_getElem? hp.st)
 have:=hs.b0
 have hl:a.toNat<(p.2++[x]).length:=by
  rw[List.length_append,hp.ln]
  simp
  split at h1<;>omega
 refine⟨(p.2++[x])[a.toNat],List.getElem?_eq_getElem hl,?_,h0,by simpa using hl⟩
 unfold yR
 rw[List.getElem?_eq_getElem hl]
 rfl
theorem WW:p.2.length<=6:=by
 have hs:=hm.sts s (List.mem_of_getElem? hp.st)
 have:=hs.b6
 rw[hp.ln]
 omega
theorem qR:yn [eM m,ePl p,.int x]=.ok (ePl (step m p x)):=by
 refine yO ?_
 obtain⟨e,g⟩:=YR hm hp x
 have e1:=ZI eSt m p.1 s hp.st
 have e2:=ZI eMv s.2.2 _ _ e
 have h6:=WW hm hp
 refine zP (ρ':=rGo m p x (.fz (.lst (s.2.2.map eMv))) .un .un .un) (b_set (i:=3) (ρ':=rGo m p x .un .un .un .un) (zI (x:=eSt s) (y:=.int 2) (ρ1:=rGo m p x .un .un .un .un) (zI (x:=eM m) (y:=dn p.1) (ρ1:=rGo m p x .un .un .un .un) (by rfl) (zI (x:=ePl p) (y:=.int 0) (by rfl) (by rfl) (by rfl)) e1) (by rfl) (by rfl))) ?_
 refine zP (ρ':=rGo m p x (.fz (.lst (s.2.2.map eMv))) (.fz (.tup (p.2.map .int))) .un .un) (b_set (i:=4) (ρ':=rGo m p x (.fz (.lst (s.2.2.map eMv))) .un .un .un) (zI (x:=ePl p) (y:=.int 1) (by rfl) (by rfl) (by rfl))) ?_
 generalize hc:Zw s p.2 x=c at e e2 g
 have hin:zL zV (op2 inD (vM 2) (vM 4)) (rGo m p x (.fz (.lst (s.2.2.map eMv))) (.fz (.tup (p.2.map .int))) .un .un)=.ok (decide (x ∈ p.2)) (rGo m p x (.fz (.lst (s.2.2.map eMv))) (.fz (.tup (p.2.map .int))) .un .un):=ZD (zI (x:=.int x) (y:=.tup (p.2.map .int)) (by rfl) (by rfl) (K6 x p.2)) rfl
 refine zP (ρ':=rGo m p x (.fz (.lst (s.2.2.map eMv))) (.fz (.tup (p.2.map .int))) (.fz (eMv c)) .un) ?_ ?_
 ·by_cases hx:x ∈ p.2
  ·rw[xi (Yw hx hin)]
   exact b_set (i:=5) (ρ':=rGo m p x (.fz (.lst (s.2.2.map eMv))) (.fz (.tup (p.2.map .int))) .un .un) (zI (x:=.lst (s.2.2.map eMv)) (y:=.int (p.2.findIdx λy=>decide (y=x))) (ρ1:=rGo m p x (.fz (.lst (s.2.2.map eMv))) (.fz (.tup (p.2.map .int))) .un .un) (by rfl) (kf (x:=.tup (p.2.map .int)) (y:=.int x) (by rfl) (by rfl) (by rfl) (QF x p.2 hx)) e2)
  ·have:=kM hx
   rw[this]at e2
   rw[xG (yy hx hin)]
   exact b_set (i:=5) (ρ':=rGo m p x (.fz (.lst (s.2.2.map eMv))) (.fz (.tup (p.2.map .int))) .un .un) (zI (x:=.lst (s.2.2.map eMv)) (y:=.int (p.2.length:Nat)) (ρ1:=rGo m p x (.fz (.lst (s.2.2.map eMv))) (.fz (.tup (p.2.map .int))) .un .un) (by rfl) (xc (x:=.tup (p.2.map .int)) (by rfl) (by show some (D.int ((p.2.map D.int).length:Nat))=_;rw[List.length_map])) e2)
 refine zP (ρ':=rGo m p x (.fz (.lst (s.2.2.map eMv))) (.fz (.tup (p.2.map .int))) (.fz (eMv c)) (.fz (.tup ((p.2++[x]).map .int)))) (b_set (i:=6) (ρ':=rGo m p x (.fz (.lst (s.2.2.map eMv))) (.fz (.tup (p.2.map .int))) (.fz (eMv c)) .un) (zI (x:=.tup (p.2.map .int)) (y:=.tup [.int x]) (by rfl) (by rfl) (by
   rw[List.map_append]
   show (if _<=sizeLine then _ else _)=_
   rw[sizeLine_eq,if_pos (by simp;omega)];rfl))) ?_
 generalize hρ:rGo m p x (.fz (.lst (s.2.2.map eMv))) (.fz (.tup (p.2.map .int))) (.fz (eMv c)) (.fz (.tup ((p.2++[x]).map .int)))=ρ
 have hcomp:yS (zq YH (op2 ixD (vM 5) (cM (.int 1)))) 1 [6] (zz 0) none (op2 ixD (vM 1) (vM 0)) ρ=.ok (.lst ((c.2.map (yR p.2 x)).map .int)) ρ:=by
  rw[xL (caps:=[.fz (.tup ((p.2++[x]).map .int))]) (ds:=c.2.map .int) (ρ':=ρ) (λd=>match d with | .int a=>.int (yR p.2 x a) | _=>.non) ?_ (by rw[<-hρ];rfl) ?_ ?_]
  ·rw[List.map_map,List.map_map];rfl
  ·unfold zq
   rw[zI (x:=eMv c) (y:=.int 1) (z:=.tup (c.2.map .int)) (ρ1:=ρ) (ρ2:=ρ) (by rw[<-hρ];rfl) (by rfl) (by rfl)]
   rfl
  ·have:=g.ln
   have ht:c.1.toNat<m.length:=by have:=g.t0;have:=g.t1;omega
   rw[YT (List.getElem?_eq_getElem ht)]at this
   have h6':=(hm.sts _ (List.getElem_mem ht)).b6
   rw[List.length_map,sizeLine_eq];omega
  ·intro d hd acc
   obtain⟨a,ha,rfl⟩:=List.mem_map.mp hd
   obtain⟨z,f1,f2,f3,f4⟩:=uS hm hp x (hc ▸ ha)
   have:=ZI D.int (p.2++[x]) a.toNat z f1
   rw[show ((a.toNat:Nat):Int)=a by omega]at this
   exact zI (x:=.tup ((p.2++[x]).map .int)) (y:=.int a) (by rfl) (by rfl) (by show ixD _ _=some (D.int (yR p.2 x a));rw[f2];exact this)
 subst hρ
 refine zZ (v8 (Uc (x:=.int c.1) (zI (x:=eMv c) (y:=.int 0) (by rfl) (by rfl) (by rfl)) (xc hcomp (by rfl)))) ?_
 have es:step m p x=(c.1.toNat,c.2.map (yR p.2 x)):=by unfold step;rw[hp.st,<-hc]
 have:=g.t0
 show D.tup [.int c.1,.tup ((c.2.map (yR p.2 x)).map .int)]=ePl (step m p x)
 rw[es]
 unfold ePl dn
 rw[Int.toNat_of_nonneg this]
end
theorem Qj {m:List Stt}(hm:GoodM m)(hs:qD m)(A:Cls):zr A [eM m]=.ok .non:=by
 have:=Yy A m hs
 rw[QI.mpr hm]at this
 exact FR.ok_of (this.mono (λd h=>h.1) λc h=>by cases h.2)
noncomputable def rV (m:List Stt)(p:Pl) (x:Int)(go:Bool) (b:Int)(ms:List Mv)(v:Mv)(j:Slot):Rho:=[.fz (eM m),.fz (dn p.1),.fz (dS p.2),.fz (.int x),.fz (.bl go),.fz (.int b),.fz (.lst (ms.map eMv)),.fz (.int v.1),.fz (.tup (v.2.map .int)),j]
theorem KS {m:List Stt}(hm:GoodM m){p:Pl}{s:Stt}(hp:At m p s) (x:Int):Zz [eM m,dn p.1,dS p.2,.int x]=.ok (.tup [dn (step m p x).1,dS (step m p x).2]):=by
 refine yO ?_
 obtain⟨e,g⟩:=YR hm hp x
 have hs:=hm.sts s (List.mem_of_getElem? hp.st)
 have e1:=ZI eSt m p.1 s hp.st
 have h6:=WW hm hp
 have hln:=hp.ln
 have es:step m p x=((Zw s p.2 x).1.toNat,(Zw s p.2 x).2.map (yR p.2 x)):=by unfold step;rw[hp.st]
 have hfe:=λa ha=>uS hm hp x (a:=a) ha
 have hnd:=hp.nd
 obtain⟨go,b,ms⟩:=s
 have hb0:0<=b:=hs.b0
 have hb6:b<=6:=hs.b6
 have hml:ms.length=b.toNat+1:=hs.ml
 generalize hV:Zw (go,b,ms) p.2 x=V at *
 have hln:p.2.length=b.toNat:=hln
 have e:ms[p.2.findIdx λy=>decide (y=x)]? = some V:=e
 have hbl:ms[b.toNat]? = some ms[b.toNat]:=List.getElem?_eq_getElem (by omega)
 have e3:atD (ms.map eMv) b=some (eMv ms[b.toNat]):=by
  have:=ZI eMv ms b.toNat _ hbl
  rwa [show ((b.toNat:Nat):Int)=b by omega]at this
 refine zP (ρ':=[.fz (eM m),.fz (dn p.1),.fz (dS p.2),.fz (.int x),.fz (.bl go),.fz (.int b),.fz (.lst (ms.map eMv)),.un,.un,.un]) (j9 (zI (f:=ixD) (x:=eM m) (y:=dn p.1) (by rfl) (by rfl) e1) (by rfl)) ?_
 refine zP (ρ':=rV m p x go b ms ms[b.toNat] .un) (j9 (zI (f:=ixD) (x:=.lst (ms.map eMv)) (y:=.int b) (by rfl) (by rfl) e3) (by rfl)) ?_
 generalize hI:p.2.findIdx (λy=>decide (y=x))=I at e g
 have hIle:I<=p.2.length:=hI ▸ List.findIdx_le_length
 refine yV (λρ=>∃ j,ρ=rV m p x go b ms V j) (W9 (n:=b.toNat) (ρ':=rV m p x go b ms ms[b.toNat] .un) (show Res.ok (D.int b) _=_ from by rw[show dn b.toNat=.int b by unfold dn;rw[Int.toNat_of_nonneg hb0]]) (by omega)
  (y6 (λi ρ=>∃ (v:Mv)(j:Slot),ms[if I<i then I else b.toNat]? = some v/\ρ=rV m p x go b ms v j) ⟨ms[b.toNat],_,by rw[if_neg (Nat.not_lt_zero _)];exact hbl,rfl⟩ ?_ ?_)) ?_
 ·rintro i ρ hi ⟨v,j,hv,rfl⟩
  refine⟨rV m p x go b ms v (.fz (dn i)),rfl,?_⟩
  have hil:i<p.2.length:=by omega
  have e4:=ZI D.int p.2 i _ (List.getElem?_eq_getElem hil)
  have him:i<ms.length:=by omega
  have e5:=ZI eMv ms i _ (List.getElem?_eq_getElem him)
  have tt:zL zV (op2 eqD (op2 ixD (vM 2) (vM 9)) (vM 3)) (rV m p x go b ms v (.fz (dn i)))=.ok (decide (p.2[i]=x)) (rV m p x go b ms v (.fz (dn i))):=KJ (zI (f:=ixD) (x:=dS p.2) (y:=dn i) (by rfl) (by rfl) e4) (by rfl)
  by_cases hxi:p.2[i]=x
  ·have hIi:I=i:=by
    rw[<-hI]
    have h1:=List.findIdx_lt_length_of_exists (xs:=p.2) (p:=λy=>decide (y=x)) ⟨x,hxi ▸ List.getElem_mem hil,by simp⟩
    have h2:=List.findIdx_getElem (xs:=p.2) (p:=λy=>decide (y=x)) (w:=h1)
    exact (List.getElem_inj hnd).mp ((of_decide_eq_true h2).trans hxi.symm)
   rw[xi (Yw hxi tt)]
   exact zZ (j9 (ρ2:=rV m p x go b ms ms[i] (.fz (dn i))) (zI (f:=ixD) (x:=.lst (ms.map eMv)) (y:=dn i) (by rfl) (by rfl) e5) (by rfl)) ⟨ms[i],_,by rw[if_pos (by omega),hIi];exact List.getElem?_eq_getElem him,rfl⟩
  ·have hIi:I≠i:=λq=>by
    have h1:p.2.findIdx (λy=>decide (y=x))<p.2.length:=by rw[hI,q];exact hil
    have h2:=of_decide_eq_true (List.findIdx_getElem (xs:=p.2) (p:=λy=>decide (y=x)) (w:=h1))
    simp only[hI,q]at h2
    exact hxi h2
   rw[xG (yy hxi tt)]
   refine zZ (show nxM _=.ok .nx _ from rfl) ⟨v,_,?_,rfl⟩
   rw[<-hv]
   by_cases q:I<i
   ·rw[if_pos q,if_pos (by omega)]
   ·rw[if_neg q,if_neg (by omega)]
 ·rintro ρ ⟨v,j,hv,rfl⟩
  have hc:(if I<b.toNat then I else b.toNat)=I:=by split<;>omega
  rw[hc,e]at hv
  cases hv
  exact⟨rfl,j,rfl⟩
 rintro ρ ⟨j,rfl⟩
 have hvl:V.2.length<=6:=by
  have:=g.ln
  have ht:V.1.toNat<m.length:=by have:=g.t0;have:=g.t1;omega
  rw[YT (List.getElem?_eq_getElem ht)]at this
  have h6':=(hm.sts _ (List.getElem_mem ht)).b6
  omega
 have hcomp:yS (zq YH (vM 8)) 1 [2,3,5] (zz 0) none (ym (zL zV (op2 eqD (vM 0) (vM 3))) (vM 2) (op2 ixD (vM 1) (vM 0))) (rV m p x go b ms V j)=.ok (.lst ((V.2.map D.int).map λd=>match d with | .int a=>.int (yR p.2 x a) | _=>.non)) (rV m p x go b ms V j):=by
  refine xL (caps:=[.fz (dS p.2),.fz (.int x),.fz (.int b)]) _ (by rfl) (by rfl) (by rw[List.length_map,sizeLine_eq];omega) λd hd acc=>?_
  obtain⟨a,ha,rfl⟩:=List.mem_map.mp hd
  obtain⟨z,f1,f2,f3,f4⟩:=hfe a ha
  have tt:zL zV (op2 eqD (vM 0) (vM 3)) ([.fz (.int a)]++[.fz (dS p.2),.fz (.int x),.fz (.int b)]++[.own acc])=.ok (decide (a=b)) ([.fz (.int a)]++[.fz (dS p.2),.fz (.int x),.fz (.int b)]++[.own acc]):=KJ (by rfl) (by rfl)
  by_cases hab:a=b
  ·refine kg (Yw hab tt) ?_
   rw[hab,List.getElem?_append_right (by omega),show b.toNat - p.2.length=0 by omega]at f1
   have:x=z:=Option.some.inj f1
   show Res.ok (D.int x) _=Res.ok (D.int (yR p.2 x a)) _
   rw[f2,this]
  ·refine kh (yy hab tt) ?_
   have hal:a.toNat<p.2.length:=by omega
   rw[List.getElem?_append_left hal]at f1
   have:=ZI D.int p.2 a.toNat z f1
   rw[show ((a.toNat:Nat):Int)=a by omega]at this
   exact zI (f:=ixD) (x:=dS p.2) (y:=.int a) (by rfl) (by rfl) (by show atD (p.2.map .int) a=some (D.int (yR p.2 x a));rw[this,f2])
 refine zZ (v8 (Uc (x:=.int V.1) (ρ1:=rV m p x go b ms V j) (by rfl) hcomp)) ?_
 show D.tup [.int V.1,.lst ((V.2.map D.int).map _)]=_
 rw[es,List.map_map]
 show _=D.tup [.int ((V.1.toNat:Nat):Int),.lst ((V.2.map (yR p.2 x)).map .int)]
 rw[Int.toNat_of_nonneg g.t0,List.map_map]
 rfl
noncomputable def Zb (m:List Stt) (s:Nat):List Mv:=((m[s]?).map (·.2.2)).getD []
theorem Yf {m:List Stt}(hm:GoodM m){s:Nat}{v:Mv}(h:v ∈ Zb m s):0<=v.1/\v.1.toNat<m.length:=by
 unfold Zb at h
 cases q:m[s]? with
 |none=>rw[q]at h;simp at h
 |some st=>
  rw[q]at h
  simp at h
  obtain⟨c,hc⟩:=List.mem_iff_getElem?.mp h
  have g:=(hm.sts st (List.mem_of_getElem? q)).mv c v hc
  have:=g.t0
  have:=g.t1
  omega
theorem Ve (mx:Nat->Nat) (k most:Nat):(gM mx k most).length=(z0 mx k most).length:=by simp[gM]
theorem KG (mx:Nat->Nat) (k most s:Nat)(h:s<(z0 mx k most).length):(gM mx k most)[s]? = some (ZW mx k (z0 mx k most) s):=by
 unfold gM
 rw[List.getElem?_map,List.getElem?_range h]
 rfl
theorem jG {l:List Nat}(h:l.Nodup):(zs l).Nodup:=by
 unfold zs
 refine List.pairwise_map.mpr (h.imp λh e=>h (by omega))
theorem kP (mx:Nat->Nat) (k most:Nat)(h:0<most)(h1:most<=100):GoodM (gM mx k most):=by
 have hl:=XG mx k most h
 refine⟨by rw[Ve];exact hl.2,by rw[Ve];omega,?_,λs hs=>?_⟩
 ·rw[YT (g:=0) (KG mx k most 0 hl.2)]
  simp[ZW,z0,nth]
 ·obtain⟨i,hi,rfl⟩:=List.mem_map.mp hs
  have hi:i<(z0 mx k most).length:=by simpa using hi
  have hb:=vq mx k most i
  refine⟨by simp[ZW],by simp[ZW];omega,by simp[ZW],λc v hv=>?_⟩
  have hc:c<nth (z0 mx k most) i+1:=by have:=(List.getElem?_eq_some_iff.mp hv).1;simpa[ZW] using this
  simp only[ZW]at hv
  rw[List.getElem?_map,List.getElem?_range hc]at hv
  cases hv
  have hg:=vp mx k most i c
  obtain⟨g1,g2⟩:=XF.mp hg
  obtain⟨s1,s2,s3⟩:=JO mx (k+40+9 * i+3 * c) _ _ g2
  have hfar:((YG (z0 mx k most) i c:Nat):Int)=(ZW mx k (z0 mx k most) i).2.1+if c=(ZW mx k (z0 mx k most) i).2.1.toNat then 1 else 0:=by
   simp[YG,ZW]
   by_cases q:c=nth (z0 mx k most) i<;>simp[q]
  refine⟨by simp[YO],by rw[Ve];simp[YO];exact g1,?_,jG s2,λx hx=>?_,λx hx=>?_⟩
  ·rw[YT (g:=(YO mx k (z0 mx k most) i c).1) (s:=ZW mx k (z0 mx k most) (gGoal mx k (z0 mx k most) i c)) (by simp only[YO,Int.toNat_natCast];exact KG mx k most _ g1)]
   simp[YO,ZW,zs,U1,s1]
  ·obtain⟨y,_,rfl⟩:=List.mem_map.mp hx
   omega
  ·obtain⟨y,hy,rfl⟩:=List.mem_map.mp hx
   rw[<-hfar]
   have:=s3 y hy
   omega
theorem XW {α:Type} [DecidableEq α]:∀ {l k:List α},l.Nodup->(∀ x ∈ l,x ∈ k)->l.length<=k.length
 |[],_,_,_=>Nat.zero_le _
 |a::r,k,h,hs=>by
  obtain⟨h1,h2⟩:=List.nodup_cons.mp h
  have ha:a ∈ k:=hs a List.mem_cons_self
  have:=XW (l:=r) (k:=k.erase a) h2 λx hx=>by
   have:x≠a:=λe=>h1 (e ▸ hx)
   exact (List.mem_erase_of_ne this).mpr (hs x (List.mem_cons_of_mem _ hx))
  rw[List.length_erase_of_mem ha]at this
  have:=List.length_pos_of_mem ha
  simp;omega
structure Cls.Ok (A:Cls):Prop where
 t:A.bm≠A.bt
 w:A.bm≠A.bw
 m:A.bm≠A.tm
 tw:A.bt≠A.bw
 tm:A.bt≠A.tm
 wm:A.bw≠A.tm
theorem Up {f:Addr->Option Bool}{c:Addr}{b:Bool}(h:f c=some b):yQ f (.exc c)=some (.bl b):=by simp[yQ,h]
theorem zAh {A:Cls}{c:Addr}{b1 b2 b3 b4:Bool}{r:D}(i1:yQ (A.is A.bm) (.exc c)=some (.bl b1))(i2:yQ (A.is A.bt) (.exc c)=some (.bl b2))(i3:yQ (A.is A.bw) (.exc c)=some (.bl b3))(i4:yQ (A.is A.tm) (.exc c)=some (.bl b4))(i5:yQ A.isVE (.exc c)=some (.bl true))
  (hc:zL zV (op2 neD (Xd W0 1 (cM (.bl true))) (cM (.int 1))) [.fz (.exc c),.own [.bl b1,.bl b2,.bl b3,.bl b4]]=.ok false [.fz (.exc c),.own [.bl b1,.bl b2,.bl b3,.bl b4]])
  (hr:op2 ixD (lstM [cM (.str "machine"),cM (.str "text"),cM (.str "word"),cM (.str "many")]) (Xd Yi 1 (cM (.bl true))) [.fz (.exc c),.own [.bl b1,.bl b2,.bl b3,.bl b4]]=.ok r [.fz (.exc c),.own [.bl b1,.bl b2,.bl b3,.bl b4]]):Za A [.exc c]=.ok r:=by
 refine yO (zP (ρ':=[.fz (.exc c),.un]) (by rfl) ?_)
 refine zP (ρ':=[.fz (.exc c),.own [.bl b1,.bl b2,.bl b3]]) (by
  unfold x8
  rw[zS (X2 (x:=.exc c) (ρ1:=[.fz (.exc c),.un]) (by rfl) i1) (zS (X2 (x:=.exc c) (ρ1:=[.fz (.exc c),.un]) (by rfl) i2) (zS (X2 (x:=.exc c) (ρ1:=[.fz (.exc c),.un]) (by rfl) i3) (show zk [] _=.ok [] _ from rfl))),Res.bnd_ok]
  rfl) ?_
 refine zP (ud (i:=1) (ds:=[.bl b1,.bl b2,.bl b3]) (x:=.bl b4) (by rfl) (X2 (x:=.exc c) (by rfl) i4) (show 3<16777216 by decide)) ?_
 refine zP (ρ':=[.fz (.exc c),.own [.bl b1,.bl b2,.bl b3,.bl b4]]) (by
  show ifM _ _ _ [.fz (.exc c),.own [.bl b1,.bl b2,.bl b3,.bl b4]]=_
  rw[xG (ρ':=[.fz (.exc c),.own [.bl b1,.bl b2,.bl b3,.bl b4]]) (wk hc (zAi (b:=true) (ZD (x:=.bl true) (X2 (x:=.exc c) (by rfl) i5) rfl)))]
  rfl) (zZ (v8 hr) rfl)
theorem KD {A:Cls}{c d:Addr}(hc:A.all.contains c=true):yQ (A.is d) (.exc c)=some (.bl (c == d)):=Up (by unfold Cls.is;rw[if_pos hc])
theorem kK {A:Cls}{c:Addr}(hc:A.all.contains c=true):yQ A.isVE (.exc c)=some (.bl true):=Up (by unfold Cls.isVE;rw[if_pos hc])
theorem vC {A:Cls}:A.all.contains A.bm=true/\A.all.contains A.bw=true/\A.all.contains A.tm=true:=by simp[Cls.all]
theorem kJ {A:Cls}{c:Addr}(hc:A.all.contains c=true):yQ (A.is c) (.exc c)=some (.bl true):=by rw[KD hc,beq_self_eq_true]
theorem UP {A:Cls}{c d:Addr}(hc:A.all.contains c=true)(h:c≠d):yQ (A.is d) (.exc c)=some (.bl false):=by rw[KD hc,beq_false_of_ne h]
theorem VD {A:Cls}(h:A.Ok):Za A [.exc A.bm]=.ok (.str "machine"):=
 zAh (kJ vC.1) (UP vC.1 h.t) (UP vC.1 h.w) (UP vC.1 h.m) (kK vC.1) (by rfl) (by rfl)
theorem KL {A:Cls}{m:List Stt}(hs:qD m)(h:Xm m=false):zr A [eM m]=.exn A.bm:=by
 have:=Yy A m hs
 rw[h]at this
 exact FR.exn_of (this.mono (λd h=>by cases h.2) λc h=>h.1)
theorem U9 {l:List Int}{i:Int} (h0 : -(l.length:Int)<=i)(h1:i<l.length):∃ z,atD (l.map .int) i=some (.int z):=by
 unfold atD yf
 rw[List.length_map]
 by_cases h:0<=i
 ·rw[if_pos h,if_pos h1]
  have:i.toNat<l.length:=by omega
  exact⟨l[i.toNat],by simp[List.getElem?_eq_getElem this]⟩
 ·rw[if_neg h,if_pos h0]
  have:(i+l.length).toNat<l.length:=by omega
  exact⟨l[(i+l.length).toNat],by simp[List.getElem?_eq_getElem this]⟩
noncomputable def rW (s:D) (k most:Nat)(w:List Int)(a b c:Slot):Rho:=[.fz s,.fz (dn k),.fz (dn most),.own (w.map .int),a,b,c]
theorem JG (s:D) (k most i n:Nat)(w:List Int)(c:Slot):∃ z:Int,ZK 6 (ym (qN 3) (ixO 3 (op2 Vw (op1 VQ (cM (.int 1))) (op2 Zo (op2 Z3 (vM 5) (cM (.int 8))) (Yh 3)))) (cM (.int 0))) (rW s k most w (.fz (dn i)) (.fz (dn n)) c)=.ok .nx (rW s k most w (.fz (dn i)) (.fz (dn n)) (.fz (.int z))):=by
 cases w with
 |nil=>exact⟨0,by rfl⟩
 |cons x r=>
  have hwl:0<(x::r).length:=Nat.succ_pos _
  have hb:(n:Int) / 8 % ((x::r).length:Int)<(x::r).length:=Int.emod_lt_of_pos _ (by omega)
  have hb0:0<=(n:Int) / 8 % ((x::r).length:Int):=Int.emod_nonneg _ (by omega)
  obtain⟨z,hz⟩:=U9 (l:=x::r) (i:=-1 - (n:Int) / 8 % ((x::r).length:Int)) (by omega) (by omega)
  refine⟨z,b_set (i:=6) (ρ:=rW s k most (x::r) (.fz (dn i)) (.fz (dn n)) c) (ρ':=rW s k most (x::r) (.fz (dn i)) (.fz (dn n)) c) ?_⟩
  have hl:Yh 3 (rW s k most (x::r) (.fz (dn i)) (.fz (dn n)) c)=.ok (.int ((x::r).length:Int)) (rW s k most (x::r) (.fz (dn i)) (.fz (dn n)) c):=by
   show Res.ok (D.int (((x::r).map D.int).length:Nat)) _=_
   rw[List.length_map]
  have hi:op2 Vw (op1 VQ (cM (.int 1))) (op2 Zo (op2 Z3 (vM 5) (cM (.int 8))) (Yh 3)) (rW s k most (x::r) (.fz (dn i)) (.fz (dn n)) c)=.ok (.int (-1 - (n:Int) / 8 % ((x::r).length:Int))) (rW s k most (x::r) (.fz (dn i)) (.fz (dn n)) c):=
   zAg (x:=-1) (y:=(n:Int) / 8 % ((x::r).length:Int)) (by rfl) (W8 (x:=(n:Int) / 8) (y:=((x::r).length:Int)) (zAH (x:=(n:Int)) (y:=8) (by rfl) (by rfl) (by decide) rfl) hl (by omega) rfl) rfl
  show (ixO 3 _ (rW s k most (x::r) (.fz (dn i)) (.fz (dn n)) c))=_
  unfold ixO
  show (op2 Vw (op1 VQ (cM (.int 1))) (op2 Zo (op2 Z3 (vM 5) (cM (.int 8))) (Yh 3)) (rW s k most (x::r) (.fz (dn i)) (.fz (dn n)) c)).bnd _=_
  rw[hi,Res.bnd_ok]
  show zO (atD ((x::r).map .int) (-1 - (n:Int) / 8 % ((x::r).length:Int))) _=_
  rw[hz]
  rfl
theorem JF (s:D) (k most i n:Nat)(w:List Int) (z:Int)(hw:w.length<1000):∃ y:Int,Zx 3 (op2 ixD (lstM [vM 6,vM 6,op2 Zo (op2 Z3 (vM 5) (cM (.int 64))) (cM (.int 3)),op2 Zo (op2 Z3 (vM 5) (cM (.int 64))) (cM (.int 9)),op2 ZC (vM 6) (cM (.int 1)),op2 Zo (op2 Z3 (op1 VQ (vM 5)) (cM (.int 64))) (cM (.int 1000))]) (op2 Zo (vM 5) (cM (.int 6)))) (rW s k most w (.fz (dn i)) (.fz (dn n)) (.fz (.int z)))=.ok .nx (rW s k most (w++[y]) (.fz (dn i)) (.fz (dn n)) (.fz (.int z))):=by
 obtain⟨y,hy⟩:=U9 (l:=[z,z,(n:Int) / 64 % 3,(n:Int) / 64 % 9,z+1,-(n:Int) / 64 % 1000]) (i:=(n:Int) % 6) (by show -(6:Int)<=_;omega) (by show _<(6:Int);omega)
 refine⟨y,?_⟩
 rw[ud (i:=3) (ds:=w.map .int) (x:=.int y) (by rfl) (zI (f:=ixD) (x:=.lst [.int z,.int z,.int ((n:Int) / 64 % 3),.int ((n:Int) / 64 % 9),.int (z+1),.int (-(n:Int) / 64 % 1000)]) (y:=.int ((n:Int) % 6)) (by rfl) (by rfl) hy) (by rw[List.length_map];omega)]
 unfold rW
 rw[List.map_append]
 rfl
theorem KP {s:D}{mx:Nat->Nat}(hs:Xs s mx) (k most:Nat)(hm:most<100):∃ w:List Int,Zy [s,dn k,dn most]=.ok (dS w)/\w.length<=most:=by
 have hw:(Zy [s,dn k,dn most]).wp (λd=>∃ w:List Int,d=dS w/\w.length<=most) λ_=>False:=by
  refine YY (zP (ρ':=rW s k most [] .un .un .un) (by rfl) ?_)
  have hlt:mx k % (most+1)<most+1:=Nat.mod_lt _ (by omega)
  refine yV (λρ=>∃ (w:List Int)(j1 j2 j3:Slot),w.length<=most/\ρ=rW s k most w j1 j2 j3) (W9 (n:=mx k % (most+1)) (ρ':=rW s k most [] .un .un .un) (W8 (x:=(mx k:Int)) (y:=(most:Int)+1) (xQ (F:=zN) (xs:=[s,.int (k:Int)]) (by rfl) (hs k)) (yj (x:=(most:Int)) (y:=1) (by rfl) (by rfl) rfl) (by omega) (by push_cast;rfl)) (by omega)
   (y6 (λi ρ=>∃ (w:List Int)(j1 j2 j3:Slot),w.length=i/\ρ=rW s k most w j1 j2 j3) ⟨[],_,_,_,rfl,rfl⟩ ?_ λρ ⟨w,j1,j2,j3,hl,e⟩=>⟨rfl,w,j1,j2,j3,by omega,e⟩)) ?_
  ·rintro i ρ hi ⟨w,j1,j2,j3,hl,rfl⟩
   refine⟨rW s k most w (.fz (dn i)) j2 j3,rfl,?_⟩
   refine zP (ρ':=rW s k most w (.fz (dn i)) (.fz (dn (mx (k+1+i)))) j3) (b_set (i:=5) (ρ':=rW s k most w (.fz (dn i)) j2 j3) (xQ (F:=zN) (xs:=[s,.int ((k+1+i:Nat):Int)]) (zS (x:=s) (ρ1:=rW s k most w (.fz (dn i)) j2 j3) (by rfl) (zS (ρ1:=rW s k most w (.fz (dn i)) j2 j3) (yj (x:=(k:Int)+1) (y:=(i:Int)) (yj (x:=(k:Int)) (y:=1) (by rfl) (by rfl) rfl) (by rfl) (by omega)) (by rfl))) (hs _))) ?_
   obtain⟨z,hz⟩:=JG s k most i (mx (k+1+i)) w j3
   obtain⟨y,hy⟩:=JF s k most i (mx (k+1+i)) w z (by omega)
   exact zP hz (zZ hy ⟨w++[y],_,_,_,by rw[List.length_append,hl];rfl,rfl⟩)
  ·rintro ρ ⟨w,j1,j2,j3,hl,rfl⟩
   exact uc (ds:=w.map .int) (by rfl) (zZ (v8 (by rfl)) ⟨w,rfl,hl⟩)
 generalize Zy [s,dn k,dn most]=r at hw
 cases hw with
 |ok h=>obtain⟨w,rfl,h⟩:=h;exact⟨w,rfl,h⟩
 |exn h=>exact h.elim
end PM
namespace PM
open PySem
theorem FR.ex_of {r:FR}{Q:D->Prop}(h:r.wp Q λ_=>False):∃ d,r=.ok d/\Q d:=by
 cases h with
 |ok h=>exact⟨_,rfl,h⟩
 |exn h=>exact h.elim
theorem uV:∀ (ds:List D) (k i:Nat),(Z9 ds k)[i]? = (ds[i]?).map λd=>.tup [.int ((k+i:Nat):Int),d]
 |[],k,i=>by simp[Z9]
 |d::r,k,0=>by simp[Z9]
 |d::r,k,i+1=>by
  simp only[Z9,List.getElem?_cons_succ]
  rw[uV r (k+1) i,show k+1+i=k+(i+1) by omega]
theorem uU:∀ (ds:List D) (k:Nat),(Z9 ds k).length=ds.length
 |[],_=>rfl
 |d::r,k=>by simp[Z9,uU r]
theorem Qd {α:Type}{f:α->D}{xs:List α}{g:GM}{b:M Fl}{Q:Fl->Rho->Prop}{X:Addr->Prop}{ρ:Rho}(J:Nat->Rho->Prop)(h0:J 0 ρ)(hs:∀ (i:Nat)(x:α)(ρ:Rho),xs[i]? = some x->J i ρ->∃ ρ1,g (.tup [dn i,f x]) ρ=some ρ1/\(b ρ1).wp (xk (J (i+1)) Q) X)
  (he:∀ ρ,J xs.length ρ->Q .nx ρ):(zj g b (Z9 (xs.map f) 0) ρ).wp Q X:=by
 refine Uh J h0 (λi d ρ hd hj=>?_) λρ hj=>he ρ (by simpa[uU] using hj)
 rw[uV,List.getElem?_map]at hd
 cases q:xs[i]? with
 |none=>rw[q]at hd;cases hd
 |some x=>
  rw[q]at hd
  obtain⟨ρ1,e1,w⟩:=hs i x ρ q hj
  refine⟨ρ1,?_,w⟩
  simp at hd
  rw[<-hd]
  exact e1
noncomputable def Yx (m:List Stt) (s t:Nat):Prop:=∃ v ∈ Zb m s,v.1.toNat=t
noncomputable def eL (L:List (List Nat)):List (List D):=L.map dns
noncomputable def rA (m:List Stt)(L:List (List Nat))(j2 j3 j4:Slot):Rho:=[.fz (eM m),.own2 (eL L),j2,j3,j4]
theorem vv:∀ (ds:List D)(acc:List (List D))(a:Slot),acc.length+ds.length<=sizeLine->∃ a',zj (zz 0) (xR 1) ds [a,.own2 acc]=.ok .nx [a',.own2 (acc++List.replicate ds.length [])]
 |[],acc,a,_=>⟨a,by simp[zj]⟩
 |d::ds,acc,a,h=>by
  obtain⟨a',e⟩:=vv ds (acc++[[]]) (.fz d) (by simp at h ⊢;omega)
  refine⟨a',?_⟩
  show (xR 1 [.fz d,.own2 acc]).bnd _=_
  rw[show xR 1 [.fz d,.own2 acc]=.ok .nx [.fz d,.own2 (acc++[[]])] from if_pos (by simp at h;simp;omega)]
  show zj (zz 0) (xR 1) ds [.fz d,.own2 (acc++[[]])]=_
  rw[e,List.length_cons,List.replicate_succ,List.append_assoc]
  rfl
theorem zAm (m:List Stt)(hl:m.length<=400):YJ 1 (zq Zg (vM 0)) 1 [] (zz 0) (Zm 5 [eM m])=.ok .nx (rA m (List.replicate m.length []) .un .un .un):=by
 obtain⟨a',e⟩:=vv (m.map eSt) [] .un (by simp;omega)
 show (zO (Vh 1 (zj (zz 0) (xR 1) (m.map eSt) [.un,.own2 []])) _).bnd _=_
 rw[e]
 show Res.ok _ _=_
 rw[List.length_map]
 unfold rA eL
 rw[List.map_replicate]
 rfl
theorem QZ {m:List Stt}{L:List (List Nat)}{i:Nat}{d:D}{v:Mv}{l:List Nat}(h0:0<=v.1)(hl:L[v.1.toNat]? = some l)(hs:l.length<16777216) :
  WE 1 (op2 ixD (vM 4) (cM (.int 0))) 2 (rA m L (.fz (dn i)) (.fz d) (.fz (eMv v)))=.ok .nx (rA m (L.set v.1.toNat (l++[i])) (.fz (dn i)) (.fz d) (.fz (eMv v))):=by
 have hlt:v.1.toNat<L.length:=(List.getElem?_eq_some_iff.mp hl).1
 have h1:yf (eL L).length v.1=some v.1.toNat:=by
  unfold eL
  rw[List.length_map]
  have:=Wp hlt
  rwa [show ((v.1.toNat:Nat):Int)=v.1 by omega]at this
 have h2:(eL L)[v.1.toNat]? = some (dns l):=by unfold eL;rw[List.getElem?_map,hl];rfl
 show (zO (yf (eL L).length v.1) _).bnd _=_
 rw[h1]
 show (zO ((eL L)[v.1.toNat]?) _).bnd _=_
 rw[h2]
 show (if (dns l).length<sizeLine then _ else _)=_
 rw[if_pos (by rw[sizeLine_eq];simpa[dns] using hs)]
 show Res.ok Fl.nx [.fz (eM m),.own2 ((eL L).set v.1.toNat (dns l++[dn i])),.fz (dn i),.fz d,.fz (eMv v)]=_
 unfold rA
 congr 4
 unfold eL
 rw[List.map_set]
 simp[dns]
theorem JN {m:List Stt}(hm:GoodM m):∃ L:List (List Nat),Zh [eM m]=.ok (.lst (L.map λl=>.lst (dns l)))/\L.length=m.length/\∀ t l,L[t]? = some l->l.length<=2800/\∀ s,s ∈ l ↔ Yx m s t:=by
 have hw:(Zh [eM m]).wp (λd=>∃ L:List (List Nat),d=.lst (L.map λl=>.lst (dns l))/\L.length=m.length/\∀ t l,L[t]? = some l->l.length<=2800/\∀ s,s ∈ l ↔ Yx m s t) λ_=>False:=by
  refine YY (zP (zAm m hm.few) ?_)
  refine yV (λρ=>∃ L j2 j3 j4,ρ=rA m L j2 j3 j4/\L.length=m.length/\∀ t l,L[t]? = some l->l.length<=7 * m.length/\∀ s,s ∈ l ↔ s<m.length/\Yx m s t) (wH rfl rfl ?_) ?_
  ·refine Qd (λi ρ=>∃ L j2 j3 j4,ρ=rA m L j2 j3 j4/\L.length=m.length/\∀ t l,L[t]? = some l->l.length<=7 * i/\∀ s,s ∈ l ↔ s<i/\Yx m s t) ⟨_,_,_,_,rfl,by simp,λt l hl=>?_⟩ ?_ ?_
   ·rw[List.getElem?_replicate]at hl
    split at hl
    ·cases hl;simp
    ·cases hl
   ·rintro i s ρ hi ⟨L,j2,j3,j4,rfl,hL,hinv⟩
    have hgs:=hm.sts s (List.mem_of_getElem? hi)
    have hil:i<m.length:=(List.getElem?_eq_some_iff.mp hi).1
    have hfew:=hm.few
    have hmo:Zb m i=s.2.2:=by unfold Zb;rw[hi];rfl
    refine⟨rA m L (.fz (dn i)) (.fz (eSt s)) j4,rfl,wH (ds:=s.2.2.map eMv) rfl rfl ?_⟩
    refine YX (λc ρ=>∃ L j4,ρ=rA m L (.fz (dn i)) (.fz (eSt s)) j4/\L.length=m.length/\∀ t l,L[t]? = some l->l.length<=7 * i+c/\∀ x,x ∈ l ↔ (x<i/\Yx m x t)\/(x=i/\∃ v ∈ s.2.2.take c,v.1.toNat=t)) ⟨L,j4,rfl,hL,λt l hl=>⟨(hinv t l hl).1,λx=>by rw[(hinv t l hl).2 x];simp⟩⟩ ?_ ?_
    ·rintro c v ρ hv ⟨L,j4,rfl,hL,hinv⟩
     have hvm:v ∈ Zb m i:=by rw[hmo];exact List.mem_of_getElem? hv
     obtain⟨v0,v1⟩:=Yf hm hvm
     have hl0:L[v.1.toNat]? = some L[v.1.toNat]:=List.getElem?_eq_getElem (by omega)
     generalize L[v.1.toNat]=l0 at hl0
     have hc:c<7:=by
      have:=(List.getElem?_eq_some_iff.mp hv).1
      have:=hgs.ml
      have:=hgs.b6
      omega
     obtain⟨q1,q2⟩:=hinv _ _ hl0
     refine⟨rA m L (.fz (dn i)) (.fz (eSt s)) (.fz (eMv v)),rfl,zZ (QZ v0 hl0 (by omega)) ?_⟩
     refine⟨_,_,rfl,by rw[List.length_set];exact hL,λt l hl=>?_⟩
     rw[take_succ hv]
     by_cases ht:t=v.1.toNat
     ·subst ht
      rw[List.getElem?_set_self (by omega)]at hl
      cases hl
      refine⟨by simp;omega,λx=>?_⟩
      rw[List.mem_append,List.mem_singleton,q2 x]
      constructor
      ·rintro ((h | ⟨h1,w,h2,h3⟩) | h)
       ·exact .inl h
       ·exact .inr ⟨h1,w,List.mem_append_left _ h2,h3⟩
       ·exact .inr ⟨h,v,by simp,rfl⟩
      ·rintro (h | ⟨h1,w,h2,h3⟩)
       ·exact .inl (.inl h)
       ·exact .inr h1
     ·rw[List.getElem?_set_ne (Ne.symm ht)]at hl
      obtain⟨g1,g2⟩:=hinv t l hl
      refine⟨by omega,λx=>?_⟩
      rw[g2 x]
      constructor
      ·rintro (h | ⟨h1,w,h2,h3⟩)
       ·exact .inl h
       ·exact .inr ⟨h1,w,List.mem_append_left _ h2,h3⟩
      ·rintro (h | ⟨h1,w,h2,h3⟩)
       ·exact .inl h
       ·rcases List.mem_append.mp h2 with h2 | h2
        ·exact .inr ⟨h1,w,h2,h3⟩
        ·rw[List.mem_singleton.mp h2]at h3;exact absurd h3.symm ht
    ·rintro ρ ⟨L,j4,rfl,hL,hinv⟩
     refine⟨L,_,_,j4,rfl,hL,λt l hl=>?_⟩
     obtain⟨g1,g2⟩:=hinv t l hl
     have:=hgs.ml
     have:=hgs.b6
     refine⟨by omega,λx=>?_⟩
     rw[g2 x,List.take_length]
     constructor
     ·rintro (⟨h1,h2⟩ | ⟨rfl,h2⟩)
      ·exact⟨by omega,h2⟩
      ·exact⟨by omega,by unfold Yx;rw[hmo];exact h2⟩
     ·rintro⟨h1,h2⟩
      by_cases hx:x=i
      ·subst hx
       unfold Yx at h2
       rw[hmo]at h2
       exact .inr ⟨rfl,h2⟩
      ·exact .inl ⟨by omega,h2⟩
   ·rintro ρ ⟨L,j2,j3,j4,rfl,hL,hinv⟩
    exact⟨rfl,L,j2,j3,j4,rfl,hL,hinv⟩
  ·rintro ρ ⟨L,j2,j3,j4,rfl,hL,hinv⟩
   refine .ok ⟨L,?_,hL,λt l hl=>?_⟩
   ·unfold eL
    rw[List.map_map]
    rfl
   ·obtain⟨g1,g2⟩:=hinv t l hl
    have:=hm.few
    refine⟨by omega,λs=>?_⟩
    rw[g2 s]
    refine⟨λh=>h.2,λh=>⟨?_,h⟩⟩
    obtain⟨v,hv,_⟩:=h
    unfold Zb at hv
    cases q:m[s]? with
    |none=>rw[q]at hv;simp at hv
    |some st=>exact (List.getElem?_eq_some_iff.mp q).1
 obtain⟨d,e,L,rfl,h1,h2⟩:=FR.ex_of hw
 exact⟨L,e,h1,h2⟩
end PM
namespace PM
open PySem
theorem UO {i:Nat}{e:M D}{ρ:Rho}{ds:List D}{x d:D}(ho:zl ρ[i]? = some ds)(he:e ρ=.ok x ρ)(hx:ixD (.lst ds) x=some d):ixO i e ρ=.ok d ρ:=by
 unfold ixO
 rw[ho]
 show (e ρ).bnd _=_
 rw[he]
 show (zO (zl ρ[i]?) ρ).bnd _=_
 rw[ho]
 show zO (ixD (.lst ds) x) ρ=_
 rw[hx]
 rfl
theorem Qt {i j:Nat}{e v:M D}{ρ:Rho}{ds:List D}{y:D}{k:Int}(hv:v ρ=.ok y ρ)(ho:zl ρ[i]? = some ds)(he:e ρ=.ok (.int k) ρ)(hk:yf ds.length k=some j):Y2 i e v ρ=.ok .nx (ρ.set i (.own (ds.set j y))):=by
 unfold Y2
 rw[hv]
 show (zO (zl ρ[i]?) ρ).bnd _=_
 rw[ho]
 show (e ρ).bnd _=_
 rw[he]
 show (zO (zl ρ[i]?) ρ).bnd _=_
 rw[ho]
 show (zO (yf ds.length k) ρ).bnd _=_
 rw[hk]
 rfl
theorem Vn {i:Nat}{e:M D}{ρ:Rho}{ds:List D}{x:D}(ho:zl ρ[i]? = some ds)(he:e ρ=.ok x ρ)(hs:ds.length<16777216):Zx i e ρ=.ok .nx (ρ.set i (.own (ds++[x]))):=by
 unfold Zx
 rw[ho]
 show (e ρ).bnd _=_
 rw[he]
 show (zO (zl ρ[i]?) ρ).bnd _=_
 rw[ho]
 show (if ds.length<sizeLine then _ else _)=_
 rw[if_pos (by rw[sizeLine_eq];exact hs)]
theorem Y1 {i:Nat}{e:M D}{ρ ρ':Rho}{x:D}(he:e ρ=.ok x ρ'):ZK i e ρ=.ok .nx (ρ'.set i (.fz x)):=by
 unfold ZK
 rw[he]
 rfl
theorem ZY {F:List D->FR}{as:List (M D)}{ρ ρ':Rho}{xs:List D}{d:D}(ha:zk as ρ=.ok xs ρ')(h:F xs=.ok d):zR F as ρ=.ok d ρ':=by
 unfold zR
 rw[ha]
 show (F xs).to ρ'=_
 rw[h]
 rfl
theorem Ya {s t:M Fl}{ρ ρ':Rho}(e:s ρ=.ok .nx ρ'):zH s t ρ=t ρ':=by unfold zH;rw[e];rfl
noncomputable def eO:Option Nat->D
 |none=>.non
 |some n=>dn n
noncomputable def eA (L:List (List Nat)):D:=.lst (L.map λl=>.lst (dns l))
noncomputable def rSL (m:List Stt)(L:List (List Nat))(left:List (Option Nat))(wt:List Nat) (h:Nat)(j5 j6:Slot):Rho:=[.fz (eM m),.own (left.map eO),.fz (eA L),.own (dns wt),.fz (dn h),j5,j6]
noncomputable def YM (m:List Stt):List (Option Nat):=m.map λs=>if s.1 then some 0 else none
theorem Qr (m:List Stt)(hl:m.length<=400):ZP true 1 (zq Zg (vM 0)) 1 [] (zz 0) none (ym (zL Zc (op2 ixD (vM 0) (cM (.int 0)))) (cM (.int 0)) (cM .non)) (Zm 7 [eM m])=.ok .nx [.fz (eM m),.own ((YM m).map eO),.un,.un,.un,.un,.un]:=by
 refine (wT (caps:=[]) (ds:=m.map eSt) (ρ':=Zm 7 [eM m]) (λd=>match d with | .tup (.bl b::_)=>if b then .int 0 else .non | _=>.non) (by rfl) (by rfl) (by simp;omega) (λd hd acc=>?_)).trans ?_
 rotate_left
 ·show Res.ok Fl.nx [.fz (eM m),.own ((m.map eSt).map _),.un,.un,.un,.un,.un]=_
  congr 4
  unfold YM
  rw[List.map_map,List.map_map]
  refine List.map_congr_left λs _=>?_
  obtain⟨g,b,ms⟩:=s
  cases g<;>rfl
 ·obtain⟨⟨g,b,ms⟩,_,rfl⟩:=List.mem_map.mp hd
  cases g<;>rfl
noncomputable def YD:List Stt->Nat->List Nat
 |[],_=>[]
 |s::r,k=>if s.1 then k::YD r (k+1) else YD r (k+1)
theorem wD:∀ (ms:List Stt) (k i:Nat),i ∈ YD ms k ↔ k<=i/\∃ s,ms[i - k]? = some s/\s.1=true
 |[],k,i=>by simp[YD]
 |s::r,k,i=>by
  have ih:=wD r (k+1) i
  have tail:i≠k->((k<=i/\∃ t,(s::r)[i - k]? = some t/\t.1=true) ↔ (k+1<=i/\∃ t,r[i - (k+1)]? = some t/\t.1=true)):=λhne=>by
   by_cases hk:k+1<=i
   ·obtain⟨j,rfl⟩ : ∃ j,i=k+1+j:=⟨i - (k+1),by omega⟩
    rw[show k+1+j - k=j+1 by omega,show k+1+j - (k+1)=j by omega,List.getElem?_cons_succ]
    exact⟨λh=>⟨hk,h.2⟩,λh=>⟨by omega,h.2⟩⟩
   ·exact⟨λh=>absurd h.1 (by omega),λh=>absurd h.1 hk⟩
  unfold YD
  by_cases hg:s.1=true
  ·rw[if_pos hg,List.mem_cons,ih]
   by_cases hne:i=k
   ·subst hne
    simp[hg]
   ·rw[tail hne]
    simp[hne]
  ·rw[if_neg hg,ih]
   by_cases hne:i=k
   ·subst hne
    simp[hg]
    omega
   ·rw[tail hne]
theorem uM:∀ (ms:List Stt) (k:Nat),(YD ms k).Nodup
 |[],_=>List.nodup_nil
 |s::r,k=>by
  unfold YD
  have:=uM r (k+1)
  split
  ·refine List.nodup_cons.mpr ⟨λh=>?_,this⟩
   have:=((wD r (k+1) k).mp h).1
   omega
  ·exact this
theorem XH:∀ (ms:List Stt) (k:Nat)(acc:List D)(a b:Slot),acc.length+ms.length<=16777216->∃ a' b',zj (Zi [0,1]) (yA 2 (some (zL Zc (op2 ixD (vM 1) (cM (.int 0))))) (vM 0)) (Z9 (ms.map eSt) k) [a,b,.own acc]=.ok .nx [a',b',.own (acc++dns (YD ms k))]
 |[],k,acc,a,b,_=>⟨a,b,by simp[zj,Z9,YD,dns]⟩
 |s::r,k,acc,a,b,h=>by
  obtain⟨g,bx,ms⟩:=s
  cases g with
  |true=>
   obtain⟨a',b',e⟩:=XH r (k+1) (acc++[dn k]) (.fz (dn k)) (.fz (eSt (true,bx,ms))) (by simp at h ⊢;omega)
   refine⟨a',b',?_⟩
   show (Zx 2 (vM 0) [.fz (dn k),.fz (eSt (true,bx,ms)),.own acc]).bnd _=_
   rw[show Zx 2 (vM 0) [.fz (dn k),.fz (eSt (true,bx,ms)),.own acc]=.ok .nx [.fz (dn k),.fz (eSt (true,bx,ms)),.own (acc++[dn k])] from Vn (ds:=acc) (x:=dn k) (by rfl) (by rfl) (by simp at h;omega)]
   show zj _ _ (Z9 (r.map eSt) (k+1)) [.fz (dn k),.fz (eSt (true,bx,ms)),.own (acc++[dn k])]=_
   rw[e]
   simp[YD,dns]
  |false=>
   obtain⟨a',b',e⟩:=XH r (k+1) acc (.fz (dn k)) (.fz (eSt (false,bx,ms))) (by simp at h ⊢;omega)
   refine⟨a',b',?_⟩
   show zj _ _ (Z9 (r.map eSt) (k+1)) [.fz (dn k),.fz (eSt (false,bx,ms)),.own acc]=_
   rw[e]
   simp[YD]
theorem Qp (m:List Stt)(L:List (List Nat))(hl:m.length<=400):ZP true 3 (zq wJ (vM 0)) 2 [] (Zi [0,1]) (some (zL Zc (op2 ixD (vM 1) (cM (.int 0))))) (vM 0) [.fz (eM m),.own ((YM m).map eO),.fz (eA L),.un,.un,.un,.un] =
  .ok .nx [.fz (eM m),.own ((YM m).map eO),.fz (eA L),.own (dns (YD m 0)),.un,.un,.un]:=by
 obtain⟨a',b',e⟩:=XH m 0 [] .un .un (by simp;omega)
 show (zO (xN 2 (zj (Zi [0,1]) (yA 2 (some (zL Zc (op2 ixD (vM 1) (cM (.int 0))))) (vM 0)) (Z9 (m.map eSt) 0) [.un,.un,.own []])) _).bnd _=_
 rw[e]
 rfl
structure BI (m:List Stt)(left:List (Option Nat))(wt:List Nat) (h:Nat):Prop where
 ln:left.length=m.length
 nd:wt.Nodup
 mem:∀ s,s ∈ wt ↔ ∃ d,left[s]? = some (some d)
 gd:∀ (s:Nat)(st:Stt),m[s]? = some st->st.1=true->left[s]? = some (some 0)
 s0:∀ s:Nat,left[s]? = some (some 0)->∃ st,m[s]? = some st/\st.1=true
 s1:∀ s d:Nat,left[s]? = some (some (d+1))->∃ t,Yx m s t/\left[t]? = some (some d)
 ix:∀ i s d:Nat,wt[i]? = some s->left[s]? = some (some d)->d<=i
 mo:∀ i j a b d e:Nat,i<=j->wt[i]? = some a->wt[j]? = some b->left[a]? = some (some d)->left[b]? = some (some e)->d<=e
 wi:∀ i j a b d e:Nat,h<=i->wt[i]? = some a->wt[j]? = some b->left[a]? = some (some d)->left[b]? = some (some e)->e<=d+1
noncomputable def Dn (m:List Stt)(left:List (Option Nat))(wt:List Nat) (h:Nat):Prop:=∀ i t d s:Nat,i<h->wt[i]? = some t->left[t]? = some (some d)->Yx m s t->∃ e,left[s]? = some (some e)/\e<=d+1
theorem BI.few {m:List Stt}{left:List (Option Nat)}{wt:List Nat}{h:Nat}(b:BI m left wt h):wt.length<=m.length:=by
 have:=XW (l:=wt) (k:=List.range m.length) b.nd λs hs=>by
  obtain⟨d,hd⟩:=(b.mem s).mp hs
  have:=(List.getElem?_eq_some_iff.mp hd).1
  rw[b.ln]at this
  simpa using this
 simpa using this
theorem BI.first (m:List Stt):BI m (YM m) (YD m 0) 0:=by
 have at0':∀ (s:Nat)(o:Option Nat),(YM m)[s]? = some o->∃ st,m[s]? = some st/\o=if st.1 then some 0 else none:=λs o h=>by
  unfold YM at h
  rw[List.getElem?_map]at h
  cases q:m[s]? with
  |none=>rw[q]at h;cases h
  |some st=>rw[q]at h;cases h;exact⟨st,rfl,rfl⟩
 have z:∀ s d:Nat,(YM m)[s]? = some (some d)->d=0/\∃ st,m[s]? = some st/\st.1=true:=λs d h=>by
  obtain⟨st,h1,h2⟩:=at0' s _ h
  split at h2
  ·rename_i hg
   cases h2
   exact⟨rfl,st,h1,hg⟩
  ·cases h2
 have gd:∀ (s:Nat)(st:Stt),m[s]? = some st->st.1=true->(YM m)[s]? = some (some 0):=λs st h1 h2=>by
  unfold YM
  rw[List.getElem?_map,h1]
  simp[h2]
 refine⟨by simp[YM],uM m 0,λs=>?_,gd,λs h=>(z s 0 h).2,λs d h=>?_,λi s d _ h=>?_,λi j a b d e _ _ _ h1 _=>?_,λi j a b d e _ _ _ _ h2=>?_⟩
 ·rw[wD]
  constructor
  ·rintro⟨_,st,h1,h2⟩
   exact⟨0,gd s st (by simpa using h1) h2⟩
  ·rintro⟨d,h⟩
   obtain⟨_,st,h1,h2⟩:=z s d h
   exact⟨Nat.zero_le _,st,by simpa using h1,h2⟩
 ·have:=(z s _ h).1
  omega
 ·rw[(z s d h).1];exact Nat.zero_le _
 ·rw[(z a d h1).1];exact Nat.zero_le _
 ·rw[(z b e h2).1];exact Nat.zero_le _
section
variable {m:List Stt}{left:List (Option Nat)}{wt:List Nat}{h here s dh:Nat}
theorem BI.keep (hn:left[s]? = some none){x d:Nat}(hx:left[x]? = some (some d))(o:Option Nat):(left.set s o)[x]? = some (some d):=by
 rw[List.getElem?_set_ne]
 ·exact hx
 ·rintro rfl
  rw[hn]at hx
  cases hx
theorem BI.back (hn:left[s]? = some none){x d:Nat}(hx:(left.set s (some (dh+1)))[x]? = some (some d)):(x=s/\d=dh+1)\/(x≠s/\left[x]? = some (some d)):=by
 by_cases e:x=s
 ·subst e
  rw[List.getElem?_set_self (List.getElem?_eq_some_iff.mp hn).1]at hx
  cases hx
  exact .inl ⟨rfl,rfl⟩
 ·rw[List.getElem?_set_ne (Ne.symm e)]at hx
  exact .inr ⟨e,hx⟩
theorem BI.add (b:BI m left wt h)(hw:wt[h]? = some here)(hd:left[here]? = some (some dh))(he:Yx m s here)(hn:left[s]? = some none):BI m (left.set s (some (dh+1))) (wt++[s]) h:=by
 have hns:s ∉ wt:=λq=>by
  obtain⟨d,q⟩:=(b.mem s).mp q
  rw[hn]at q
  cases q
 have hsl:=(List.getElem?_eq_some_iff.mp hn).1
 have hhl:=(List.getElem?_eq_some_iff.mp hw).1
 have at':∀ {i x:Nat},(wt++[s])[i]? = some x->(i<wt.length/\wt[i]? = some x/\x≠s)\/(i=wt.length/\x=s):=fun {i x} q=>by
  by_cases hi:i<wt.length
  ·rw[List.getElem?_append_left hi]at q
   exact .inl ⟨hi,q,λz=>hns (z ▸ List.mem_of_getElem? q)⟩
  ·have:=(List.getElem?_eq_some_iff.mp q).1
   have hi':i=wt.length:=by simp at this;omega
   subst hi'
   rw[List.getElem?_append_right (Nat.le_refl _)]at q
   simp at q
   exact .inr ⟨rfl,q.symm⟩
 refine⟨by rw[List.length_set];exact b.ln,?_,λx=>?_,λx st h1 h2=>BI.keep hn (b.gd x st h1 h2) _,λx hx=>?_,λx d hx=>?_,λi x d q hx=>?_,λi j a c d e hij qa qc ha hc=>?_,λi j a c d e hi qa qc ha hc=>?_⟩
 ·rw[List.nodup_append]
  refine⟨b.nd,by simp,λx hx y hy z=>?_⟩
  rw[List.mem_singleton.mp hy]at z
  exact hns (z ▸ hx)
 ·rw[List.mem_append,List.mem_singleton]
  constructor
  ·rintro (q | rfl)
   ·obtain⟨d,q⟩:=(b.mem x).mp q
    exact⟨d,BI.keep hn q _⟩
   ·exact⟨dh+1,List.getElem?_set_self hsl⟩
  ·rintro⟨d,q⟩
   rcases BI.back hn q with ⟨rfl,_⟩ | ⟨_,q⟩
   ·exact .inr rfl
   ·exact .inl ((b.mem x).mpr ⟨d,q⟩)
 ·rcases BI.back hn hx with ⟨_,q⟩ | ⟨_,q⟩
  ·omega
  ·exact b.s0 x q
 ·rcases BI.back hn hx with ⟨rfl,q⟩ | ⟨_,q⟩
  ·have:d=dh:=by omega
   subst this
   exact⟨here,he,BI.keep hn hd _⟩
  ·obtain⟨t,h1,h2⟩:=b.s1 x d q
   exact⟨t,h1,BI.keep hn h2 _⟩
 ·have:=b.ix h here dh hw hd
  rcases BI.back hn hx with ⟨rfl,q2⟩ | ⟨ne,q2⟩
  ·rcases at' q with ⟨_,_,q⟩ | ⟨rfl,_⟩
   ·exact absurd rfl q
   ·omega
  ·rcases at' q with ⟨_,q,_⟩ | ⟨_,q⟩
   ·exact b.ix i x d q q2
   ·exact absurd q ne
 ·rcases BI.back hn ha with ⟨rfl,q1⟩ | ⟨n1,q1⟩
  ·rcases at' qa with ⟨_,_,q⟩ | ⟨rfl,_⟩
   ·exact absurd rfl q
   ·rcases at' qc with ⟨q,_⟩ | ⟨_,q⟩
    ·omega
    ·subst q
     rcases BI.back hn hc with ⟨_,q2⟩ | ⟨n2,_⟩
     ·omega
     ·exact absurd rfl n2
  ·rcases at' qa with ⟨ia,qa',_⟩ | ⟨_,q⟩
   ·rcases BI.back hn hc with ⟨rfl,q2⟩ | ⟨n2,q2⟩
    ·have:=b.wi h i here a dh d (Nat.le_refl _) hw qa' hd q1
     omega
    ·rcases at' qc with ⟨_,qc,_⟩ | ⟨_,q⟩
     ·exact b.mo i j a c d e hij qa' qc q1 q2
     ·exact absurd q n2
   ·exact absurd q n1
 ·rcases BI.back hn hc with ⟨rfl,q2⟩ | ⟨n2,q2⟩
  ·rcases BI.back hn ha with ⟨rfl,q1⟩ | ⟨n1,q1⟩
   ·omega
   ·rcases at' qa with ⟨_,qa,_⟩ | ⟨_,q⟩
    ·have:=b.mo h i here a dh d hi hw qa hd q1
     omega
    ·exact absurd q n1
  ·rcases at' qc with ⟨_,qc',_⟩ | ⟨_,q⟩
   ·rcases BI.back hn ha with ⟨rfl,q1⟩ | ⟨n1,q1⟩
    ·have:=b.wi h j here c dh e (Nat.le_refl _) hw qc' hd q2
     omega
    ·rcases at' qa with ⟨_,qa,_⟩ | ⟨_,q⟩
     ·exact b.wi i j a c d e hi qa qc' q1 q2
     ·exact absurd q n1
   ·exact absurd q n2
theorem Dn.add (b:BI m left wt h)(dn:Dn m left wt h)(hw:wt[h]? = some here)(hn:left[s]? = some none):Dn m (left.set s (some (dh+1))) (wt++[s]) h:=by
 intro i t d x hi q1 q2 q3
 have hhl:=(List.getElem?_eq_some_iff.mp hw).1
 rw[List.getElem?_append_left (by omega)]at q1
 have hts:left[t]? = some (some d):=by
  rcases BI.back hn q2 with ⟨rfl,_⟩ | ⟨_,q⟩
  ·obtain⟨d',q⟩:=(b.mem t).mp (List.mem_of_getElem? q1)
   rw[hn]at q
   cases q
  ·exact q
 obtain⟨e,h1,h2⟩:=dn i t d x hi q1 hts q3
 exact⟨e,BI.keep hn h1 _,h2⟩
end
structure SL (m:List Stt)(left:List (Option Nat)):Prop where
 ln:left.length=m.length
 gd:∀ (s:Nat)(st:Stt),m[s]? = some st->st.1=true->left[s]? = some (some 0)
 s0:∀ s:Nat,left[s]? = some (some 0)->∃ st,m[s]? = some st/\st.1=true
 s1:∀ s d:Nat,left[s]? = some (some (d+1))->∃ t,Yx m s t/\left[t]? = some (some d)
 cp:∀ s t d:Nat,Yx m s t->left[t]? = some (some d)->∃ e,left[s]? = some (some e)/\e<=d+1
 lt:∀ s d:Nat,left[s]? = some (some d)->d<m.length
theorem KI {left:List (Option Nat)}{s:Nat}{o:Option Nat}(h:left[s]? = some o):atD (left.map eO) (s:Int)=some (eO o):=ZI eO left s o h
theorem Ul {m:List Stt}(hm:GoodM m):∃ left:List (Option Nat),Zl [eM m]=.ok (.lst (left.map eO))/\SL m left:=by
 obtain⟨L,eL1,hLl,hLe⟩:=JN hm
 have hfew:=hm.few
 have hw:(Zl [eM m]).wp (λd=>∃ left:List (Option Nat),d=.lst (left.map eO)/\SL m left) λ_=>False:=by
  refine YY (zP (Qr m hfew) (zP (Y1 (ρ':=[.fz (eM m),.own ((YM m).map eO),.un,.un,.un,.un,.un]) (ZY (xs:=[eM m]) rfl eL1)) (zP (Qp m L hfew) (zP (ρ':=rSL m L (YM m) (YD m 0) 0 .un .un) rfl ?_))))
  refine yV (λρ=>∃ left wt j5 j6,ρ=rSL m L left wt wt.length j5 j6/\BI m left wt wt.length/\Dn m left wt wt.length) ?_ ?_
  ·refine Vr (λk ρ=>∃ left wt h j5 j6,ρ=rSL m L left wt h j5 j6/\BI m left wt h/\Dn m left wt h/\h<=wt.length/\k=m.length - h) m.length (by rw[U3];omega) ⟨_,_,_,_,_,rfl,BI.first m,λi t d s hi=>absurd hi (Nat.not_lt_zero _),Nat.zero_le _,rfl⟩ ?_
   rintro k ρ ⟨left,wt,h,j5,j6,rfl,hb,hdn,hle,rfl⟩
   have hwm:=hb.few
   by_cases hc:(h:Int)<((dns wt).length:Int)
   ·refine zZ (Yw hc rfl) ?_
    rw[if_pos rfl]
    have hlt:h<wt.length:=by simpa[dns] using hc
    have hwh:wt[h]? = some wt[h]:=List.getElem?_eq_getElem hlt
    generalize wt[h]=here at hwh
    obtain⟨dh,hdh⟩:=(hb.mem here).mp (List.mem_of_getElem? hwh)
    have hhm:here<m.length:=by have:=(List.getElem?_eq_some_iff.mp hdh).1;rw[hb.ln]at this;exact this
    have hl0:L[here]? = some L[here]:=List.getElem?_eq_getElem (by omega)
    generalize L[here]=l at hl0
    obtain⟨hl1,hl2⟩:=hLe here l hl0
    refine zP (ρ':=rSL m L left wt h (.fz (dn here)) j6) (Y1 (UO (ds:=dns wt) (x:=dn h) (by rfl) (by rfl) (ZI dn wt h here hwh))) (zP (ρ':=rSL m L left wt (h+1) (.fz (dn here)) j6) rfl ?_)
    refine wH (x:=.lst (dns l)) (ρ':=rSL m L left wt (h+1) (.fz (dn here)) j6) (zI rfl rfl (ZI (λl=>D.lst (dns l)) L here l hl0)) rfl ?_
    refine YX (λc ρ=>∃ left wt j6,ρ=rSL m L left wt (h+1) (.fz (dn here)) j6/\BI m left wt h/\Dn m left wt h/\wt[h]? = some here/\left[here]? = some (some dh)/\∀ s ∈ l.take c,∃ e,left[s]? = some (some e)/\e<=dh+1) ⟨left,wt,j6,rfl,hb,hdn,hwh,hdh,by simp⟩ ?_ ?_
    ·rintro c s ρ hs ⟨left,wt,j6,rfl,hb,hdn,hwh,hdh,hp⟩
     have hsl:s ∈ l:=List.mem_of_getElem? hs
     have hed:Yx m s here:=(hl2 s).mp hsl
     have hsm:s<m.length:=by
      obtain⟨v,hv,_⟩:=hed
      unfold Zb at hv
      cases q:m[s]? with
      |none=>rw[q]at hv;simp at hv
      |some st=>exact (List.getElem?_eq_some_iff.mp q).1
     obtain⟨o,hso⟩ : ∃ o,left[s]? = some o:=⟨_,List.getElem?_eq_getElem (by rw[hb.ln];exact hsm)⟩
     have hwm:=hb.few
     have hit:op2 isD (ixO 1 (vM 6)) (cM .non) (rSL m L left wt (h+1) (.fz (dn here)) (.fz (dn s)))=.ok (.bl (X8 (eO o))) (rSL m L left wt (h+1) (.fz (dn here)) (.fz (dn s))):=
      zI (UO (ds:=left.map eO) (x:=dn s) (by rfl) (by rfl) (KI hso)) (by rfl) (by rfl)
     refine⟨rSL m L left wt (h+1) (.fz (dn here)) (.fz (dn s)),rfl,?_⟩
     cases o with
     |none=>
      have hk:yf (left.map eO).length (s:Int)=some s:=Wp (by rw[List.length_map,hb.ln];exact hsm)
      have hr:(zH (Y2 1 (vM 6) (op2 ZC (ixO 1 (vM 5)) (cM (.int 1)))) (Zx 3 (vM 6))) (rSL m L left wt (h+1) (.fz (dn here)) (.fz (dn s)))=.ok .nx (rSL m L (left.set s (some (dh+1))) (wt++[s]) (h+1) (.fz (dn here)) (.fz (dn s))):=by
       rw[Ya (ρ':=rSL m L (left.set s (some (dh+1))) wt (h+1) (.fz (dn here)) (.fz (dn s)))]
       ·refine (Vn (ds:=dns wt) (x:=dn s) (by rfl) (by rfl) (by simp[dns];omega)).trans ?_
        unfold rSL
        simp[dns]
       ·refine (Qt (y:=dn (dh+1)) (k:=(s:Int)) (zI (UO (ds:=left.map eO) (x:=dn here) (by rfl) (by rfl) (KI hdh)) (by rfl) (by rfl)) (by rfl) (by rfl) hk).trans ?_
        show Res.ok Fl.nx [.fz (eM m),.own ((left.map eO).set s (dn (dh+1))),.fz (eA L),.own (dns wt),.fz (dn (h+1)),.fz (dn here),.fz (dn s)]=_
        unfold rSL
        rw[List.map_set]
        rfl
      refine zZ ((xi (ZD hit rfl)).trans hr) ?_
      refine⟨_,_,_,rfl,hb.add hwh hdh hed hso,Dn.add hb hdn hwh hso,?_,BI.keep hso hdh _,λx hx=>?_⟩
      ·rw[List.getElem?_append_left (List.getElem?_eq_some_iff.mp hwh).1];exact hwh
      ·rw[take_succ hs]at hx
       rcases List.mem_append.mp hx with hx | hx
       ·obtain⟨e,h1,h2⟩:=hp x hx
        exact⟨e,BI.keep hso h1 _,h2⟩
       ·rw[List.mem_singleton.mp hx]
        exact⟨dh+1,List.getElem?_set_self (by rw[hb.ln];exact hsm),Nat.le_refl _⟩
     |some e=>
      refine zZ (xG (ZD hit rfl)) ?_
      refine⟨left,wt,_,rfl,hb,hdn,hwh,hdh,λx hx=>?_⟩
      rw[take_succ hs]at hx
      rcases List.mem_append.mp hx with hx | hx
      ·exact hp x hx
      ·rw[List.mem_singleton.mp hx]
       obtain⟨j,hj⟩:=List.getElem?_of_mem ((hb.mem s).mpr ⟨e,hso⟩)
       exact⟨e,hso,hb.wi h j here s dh e (Nat.le_refl _) hwh hj hdh hso⟩
    ·rintro ρ ⟨left,wt,j6,rfl,hb,hdn,hwh,hdh,hp⟩
     rw[List.take_length]at hp
     have hlt':=(List.getElem?_eq_some_iff.mp hwh).1
     have hwm:=hb.few
     refine⟨m.length - (h+1),by omega,left,wt,h+1,_,j6,rfl,⟨hb.ln,hb.nd,hb.mem,hb.gd,hb.s0,hb.s1,hb.ix,hb.mo,λi j a b d e hi=>hb.wi i j a b d e (by omega)⟩,λi t d s hi q1 q2 q3=>?_,hlt',rfl⟩
     by_cases e:i=h
     ·subst e
      rw[hwh]at q1
      cases q1
      rw[hdh]at q2
      cases q2
      exact hp s ((hl2 s).mpr q3)
     ·exact hdn i t d s (by omega) q1 q2 q3
   ·refine zZ (yy hc rfl) ?_
    rw[if_neg (by simp)]
    have:h=wt.length:=by simp[dns]at hc;omega
    subst this
    exact⟨rfl,left,wt,j5,j6,rfl,hb,hdn⟩
  ·rintro ρ ⟨left,wt,j5,j6,rfl,hb,hdn⟩
   refine .ok ⟨left,rfl,hb.ln,hb.gd,hb.s0,hb.s1,λs t d he ht=>?_,λs d hs=>?_⟩
   ·obtain⟨i,hi⟩:=List.getElem?_of_mem ((hb.mem t).mpr ⟨d,ht⟩)
    exact hdn i t d s (List.getElem?_eq_some_iff.mp hi).1 hi ht he
   ·obtain⟨i,hi⟩:=List.getElem?_of_mem ((hb.mem s).mpr ⟨d,hs⟩)
    have:=hb.ix i s d hi hs
    have:=(List.getElem?_eq_some_iff.mp hi).1
    have:=hb.few
    omega
 obtain⟨d,e,left,rfl,h⟩:=FR.ex_of hw
 exact⟨left,e,h⟩
end PM
namespace PM
open PySem
inductive Rt (m:List Stt):Nat->Nat->Prop where
 |refl (s:Nat):Rt m s s
 |head {s t u:Nat}(e:Yx m s t)(r:Rt m t u):Rt m s u
theorem Rt.snoc {m:List Stt}{s t u:Nat}(r:Rt m s t)(e:Yx m t u):Rt m s u:=by
 induction r with
 |refl s=>exact .head e (.refl _)
 |head e' _ ih=>exact .head e' (ih e)
noncomputable def YF (m:List Stt) (t:Nat):Prop:=∃ st,m[t]? = some st/\st.1=true
theorem SL.some_of {m:List Stt}{left:List (Option Nat)}(h:SL m left){s t:Nat}(r:Rt m s t)(g:YF m t):∃ d,left[s]? = some (some d):=by
 induction r with
 |refl s=>
  obtain⟨st,h1,h2⟩:=g
  exact⟨0,h.gd s st h1 h2⟩
 |head e _ ih=>
  obtain⟨d,hd⟩:=ih g
  obtain⟨e',h1,_⟩:=h.cp _ _ d e hd
  exact⟨e',h1⟩
theorem SL.of_some {m:List Stt}{left:List (Option Nat)}(h:SL m left):∀ (d s:Nat),left[s]? = some (some d)->∃ t,Rt m s t/\YF m t
 |0,s,e=>⟨s,.refl s,h.s0 s e⟩
 |d+1,s,e=>by
  obtain⟨t,e1,e2⟩:=h.s1 s d e
  obtain⟨u,r,g⟩:=SL.of_some h d t e2
  exact⟨u,.head e1 r,g⟩
theorem SL.none_iff {m:List Stt}{left:List (Option Nat)}(h:SL m left){s:Nat}(hs:s<m.length):left[s]? = some none ↔ ∀ t,Rt m s t->¬ YF m t:=by
 constructor
 ·intro e t r g
  obtain⟨d,hd⟩:=h.some_of r g
  rw[e]at hd
  cases hd
 ·intro q
  have hl:s<left.length:=by rw[h.ln];exact hs
  cases e:left[s] with
  |none=>rw[List.getElem?_eq_getElem hl,e]
  |some d=>
   obtain⟨t,r,g⟩:=h.of_some d s (by rw[List.getElem?_eq_getElem hl,e])
   exact absurd g (q t r)
noncomputable def Zr (m:List Stt):List Stt:=m.map λs=>(!s.1,s.2.1,s.2.2)
theorem WG {m:List Stt}{i:Nat}:(Zr m)[i]? = (m[i]?).map λs=>(!s.1,s.2.1,s.2.2):=by unfold Zr;rw[List.getElem?_map]
theorem yT (m:List Stt):(Zr m).length=m.length:=by simp[Zr]
theorem v4 {m:List Stt}{s t:Nat}:Yx (Zr m) s t ↔ Yx m s t:=by
 have:Zb (Zr m) s=Zb m s:=by
  unfold Zb
  rw[WG]
  cases m[s]?<;>rfl
 unfold Yx
 rw[this]
theorem qE {m:List Stt}{s t:Nat}:Rt (Zr m) s t ↔ Rt m s t:=by
 constructor
 ·intro r
  induction r with
  |refl s=>exact .refl s
  |head e _ ih=>exact .head (v4.mp e) ih
 ·intro r
  induction r with
  |refl s=>exact .refl s
  |head e _ ih=>exact .head (v4.mpr e) ih
end PM
namespace PM
open PySem
theorem W6 (m:List Stt) (g:Int):yi (Zr m) g=yi m g:=by
 unfold yi
 rw[WG]
 cases m[g.toNat]?<;>rfl
theorem QH {m:List Stt}(h:GoodM m):GoodM (Zr m):=by
 have mv:∀ {q:Int}{v:Mv},GoodMv m q v->GoodMv (Zr m) q v:=λg=>⟨g.t0,by rw[yT];exact g.t1,by rw[W6];exact g.ln,g.nd,g.lo,g.hi⟩
 refine⟨by rw[yT];exact h.pos,by rw[yT];exact h.few,by rw[W6];exact h.zer,λs hs=>?_⟩
 obtain⟨s',h',rfl⟩:=List.mem_map.mp hs
 have g:=h.sts s' h'
 exact⟨g.b0,g.b6,g.ml,λc v e=>mv (g.mv c v e)⟩
theorem we {m:List Stt}{t:Nat}(ht:t<m.length):YF (Zr m) t ↔ ¬ YF m t:=by
 have e:m[t]? = some m[t]:=List.getElem?_eq_getElem ht
 unfold YF
 rw[WG,e]
 cases q:m[t].1<;>simp[q]
noncomputable def Qf:D->D
 |.tup [.bl b,n,l]=>.tup [.bl (!b),n,l]
 |d=>d
theorem Xw {e:M D}{ρ ρ':Rho}{x:D}(he:e ρ=.ok x ρ'):ZQ e ρ=.ok (.ret x) ρ':=by
 unfold ZQ
 rw[he]
 rfl
theorem U5 {e:M D}{ρ ρ':Rho}{x:D}(he:e ρ=.ok x ρ'):yJ e ρ=.ok .nx ρ':=by
 unfold yJ
 rw[he]
 rfl
theorem xm {m:List Stt}(hm:GoodM m):qD m:=by
 intro s hs v hv
 have g:=hm.sts s hs
 obtain⟨c,hc⟩:=List.getElem?_of_mem hv
 have gv:=g.mv c v hc
 have hb:yi m v.1<=6:=by
  have h1:v.1.toNat<m.length:=by have:=gv.t0;have:=gv.t1;omega
  have e:m[v.1.toNat]? = some m[v.1.toNat]:=List.getElem?_eq_getElem h1
  unfold yi
  rw[e]
  exact (hm.sts _ (List.getElem_mem h1)).b6
 have:=gv.ln
 omega
theorem Qi {m:List Stt}(hm:GoodM m)(A:Cls):xS A [eM m]=.ok (eM (Zr m)):=by
 have hfew:=hm.few
 refine yO (zP (U5 (ZY (xs:=[eM m]) (by rfl) (Qj hm (xm hm) A))) ?_)
 have hc:yS (zq Zg (vM 0)) 1 [] (zz 0) none (ZU [qo (op2 ixD (vM 0) (cM (.int 0))),op2 ixD (vM 0) (cM (.int 1)),zY (ZB Wn) [op2 ixD (vM 0) (cM (.int 2))]]) (Zm 1 [eM m])=.ok (.lst ((m.map eSt).map Qf)) (Zm 1 [eM m]):=by
  refine xL (caps:=[]) Qf (by rfl) (by rfl) (by rw[sizeLine_eq];simp;omega) λd hd acc=>?_
  obtain⟨s,_,rfl⟩:=List.mem_map.mp hd
  rfl
 refine zZ (Xw hc) ?_
 show D.lst ((m.map eSt).map Qf)=eM (Zr m)
 unfold eM Zr
 rw[List.map_map,List.map_map]
 rfl
end PM
namespace PM
open PySem
noncomputable def vI (a b:Option Nat):Str:=match b with
 |none=>"always"
 |some _=>match a with
  |none=>"never"
  |some _=>"open"
theorem qP (a b:Option Nat):Zn [eO a,eO b]=.ok (.str (vI a b)):=by
 cases b with
 |none=>rfl
 |some d=>
  cases a with
  |none=>rfl
  |some c=>rfl
noncomputable def tel:List Stt->List (Option Nat)->List (Option Nat)->List D
 |s::m,a::l,b::r=>.tup [.bl s.1,.str (vI a b)]::tel m l r
 |_,_,_=>[]
theorem Qh:∀ (m:List Stt)(l r:List (Option Nat)) (i:Nat)(s:Stt)(a b:Option Nat),m[i]? = some s->l[i]? = some a->r[i]? = some b->(tel m l r)[i]? = some (.tup [.bl s.1,.str (vI a b)])
 |[],_,_,i,s,a,b,h,_,_=>by simp at h
 |_::_,[],_,i,s,a,b,_,h,_=>by simp at h
 |_::_,_::_,[],i,s,a,b,_,_,h=>by simp at h
 |s'::m,a'::l,b'::r,0,s,a,b,h1,h2,h3=>by
  simp at h1 h2 h3
  subst h1 h2 h3
  rfl
 |s'::m,a'::l,b'::r,i+1,s,a,b,h1,h2,h3=>Qh m l r i s a b (by simpa using h1) (by simpa using h2) (by simpa using h3)
theorem uO:∀ (m:List Stt)(l r:List (Option Nat))(acc:List D)(x y z:Slot),acc.length+m.length<=10000->∃ x' y' z',zj (Zi [0,1,2]) (yA 3 none (ZU [op2 ixD (vM 0) (cM (.int 0)),zR Zn [vM 1,vM 2]])) (tri (m.map eSt) (l.map eO) (r.map eO)) [x,y,z,.own acc]=.ok .nx [x',y',z',.own (acc++tel m l r)]
 |[],_,_,acc,x,y,z,_=>⟨x,y,z,by simp[tri,tel,zj]⟩
 |_::_,[],_,acc,x,y,z,_=>⟨x,y,z,by simp[tri,tel,zj]⟩
 |_::_,_::_,[],acc,x,y,z,_=>⟨x,y,z,by simp[tri,tel,zj]⟩
 |s::m,a::l,b::r,acc,x,y,z,h=>by
  obtain⟨x',y',z',e⟩:=uO m l r (acc++[.tup [.bl s.1,.str (vI a b)]]) (.fz (eSt s)) (.fz (eO a)) (.fz (eO b)) (by simp at h ⊢;omega)
  refine⟨x',y',z',?_⟩
  show (Zx 3 (ZU [op2 ixD (vM 0) (cM (.int 0)),zR Zn [vM 1,vM 2]]) [.fz (eSt s),.fz (eO a),.fz (eO b),.own acc]).bnd _=_
  have ht:ZU [op2 ixD (vM 0) (cM (.int 0)),zR Zn [vM 1,vM 2]] [.fz (eSt s),.fz (eO a),.fz (eO b),.own acc]=.ok (.tup [.bl s.1,.str (vI a b)]) [.fz (eSt s),.fz (eO a),.fz (eO b),.own acc]:=by
   unfold ZU
   rw[zS (x:=.bl s.1) (xs:=[.str (vI a b)]) (by rfl) (zS (ZY (xs:=[eO a,eO b]) (by rfl) (qP a b)) (by rfl))]
   rfl
  rw[Vn (ds:=acc) (by rfl) ht (by simp at h;omega)]
  show zj _ _ (tri (m.map eSt) (l.map eO) (r.map eO)) [.fz (eSt s),.fz (eO a),.fz (eO b),.own (acc++[.tup [.bl s.1,.str (vI a b)]])]=_
  rw[e]
  simp[tel]
theorem ul {m:List Stt}(hm:GoodM m)(A:Cls):∃ l r:List (Option Nat),yB A [eM m]=.ok (.lst (tel m l r))/\SL m l/\SL (Zr m) r:=by
 obtain⟨l,e1,s1⟩:=Ul hm
 obtain⟨r,e2,s2⟩:=Ul (QH hm)
 have hfew:=hm.few
 refine⟨l,r,?_,s1,s2⟩
 refine yO (zP (ρ':=[.fz (eM m),.fz (.lst (l.map eO)),.un]) ((Y1 (ZY (xs:=[eM m]) (by rfl) e1)).trans (by rfl)) (zP (ρ':=[.fz (eM m),.fz (.lst (l.map eO)),.fz (.lst (r.map eO))]) ((Y1 (ρ':=[.fz (eM m),.fz (.lst (l.map eO)),.un]) (ZY (xs:=[eM (Zr m)]) (zS (ZY (xs:=[eM m]) (by rfl) (Qi hm A)) (by rfl)) e2)).trans (by rfl)) ?_))
 have hz:Vq [vM 0,vM 1,vM 2] [.fz (eM m),.fz (.lst (l.map eO)),.fz (.lst (r.map eO))]=.ok (tri (m.map eSt) (l.map eO) (r.map eO)) [.fz (eM m),.fz (.lst (l.map eO)),.fz (.lst (r.map eO))]:=by
  show zO (if (l.map eO).length=(m.map eSt).length/\(r.map eO).length=(m.map eSt).length then _ else _) _=_
  rw[if_pos ⟨by simp[s1.ln],by simp[s2.ln,yT]⟩]
  rfl
 have hc:yS (Vq [vM 0,vM 1,vM 2]) 3 [] (Zi [0,1,2]) none (ZU [op2 ixD (vM 0) (cM (.int 0)),zR Zn [vM 1,vM 2]]) [.fz (eM m),.fz (.lst (l.map eO)),.fz (.lst (r.map eO))]=.ok (.lst (tel m l r)) [.fz (eM m),.fz (.lst (l.map eO)),.fz (.lst (r.map eO))]:=by
  obtain⟨x',y',z',e⟩:=uO m l r [] .un .un .un (by simp;omega)
  unfold yS
  rw[hz,Res.bnd_ok]
  show (zO (xN 3 (zj (Zi [0,1,2]) (yA 3 none (ZU [op2 ixD (vM 0) (cM (.int 0)),zR Zn [vM 1,vM 2]])) (tri (m.map eSt) (l.map eO) (r.map eO)) [.un,.un,.un,.own []])) _).bnd _=_
  rw[e]
  rfl
 exact zZ (Xw hc) rfl
end PM
namespace PM
open PySem
noncomputable def ZH (s:Stt):Trp:=(s.1,s.2.1,s.2.2.map eMv)
theorem U8 (m:List Stt):(m.map ZH).map dM=m.map eSt:=by
 rw[List.map_map]
 rfl
theorem vx:∀ l:List Int,D.flats (l.map .int)=true
 |[]=>by simp[D.flats]
 |x::l=>by rw[List.map_cons,D.flats,vx l];simp[D.flat]
theorem kS (v:Mv):(eMv v).flat=true:=by simp[eMv,D.flat,D.flats,vx]
theorem uP:∀ l:List Mv,D.flats (l.map eMv)=true
 |[]=>by simp[D.flats]
 |v::l=>by rw[List.map_cons,D.flats,uP l,kS];rfl
theorem UX (m:List Stt):xt (m.map ZH)=true:=by
 unfold xt
 rw[List.all_eq_true]
 intro t ht
 obtain⟨s,_,rfl⟩:=List.mem_map.mp ht
 exact uP s.2.2
theorem Wt:∀ (m:List Stt)(acc:List Trp)(x:Slot),acc.length+m.length<=10000->∃ x',zj (zz 0) (yK 1 (op2 ixD (vM 0) (cM (.int 0))) (op2 ixD (vM 0) (cM (.int 1))) (op2 ixD (vM 0) (cM (.int 2)))) (m.map eSt) [x,.ownM acc]=.ok .nx [x',.ownM (acc++m.map ZH)]
 |[],acc,x,_=>⟨x,by simp[zj]⟩
 |s::m,acc,x,h=>by
  obtain⟨x',e⟩:=Wt m (acc++[ZH s]) (.fz (eSt s)) (by simp at h ⊢;omega)
  refine⟨x',?_⟩
  show (yK 1 (op2 ixD (vM 0) (cM (.int 0))) (op2 ixD (vM 0) (cM (.int 1))) (op2 ixD (vM 0) (cM (.int 2))) [.fz (eSt s),.ownM acc]).bnd _=_
  have ha:yK 1 (op2 ixD (vM 0) (cM (.int 0))) (op2 ixD (vM 0) (cM (.int 1))) (op2 ixD (vM 0) (cM (.int 2))) [.fz (eSt s),.ownM acc]=.ok .nx [.fz (eSt s),.ownM (acc++[ZH s])]:=by
   show (if acc.length<sizeLine then Res.ok Fl.nx [Slot.fz (eSt s),.ownM (acc++[ZH s])] else .bad)=_
   rw[if_pos (by rw[sizeLine_eq];simp at h;omega)]
  rw[ha]
  show zj _ _ (m.map eSt) [.fz (eSt s),.ownM (acc++[ZH s])]=_
  rw[e]
  simp
theorem Xv {i:Nat}{C:Addr}{f:Str}{e:M D}{ρ ρ':Rho}{x:D}{fs:Fds}(he:e ρ=.ok x ρ')(ho:Z7 ρ'[i]? = some (C,fs))(hl:fs.length<1000):yk i C f e ρ=.ok .nx (ρ'.set i (.obj C (XU f false x fs))):=by
 unfold yk
 rw[he,Res.bnd_ok,ho]
 show (if C=C/\fs.length<1000 then _ else _)=_
 rw[if_pos ⟨rfl,hl⟩]
theorem Q7 (f g:Str)(b:Bool)(d:D)(x:Bool×D)(r:Fds)(h:g≠f):XU f b d ((g,x)::r)=(g,x)::XU f b d r:=by
 show (if g=f then _ else _)=_
 rw[if_neg h]
noncomputable def wF (m:List Stt)(tl:List D)(mk:Bool)(p:D):Fds:=[("machine",mk,eM m),("tellings",false,.lst tl),("place",false,p)]
theorem KR {m:List Stt}(hm:GoodM m)(A:Cls)(C:Addr):∃ l r:List (Option Nat),zK A C [] [eM m]=.ok .non (wF m (tel m l r) true (.tup [.int 0,.tup []]))/\SL m l/\SL (Zr m) r:=by
 obtain⟨l,r,e1,s1,s2⟩:=ul hm A
 have hfew:=hm.few
 refine⟨l,r,?_,s1,s2⟩
 have hc:xM (zq Zg (vM 1)) 1 [] (zz 0) (op2 ixD (vM 0) (cM (.int 0))) (op2 ixD (vM 0) (cM (.int 1))) (op2 ixD (vM 0) (cM (.int 2))) [.obj C [],.fz (eM m)]=.ok (m.map ZH) [.obj C [],.fz (eM m)]:=by
  obtain⟨x',e⟩:=Wt m [] .un (by simp;omega)
  show zO (XL 1 (zj (zz 0) (yK 1 (op2 ixD (vM 0) (cM (.int 0))) (op2 ixD (vM 0) (cM (.int 1))) (op2 ixD (vM 0) (cM (.int 2)))) (m.map eSt) [.un,.ownM []])) _=_
  rw[e]
  rfl
 have hb:Ze A C (xK 2 C [] [eM m])=.ok .nx [.obj C (wF m (tel m l r) true (.tup [.int 0,.tup []])),.fz (eM m)]:=by
  unfold Ze
  rw[Ya (ρ':=[.obj C [],.fz (eM m)]) (U5 (ZY (xs:=[eM m]) (by rfl) (Qj hm (xm hm) A)))]
  rw[Ya (ρ':=[.obj C [("machine",true,eM m)],.fz (eM m)]) ?_,Ya (ρ':=[.obj C [("machine",true,eM m),("tellings",false,.lst (tel m l r))],.fz (eM m)]) ?_]
  ·rw[Xv (ρ':=[.obj C [("machine",true,eM m),("tellings",false,.lst (tel m l r))],.fz (eM m)]) (x:=.tup [.int 0,.tup []]) (by rfl) (by rfl) (by show 2<1000;decide),Q7 _ _ _ _ _ _ (by decide +kernel),Q7 _ _ _ _ _ _ (by decide +kernel)]
   rfl
  ·rw[Xv (ρ':=[.obj C [("machine",true,eM m)],.fz (eM m)]) (ZY (xs:=[eM m]) (by rfl) e1) (by rfl) (by show 1<1000;decide),Q7 _ _ _ _ _ _ (by decide +kernel)]
   rfl
  ·unfold Y3
   rw[hc]
   show (if xt (m.map ZH)=true/\C=C/\0<1000 then Res.ok Fl.nx [Slot.obj C [("machine",true,.lst ((m.map ZH).map dM))],.fz (eM m)] else .bad)=_
   rw[if_pos ⟨UX m,rfl,by decide⟩,U8]
   rfl
 unfold zK Yu
 rw[hb]
 show (if C=C then _ else _)=_
 rw[if_pos rfl]
theorem KM (A:Cls)(C:Addr):zK A C [] [.lst []]=.exn A.bm:=by
 unfold zK Yu Ze zH yJ zR
 have:zr A [.lst []]=.exn A.bm:=KL (m:=[]) (λs hs=>by simp at hs) (by decide)
 show OR.of C (((((zr A [.lst []]).to _).bnd _).bnd _))=_
 rw[this]
 rfl
end PM
namespace PM
open PySem
theorem Vf {i:Nat}{C:Addr}{f:Str}{ρ:Rho}{b:Bool}{d:D}{fs:Fds}(ho:Z7 ρ[i]? = some (C,fs))(hl:fs.lookup f=some (b,d)):vS i C f ρ=.ok d ρ:=by
 unfold vS
 rw[ho]
 show (if C=C then (zO (fs.lookup f) ρ).bnd _ else _)=_
 rw[if_pos rfl,hl]
 rfl
section
variable {m:List Stt}{tl:List D}{mk:Bool}{p:D}
theorem zAo:(wF m tl mk p).lookup ("machine" : Str)=some (mk,eM m):=by rfl
theorem zAn:(wF m tl mk p).lookup ("tellings" : Str)=some (false,.lst tl):=by rfl
theorem zAf:(wF m tl mk p).lookup ("place" : Str)=some (false,p):=by rfl
end
theorem uk {m:List Stt}{tl:List D}(C:Addr){q:Pl}{d:D}(hd:tl[q.1]? = some d):zM C (wF m tl false (ePl q)) []=.ok d (wF m tl false (ePl q)):=by
 have hq:q.1<tl.length:=(List.getElem?_eq_some_iff.mp hd).1
 have h:Zu C [.obj C (wF m tl false (ePl q))]=.ok (.ret d) [.obj C (wF m tl false (ePl q))]:=
  Xw (zI (Vf (by rfl) zAn) (zI (x:=ePl q) (y:=.int 0) (z:=dn q.1) (Vf (by rfl) zAf) (by rfl) (by rfl)) (by show atD tl (q.1:Int)=some d;rw[ku _ _ hq];exact hd))
 unfold zM Yu
 show OR.of C (Zu C [.obj C (wF m tl false (ePl q))])=_
 rw[h]
 show (if C=C then _ else _)=_
 rw[if_pos rfl]
theorem YS {i:Nat}{C:Addr}{mt:Str}{F:FO}{as:List (M D)}{ρ:Rho}{fs fs':Fds}{ds:List D}{d:D}(ho:Z7 ρ[i]? = some (C,fs))(hm:(fs.lookup mt).isNone=true)(ha:zk as ρ=.ok ds ρ)(hF:F C fs ds=.ok d fs')(h1:Fds.free fs=true)(h2:Fds.free fs'=true) :
  ZT i C mt F as ρ=.ok d (ρ.set i (.obj C fs')):=by
 unfold ZT
 rw[ho]
 show (if C=C/\(fs.lookup mt).isNone=true then (zk as ρ).bnd _ else _)=_
 rw[if_pos ⟨rfl,hm⟩,ha,Res.bnd_ok,ho]
 show (match F C fs ds with | .ok d fs'=>_ | _=>_)=_
 rw[hF]
 show (if C=C/\Fds.free fs=true/\Fds.free fs'=true then _ else _)=_
 rw[if_pos ⟨rfl,h1,h2⟩]
theorem JM {m:List Stt}(hm:GoodM m){tl:List D}(C:Addr){q:Pl}{s:Stt}(hq:At m q s) (x:Int){d:D}(hd:tl[(step m q x).1]? = some d) :
  zw C (wF m tl false (ePl q)) [.int x]=.ok d (wF m tl false (ePl (step m q x))):=by
 have h1:yk 0 C "place" (zR yn [vS 0 C "machine",vS 0 C "place",vM 1]) [.obj C (wF m tl false (ePl q)),.fz (.int x)]=.ok .nx [.obj C (wF m tl false (ePl (step m q x))),.fz (.int x)]:=by
  rw[Xv (ρ':=[.obj C (wF m tl false (ePl q)),.fz (.int x)]) (ZY (xs:=[eM m,ePl q,.int x]) (zS (Vf (by rfl) zAo) (zS (Vf (by rfl) zAf) (by rfl))) (qR hm hq x)) (by rfl) (by show 3<1000;decide)]
  unfold wF
  rw[Q7 _ _ _ _ _ _ (by decide +kernel),Q7 _ _ _ _ _ _ (by decide +kernel)]
  rfl
 have h:Zf C [.obj C (wF m tl false (ePl q)),.fz (.int x)]=.ok (.ret d) [.obj C (wF m tl false (ePl (step m q x))),.fz (.int x)]:=by
  unfold Zf
  rw[Ya h1]
  exact Xw (YS (fs:=wF m tl false (ePl (step m q x))) (ds:=[]) (by rfl) (by rfl) (by rfl) (uk C hd) (by rfl) (by rfl))
 unfold zw Yu
 show OR.of C (Zf C [.obj C (wF m tl false (ePl q)),.fz (.int x)])=_
 rw[h]
 show (if C=C then _ else _)=_
 rw[if_pos rfl]
theorem Qk {m:List Stt}{tl:List D}(C:Addr){q:Pl}(hl:q.2.length<64):Ys "place" C (wF m tl false (ePl q)) []=.ok (dS (Z1 q.2)) (wF m tl false (ePl q)):=by
 have:Xh (ePl q)=some (dS (Z1 q.2)):=by
  show (Zv (q.2.map .int)).bind _=_
  rw[yu]
  show (if q.2.length<64 then _ else _)=_
  rw[if_pos hl]
 show (match Xh (ePl q) with | some d=>_ | none=>_)=_
 rw[this]
end PM
namespace PM
open PySem
structure CSr (m:List Stt) (s0:Nat)(S:List Int):Prop where
 nd:S.Nodup
 lo:∀ x ∈ S,0<=x
 hi:∀ x ∈ S,x<m.length
 re:∀ x ∈ S,Rt m s0 x.toNat
 z:(s0:Int) ∈ S
noncomputable def wP (m:List Stt)(S:List Int):Prop:=∀ x ∈ S,∀ v ∈ Zb m x.toNat,v.1 ∈ S
theorem CSr.le {m:List Stt}{s0:Nat}{S:List Int}(h:CSr m s0 S):S.length<=m.length:=by
 have:=XW (l:=S) (k:=(List.range m.length).map λn:Nat=>(n:Int)) h.nd λx hx=>by
  have:=h.lo x hx
  have:=h.hi x hx
  exact List.mem_map.mpr ⟨x.toNat,by simp;omega,by omega⟩
 simpa using this
theorem CSr.all {m:List Stt}{s0:Nat}{S:List Int}(h:CSr m s0 S)(hc:wP m S)(hm:GoodM m) (s:Nat):(s:Int) ∈ S ↔ Rt m s0 s:=by
 constructor
 ·intro hs
  simpa using h.re _ hs
 ·intro r
  have key:∀ {a b:Nat},Rt m a b->(a:Int) ∈ S->(b:Int) ∈ S:=fun {a b} r=>by
   induction r with
   |refl _=>exact λq=>q
   |head e _ ih=>
    intro q
    obtain⟨v,hv,rfl⟩:=e
    have h0:=(Yf hm hv).1
    refine ih ?_
    have:=hc _ q v (by simpa using hv)
    rwa [show ((v.1.toNat:Nat):Int)=v.1 by omega]
  exact key r h.z
theorem qY (l:List Int)(h:l.length<64):YI (.lst (l.map .int))=some (dS (ZF l)):=by simp[YI,yu,h]
theorem KY (a b:List D)(h:a.length+b.length<=16777216):ZC (.lst a) (.lst b)=some (.lst (a++b)):=by
 show (if a.length+b.length<=sizeLine then _ else _)=_;rw[sizeLine_eq,if_pos h]
theorem Wg {a x:Int}:∀ {l:List Int},x ∈ Xk a l ↔ x=a\/x ∈ l
 |[]=>by simp[Xk]
 |b::r=>by
  unfold Xk
  split
  ·simp
  ·split
   ·rename_i h1 h2
    subst h2
    simp
   ·rw[List.mem_cons,Wg (l:=r),List.mem_cons]
    constructor
    ·rintro (h | h | h)
     ·exact .inr (.inl h)
     ·exact .inl h
     ·exact .inr (.inr h)
    ·rintro (h | h | h)
     ·exact .inr (.inl h)
     ·exact .inl h
     ·exact .inr (.inr h)
theorem wZ {x:Int}:∀ {l:List Int},x ∈ ZF l ↔ x ∈ l
 |[]=>by simp[ZF]
 |a::r=>by unfold ZF;rw[Wg,wZ (l:=r),List.mem_cons]
theorem wS {a:Int}:∀ {l:List Int},l.Pairwise (· < ·)->(Xk a l).Pairwise (· < ·)
 |[],_=>by simp[Xk]
 |b::r,h=>by
  obtain⟨h1,h2⟩:=List.pairwise_cons.mp h
  unfold Xk
  split
  ·rename_i hab
   exact List.pairwise_cons.mpr ⟨λx hx=>by rcases List.mem_cons.mp hx with rfl | hx;exact hab;exact Int.lt_trans hab (h1 x hx),h⟩
  ·split
   ·exact h
   ·refine List.pairwise_cons.mpr ⟨λx hx=>?_,wS h2⟩
    rcases Wg.mp hx with rfl | hx
    ·omega
    ·exact h1 x hx
theorem Y0:∀ l:List Int,(ZF l).Pairwise (· < ·)
 |[]=>List.Pairwise.nil
 |a::r=>by unfold ZF;exact wS (Y0 r)
theorem vL (l:List Int):(ZF l).Nodup:=(Y0 l).imp λh e=>by omega
noncomputable def rL (a0 mm a2 a3 a4 a5 a6 a7 a8 so t1 t2:Slot):Rho:=[mm,a0,so,t1,t2,a8]
theorem qJ {m:List Stt}(hm:GoodM m){s0:Nat}(h0s:s0<m.length)(h10:m.length<=10){R:Fl->Rho->Prop}{a0 a2 a3 a4 a5 a6 a7 a8 a10 a11:Slot}(hR:∀ S j1 j2,CSr m s0 S->wP m S->R .nx (rL a0 (.fz (eM m)) a2 a3 a4 a5 a6 a7 a8 (.fz (dS S)) j1 j2)) :
  ((YQ (zY (ZB Z8) [vM 0]) (zz 3) (YQ (zY (ZB Z8) [vM 0]) (zz 4) (ifM (zL zV (op2 inD (vM 4) (vM 2))) (ZK 2 (op1 YI (op2 ZC (vM 2) (yS (zq Zg (op2 ixD (op2 ixD (vM 0) (vM 4)) (cM (.int 2)))) 1 [] (zz 0) none (op2 ixD (vM 0) (cM (.int 0))))))) (nxM)))) (rL a0 (.fz (eM m)) a2 a3 a4 a5 a6 a7 a8 (.fz (dS [(s0:Int)])) a10 a11)).wp R λ_=>False:=by
 have hpos:=hm.pos
 have hfew:=hm.few
 have e5:Z8 (eM m)=some (.int m.length):=by simp[eM]
 simp only[p_forR,p_callB,p_args,p_args0,p_vM,rL,List.getElem?_cons_succ,List.getElem?_cons_zero,fz_fz,oP_some,s_arg1,e5]
 rw[s_range _ (by omega)]
 simp only[oP_some,Int.toNat_natCast]
 refine y6 (λt ρ=>∃ S j1 j2,CSr m s0 S/\(wP m S\/t+1<=S.length)/\ρ=rL a0 (.fz (eM m)) a2 a3 a4 a5 a6 a7 a8 (.fz (dS S)) j1 j2) ⟨[(s0:Int)],_,_,⟨by simp,by simp,by simp;omega,λx hx=>by simp at hx;subst hx;simpa using Rt.refl s0,by simp⟩,.inr (by simp),rfl⟩ ?_ ?_
 ·rintro t ρ ht ⟨S,j1,j2,hS,hc,rfl⟩
  refine⟨_,rfl,?_⟩
  simp only[p_forR,p_callB,p_args,p_args0,p_vM,rL,List.set,List.getElem?_cons_succ,List.getElem?_cons_zero,fz_fz,oP_some,s_arg1,e5]
  rw[s_range _ (by omega)]
  simp only[oP_some,Int.toNat_natCast]
  refine y6 (λa ρ=>∃ S' j2,CSr m s0 S'/\(∀ x ∈ S,x ∈ S')/\(∀ at':Nat,at'<a->(at':Int) ∈ S->∀ v ∈ Zb m at',v.1 ∈ S')/\(wP m S->∀ x ∈ S',x ∈ S)/\ρ=rL a0 (.fz (eM m)) a2 a3 a4 a5 a6 a7 a8 (.fz (dS S')) (.fz (.int t)) j2) ⟨S,_,hS,λx h=>h,λat' h=>absurd h (Nat.not_lt_zero _),λ_ x h=>h,rfl⟩ ?_ ?_
  ·rintro a ρ ha ⟨S',j2,hS',h1,h2,h3,rfl⟩
   refine⟨_,rfl,?_⟩
   obtain⟨st,hst⟩ : ∃ st,m[a]? = some st:=⟨_,List.getElem?_eq_getElem ha⟩
   have e1:=ZI eSt m a st hst
   have hmo:Zb m a=st.2.2:=by unfold Zb;rw[hst];rfl
   have hle:=hS'.le
   have hg6:=(hm.sts st (List.mem_of_getElem? hst)).b6
   have hgl:=(hm.sts st (List.mem_of_getElem? hst)).ml
   by_cases hin:(a:Int) ∈ S'
   ·have hcomp:∀ j,yS (zq Zg (op2 ixD (op2 ixD (vM 0) (vM 4)) (cM (.int 2)))) 1 [] (zz 0) none (op2 ixD (vM 0) (cM (.int 0))) (rL a0 (.fz (eM m)) a2 a3 a4 a5 a6 a7 a8 (.fz (dS S')) j (.fz (.int a))) =
      .ok (dS (st.2.2.map (·.1))) (rL a0 (.fz (eM m)) a2 a3 a4 a5 a6 a7 a8 (.fz (dS S')) j (.fz (.int a))):=by
     intro j
     rw[xL (caps:=[]) (ds:=st.2.2.map eMv) (ρ':=rL a0 (.fz (eM m)) a2 a3 a4 a5 a6 a7 a8 (.fz (dS S')) j (.fz (.int a))) (λd=>match d with | .tup (.int t::_)=>.int t | _=>.non) ?_ rfl (by simp;omega) ?_]
     ·simp[Function.comp_def,eMv]
     ·refine V8 ?_
      unfold zq
      simp[rL,eM,e1,eSt]
     ·intro d hd acc
      obtain⟨v,_,rfl⟩:=List.mem_map.mp hd
      refine V8 ?_
      simp[eMv]
    have hadd:ZC (dS S') (dS (st.2.2.map (·.1)))=some (dS (S'++st.2.2.map (·.1))):=by
     rw[KY _ _ (by simp;omega)];simp
    have hsort:=qY (S'++st.2.2.map (·.1)) (by simp;omega)
    simp only[p_if,p_test,p_op2,p_vM,rL,List.set,List.getElem?_cons_succ,List.getElem?_cons_zero,fz_fz,oP_some,ji,decide_eq_true hin,s_boolB,if_true,p_set,p_op1]
    refine zZ (hcomp _) ?_
    simp only[hadd,oP_some,hsort,rL,List.set,turn_nx]
    have mem:∀ x,x ∈ ZF (S'++st.2.2.map (·.1)) ↔ x ∈ S'\/∃ v ∈ st.2.2,v.1=x:=λx=>by rw[wZ];simp
    have hra:Rt m s0 a:=by simpa using hS'.re _ hin
    refine⟨_,_,⟨vL _,λx hx=>?_,λx hx=>?_,λx hx=>?_,?_⟩,λx hx=>(mem x).mpr (.inl (h1 x hx)),λat' hat hin' v hv=>?_,λhcl x hx=>?_,rfl⟩
    ·rcases (mem x).mp hx with h | ⟨v,hv,rfl⟩
     ·exact hS'.lo x h
     ·exact (Yf hm (by rw[hmo];exact hv)).1
    ·rcases (mem x).mp hx with h | ⟨v,hv,rfl⟩
     ·exact hS'.hi x h
     ·have:=Yf hm (s:=a) (by rw[hmo];exact hv);omega
    ·rcases (mem x).mp hx with h | ⟨v,hv,rfl⟩
     ·exact hS'.re x h
     ·exact hra.snoc ⟨v,by rw[hmo];exact hv,rfl⟩
    ·exact (mem _).mpr (.inl hS'.z)
    ·by_cases e:at'=a
     ·subst e
      exact (mem _).mpr (.inr ⟨v,by rw[<-hmo];exact hv,rfl⟩)
     ·exact (mem _).mpr (.inl (h2 at' (by omega) hin' v hv))
    ·rcases (mem x).mp hx with h | ⟨v,hv,rfl⟩
     ·exact h3 hcl x h
     ·exact hcl _ (h3 hcl _ hin) v (by simpa[hmo] using hv)
   ·simp only[p_if,p_test,p_op2,p_vM,rL,List.set,List.getElem?_cons_succ,List.getElem?_cons_zero,fz_fz,oP_some,ji,decide_eq_false hin,s_boolB,if_false,Bool.false_eq_true,p_nx,turn_nx]
    refine⟨S',_,hS',h1,λat' hat hin' v hv=>?_,h3,rfl⟩
    by_cases e:at'=a
    ·subst e
     exact absurd (h1 _ hin') hin
    ·exact h2 at' (by omega) hin' v hv
  ·rintro ρ ⟨S',j2,hS',h1,h2,h3,rfl⟩
   refine⟨S',_,_,hS',?_,rfl⟩
   by_cases hcl:wP m S
   ·refine .inl λx hx v hv=>?_
    exact h1 _ (hcl x (h3 hcl x hx) v hv)
   ·have hlen:=hc.resolve_left hcl
    refine .inr ?_
    have:∃ x ∈ S,∃ v ∈ Zb m x.toNat,v.1 ∉ S:=by
     refine Classical.byContradiction λq=>hcl λx hx v hv=>Classical.byContradiction λz=>q ⟨x,hx,v,hv,z⟩
    obtain⟨x,hx,v,hv,hvn⟩:=this
    have hx0:=hS.lo x hx
    have hx1:=hS.hi x hx
    have hv':v.1 ∈ S':=h2 x.toNat (by omega) (by rw[show ((x.toNat:Nat):Int)=x by omega];exact hx) v hv
    have:=XW (l:=v.1::S) (k:=S') (List.nodup_cons.mpr ⟨hvn,hS.nd⟩) λy hy=>by
     rcases List.mem_cons.mp hy with rfl | hy
     ·exact hv'
     ·exact h1 y hy
    simp at this
    omega
 ·rintro ρ ⟨S,j1,j2,hS,hc,rfl⟩
  refine hR S j1 j2 hS ?_
  rcases hc with h | h
  ·exact h
  ·have:=hS.le
   omega
end PM
namespace PM
open PySem
theorem W7 (bs:List Bool):xP (bs.map .bl)=some bs:=by
 induction bs with
 |nil=>rfl
 |cons b r ih=>simp[xP,ih]
theorem jz {f:List D->Option D}{as:List (M D)}{ρ ρ':Rho}{xs:List D}{d:D}(ha:zk as ρ=.ok xs ρ')(h:f xs=some d):zY f as ρ=.ok d ρ':=by
 unfold zY
 rw[ha,Res.bnd_ok,h]
 rfl
theorem xO {f:D->Option D}{a:M D}{ρ ρ':Rho}{x d:D}(ha:a ρ=.ok x ρ')(h:f x=some d):zY (ZB f) [a] ρ=.ok d ρ':=jz (xs:=[x]) (zS ha (by rfl)) h
theorem ja {c:M Bool}{a b:M D}{ρ ρ':Rho}(h:c ρ=.ok true ρ'):ym c a b ρ=a ρ':=by unfold ym;rw[h];rfl
theorem je {c:M Bool}{a b:M D}{ρ ρ':Rho}(h:c ρ=.ok false ρ'):ym c a b ρ=b ρ':=by unfold ym;rw[h];rfl
noncomputable def gdZ (m:List Stt) (x:Int):Bool:=((m[x.toNat]?).map (·.1)).getD false
theorem JL {m:List Stt}(hm:GoodM m)(h10:m.length<=10){l r:List (Option Nat)}(s1:SL m l)(s2:SL (Zr m) r){s0:Nat}(hs:s0<m.length){a b:Option Nat}(ha:l[s0]? = some a)(hb:r[s0]? = some b) :
  zt [eM m,dn s0]=.ok (.str (vI a b)):=by
 refine yO (zP (ρ':=rL (.fz (dn s0)) (.fz (eM m)) .un .un .un .un .un .un .un (.fz (dS [(s0:Int)])) .un .un) (by rfl) ?_)
 refine yV (λρ=>∃ S j1 j2,CSr m s0 S/\wP m S/\ρ=rL (.fz (dn s0)) (.fz (eM m)) .un .un .un .un .un .un .un (.fz (dS S)) j1 j2) (qJ hm hs h10 λS j1 j2 h1 h2=>⟨rfl,S,j1,j2,h1,h2,rfl⟩) ?_
 rintro ρ ⟨S,j1,j2,hS,hcl,rfl⟩
 have hall:=hS.all hcl hm
 have hle:=hS.le
 have hcomp:ZP false 5 (zq Zg (vM 2)) 1 [0] (zz 0) none (op2 ixD (op2 ixD (vM 1) (vM 0)) (cM (.int 0))) (rL (.fz (dn s0)) (.fz (eM m)) .un .un .un .un .un .un .un (.fz (dS S)) j1 j2)=.ok .nx (rL (.fz (dn s0)) (.fz (eM m)) .un .un .un .un .un .un (.fz (.lst ((S.map (gdZ m)).map .bl))) (.fz (dS S)) j1 j2):=by
  refine (wT (caps:=[.fz (eM m)]) (ds:=S.map .int) (ρ':=rL (.fz (dn s0)) (.fz (eM m)) .un .un .un .un .un .un .un (.fz (dS S)) j1 j2) (λd=>match d with | .int x=>.bl (gdZ m x) | _=>.non) (by rfl) (by rfl) (by rw[sizeLine_eq];simp;omega) λd hd acc=>?_).trans ?_
  ·obtain⟨x,hx,rfl⟩:=List.mem_map.mp hd
   have h0:=hS.lo x hx
   have h1:=hS.hi x hx
   have hx':x.toNat<m.length:=by omega
   have e:m[x.toNat]? = some m[x.toNat]:=List.getElem?_eq_getElem hx'
   have hg:gdZ m x=m[x.toNat].1:=by simp[gdZ,e]
   have ea:=ZI eSt m x.toNat _ e
   rw[show ((x.toNat:Nat):Int)=x by omega]at ea
   exact zI (zI (x:=eM m) (y:=.int x) (by rfl) (by rfl) ea) (by rfl) (by show some (D.bl m[x.toNat].1)=some (.bl (gdZ m x));rw[hg])
  ·rw[List.map_map,List.map_map]
   rfl
 refine zP hcomp ?_
 have gd:∀ x ∈ S,gdZ m x=true ↔ YF m x.toNat:=λx hx=>by
  have h0:=hS.lo x hx
  have h1:=hS.hi x hx
  have e:m[x.toNat]? = some m[x.toNat]:=List.getElem?_eq_getElem (by omega)
  unfold gdZ YF
  rw[e]
  simp
 have hA:(S.map (gdZ m)).all id=true ↔ b=none:=by
  have q:r[s0]? = some none ↔ _:=s2.none_iff (s:=s0) (by rw[yT];exact hs)
  rw[hb]at q
  have q:b=none ↔ ∀ t,Rt (Zr m) s0 t->¬ YF (Zr m) t:=⟨λz=>q.mp (by rw[z]),λz=>Option.some.inj (q.mpr z)⟩
  rw[q,List.all_eq_true]
  constructor
  ·intro z t rt
   have rt:=qE.mp rt
   have hi:=(hall t).mpr rt
   have hb':=hS.hi _ hi
   rw[we (by omega),Classical.not_not]
   have:=(gd _ hi).mp (z _ (List.mem_map_of_mem hi))
   simpa using this
  ·intro z y hy
   obtain⟨x,hx,rfl⟩:=List.mem_map.mp hy
   have h0:=hS.lo x hx
   have h1:=hS.hi x hx
   have:=z x.toNat (qE.mpr (hS.re x hx))
   rw[we (by omega),Classical.not_not]at this
   exact (gd x hx).mpr this
 have hB:(S.map (gdZ m)).any id=true ↔ a≠none:=by
  have q:l[s0]? = some none ↔ _:=s1.none_iff hs
  rw[ha]at q
  have q:a=none ↔ ∀ t,Rt m s0 t->¬ YF m t:=⟨λz=>q.mp (by rw[z]),λz=>Option.some.inj (q.mpr z)⟩
  rw[List.any_eq_true]
  constructor
  ·rintro⟨y,hy,hy1⟩ z
   obtain⟨x,hx,rfl⟩:=List.mem_map.mp hy
   exact q.mp z _ (hS.re x hx) ((gd x hx).mp hy1)
  ·intro z
   refine Classical.byContradiction λw=>z (q.mpr λt rt g=>w ?_)
   have hi:=(hall t).mpr rt
   exact⟨_,List.mem_map_of_mem hi,(gd _ hi).mpr (by simpa using g)⟩
 have tA:zL Zc (zY (ZB JD) [vM 5]) (rL (.fz (dn s0)) (.fz (eM m)) .un .un .un .un .un .un (.fz (.lst ((S.map (gdZ m)).map .bl))) (.fz (dS S)) j1 j2)=.ok ((S.map (gdZ m)).all id) (rL (.fz (dn s0)) (.fz (eM m)) .un .un .un .un .un .un (.fz (.lst ((S.map (gdZ m)).map .bl))) (.fz (dS S)) j1 j2):=
  ZD (xO (d:=.bl ((S.map (gdZ m)).all id)) (by rfl) (by show (xP _).map _=_;rw[W7];rfl)) (by rfl)
 have tB:zL Zc (zY (ZB JC) [vM 5]) (rL (.fz (dn s0)) (.fz (eM m)) .un .un .un .un .un .un (.fz (.lst ((S.map (gdZ m)).map .bl))) (.fz (dS S)) j1 j2)=.ok ((S.map (gdZ m)).any id) (rL (.fz (dn s0)) (.fz (eM m)) .un .un .un .un .un .un (.fz (.lst ((S.map (gdZ m)).map .bl))) (.fz (dS S)) j1 j2):=
  ZD (xO (d:=.bl ((S.map (gdZ m)).any id)) (by rfl) (by show (xP _).map _=_;rw[W7];rfl)) (by rfl)
 refine zZ (Xw (ρ':=rL (.fz (dn s0)) (.fz (eM m)) .un .un .un .un .un .un (.fz (.lst ((S.map (gdZ m)).map .bl))) (.fz (dS S)) j1 j2) (x:=.str (vI a b)) ?_) rfl
 by_cases c1:(S.map (gdZ m)).all id=true
 ·rw[ja (by rw[tA,c1]),hA.mp c1]
  rfl
 ·have c1':(S.map (gdZ m)).all id=false:=by simpa using c1
  rw[je (by rw[tA,c1'])]
  have hb':b≠none:=λz=>c1 (hA.mpr z)
  obtain⟨bb,rfl⟩:=Option.ne_none_iff_exists'.mp hb'
  by_cases c2:(S.map (gdZ m)).any id=true
  ·rw[ja (by rw[tB,c2])]
   obtain⟨aa,rfl⟩:=Option.ne_none_iff_exists'.mp (hB.mp c2)
   rfl
  ·have c2':(S.map (gdZ m)).any id=false:=by simpa using c2
   rw[je (by rw[tB,c2'])]
   have:a=none:=Classical.byContradiction λz=>c2 (hB.mpr z)
   rw[this]
   rfl
end PM
namespace PM
open PySem
noncomputable def reS (w f:Nat) (k:Nat)(s:Stt):Stt:=(if f<=k then decide ((w:Int)=1) else s.1,s.2.1,s.2.2)
noncomputable def reM (w f:Nat):Nat->List Stt->List Stt
 |_,[]=>[]
 |k,s::m=>reS w f k s::reM w f (k+1) m
theorem xV (w f:Nat):∀ (k:Nat)(m:List Stt),(reM w f k m).length=m.length
 |_,[]=>rfl
 |k,s::m=>by rw[reM,List.length_cons,List.length_cons,xV]
theorem VJ (w f:Nat):∀ (k:Nat)(m:List Stt) (i:Nat),(reM w f k m)[i]? = (m[i]?).map (reS w f (k+i))
 |_,[],i=>by simp[reM]
 |k,s::m,0=>by simp[reM]
 |k,s::m,i+1=>by
  rw[reM,List.getElem?_cons_succ,List.getElem?_cons_succ,VJ w f (k+1) m i,show k+1+i=k+(i+1) by omega]
theorem ub {w f:Nat}{m:List Stt} (g:Int):yi (reM w f 0 m) g=yi m g:=by
 unfold yi
 rw[VJ]
 cases m[g.toNat]?<;>rfl
theorem kO {w f:Nat}{m:List Stt}(h:GoodM m):GoodM (reM w f 0 m):=by
 have mv:∀ {q:Int}{v:Mv},GoodMv m q v->GoodMv (reM w f 0 m) q v:=λg=>⟨g.t0,by rw[xV];exact g.t1,by rw[ub];exact g.ln,g.nd,g.lo,g.hi⟩
 refine⟨by rw[xV];exact h.pos,by rw[xV];exact h.few,by rw[ub];exact h.zer,λs hs=>?_⟩
 obtain⟨i,hi⟩:=List.getElem?_of_mem hs
 rw[VJ]at hi
 obtain⟨s',h',rfl⟩:=Option.map_eq_some_iff.mp hi
 have g:=h.sts s' (List.mem_of_getElem? h')
 exact⟨g.b0,g.b6,g.ml,λc v e=>mv (g.mv c v e)⟩
theorem kR {a:M D}{g:GM}{b:M Fl}{ρ ρ':Rho}{n:Nat}{R:Fl->Rho->Prop}{X:Addr->Prop}(e:a ρ=.ok (dn n) ρ')(h:n<1000000)(hw:(zj g b (yw n) ρ').wp R X):(YQ a g b ρ).wp R X:=by
 unfold YQ
 rw[zS (x:=dn n) (xs:=[]) e (by rfl),Res.bnd_ok]
 show ((zO (yM (.int n)) ρ').bnd _).wp R X
 rw[s_range _ (by omega),zT,Res.bnd_ok,Int.toNat_natCast]
 exact hw
end PM
namespace PM
open PySem
theorem Kw {c:M Bool}{ρ ρ':Rho}{b:Bool}(h:c ρ=.ok b ρ'):X3 c ρ=.ok (!b) ρ':=by
 unfold X3
 rw[h]
 rfl
noncomputable def r18 (s m way first some' k:Slot):Rho:=[s,m,way,first,some',k,.un,.un,.un,.un,.un,.un,.un,.un,.un,.un,.un,.un]
theorem zAM {s:D}{mx:Nat->Nat}(hs:Xs s mx){m:List Stt}(hm:GoodM m)(h4:m.length<=4){R:Fl->Rho->Prop} (way:Nat)
  (hR:∀ m' x3 x4 x5,GoodM m'->m'.length<=4->R .nx (r18 (.fz s) (.fz (eM m')) (.fz (dn way)) x3 x4 x5)) :
  ((ifM (zL zV (op2 gtD (vM 2) (cM (.int 0)))) (zH (ZK 3 (op2 Zo (zR zN [vM 0,cM (.int 101)]) (zY (ZB Z8) [vM 1])))
 (zH (x8 4 [])
 (zH (YQ (zY (ZB Z8) [vM 1]) (zz 5) (Zx 4 (ZU [ym (zL zV (op2 geD (vM 5) (vM 3))) (op2 eqD (vM 2) (cM (.int 1))) (op2 ixD (op2 ixD (vM 1) (vM 5)) (cM (.int 0))),op2 ixD (op2 ixD (vM 1) (vM 5)) (cM (.int 1)),op2 ixD (op2 ixD (vM 1) (vM 5)) (cM (.int 2))])))
 (xI 4 (ZK 1 (vM 4)))))) (nxM)) (r18 (.fz s) (.fz (eM m)) (.fz (dn way)) .un .un .un)).wp R λ_=>False:=by
 have hpos:=hm.pos
 by_cases hw:(0:Int)<(way:Int)
 ·rw[xi (Yw hw (by rfl))]
  have hmod:(mx 101:Int) % (m.length:Int)=((mx 101 % m.length:Nat):Int):=by omega
  generalize mx 101 % m.length=f at hmod
  refine zP (ρ':=r18 (.fz s) (.fz (eM m)) (.fz (dn way)) (.fz (dn f)) .un .un) ((Y1 (x:=dn f) (zI (ZY (xs:=[s,.int 101]) (by rfl) (hs 101)) (xO (x:=eM m) (by rfl) (s_lenL _)) ((s_mod _ _ (by simp;omega)).trans (by rw[List.length_map,hmod];rfl)))).trans (by rfl)) ?_
  refine zP (ρ':=r18 (.fz s) (.fz (eM m)) (.fz (dn way)) (.fz (dn f)) (.own []) .un) (by rfl) ?_
  refine yV (λρ=>∃ j,ρ=r18 (.fz s) (.fz (eM m)) (.fz (dn way)) (.fz (dn f)) (.own ((reM way f 0 m).map eSt)) j) (kR (ρ':=r18 (.fz s) (.fz (eM m)) (.fz (dn way)) (.fz (dn f)) (.own []) .un) (n:=m.length) ((xO (ρ':=r18 (.fz s) (.fz (eM m)) (.fz (dn way)) (.fz (dn f)) (.own []) .un) (x:=eM m) (by rfl) (s_lenL _)).trans (by rw[List.length_map];rfl)) (by omega)
   (y6 (λi ρ=>∃ j,ρ=r18 (.fz s) (.fz (eM m)) (.fz (dn way)) (.fz (dn f)) (.own (((reM way f 0 m).take i).map eSt)) j) ⟨_,by rw[List.take_zero];rfl⟩ ?_ λρ h=>⟨rfl,by rw[<-xV way f 0 m,List.take_length]at h;exact h⟩)) ?_
  ·rintro i ρ hi ⟨j,rfl⟩
   have e:m[i]? = some m[i]:=List.getElem?_eq_getElem hi
   generalize m[i]=st at e
   have e1:(reM way f 0 m)[i]? = some (reS way f i st):=by rw[VJ,e];simp
   have ea:atD (m.map eSt) (i:Int)=some (eSt st):=ZI eSt m i st e
   let ρ1:Rho:=r18 (.fz s) (.fz (eM m)) (.fz (dn way)) (.fz (dn f)) (.own (((reM way f 0 m).take i).map eSt)) (.fz (dn i))
   have ix:op2 ixD (vM 1) (vM 5) ρ1=.ok (eSt st) ρ1:=zI (x:=eM m) (y:=dn i) (by rfl) (by rfl) ea
   have hb:ym (zL zV (op2 geD (vM 5) (vM 3))) (op2 eqD (vM 2) (cM (.int 1))) (op2 ixD (op2 ixD (vM 1) (vM 5)) (cM (.int 0))) ρ1=.ok (.bl (reS way f i st).1) ρ1:=by
    by_cases c:(f:Int)<=(i:Int)
    ·rw[ja (ρ':=ρ1) (Yw c (by rfl))]
     have c':f<=i:=by omega
     refine (zI (x:=dn way) (y:=.int 1) (by rfl) (by rfl) (s_eq _ _)).trans ?_
     unfold reS
     rw[if_pos c']
    ·rw[je (ρ':=ρ1) (yy c (by rfl))]
     have c':¬ f<=i:=by omega
     refine (zI ix (by rfl) (by rfl)).trans ?_
     unfold reS
     rw[if_neg c']
   have ht:ZU [ym (zL zV (op2 geD (vM 5) (vM 3))) (op2 eqD (vM 2) (cM (.int 1))) (op2 ixD (op2 ixD (vM 1) (vM 5)) (cM (.int 0))),op2 ixD (op2 ixD (vM 1) (vM 5)) (cM (.int 1)),op2 ixD (op2 ixD (vM 1) (vM 5)) (cM (.int 2))] ρ1=.ok (eSt (reS way f i st)) ρ1:=by
    unfold ZU
    rw[zS hb (zS (x:=.int st.2.1) (zI ix (by rfl) (by rfl)) (zS (x:=.lst (st.2.2.map eMv)) (zI ix (by rfl) (by rfl)) (by rfl)))]
    rfl
   refine⟨ρ1,rfl,zZ (Vn (ds:=((reM way f 0 m).take i).map eSt) (by rfl) ht (by simp;omega)) ⟨.fz (dn i),?_⟩⟩
   rw[take_succ e1,List.map_append]
   rfl
  ·rintro ρ ⟨j,rfl⟩
   refine zZ (a:=.nx) (ρ:=r18 (.fz s) (.fz (eM (reM way f 0 m))) (.fz (dn way)) (.fz (dn f)) (.fz (eM (reM way f 0 m))) j) (by rfl) (hR _ _ _ _ (kO hm) (by rw[xV];exact h4))
 ·rw[xG (yy hw (by rfl))]
  exact zZ (a:=.nx) (ρ:=r18 (.fz s) (.fz (eM m)) (.fz (dn way)) .un .un .un) (by rfl) (hR m _ _ _ hm h4)
end PM
namespace PM
open PySem
theorem wf:∀ (m:List Stt)(acc:List Trp)(x y z:Slot),acc.length+m.length<=10000->∃ x' y' z',zj (Zi [0,1,2]) (yK 3 (vM 0) (vM 1) (vM 2)) (m.map eSt) [x,y,z,.ownM acc]=.ok .nx [x',y',z',.ownM (acc++m.map ZH)]
 |[],acc,x,y,z,_=>⟨x,y,z,by simp[zj]⟩
 |s::m,acc,x,y,z,h=>by
  obtain⟨x',y',z',e⟩:=wf m (acc++[ZH s]) (.fz (.bl s.1)) (.fz (.int s.2.1)) (.fz (.lst (s.2.2.map eMv))) (by simp at h ⊢;omega)
  refine⟨x',y',z',?_⟩
  show (yK 3 (vM 0) (vM 1) (vM 2) [.fz (.bl s.1),.fz (.int s.2.1),.fz (.lst (s.2.2.map eMv)),.ownM acc]).bnd _=_
  have ha:yK 3 (vM 0) (vM 1) (vM 2) [.fz (.bl s.1),.fz (.int s.2.1),.fz (.lst (s.2.2.map eMv)),.ownM acc]=.ok .nx [.fz (.bl s.1),.fz (.int s.2.1),.fz (.lst (s.2.2.map eMv)),.ownM (acc++[ZH s])]:=by
   show (if acc.length<sizeLine then Res.ok Fl.nx [Slot.fz (.bl s.1),.fz (.int s.2.1),.fz (.lst (s.2.2.map eMv)),.ownM (acc++[ZH s])] else .bad)=_
   rw[if_pos (by rw[sizeLine_eq];simp at h;omega)]
  rw[ha]
  show zj _ _ (m.map eSt) [.fz (.bl s.1),.fz (.int s.2.1),.fz (.lst (s.2.2.map eMv)),.ownM (acc++[ZH s])]=_
  rw[e]
  simp
theorem Vv:∀ (m:List Stt)(l r:List (Option Nat)),D.flats (tel m l r)=true
 |[],_,_=>by simp[tel,D.flats]
 |_::_,[],_=>by simp[tel,D.flats]
 |_::_,_::_,[]=>by simp[tel,D.flats]
 |s::m,a::l,b::r=>by rw[tel,D.flats,Vv m l r];simp[D.flat,D.flats]
theorem JQ {m:List Stt}{l r:List (Option Nat)}(h:0<m.length)(h1:l.length=m.length)(h2:r.length=m.length):qX (.lst (tel m l r))=true:=by
 cases m with
 |nil=>cases h
 |cons s m=>
  cases l with
  |nil=>cases h1
  |cons a l=>
   cases r with
   |nil=>cases h2
   |cons b r=>
    have:=Vv (s::m) (a::l) (b::r)
    unfold qX
    rw[Bool.or_eq_true]
    exact .inr this
theorem KW {m:List Stt}(hm:GoodM m){l r:List (Option Nat)}(h1:l.length=m.length)(h2:r.length=m.length):qW (m.map ZH) (wF m (tel m l r) true (.tup [.int 0,.tup []]))=true:=by
 have hpos:=hm.pos
 unfold qW wF
 rw[Bool.and_eq_true,Bool.and_eq_true]
 refine⟨⟨?_,?_⟩,?_⟩
 ·cases m with
  |nil=>cases hpos
  |cons s m=>rfl
 ·rw[List.all_eq_true]
  intro t ht
  obtain⟨s,hs,rfl⟩:=List.mem_map.mp ht
  have:=(hm.sts s hs).ml
  show w9 (s.2.2.map eMv)=true
  cases q:s.2.2 with
  |nil=>rw[q]at this;simp at this
  |cons v r=>rfl
 ·rw[List.all_cons,List.all_cons,List.all_cons]
  show (true && (qX (.lst (tel m l r)) && _))=true
  rw[JQ hpos h1 h2]
  rfl
end PM
namespace PM
open PySem
noncomputable def tD (b:Bool) (x:Str):D:=.tup [.bl b,.str x]
theorem qj (a b:Option Nat):(D.str (vI a b)).plain=true:=by
 cases b with
 |none=>show (D.str "always").plain=true;decide +kernel
 |some _=>
  cases a with
  |none=>show (D.str "never").plain=true;decide +kernel
  |some _=>show (D.str "open").plain=true;decide +kernel
theorem jH (b:Bool) (x:Str)(h:(D.str x).plain=true):neD (tD b x) (tD b x)=some (.bl false):=by
 unfold neD tD
 have h1:(D.tup [.bl b,.str x]).plain=true:=by
  rw[D.plain,D.plains,D.plains,D.plains,h]
  simp[D.plain]
 have h2:(D.tup [.bl b,.str x]).deep<=30:=by simp[D.deep,D.deeps]
 have h3:(D.tup [.bl b,.str x]).eqv (.tup [.bl b,.str x])=true:=by show ((b == b) && ((x == x) && true))=true;rw[beq_self_eq_true,beq_self_eq_true];rfl
 simp only[h1,h2,h3,Bool.and_self,decide_true,Bool.not_true,if_true]
theorem uT:∀ l:List Int,D.eqvs (l.map .int) (l.map .int)=true
 |[]=>rfl
 |x::l=>by
  show (D.eqv (.int x) (.int x) && D.eqvs (l.map .int) (l.map .int))=true
  rw[uT l,WA,decide_eq_true rfl];rfl
theorem uE (l:List Int):neD (dS l) (dS l)=some (.bl false):=by
 unfold neD
 rw[show (dS l).plain=true from YA l,show (dS l).eqv (dS l)=true from uT l,show (dS l).deep=1 from congrArg (· + 1) (Yj l)]
 rfl
theorem zAB (x:Str)(h:(D.str x).plain=true):eqD (.str x) (.str x)=some (.bl true):=by
 unfold eqD
 rw[h,show (D.str x).eqv (.str x)=true from beq_self_eq_true x]
 rfl
theorem Uk {m:List Stt}(hm:GoodM m)(h10:m.length<=10){l r:List (Option Nat)}(s1:SL m l)(s2:SL (Zr m) r){p:Pl}{st:Stt}(hp:At m p st):∃ x:Str,(D.str x).plain=true/\(tel m l r)[p.1]? = some (tD st.1 x)/\zt [eM m,dn p.1]=.ok (.str x):=by
 have hlt:p.1<m.length:=(List.getElem?_eq_some_iff.mp hp.st).1
 have hl:p.1<l.length:=by rw[s1.ln];exact hlt
 have hr:p.1<r.length:=by rw[s2.ln,yT];exact hlt
 have e1:l[p.1]? = some l[p.1]:=List.getElem?_eq_getElem hl
 have e2:r[p.1]? = some r[p.1]:=List.getElem?_eq_getElem hr
 exact⟨_,qj _ _,Qh m l r p.1 st _ _ hp.st e1 e2,JL hm h10 s1 s2 hlt e1 e2⟩
end PM
namespace PM
open PySem
theorem JK {cs:List Addr}{iy:Nat}{b:M Fl}{ρ ρ':Rho}{c:Addr}(h:b ρ=.exn c ρ')(hc:cs.contains c=true):Vu cs iy b ρ=.ok .nx ((List.replicate ρ.length Slot.un).set iy (.fz (.exc c))):=by
 unfold Vu
 rw[h]
 show (if _ then _ else _)=_
 rw[if_pos hc]
section
variable {A:Cls}(C:Addr){m:List Stt}(hm:GoodM m)(h10:m.length<=10){l r:List (Option Nat)}(s1:SL m l)(s2:SL (Zr m) r)
noncomputable abbrev wO (C:Addr)(m:List Stt)(l r:List (Option Nat))(p:Pl):Slot:=.obj C (wF m (tel m l r) false (ePl p))
noncomputable def rG (s:D)(m:List Stt)(wa x3 x4 x5 h w b x9 x10 x11 st held let' fo ke ex:Slot):Rho:=[.fz s,.fz (eM m),wa,x3,x4,x5,h,w,b,x9,x10,x11,st,held,let',fo,ke,ex]
include hm h10 s1 s2
theorem vW {i:Nat}{eSt':M D}{ρ:Rho}{p:Pl}{st:Stt}(hp:At m p st)(ho:ρ[i]? = some (wO C m l r p))(h1:ρ[1]? = some (.fz (eM m)))(he:eSt' ρ=.ok (dn p.1) ρ) :
  ZT i C "told" zM [] ρ=.ok ((tel m l r)[p.1]?.getD .non) ρ/\zL zV (op2 neD (ZT i C "told" zM []) (ZU [op2 ixD (op2 ixD (vM 1) eSt') (cM (.int 0)),zR zt [vM 1,eSt']])) ρ=.ok false ρ:=by
 obtain⟨x,hx,ht,hl⟩:=Uk hm h10 s1 s2 hp
 have hi:i<ρ.length:=(List.getElem?_eq_some_iff.mp ho).1
 have hset:ρ.set i (wO C m l r p)=ρ:=by
  refine List.ext_getElem? λj=>?_
  by_cases e:j=i
  ·subst e
   rw[List.getElem?_set_self hi,ho]
  ·rw[List.getElem?_set_ne (Ne.symm e)]
 have hc:ZT i C "told" zM [] ρ=.ok (tD st.1 x) ρ:=by
  rw[YS (fs:=wF m (tel m l r) false (ePl p)) (fs':=wF m (tel m l r) false (ePl p)) (ds:=[]) (d:=tD st.1 x) (by rw[ho];rfl) (by rfl) (by rfl) (uk C ht) (by rfl) (by rfl),hset]
 have h1':vM 1 ρ=.ok (eM m) ρ:=by
  unfold vM
  rw[h1]
  rfl
 refine⟨by rw[hc,ht];rfl,?_⟩
 refine ZD (zI hc (y:=tD st.1 x) ?_ (jH _ _ hx)) (by rfl)
 unfold ZU
 rw[zS (x:=.bl st.1) (zI (zI (z:=eSt st) h1' he (ZI eSt m p.1 st hp.st)) (by rfl) (by rfl)) (zS (x:=.str x) (ZY (xs:=[eM m,dn p.1]) (zS h1' (zS he (by rfl))) hl) (by rfl))]
 rfl
end
end PM
namespace PM
open PySem
theorem zAK {e:M D}{g:GM}{ρ ρ1 ρ2:Rho}{x:D}(he:e ρ=.ok x ρ1)(hg:g x ρ1=some ρ2):XM e g ρ=.ok .nx ρ2:=by
 unfold XM
 rw[he,Res.bnd_ok,hg]
 rfl
section
variable {A:Cls}(C:Addr){m:List Stt}(hm:GoodM m)(h10:m.length<=10){l r:List (Option Nat)}(s1:SL m l)(s2:SL (Zr m) r)
include hm h10 s1 s2
theorem JJ {s:D}{wa x3 x4 x5 h b x9 x10 x11 fo ke ex:Slot}{p:Pl}{st:Stt}(hp:At m p st) (x:Int):∃ fo',zH (XM (zR Zz [vM 1,vM 12,vM 13,vM 14]) (Zi [12,13]))
 (zH (ZK 15 (ZT 7 C "come" zw [vM 14]))
 (zH (ifM (orM (X3 (zL Zc (op1 (X9 D.isBl) (op2 ixD (vM 15) (cM (.int 0)))))) (zL zV (op2 neD (vM 15) (ZU [op2 ixD (op2 ixD (vM 1) (vM 12)) (cM (.int 0)),zR zt [vM 1,vM 12]])))) (ZQ (cM (.bl false))) (nxM))
 (zH (ifM (orM (zL zV (op2 neD (ZT 7 C "told" zM []) (vM 15))) (zL zV (op2 neD (ZT 7 C "kept" (Ys "place") []) (zY (ZB xl) [vM 13])))) (ZQ (cM (.bl false))) (nxM))
 (YN 7 14 C "place" "kept")))) (rG s m wa x3 x4 x5 h (wO C m l r p) b x9 x10 x11 (.fz (dn p.1)) (.fz (dS p.2)) (.fz (.int x)) fo ke ex)=.ok .nx (rG s m wa x3 x4 x5 h (wO C m l r (step m p x)) b x9 x10 x11 (.fz (dn (step m p x).1)) (.fz (dS (step m p x).2)) (.fz (.int x)) fo' ke ex):=by
 obtain⟨st',hq⟩:=Um hm hp x
 have hcome:=KS hm hp x
 generalize hqq:step m p x=q at hq hcome
 obtain⟨y,hy,ht,hla⟩:=Uk hm h10 s1 s2 hq
 have h6:q.2.length<=6:=WW hm hq
 refine⟨.fz (tD st'.1 y),?_⟩
 have e1:XM (zR Zz [vM 1,vM 12,vM 13,vM 14]) (Zi [12,13]) (rG s m wa x3 x4 x5 h (wO C m l r p) b x9 x10 x11 (.fz (dn p.1)) (.fz (dS p.2)) (.fz (.int x)) fo ke ex)=.ok .nx (rG s m wa x3 x4 x5 h (wO C m l r p) b x9 x10 x11 (.fz (dn q.1)) (.fz (dS q.2)) (.fz (.int x)) fo ke ex):=
  zAK (ZY (xs:=[eM m,dn p.1,dS p.2,.int x]) (by rfl) hcome) (by rfl)
 have hcw:=JM hm (tl:=tel m l r) C hp x (d:=tD st'.1 y) (by rw[hqq];exact ht)
 rw[hqq]at hcw
 have e2:ZK 15 (ZT 7 C "come" zw [vM 14]) (rG s m wa x3 x4 x5 h (wO C m l r p) b x9 x10 x11 (.fz (dn q.1)) (.fz (dS q.2)) (.fz (.int x)) fo ke ex)=.ok .nx (rG s m wa x3 x4 x5 h (wO C m l r q) b x9 x10 x11 (.fz (dn q.1)) (.fz (dS q.2)) (.fz (.int x)) (.fz (tD st'.1 y)) ke ex):=
  (Y1 (YS (fs:=wF m (tel m l r) false (ePl p)) (fs':=wF m (tel m l r) false (ePl q)) (ds:=[.int x]) (by rfl) (by rfl) (by rfl) hcw (by rfl) (by rfl))).trans (by rfl)
 rw[Ya e1,Ya e2]
 let ρ3:Rho:=rG s m wa x3 x4 x5 h (wO C m l r q) b x9 x10 x11 (.fz (dn q.1)) (.fz (dS q.2)) (.fz (.int x)) (.fz (tD st'.1 y)) ke ex
 have tup:ZU [op2 ixD (op2 ixD (vM 1) (vM 12)) (cM (.int 0)),zR zt [vM 1,vM 12]] ρ3=.ok (tD st'.1 y) ρ3:=by
  unfold ZU
  rw[zS (x:=.bl st'.1) (zI (zI (x:=eM m) (y:=dn q.1) (z:=eSt st') (by rfl) (by rfl) (ZI eSt m q.1 st' hq.st)) (by rfl) (by rfl)) (zS (x:=.str y) (ZY (xs:=[eM m,dn q.1]) (by rfl) hla) (by rfl))]
  rfl
 have e3:ifM (orM (X3 (zL Zc (op1 (X9 D.isBl) (op2 ixD (vM 15) (cM (.int 0)))))) (zL zV (op2 neD (vM 15) (ZU [op2 ixD (op2 ixD (vM 1) (vM 12)) (cM (.int 0)),zR zt [vM 1,vM 12]])))) (ZQ (cM (.bl false))) nxM ρ3=.ok .nx ρ3:=
  xG (wk (Kw (b:=true) (by rfl)) (ZD (zI (x:=tD st'.1 y) (by rfl) tup (jH _ _ hy)) (by rfl)))
 have told:ZT 7 C "told" zM [] ρ3=.ok (tD st'.1 y) ρ3:=(YS (fs:=wF m (tel m l r) false (ePl q)) (fs':=wF m (tel m l r) false (ePl q)) (ds:=[]) (by rfl) (by rfl) (by rfl) (uk C ht) (by rfl) (by rfl)).trans (by rfl)
 have kept:ZT 7 C "kept" (Ys "place") [] ρ3=.ok (dS (Z1 q.2)) ρ3:=(YS (fs:=wF m (tel m l r) false (ePl q)) (fs':=wF m (tel m l r) false (ePl q)) (ds:=[]) (by rfl) (by rfl) (by rfl) (Qk C (by omega)) (by rfl) (by rfl)).trans (by rfl)
 have sorted:zY (ZB xl) [vM 13] ρ3=.ok (dS (Z1 q.2)) ρ3:=xO (x:=dS q.2) (by rfl) (by
  show (Zv (q.2.map .int)).bind _=_
  rw[yu]
  show (if q.2.length<64 then _ else _)=_
  rw[if_pos (by omega)])
 have e4:ifM (orM (zL zV (op2 neD (ZT 7 C "told" zM []) (vM 15))) (zL zV (op2 neD (ZT 7 C "kept" (Ys "place") []) (zY (ZB xl) [vM 13])))) (ZQ (cM (.bl false))) nxM ρ3=.ok .nx ρ3:=
  xG (wk (ZD (zI told (y:=tD st'.1 y) (by rfl) (jH _ _ hy)) (by rfl)) (ZD (zI kept sorted (uE _)) (by rfl)))
 have e5:YN 7 14 C "place" "kept" ρ3=.ok .nx ρ3:=by
  have hk:Xh (ePl q)=some (dS (Z1 q.2)):=by
   show (Zv (q.2.map .int)).bind _=_
   rw[yu]
   show (if q.2.length<64 then _ else _)=_
   rw[if_pos (by omega)]
  show (zO (Xh (ePl q)) ρ3).bnd (λ_ ρ=>if C=C/\_ then Res.ok Fl.nx ρ else .bad)=_
  rw[hk]
  show (if C=C/\_ then Res.ok Fl.nx ρ3 else .bad)=_
  rw[if_pos ⟨rfl,by rfl⟩]
 show zH _ _ ρ3=_
 rw[Ya e3,Ya e4,e5]
end
end PM
namespace PM
open PySem
section
variable {A:Cls}(hA:A.Ok)(C:Addr){m:List Stt}(hm:GoodM m)(h10:m.length<=10)
include hA hm h10
theorem jY {s:D}{mx:Nat->Nat}(hs:Xs s mx)(wa x3 x4 x5:Slot) :
  (zH (yU 6 (zq Zg (vM 1)) 3 [] (Zi [0,1,2]) (vM 0) (vM 1) (vM 2))
 (zH (xF 7 6 C (zK A))
 (zH (xF 8 6 C (zK A))
 (zH (WH 6 9 10 11 (.tup [.int 0,.tup []]))
 (zH (ue 6 (ZU [cM (.bl true),cM (.int 0),lstM []]))
 (zH (ZK 12 (cM (.int 0)))
 (zH (ZK 13 (lstM []))
 (zH (ifM (zL zV (op2 neD (ZT 7 C "told" zM []) (ZU [op2 ixD (op2 ixD (vM 1) (cM (.int 0))) (cM (.int 0)),zR zt [vM 1,cM (.int 0)]]))) (ZQ (cM (.bl false))) (nxM))
 (zH (xJ (zR Zy [vM 0,cM (.int 102),cM (.int 9)]) Zg (zz 14) (zH (XM (zR Zz [vM 1,vM 12,vM 13,vM 14]) (Zi [12,13]))
 (zH (ZK 15 (ZT 7 C "come" zw [vM 14]))
 (zH (ifM (orM (X3 (zL Zc (op1 (X9 D.isBl) (op2 ixD (vM 15) (cM (.int 0)))))) (zL zV (op2 neD (vM 15) (ZU [op2 ixD (op2 ixD (vM 1) (vM 12)) (cM (.int 0)),zR zt [vM 1,vM 12]])))) (ZQ (cM (.bl false))) (nxM))
 (zH (ifM (orM (zL zV (op2 neD (ZT 7 C "told" zM []) (vM 15))) (zL zV (op2 neD (ZT 7 C "kept" (Ys "place") []) (zY (ZB xl) [vM 13])))) (ZQ (cM (.bl false))) (nxM))
 (YN 7 14 C "place" "kept"))))))
 (zH (ifM (orM (zL zV (op2 neD (ZT 8 C "told" zM []) (ZU [op2 ixD (op2 ixD (vM 1) (cM (.int 0))) (cM (.int 0)),zR zt [vM 1,cM (.int 0)]]))) (zL zV (op2 neD (ZT 8 C "kept" (Ys "place") []) (lstM [])))) (ZQ (cM (.bl false))) (nxM))
 (zH (ZK 16 (cM .non))
 (zH (Vu A.all 16 (yJ (Wj C (zK A) [lstM []])))
 (ZQ (op2 eqD (zR (Za A) [vM 16]) (cM (.str "machine"))))))))))))))) (r18 (.fz s) (.fz (eM m)) wa x3 x4 x5)).wp (Fl.fin (· = .bl true)) λ_=>False:=by
 obtain⟨l,r,hini,s1,s2⟩:=KR hm A C
 have hfew:=hm.few
 have hl1:=s1.ln
 have hl2:r.length=m.length:=by rw[s2.ln,yT]
 obtain⟨st0,hst0⟩:=JA hm
 obtain⟨w,hw,hwl⟩:=KP hs 102 9 (by decide)
 let R (h7 h8:Slot)(h6:Slot):Rho:=[.fz s,.fz (eM m),wa,x3,x4,x5,h6,h7,h8,.un,.un,.un,.un,.un,.un,.un,.un,.un]
 have c1:yU 6 (zq Zg (vM 1)) 3 [] (Zi [0,1,2]) (vM 0) (vM 1) (vM 2) (r18 (.fz s) (.fz (eM m)) wa x3 x4 x5)=.ok .nx (R .un .un (.ownM (m.map ZH))):=by
  obtain⟨x',y',z',e⟩:=wf m [] .un .un .un (by simp;omega)
  have hc:xM (zq Zg (vM 1)) 3 [] (Zi [0,1,2]) (vM 0) (vM 1) (vM 2) (r18 (.fz s) (.fz (eM m)) wa x3 x4 x5)=.ok (m.map ZH) (r18 (.fz s) (.fz (eM m)) wa x3 x4 x5):=by
   show zO (XL 3 (zj (Zi [0,1,2]) (yK 3 (vM 0) (vM 1) (vM 2)) (m.map eSt) [.un,.un,.un,.ownM []])) _=_
   rw[e]
   rfl
  unfold yU
  rw[hc]
  rfl
 have hF:zK A C [] [.lst ((m.map ZH).map dM)]=.ok .non (wF m (tel m l r) true (.tup [.int 0,.tup []])):=by rw[U8];exact hini
 have hsep:=KW hm hl1 hl2
 have c2:xF 7 6 C (zK A) (R .un .un (.ownM (m.map ZH)))=.ok .nx (R (wO C m l r (0,[])) .un (.ownM (m.map ZH))):=by
  show (match zK A C [] [.lst ((m.map ZH).map dM)] with | .ok .non fs=>_ | _=>_)=_
  rw[hF]
  show (if qW (m.map ZH) (wF m (tel m l r) true (.tup [.int 0,.tup []]))=true then _ else _)=_
  rw[if_pos hsep]
  rfl
 have c3:xF 8 6 C (zK A) (R (wO C m l r (0,[])) .un (.ownM (m.map ZH)))=.ok .nx (R (wO C m l r (0,[])) (wO C m l r (0,[])) (.ownM (m.map ZH))):=by
  show (match zK A C [] [.lst ((m.map ZH).map dM)] with | .ok .non fs=>_ | _=>_)=_
  rw[hF]
  show (if qW (m.map ZH) (wF m (tel m l r) true (.tup [.int 0,.tup []]))=true then _ else _)=_
  rw[if_pos hsep]
  rfl
 have hne:(m.map ZH).all (λt=>!t.2.2.isEmpty)=true:=by
  rw[List.all_eq_true]
  intro t ht
  obtain⟨q,hq,rfl⟩:=List.mem_map.mp ht
  have:=(hm.sts q hq).ml
  show (!(q.2.2.map eMv).isEmpty)=true
  cases z:q.2.2 with
  |nil=>rw[z]at this;simp at this
  |cons v r=>rfl
 let O:=wO C m l r (0,[])
 have c4:WH 6 9 10 11 (.tup [.int 0,.tup []]) (R O O (.ownM (m.map ZH)))=.ok .nx (R O O (.junk (m.map ZH).length)):=by
  show (if (m.map ZH).all (λt=>!t.2.2.isEmpty)=true/\_/\_/\_ then _ else _)=_
  rw[if_pos ⟨hne,by show 9<18;decide,by show 10<18;decide,by show 11<18;decide⟩]
  rfl
 have c5:ue 6 (ZU [cM (.bl true),cM (.int 0),lstM []]) (R O O (.junk (m.map ZH).length))=.ok .nx (R O O (.junk ((m.map ZH).length+1))):=by
  show (if (m.map ZH).length<sizeLine then _ else _)=_
  rw[if_pos (by rw[sizeLine_eq,List.length_map];omega)]
  rfl
 refine zP c1 (zP c2 (zP c3 (zP c4 (zP c5 ?_))))
 generalize Slot.junk ((m.map ZH).length+1)=J
 refine zP (ρ':=rG s m wa x3 x4 x5 J O O .un .un .un (.fz (.int 0)) .un .un .un .un .un) (by rfl) (zP (ρ':=rG s m wa x3 x4 x5 J O O .un .un .un (.fz (dn 0)) (.fz (dS [])) .un .un .un .un) (by rfl) ?_)
 refine zP (xG (vW C hm h10 s1 s2 (p:=(0,[])) hst0 (by rfl) (by rfl) (by rfl)).2) ?_
 refine yV (λρ=>∃ h7 a12 a13 a14 a15,ρ=rG s m wa x3 x4 x5 J h7 O .un .un .un a12 a13 a14 a15 .un .un) (wH (x:=dS w) (ds:=w.map .int) (ZY (xs:=[s,dn 102,dn 9]) (by rfl) hw) (by rfl) (YX (λi ρ=>∃ p st a14 a15,At m p st/\ρ=rG s m wa x3 x4 x5 J (wO C m l r p) O .un .un .un (.fz (dn p.1)) (.fz (dS p.2)) a14 a15 .un .un) ⟨(0,[]),st0,_,_,hst0,rfl⟩ ?_ λρ ⟨p,st,a14,a15,hp,e⟩=>⟨rfl,_,_,_,_,_,e⟩)) ?_
 ·rintro i x ρ hx ⟨p,st,a14,a15,hp,rfl⟩
  obtain⟨fo',e⟩:=JJ (s:=s) (wa:=wa) (x3:=x3) (x4:=x4) (x5:=x5) (h:=J) (b:=O) (x9:=.un) (x10:=.un) (x11:=.un) (fo:=a15) (ke:=.un) (ex:=.un) C hm h10 s1 s2 hp x
  obtain⟨st',hq⟩:=Um hm hp x
  exact⟨rG s m wa x3 x4 x5 J (wO C m l r p) O .un .un .un (.fz (dn p.1)) (.fz (dS p.2)) (.fz (.int x)) a15 .un .un,rfl,zZ e ⟨step m p x,st',_,_,hq,rfl⟩⟩
 ·rintro ρ ⟨h7,a12,a13,a14,a15,rfl⟩
  let ρ9:Rho:=rG s m wa x3 x4 x5 J h7 O .un .un .un a12 a13 a14 a15 .un .un
  have kept:ZT 8 C "kept" (Ys "place") [] ρ9=.ok (dS []) ρ9:=(YS (fs:=wF m (tel m l r) false (ePl (0,[]))) (fs':=wF m (tel m l r) false (ePl (0,[]))) (ds:=[]) (by rfl) (by rfl) (by rfl) (Qk C (by decide)) (by rfl) (by rfl)).trans (by rfl)
  refine zP (xG (wk (vW C hm h10 s1 s2 (p:=(0,[])) hst0 (by rfl) (by rfl) (by rfl)).2 (ZD (zI kept (y:=dS []) (by rfl) (uE [])) (by rfl)))) ?_
  refine zP (ρ':=rG s m wa x3 x4 x5 J h7 O .un .un .un a12 a13 a14 a15 (.fz .non) .un) (by rfl) ?_
  have hx:yJ (Wj C (zK A) [lstM []]) (rG s m wa x3 x4 x5 J h7 O .un .un .un a12 a13 a14 a15 (.fz .non) .un)=.exn A.bm (rG s m wa x3 x4 x5 J h7 O .un .un .un a12 a13 a14 a15 (.fz .non) .un):=by
   unfold yJ Wj
   rw[show zk [lstM []] (rG s m wa x3 x4 x5 J h7 O .un .un .un a12 a13 a14 a15 (.fz .non) .un)=.ok [.lst []] (rG s m wa x3 x4 x5 J h7 O .un .un .un a12 a13 a14 a15 (.fz .non) .un) from rfl,Res.bnd_ok]
   show (match zK A C [] [.lst []] with | .exn c=>Res.exn c _ | _=>.bad).bnd _=_
   rw[KM]
   rfl
  refine zP (JK hx (by simp[Cls.all])) ?_
  exact zZ (Xw (zI (ZY (xs:=[.exc A.bm]) (by rfl) (VD hA)) (by rfl) (zAB _ (by decide +kernel)))) rfl
end
theorem law_true {A:Cls}(hA:A.Ok)(C:Addr){s:D}{mx:Nat->Nat}(hs:Xs s mx):JE A C [s]=.ok (.bl true):=by
 have hg:=kP mx 0 4 (by decide) (by decide)
 have hl:=XG mx 0 4 (by decide)
 have h4:(gM mx 0 4).length<=4:=by rw[Ve];omega
 have hmod:(mx 100:Int) % 3=((mx 100 % 3:Nat):Int):=by omega
 refine yO (zP (ρ':=r18 (.fz s) (.fz (eM (gM mx 0 4))) .un .un .un .un) ((Y1 (ZY (xs:=[s,dn 0,dn 4]) (by rfl) (qQ hs 0 4 (by decide) (by decide)))).trans (by rfl)) ?_)
 refine zP (ρ':=r18 (.fz s) (.fz (eM (gM mx 0 4))) (.fz (dn (mx 100 % 3))) .un .un .un) ((Y1 (x:=dn (mx 100 % 3)) (zI (ZY (xs:=[s,.int 100]) (by rfl) (hs 100)) (by rfl) ((s_mod _ _ (by decide)).trans (by rw[hmod];rfl)))).trans (by rfl)) ?_
 refine yV (λρ=>∃ m x3 x4 x5,GoodM m/\m.length<=4/\ρ=r18 (.fz s) (.fz (eM m)) (.fz (dn (mx 100 % 3))) x3 x4 x5) (zAM hs hg h4 _ λm' x3 x4 x5 h1 h2=>⟨rfl,m',x3,x4,x5,h1,h2,rfl⟩) ?_
 rintro ρ ⟨m,x3,x4,x5,h1,h2,rfl⟩
 exact jY hA C h1 (by omega) hs _ _ _ _
end PM
set_option maxHeartbeats 4000000
namespace PM.K60
open PySem PySem.Spec PyProof.Rows L2 PM
noncomputable def top (i:Nat):Stmt:=PySem.Challenge.pw_boxword_k60_whole_watched.main.body.getD i (.Pass ⟨0,0,0,0⟩)
noncomputable def ye (i j:Nat):Stmt:=match top i with
 |.ClassDef _ _ _ body _ _ _ _ _ _ _=>body.getD j (.Pass ⟨0,0,0,0⟩)
 |_=>.Pass ⟨0,0,0,0⟩
theorem uo {K:PySem.W.Frag}{C:Addr}{n:Nat}{F F2:FO}(e:F C=F2 C){vs:List V}{H:Hp}{Q:VK}{E:XK}(h:spO K C n F vs H Q E):spO K C n F2 vs H Q E:=by
 obtain⟨a,us,e1,hl,G,ds,fs,ws,dx,sg,r,hw,hg,dr,hq⟩:=h
 exact⟨a,us,e1,hl,G,ds,fs,ws,dx,sg,r,hw,hg,dr,by rw[<-e];exact hq⟩
structure Txt (K:PySem.W.Frag)(mg:Str->Option Value)(A:Cls)(C:Addr):Prop extends ErrT K mg A where
 cl:L2.Cls K C
 na_machine:NoAttr K C "machine"
 na_place:NoAttr K C "place"
 na_tellings:NoAttr K C "tellings"
 b_ValueError:mg "ValueError" = none
 b_all:mg "all" = none
 b_any:mg "any" = none
 b_bool:mg "bool" = none
 b_enumerate:mg "enumerate" = none
 b_int:mg "int" = none
 b_isinstance:mg "isinstance" = none
 b_len:mg "len" = none
 b_list:mg "list" = none
 b_range:mg "range" = none
 b_set:mg "set" = none
 b_sorted:mg "sorted" = none
 b_tuple:mg "tuple" = none
 b_zip:mg "zip" = none
 g_MOST_BOXES:∃ t,mg "MOST_BOXES" = some (.int 6 t)
 g_MOST_STATES:∃ t,mg "MOST_STATES" = some (.int 400 t)
end PM.K60
namespace PM.K60
open PySem PySem.Spec PyProof.Rows L2 PM
variable {P:Program}{w:World}{K:PySem.W.Frag}{mg:Str->Option Value}{base:Heap}{A:Cls}{C:Addr}
theorem Yp:FnScope ["self"] ["self"] (defScope (ye 19 1)):=⟨rfl,rfl,rfl,by decide +kernel,rfl,by decide +kernel,by decide +kernel⟩
theorem wo {f:Addr}{fd:FuncData}(F:Fun K "told" "Watcher.told" (ye 19 1) f fd)(T:Txt K mg A C)  : FnOk P w K mg base (CX1 P w) 1 f fd ["self"] (spO K C 1 zM):=by
 refine FnOk.imp (Vp (C:=C) (m:=Zu C) F Yp rfl (by decide) λcdv A' outer s H E hr=>?_) λ_ _ _ _ h=>uo (F:=zM) (F2:=Yu 1 (Zu C)) rfl h
 have nd:=Yp.nd
 exact VS (jP (zU (VW 0 T.cl T.na_tellings) (zU (VW 0 T.cl T.na_place) (zD))))
theorem wj:FnScope ["self"] ["self"] (defScope (ye 19 3)):=⟨rfl,rfl,rfl,by decide +kernel,rfl,by decide +kernel,by decide +kernel⟩
theorem wq {f:Addr}{fd:FuncData}(F:Fun K "kept" "Watcher.kept" (ye 19 3) f fd)(T:Txt K mg A C)  : FnOk P w K mg base (CX1 P w) 1 f fd ["self"] (spK K C "place"):=by
 exact kl F wj rfl (by decide) T.cl T.na_place λcdv A' outer s H E hr=>QA T.b_sorted
theorem XQ:FnScope ["machine","move","letters","target","sources","source"] ["machine","move","letters"] (defScope (top 11)):=⟨rfl,rfl,rfl,by decide +kernel,rfl,by decide +kernel,by decide +kernel⟩
theorem VN {f:Addr}{fd:FuncData}(F:Fun K "look_move" "look_move" (top 11) f fd)(T:Txt K mg A C)  : FnOk P w K mg base (CX1 P w) 1 f fd ["machine","move","letters"] (spM K 3 (yL A)):=by
 refine ZS F XQ rfl (by decide) λcdv A' outer s H E hr=>?_
 have nd:=XQ.nd
 exact zC (zy 3 nd (zU (zA 1) (zD)))
  (zC (zy 4 nd (zU (zA 1) (zD)))
  (zC (Z2 (MW.mt (wY (zu op_lt Xz (zA 3) (zD) (nomark _)) (xC (zu op_ge u8 (zA 3) (ZE call_len_seq Zk rfl T.b_len PySem.boot_len (zB (zA 0) (zE))) (nomark _))))) (zG (yc T.e_BadMachine T.c_BadMachine)) (ZG))
  (zC (Z2 (zu (yt hr) yr (ZE call_len_seq Zk rfl T.b_len PySem.boot_len (zB (zA 4) (zE))) (zU (zU (zA 0) (zA 3)) (zD)) (nomark _)) (zG (yc T.e_BadMachine T.c_BadMachine)) (ZG))
  (zC (Z2 (zu (yt hr) yr (qv T.b_len T.b_set (zA 4)) (ZE call_len_seq Zk rfl T.b_len PySem.boot_len (zB (zA 4) (zE))) (nomark _)) (zG (yc T.e_BadMachine T.c_BadMachine)) (ZG))
  (zG (Jx Yv rfl (zA 4) (Zq 5 nd) (zG (Z2 (MW.mt (wY (zu op_lt Xz (zA 5) (zD) (nomark _)) (xC (zu op_ge u8 (zA 5) (zA 2) (nomark _))))) (zG (yc T.e_BadMachine T.c_BadMachine)) (ZG)))))))))
theorem WM:FnScope ["machine","place","letter","moves","kept","move","held"] ["machine","place","letter"] (defScope (top 12)):=⟨rfl,rfl,rfl,by decide +kernel,rfl,by decide +kernel,by decide +kernel⟩
theorem UB {f:Addr}{fd:FuncData}(F:Fun K "gone_on" "gone_on" (top 12) f fd)(T:Txt K mg A C)  : FnOk P w K mg base (CX1 P w) 1 f fd ["machine","place","letter"] (spM K 3 yn):=by
 refine ZS F WM rfl (by decide) λcdv A' outer s H E hr=>?_
 have nd:=WM.nd
 exact zC (zy 3 nd (zU (zU (zA 0) (zU (zA 1) (zD))) (zD)))
  (zC (zy 4 nd (zU (zA 1) (zD)))
  (zC (Z2 (zu (jE hr) jC (zA 2) (zA 4) (by with_unfolding_all rfl)) (zG (zy 5 nd (zU (zA 3) (qw hr (zA 4) (zA 2))))) (zG (zy 5 nd (zU (zA 3) (ZE call_len_seq Zk rfl T.b_len PySem.boot_len (zB (zA 4) (zE)))))))
  (zC (zy 6 nd (ZJ (zA 4) (Z6 (zB (zA 2) (zE)))))
  (zG (ZN (Z6 (zB (zU (zA 5) (zD)) (zB (vi T.b_tuple (zB (Xg (nt:=1) (N':=["source","held","!acc"]) (idx:=[6]) rfl (yg (osc:=defScope (top 12)) (L:=s.heap.objs.size) (N:=["machine","place","letter","moves","kept","move","held"]) rfl rfl rfl rfl (by decide +kernel) (by decide +kernel) (by decide +kernel) rfl (by decide +kernel) (by decide +kernel)) (jQ (zU (zA 5) (zD))) (by show ∀ i ∈ ([6]:List Nat),i<7;decide) (λ_ _ _ _ _=>yN 0 1 (by decide) (by show (["source","held","!acc"]:List Str).Nodup;decide +kernel)) (λ_ _ _ _ _=>.inl ⟨rfl,rfl⟩) (λ_ _ _ _ _=>zU (zA 1) (zA 0))) (zE))) (zE)))))))))
theorem Yn:FnScope ["machine","ahead","number","state","move"] ["machine"] (defScope (top 17)):=⟨rfl,rfl,rfl,by decide +kernel,rfl,by decide +kernel,by decide +kernel⟩
theorem wl {f:Addr}{fd:FuncData}(F:Fun K "states_ahead" "states_ahead" (top 17) f fd)(T:Txt K mg A C)  : FnOk P w K mg base (CX1 P w) 1 f fd ["machine"] (spM K 1 Zh):=by
 refine ZS F Yn rfl (by decide) λcdv A' outer s H E hr=>?_
 have nd:=Yn.nd
 exact zC (jO 1 (nt:=1) (N':=["state","!acc"]) (idx:=[]) nd rfl (yg (osc:=defScope (top 17)) (L:=s.heap.objs.size) (N:=["machine","ahead","number","state","move"]) rfl rfl rfl rfl (by decide +kernel) (by decide +kernel) (by decide +kernel) rfl (by decide +kernel) (by decide +kernel)) (Yg (zA 0)) (by show ∀ i ∈ ([]:List Nat),i<5;decide) (λ_ _ _ _ _=>yN 0 1 (by decide) (by show (["state","!acc"]:List Str).Nodup;decide +kernel)))
  (zC (jM Yv rfl T.b_enumerate (zA 0) (We rfl (Zs 2 nd (Zs 3 nd (Xc))) rfl) (zG (XZ Yv rfl (zU (zA 3) (zD)) (Zq 4 nd) (zG (qu 1 2 (zU (zA 4) (zD)))))))
  (jJ 1 (zG (ZN (zA 1)))))
theorem WK:FnScope ["to_good","to_bad"] ["to_good","to_bad"] (defScope (top 21)):=⟨rfl,rfl,rfl,by decide +kernel,rfl,by decide +kernel,by decide +kernel⟩
theorem u9 {f:Addr}{fd:FuncData}(F:Fun K "outlook" "outlook" (top 21) f fd)(T:Txt K mg A C)  : FnOk P w K mg base (CX1 P w) 1 f fd ["to_good","to_bad"] (spM K 2 Zn):=by
 refine ZS F WK rfl (by decide) λcdv A' outer s H E hr=>?_
 have nd:=WK.nd
 exact zC (Z2 (zu op_isN VM (zA 1) (X4) (nomark _)) (zG (ZN (yY))) (ZG))
  (zC (Z2 (zu op_isN VM (zA 0) (X4) (nomark _)) (zG (ZN (yY))) (ZG))
  (zG (ZN (yY))))
theorem wW:FnScope ["_law_script","_law_k"] ["_law_script","_law_k"] (defScope (top 23)):=⟨rfl,rfl,rfl,by decide +kernel,rfl,by decide +kernel,by decide +kernel⟩
theorem uB {f:Addr}{fd:FuncData}(F:Fun K "_law_cell" "_law_cell" (top 23) f fd)(T:Txt K mg A C)  : FnOk P w K mg base (CX1 P w) 1 f fd ["_law_script","_law_k"] (spM K 2 yx):=by
 refine ZS F wW rfl (by decide) λcdv A' outer s H E hr=>?_
 have nd:=wW.nd
 exact zC (Z2 (XA (zA 0)) (zG (ZN (zU (zA 0) (Zt (zA 1) (ZE call_len_seq Zk rfl T.b_len PySem.boot_len (zB (zA 0) (zE))))))) (ZG))
  (zG (ZN (zD)))
theorem wV:FnScope ["_law_machine_here","_law_state","_law_held","_law_letter","_law_good","_law_boxes","_law_moves","_law_goal","_law_sources_here","_law_box"] ["_law_machine_here","_law_state","_law_held","_law_letter"] (defScope (top 28)):=⟨rfl,rfl,rfl,by decide +kernel,rfl,by decide +kernel,by decide +kernel⟩
theorem uA {f:Addr}{fd:FuncData}(F:Fun K "_law_come" "_law_come" (top 28) f fd)(T:Txt K mg A C)  : FnOk P w K mg base (CX1 P w) 1 f fd ["_law_machine_here","_law_state","_law_held","_law_letter"] (spM K 4 Zz):=by
 refine ZS F wV rfl (by decide) λcdv A' outer s H E hr=>?_
 have nd:=wV.nd
 exact zC (VR (zU (zA 0) (zA 1)) (We rfl (Zs 4 nd (Zs 5 nd (Zs 6 nd (Xc)))) rfl))
  (zC (VR (zU (zA 6) (zA 5)) (We rfl (Zs 7 nd (Zs 8 nd (Xc))) rfl))
  (zC (YB Yv rfl T.b_range (zA 5) (Zq 9 nd) (zG (Z2 (zu (X1 hr) X0 (zU (zA 2) (zA 9)) (zA 3) (nomark _)) (zG (VR (zU (zA 6) (zA 9)) (We rfl (Zs 7 nd (Zs 8 nd (Xc))) rfl))) (ZG))))
  (zG (ZN (Z6 (zB (zA 7) (zB (Xg (nt:=1) (N':=["_law_source","_law_held","_law_letter","_law_boxes","!acc"]) (idx:=[2,3,5]) rfl (yg (osc:=defScope (top 28)) (L:=s.heap.objs.size) (N:=["_law_machine_here","_law_state","_law_held","_law_letter","_law_good","_law_boxes","_law_moves","_law_goal","_law_sources_here","_law_box"]) rfl rfl rfl rfl (by decide +kernel) (by decide +kernel) (by decide +kernel) rfl (by decide +kernel) (by decide +kernel)) (jQ (zA 8)) (by show ∀ i ∈ ([2,3,5]:List Nat),i<10;decide) (λ_ _ _ _ _=>yN 0 1 (by decide) (by show (["_law_source","_law_held","_law_letter","_law_boxes","!acc"]:List Str).Nodup;decide +kernel)) (λ_ _ _ _ _=>.inl ⟨rfl,rfl⟩) (λ_ _ _ _ _=>X6 (zu (X1 hr) X0 (zA 0) (zA 3) (nomark _)) (zA 2) (zU (zA 1) (zA 0)))) (zE))))))))
theorem Y6:FnScope ["_law_kept","_law_kinds"] ["_law_kept"] (defScope (top 29)):=⟨rfl,rfl,rfl,by decide +kernel,rfl,by decide +kernel,by decide +kernel⟩
theorem Wa {f:Addr}{fd:FuncData}(F:Fun K "_law_refusal" "_law_refusal" (top 29) f fd)(T:Txt K mg A C)  : FnOk P w K mg base (CX1 P w) 1 f fd ["_law_kept"] (spM K 1 (Za A)):=by
 refine ZS F Y6 rfl (by decide) λcdv A' outer s H E hr=>?_
 have nd:=Y6.nd
 exact zC (Z2 (zu op_isN VM (zA 0) (X4) (nomark _)) (zG (ZN (yY))) (ZG))
  (zC (XC 1 nd (zB (Xf T.b_isinstance T.c_BadMachine T.i_BadMachine (zA 0)) (zB (Xf T.b_isinstance T.c_BadText T.i_BadText (zA 0)) (zB (Xf T.b_isinstance T.c_BadWord T.i_BadWord (zA 0)) (zE)))))
  (zC (xD 1 (Xf T.b_isinstance T.c_TooMany T.i_TooMany (zA 0)))
  (zC (Z2 (MW.mt (wY (zu (yt hr) yr (qy hr 1 (Wh)) (zD) (nomark _)) (xC (jI (XA (UJ T.b_isinstance T.b_ValueError (by with_unfolding_all rfl) T.i_VE (zA 0))))))) (zG (ZN (yY))) (ZG))
  (zG (ZN (zU (xE (zB (yY) (zB (yY) (zB (yY) (zB (yY) (zE)))))) (qx hr 1 (Wh))))))))
theorem XR:FnScope ["_law_machine_here","_law_state","_law_some","_law_turn","_law_at","_law_goods"] ["_law_machine_here","_law_state"] (defScope (top 30)):=⟨rfl,rfl,rfl,by decide +kernel,rfl,by decide +kernel,by decide +kernel⟩
theorem VO {f:Addr}{fd:FuncData}(F:Fun K "_law_later" "_law_later" (top 30) f fd)(T:Txt K mg A C)  : FnOk P w K mg base (CX1 P w) 1 f fd ["_law_machine_here","_law_state"] (spM K 2 zt):=by
 refine ZS F XR rfl (by decide) λcdv A' outer s H E hr=>?_
 have nd:=XR.nd
 exact zC (zy 2 nd (xE (zB (zA 1) (zE))))
  (zC (YB Yv rfl T.b_range (ZE call_len_seq Zk rfl T.b_len PySem.boot_len (zB (zA 0) (zE))) (Zq 3 nd) (zG (YB Yv rfl T.b_range (ZE call_len_seq Zk rfl T.b_len PySem.boot_len (zB (zA 0) (zE))) (Zq 4 nd) (zG (Z2 (zu (jE hr) jC (zA 4) (zA 2) (by with_unfolding_all rfl)) (zG (zy 2 nd (UG T.b_sorted T.b_set (ZJ (zA 2) (Xg (nt:=1) (N':=["_law_move","!acc"]) (idx:=[]) rfl (yg (osc:=defScope (top 30)) (L:=s.heap.objs.size) (N:=["_law_machine_here","_law_state","_law_some","_law_turn","_law_at","_law_goods"]) rfl rfl rfl rfl (by decide +kernel) (by decide +kernel) (by decide +kernel) rfl (by decide +kernel) (by decide +kernel)) (Yg (zU (zU (zA 0) (zA 4)) (zD))) (by show ∀ i ∈ ([]:List Nat),i<6;decide) (λ_ _ _ _ _=>yN 0 1 (by decide) (by show (["_law_move","!acc"]:List Str).Nodup;decide +kernel)) (λ_ _ _ _ _=>.inl ⟨rfl,rfl⟩) (λ_ _ _ _ _=>zU (zA 0) (zD))))))) (ZG))))))
  (zC (w6 false 5 (nt:=1) (N':=["_law_at","_law_machine_here","!acc"]) (idx:=[0]) nd rfl (yg (osc:=defScope (top 30)) (L:=s.heap.objs.size) (N:=["_law_machine_here","_law_state","_law_some","_law_turn","_law_at","_law_goods"]) rfl rfl rfl rfl (by decide +kernel) (by decide +kernel) (by decide +kernel) rfl (by decide +kernel) (by decide +kernel)) (Yg (zA 2)) (by show ∀ i ∈ ([0]:List Nat),i<6;decide) (λ_ _ _ _ _=>yN 0 1 (by decide) (by show (["_law_at","_law_machine_here","!acc"]:List Str).Nodup;decide +kernel)) (λ_ _ _ _ _=>.inl ⟨rfl,rfl⟩) (λ_ _ _ _ _=>zU (zU (zA 1) (zA 0)) (zD)))
  (zG (ZN (X6 (XA (K4 T.b_all (zB (zA 5) (zE)))) (yY) (X6 (XA (K3 T.b_any (zB (zA 5) (zE)))) (yY) (yY)))))))
theorem Yr:FnScope ["self","letter"] ["self","letter"] (defScope (ye 19 2)):=⟨rfl,rfl,rfl,by decide +kernel,rfl,by decide +kernel,by decide +kernel⟩
theorem wv {f:Addr}{fd:FuncData}(F:Fun K "come" "Watcher.come" (ye 19 2) f fd)(T:Txt K mg A C)(G_gone_on:Fk P w K mg base 1 "gone_on" ["machine","place","letter"] 3 yn)(G_Watcher_told:FkO P w K mg base 1 C "told" ["self"] 1 zM):FnOk P w K mg base (CX1 P w) 2 f fd ["self","letter"] (spO K C 2 zw):=by
 refine FnOk.imp (Vp (C:=C) (m:=Zf C) F Yr rfl (by decide) λcdv A' outer s H E hr=>?_) λ_ _ _ _ h=>uo (F:=zw) (F2:=Yu 2 (Zf C)) rfl h
 have nd:=Yr.nd
 exact Xb (UE 0 T.cl T.na_place (zX G_gone_on (hr.mono (by decide)) zW (zB (VW 0 T.cl T.na_machine) (zB (VW 0 T.cl T.na_place) (zB (zA 1) (zE))))))
  (VS (jP (YL 0 T.cl G_Watcher_told (hr.mono (by decide)) zW)))
theorem xq:FnScope ["machine","state","boxes","moves","move"] ["machine","state"] (defScope (top 10)):=⟨rfl,rfl,rfl,by decide +kernel,rfl,by decide +kernel,by decide +kernel⟩
theorem vK {f:Addr}{fd:FuncData}(F:Fun K "look_state" "look_state" (top 10) f fd)(T:Txt K mg A C)(G_look_move:Fk P w K mg base 1 "look_move" ["machine","move","letters"] 3 (yL A)):FnOk P w K mg base (CX1 P w) 2 f fd ["machine","state"] (spM K 2 (yP A)):=by
 refine ZS F xq rfl (by decide) λcdv A' outer s H E hr=>?_
 have nd:=xq.nd
 exact zC (zy 2 nd (zU (zA 1) (zD)))
  (zC (zy 3 nd (zU (zA 1) (zD)))
  (zC (Z2 (MW.mt (wY (zu op_lt Xz (zA 2) (zD) (nomark _)) (xC (zu op_gt u0 (zA 2) (Uy rfl T.g_MOST_BOXES) (nomark _))))) (zG (yc T.e_BadMachine T.c_BadMachine)) (ZG))
  (zC (Z2 (zu (yt hr) yr (ZE call_len_seq Zk rfl T.b_len PySem.boot_len (zB (zA 3) (zE))) (ZJ (zA 2) (zD)) (nomark _)) (zG (yc T.e_BadMachine T.c_BadMachine)) (ZG))
  (zC (XZ Yv rfl (jS (zA 3) kA (J4 (zA 2))) (Zq 4 nd) (zG (Xa (zX G_look_move (hr.mono (by decide)) zW (zB (zA 0) (zB (zA 4) (zB (zA 2) (zE))))))))
  (zG (Xa (zX G_look_move (hr.mono (by decide)) zW (zB (zA 0) (zB (zU (zA 3) (zA 2)) (zB (ZJ (zA 2) (zD)) (zE)))))))))))
theorem xp:FnScope ["machine","left","ahead","waiting","seen","here","number"] ["machine"] (defScope (top 16)):=⟨rfl,rfl,rfl,by decide +kernel,rfl,by decide +kernel,by decide +kernel⟩
theorem vJ {f:Addr}{fd:FuncData}(F:Fun K "steps_left" "steps_left" (top 16) f fd)(T:Txt K mg A C)(G_states_ahead:Fk P w K mg base 1 "states_ahead" ["machine"] 1 Zh):FnOk P w K mg base (CX1 P w) 2 f fd ["machine"] (spM K 1 Zl):=by
 refine ZS F xp rfl (by decide) λcdv A' outer s H E hr=>?_
 have nd:=xp.nd
 exact zC (w6 true 1 (nt:=1) (N':=["state","!acc"]) (idx:=[]) nd rfl (yg (osc:=defScope (top 16)) (L:=s.heap.objs.size) (N:=["machine","left","ahead","waiting","seen","here","number"]) rfl rfl rfl rfl (by decide +kernel) (by decide +kernel) (by decide +kernel) rfl (by decide +kernel) (by decide +kernel)) (Yg (zA 0)) (by show ∀ i ∈ ([]:List Nat),i<7;decide) (λ_ _ _ _ _=>yN 0 1 (by decide) (by show (["state","!acc"]:List Str).Nodup;decide +kernel)) (λ_ _ _ _ _=>.inl ⟨rfl,rfl⟩) (λ_ _ _ _ _=>X6 (XA (zU (zA 0) (zD))) (zD) (X4)))
  (zC (zy 2 nd (zX G_states_ahead (hr.mono (by decide)) zW (zB (zA 0) (zE))))
  (zC (w6 true 3 (nt:=2) (N':=["number","state","!acc"]) (idx:=[]) nd rfl (yg (osc:=defScope (top 16)) (L:=s.heap.objs.size) (N:=["machine","left","ahead","waiting","seen","here","number"]) rfl rfl rfl rfl (by decide +kernel) (by decide +kernel) (by decide +kernel) rfl (by decide +kernel) (by decide +kernel)) (kC T.b_enumerate (zA 0)) (by show ∀ i ∈ ([]:List Nat),i<7;decide) (λ_ _ _ _ _=>VT 2 rfl (yH 0 2 (by decide) (by show (["number","state","!acc"]:List Str).Nodup;decide +kernel) (yH 1 2 (by decide) (by show (["number","state","!acc"]:List Str).Nodup;decide +kernel) (Wd 2))) rfl) (λ_ _ _ _ _=>.inr ⟨_,_,rfl,rfl,XA (zU (zA 1) (zD))⟩) (λ_ _ _ _ _=>zA 0))
  (zC (zy 4 nd (zD))
  (zC (uF jo Yv (zu op_lt Xz (zA 4) (Xe 3 T.b_len) (nomark _)) (zC (zy 5 nd (VU 3 (zA 4)))
  (zC (Ky 4 nd (zD))
  (zG (XZ Yv rfl (zU (zA 2) (zA 5)) (Zq 6 nd) (zG (Z2 (zu op_isN VM (VU 1 (zA 6)) (X4) (nomark _)) (zC (jL 1 (zA 6) (ZJ (VU 1 (zA 5)) (zD)))
  (zG (xD 3 (zA 6)))) (ZG))))))))
  (Ye 1 (zG (ZN (zA 1))))))))
theorem WL:FnScope ["_law_script","_law_k","_law_number"] ["_law_script","_law_k"] (defScope (top 24)):=⟨rfl,rfl,rfl,by decide +kernel,rfl,by decide +kernel,by decide +kernel⟩
theorem UA {f:Addr}{fd:FuncData}(F:Fun K "_law_mix" "_law_mix" (top 24) f fd)(T:Txt K mg A C)(G_law_cell:Fk P w K mg base 1 "_law_cell" ["_law_script","_law_k"] 2 yx):FnOk P w K mg base (CX1 P w) 2 f fd ["_law_script","_law_k"] (spM K 2 zN):=by
 refine ZS F WL rfl (by decide) λcdv A' outer s H E hr=>?_
 have nd:=WL.nd
 exact zC (zy 2 nd (Zt (ZJ (zX G_law_cell (hr.mono (by decide)) zW (zB (zA 0) (zB (zA 1) (zE)))) (X5 (zD) (ZJ (zA 1) (zD)))) (zD)))
  (zC (zy 2 nd (Zt (X5 (zA 2) (zD)) (zD)))
  (zG (ZN (Zt (ZJ (X5 (xX (zA 2) (zD)) (zD)) (zA 2)) (zD)))))
theorem Yo:FnScope ["machine","state"] ["machine"] (defScope (top 9)):=⟨rfl,rfl,rfl,by decide +kernel,rfl,by decide +kernel,by decide +kernel⟩
theorem wn {f:Addr}{fd:FuncData}(F:Fun K "look_machine" "look_machine" (top 9) f fd)(T:Txt K mg A C)(G_look_state:Fk P w K mg base 2 "look_state" ["machine","state"] 2 (yP A)):FnOk P w K mg base (CX1 P w) 3 f fd ["machine"] (spM K 1 (zr A)):=by
 refine ZS F Yo rfl (by decide) λcdv A' outer s H E hr=>?_
 have nd:=Yo.nd
 exact zC (Z2 (MW.mt (wY (zu op_lt Xz (ZE call_len_seq Zk rfl T.b_len PySem.boot_len (zB (zA 0) (zE))) (zD) (nomark _)) (xC (zu op_gt u0 (ZE call_len_seq Zk rfl T.b_len PySem.boot_len (zB (zA 0) (zE))) (Uy rfl T.g_MOST_STATES) (nomark _))))) (zG (yc T.e_BadMachine T.c_BadMachine)) (ZG))
  (zC (Z2 (zu (yt hr) yr (zU (zU (zA 0) (zD)) (zD)) (zD) (nomark _)) (zG (yc T.e_BadMachine T.c_BadMachine)) (ZG))
  (zG (XZ Yv rfl (zA 0) (Zq 1 nd) (zG (Xa (zX G_look_state (hr.mono (by decide)) zW (zB (zA 0) (zB (zA 1) (zE)))))))))
theorem Y5:FnScope ["_law_script","_law_k","_law_many","_law_most","_law_left","_law_found"] ["_law_script","_law_k","_law_many","_law_most"] (defScope (top 25)):=⟨rfl,rfl,rfl,by decide +kernel,rfl,by decide +kernel,by decide +kernel⟩
theorem WZ {f:Addr}{fd:FuncData}(F:Fun K "_law_sources" "_law_sources" (top 25) f fd)(T:Txt K mg A C)(G_law_mix:Fk P w K mg base 2 "_law_mix" ["_law_script","_law_k"] 2 zN):FnOk P w K mg base (CX1 P w) 3 f fd ["_law_script","_law_k","_law_many","_law_most"] (spM K 4 ZZ):=by
 refine ZS F Y5 rfl (by decide) λcdv A' outer s H E hr=>?_
 have nd:=Y5.nd
 exact zC (uG 4 nd T.b_list T.b_range (zA 3))
  (zC (XC 5 nd (zE))
  (zC (uF jo Yv (zu op_lt Xz (Xe 5 T.b_len) (zA 2) (nomark _)) (zG (xD 5 (jT 4 (Zt (zX G_law_mix (hr.mono (by decide)) zW (zB (zA 0) (zB (ZJ (zA 1) (Xe 5 T.b_len)) (zE)))) (Xe 4 T.b_len))))))
  (Ye 5 (zG (ZN (vi T.b_tuple (zB (zA 5) (zE))))))))
theorem wU:FnScope ["_law_script","_law_k","_law_most","_law_found","_law_j","_law_number","_law_near"] ["_law_script","_law_k","_law_most"] (defScope (top 27)):=⟨rfl,rfl,rfl,by decide +kernel,rfl,by decide +kernel,by decide +kernel⟩
theorem V9 {f:Addr}{fd:FuncData}(F:Fun K "_law_word" "_law_word" (top 27) f fd)(T:Txt K mg A C)(G_law_mix:Fk P w K mg base 2 "_law_mix" ["_law_script","_law_k"] 2 zN):FnOk P w K mg base (CX1 P w) 3 f fd ["_law_script","_law_k","_law_most"] (spM K 3 Zy):=by
 refine ZS F wU rfl (by decide) λcdv A' outer s H E hr=>?_
 have nd:=wU.nd
 exact zC (XC 3 nd (zE))
  (zC (YB Yv rfl T.b_range (Zt (zX G_law_mix (hr.mono (by decide)) zW (zB (zA 0) (zB (zA 1) (zE)))) (ZJ (zA 2) (zD))) (Zq 4 nd) (zC (zy 5 nd (zX G_law_mix (hr.mono (by decide)) zW (zB (zA 0) (zB (ZJ (ZJ (zA 1) (zD)) (zA 4)) (zE)))))
  (zC (zy 6 nd (X6 (Jw 3) (VU 3 (K1 (UH zD) (Zt (xX (zA 5) (zD)) (Xe 3 T.b_len)))) (zD)))
  (zG (xD 3 (zU (xE (zB (zA 6) (zB (zA 6) (zB (Zt (xX (zA 5) (zD)) (zD)) (zB (Zt (xX (zA 5) (zD)) (zD)) (zB (ZJ (zA 6) (zD)) (zB (Zt (xX (UH (zA 5)) (zD)) (zD)) (zE)))))))) (Zt (zA 5) (zD))))))))
  (Ye 3 (zG (ZN (zA 3)))))
theorem vd:FnScope ["machine"] ["machine"] (defScope (top 14)):=⟨rfl,rfl,rfl,by decide +kernel,rfl,by decide +kernel,by decide +kernel⟩
theorem qm {f:Addr}{fd:FuncData}(F:Fun K "turned" "turned" (top 14) f fd)(T:Txt K mg A C)(G_look_machine:Fk P w K mg base 3 "look_machine" ["machine"] 1 (zr A)):FnOk P w K mg base (CX1 P w) 4 f fd ["machine"] (spM K 1 (xS A)):=by
 refine ZS F vd rfl (by decide) λcdv A' outer s H E hr=>?_
 have nd:=vd.nd
 exact zC (Xa (zX G_look_machine (hr.mono (by decide)) zW (zB (zA 0) (zE))))
  (zG (ZN (Xg (nt:=1) (N':=["state","!acc"]) (idx:=[]) rfl (yg (osc:=defScope (top 14)) (L:=s.heap.objs.size) (N:=["machine"]) rfl rfl rfl rfl (by decide +kernel) (by decide +kernel) (by decide +kernel) rfl (by decide +kernel) (by decide +kernel)) (Yg (zA 0)) (by show ∀ i ∈ ([]:List Nat),i<1;decide) (λ_ _ _ _ _=>yN 0 1 (by decide) (by show (["state","!acc"]:List Str).Nodup;decide +kernel)) (λ_ _ _ _ _=>.inl ⟨rfl,rfl⟩) (λ_ _ _ _ _=>Z6 (zB (K2 (zU (zA 0) (zD))) (zB (zU (zA 0) (zD)) (zB (jV T.b_list (zB (zU (zA 0) (zD)) (zE))) (zE))))))))
theorem Y7:FnScope ["_law_script","_law_k","_law_most","_law_boxes","_law_j","_law_found","_law_state","_law_moves","_law_case","_law_far","_law_goals","_law_goal"] ["_law_script","_law_k","_law_most"] (defScope (top 26)):=⟨rfl,rfl,rfl,by decide +kernel,rfl,by decide +kernel,by decide +kernel⟩
theorem Wb {f:Addr}{fd:FuncData}(F:Fun K "_law_machine" "_law_machine" (top 26) f fd)(T:Txt K mg A C)(G_law_mix:Fk P w K mg base 2 "_law_mix" ["_law_script","_law_k"] 2 zN)(G_law_sources:Fk P w K mg base 3 "_law_sources" ["_law_script","_law_k","_law_many","_law_most"] 4 ZZ):FnOk P w K mg base (CX1 P w) 4 f fd ["_law_script","_law_k","_law_most"] (spM K 3 yC):=by
 refine ZS F Y7 rfl (by decide) λcdv A' outer s H E hr=>?_
 have nd:=Y7.nd
 exact zC (XC 3 nd (zB (zD) (zE)))
  (zC (YB Yv rfl T.b_range (Zt (zX G_law_mix (hr.mono (by decide)) zW (zB (zA 0) (zB (zA 1) (zE)))) (zA 2)) (Zq 4 nd) (zG (xD 3 (zU (xE (zB (zD) (zB (zD) (zB (zD) (zB (zD) (zE)))))) (Zt (zX G_law_mix (hr.mono (by decide)) zW (zB (zA 0) (zB (ZJ (ZJ (zA 1) (zD)) (zA 4)) (zE)))) (zD))))))
  (zC (XC 5 nd (zE))
  (Ye 3 (zC (YB Yv rfl T.b_range (ZE call_len_seq Zk rfl T.b_len PySem.boot_len (zB (zA 3) (zE))) (Zq 6 nd) (zC (XC 7 nd (zE))
  (zC (YB Yv rfl T.b_range (ZJ (zU (zA 3) (zA 6)) (zD)) (Zq 8 nd) (zC (zy 9 nd (ZJ (zU (zA 3) (zA 6)) (kF T.b_int (zB (VX (X1 hr) X0 (zA 8) (zU (zA 3) (zA 6)) (nomark _)) (zE)))))
  (zC (w6 false 10 (nt:=1) (N':=["_law_goal","_law_boxes","_law_far","!acc"]) (idx:=[3,9]) nd rfl (yg (osc:=defScope (top 26)) (L:=s.heap.objs.size) (N:=["_law_script","_law_k","_law_most","_law_boxes","_law_j","_law_found","_law_state","_law_moves","_law_case","_law_far","_law_goals","_law_goal"]) rfl rfl rfl rfl (by decide +kernel) (by decide +kernel) (by decide +kernel) rfl (by decide +kernel) (by decide +kernel)) (jR T.b_range (ZE call_len_seq Zk rfl T.b_len PySem.boot_len (zB (zA 3) (zE)))) (by show ∀ i ∈ ([3,9]:List Nat),i<12;decide) (λ_ _ _ _ _=>yN 0 1 (by decide) (by show (["_law_goal","_law_boxes","_law_far","!acc"]:List Str).Nodup;decide +kernel)) (λ_ _ _ _ _=>.inr ⟨_,_,rfl,rfl,zu op_le Kt (zU (zA 1) (zA 0)) (zA 2) (nomark _)⟩) (λ_ _ _ _ _=>zA 0))
  (zC (zy 11 nd (zU (zA 10) (Zt (zX G_law_mix (hr.mono (by decide)) zW (zB (zA 0) (zB (ZJ (ZJ (ZJ (zA 1) (zD)) (X5 (zD) (zA 6))) (zA 8)) (zE)))) (ZE call_len_seq Zk rfl T.b_len PySem.boot_len (zB (zA 10) (zE))))))
  (zG (xD 7 (Z6 (zB (zA 11) (zB (zX G_law_sources (hr.mono (by decide)) zW (zB (zA 0) (zB (ZJ (ZJ (ZJ (zA 1) (zD)) (X5 (zD) (zA 6))) (X5 (zD) (zA 8))) (zB (zU (zA 3) (zA 11)) (zB (zA 9) (zE)))))) (zE))))))))))
  (Ye 7 (zG (xD 5 (Z6 (zB (VX (X1 hr) X0 (Zt (xX (zX G_law_mix (hr.mono (by decide)) zW (zB (zA 0) (zB (ZJ (ZJ (zA 1) (zD)) (zA 6)) (zE)))) (zD)) (zD)) (zD) (nomark _)) (zB (zU (zA 3) (zA 6)) (zB (zA 7) (zE)))))))))))
  (Ye 5 (zG (ZN (zA 5))))))))
theorem Y4:FnScope ["machine","to_good","to_bad"] ["machine"] (defScope (top 20)):=⟨rfl,rfl,rfl,by decide +kernel,rfl,by decide +kernel,by decide +kernel⟩
theorem WY {f:Addr}{fd:FuncData}(F:Fun K "tellings_of" "tellings_of" (top 20) f fd)(T:Txt K mg A C)(G_steps_left:Fk P w K mg base 2 "steps_left" ["machine"] 1 Zl)(G_turned:Fk P w K mg base 4 "turned" ["machine"] 1 (xS A))(G_outlook:Fk P w K mg base 1 "outlook" ["to_good","to_bad"] 2 Zn):FnOk P w K mg base (CX1 P w) 5 f fd ["machine"] (spM K 1 (yB A)):=by
 refine ZS F Y4 rfl (by decide) λcdv A' outer s H E hr=>?_
 have nd:=Y4.nd
 exact zC (zy 1 nd (zX G_steps_left (hr.mono (by decide)) zW (zB (zA 0) (zE))))
  (zC (zy 2 nd (zX G_steps_left (hr.mono (by decide)) zW (zB (zX G_turned (hr.mono (by decide)) zW (zB (zA 0) (zE))) (zE))))
  (zG (ZN (Xg (nt:=3) (N':=["state","good","bad","!acc"]) (idx:=[]) rfl (yg (osc:=defScope (top 20)) (L:=s.heap.objs.size) (N:=["machine","to_good","to_bad"]) rfl rfl rfl rfl (by decide +kernel) (by decide +kernel) (by decide +kernel) rfl (by decide +kernel) (by decide +kernel)) (kB T.b_zip (zB (zA 0) (zB (zA 1) (zB (zA 2) (zE))))) (by show ∀ i ∈ ([]:List Nat),i<3;decide) (λ_ _ _ _ _=>VT 3 rfl (yH 0 3 (by decide) (by show (["state","good","bad","!acc"]:List Str).Nodup;decide +kernel) (yH 1 3 (by decide) (by show (["state","good","bad","!acc"]:List Str).Nodup;decide +kernel) (yH 2 3 (by decide) (by show (["state","good","bad","!acc"]:List Str).Nodup;decide +kernel) (Wd 3)))) rfl) (λ_ _ _ _ _=>.inl ⟨rfl,rfl⟩) (λ_ _ _ _ _=>Z6 (zB (zU (zA 0) (zD)) (zB (zX G_outlook (hr.mono (by decide)) jB (zB (zA 1) (zB (zA 2) (zE)))) (zE))))))))
theorem Yq:FnScope ["self","machine"] ["self","machine"] (defScope (ye 19 0)):=⟨rfl,rfl,rfl,by decide +kernel,rfl,by decide +kernel,by decide +kernel⟩
theorem wu {f:Addr}{fd:FuncData}(F:Fun K "__init__" "Watcher.__init__" (ye 19 0) f fd)(T:Txt K mg A C)(G_look_machine:Fk P w K mg base 3 "look_machine" ["machine"] 1 (zr A))(G_tellings_of:Fk P w K mg base 5 "tellings_of" ["machine"] 1 (yB A)):FnOk P w K mg base (CX1 P w) 6 f fd ["self","machine"] (spO K C 2 (zK A)):=by
 refine FnOk.imp (Vp (C:=C) (m:=Ze A C) F Yq rfl (by decide) λcdv A' outer s H E hr=>?_) λ_ _ _ _ h=>uo (F:=(zK A)) (F2:=Yu 2 (Ze A C)) rfl h
 have nd:=Yq.nd
 exact Xb (J0 (zX G_look_machine (hr.mono (by decide)) zW (zB (zA 1) (zE))))
  (Xb (Jz 0 (nt:=1) (N':=["state","!acc"]) (idx:=[]) T.cl T.na_machine rfl (yg (osc:=defScope (ye 19 0)) (L:=s.heap.objs.size) (N:=["self","machine"]) rfl rfl rfl rfl (by decide +kernel) (by decide +kernel) (by decide +kernel) rfl (by decide +kernel) (by decide +kernel)) (Yg (zA 1)) (by show ∀ i ∈ ([]:List Nat),i<2;decide) (λ_ _ _ _ _=>yN 0 1 (by decide) (by show (["state","!acc"]:List Str).Nodup;decide +kernel)) (λ_ _ _ _ _=>U7 (zU (zA 0) (zD)) (zU (zA 0) (zD)) (zU (zA 0) (zD)) T.b_list))
  (Xb (UE 0 T.cl T.na_tellings (zX G_tellings_of (hr.mono (by decide)) zW (zB (zA 1) (zE))))
  (VS (UE 0 T.cl T.na_place (Z6 (zB (zD) (zB (Z6 (zE)) (zE))))))))
theorem Qu:FnScope ["_law_script","_law_machine_here","_law_way","_law_first","_law_some","_law_k","_law_handed","_law_watcher","_law_beside","_law_good","_law_boxes","_law_moves","_law_state","_law_held","_law_letter","_law_found","_law_kept","e"] ["_law_script"] (defScope (top 31)):=⟨rfl,rfl,rfl,by decide +kernel,rfl,by decide +kernel,by decide +kernel⟩
theorem Kv {f:Addr}{fd:FuncData}(F:Fun K "law" "law" (top 31) f fd)(T:Txt K mg A C)(G_law_machine:Fk P w K mg base 4 "_law_machine" ["_law_script","_law_k","_law_most"] 3 yC)(G_law_word:Fk P w K mg base 3 "_law_word" ["_law_script","_law_k","_law_most"] 3 Zy)(G_law_mix:Fk P w K mg base 2 "_law_mix" ["_law_script","_law_k"] 2 zN)(G_law_come:Fk P w K mg base 1 "_law_come" ["_law_machine_here","_law_state","_law_held","_law_letter"] 4 Zz)(G_law_refusal:Fk P w K mg base 1 "_law_refusal" ["_law_kept"] 1 (Za A))(G_law_later:Fk P w K mg base 1 "_law_later" ["_law_machine_here","_law_state"] 2 zt)(G_Watcher_init:FkI P w K mg base 6 "Watcher" C ["self","machine"] 2 (zK A))(G_Watcher_told:FkO P w K mg base 1 C "told" ["self"] 1 zM)(G_Watcher_come:FkO P w K mg base 2 C "come" ["self","letter"] 2 zw)(G_Watcher_kept:FkK P w K mg base 1 C "kept" ["self"] "place"):FnOk P w K mg base (CX1 P w) 8 f fd ["_law_script"] (spM K 1 (JE A C)):=by
 refine ZS F Qu rfl (by decide) λcdv A' outer s H E hr=>?_
 have nd:=Qu.nd
 exact zC (zy 1 nd (zX G_law_machine (hr.mono (by decide)) zW (zB (zA 0) (zB (zD) (zB (zD) (zE))))))
  (zC (zy 2 nd (Zt (zX G_law_mix (hr.mono (by decide)) zW (zB (zA 0) (zB (zD) (zE)))) (zD)))
  (zC (Z2 (zu op_gt u0 (zA 2) (zD) (nomark _)) (zC (zy 3 nd (Zt (zX G_law_mix (hr.mono (by decide)) zW (zB (zA 0) (zB (zD) (zE)))) (ZE call_len_seq Zk rfl T.b_len PySem.boot_len (zB (zA 1) (zE)))))
  (zC (XC 4 nd (zE))
  (zC (YB Yv rfl T.b_range (ZE call_len_seq Zk rfl T.b_len PySem.boot_len (zB (zA 1) (zE))) (Zq 5 nd) (zG (xD 4 (Z6 (zB (X6 (zu op_ge u8 (zA 5) (zA 3) (nomark _)) (VX (X1 hr) X0 (zA 2) (zD) (nomark _)) (zU (zU (zA 1) (zA 5)) (zD))) (zB (zU (zU (zA 1) (zA 5)) (zD)) (zB (zU (zU (zA 1) (zA 5)) (zD)) (zE))))))))
  (Ye 4 (zG (zy 1 nd (zA 4))))))) (ZG))
  (zC (jN 6 (nt:=3) (N':=["_law_good","_law_boxes","_law_moves","!acc"]) (idx:=[]) nd rfl (yg (osc:=defScope (top 31)) (L:=s.heap.objs.size) (N:=["_law_script","_law_machine_here","_law_way","_law_first","_law_some","_law_k","_law_handed","_law_watcher","_law_beside","_law_good","_law_boxes","_law_moves","_law_state","_law_held","_law_letter","_law_found","_law_kept","e"]) rfl rfl rfl rfl (by decide +kernel) (by decide +kernel) (by decide +kernel) rfl (by decide +kernel) (by decide +kernel)) (Yg (zA 1)) (by show ∀ i ∈ ([]:List Nat),i<18;decide) (λ_ _ _ _ _=>VT 3 rfl (yH 0 3 (by decide) (by show (["_law_good","_law_boxes","_law_moves","!acc"]:List Str).Nodup;decide +kernel) (yH 1 3 (by decide) (by show (["_law_good","_law_boxes","_law_moves","!acc"]:List Str).Nodup;decide +kernel) (yH 2 3 (by decide) (by show (["_law_good","_law_boxes","_law_moves","!acc"]:List Str).Nodup;decide +kernel) (Wd 3)))) rfl) (λ_ _ _ _ _=>U7 (zA 0) (zA 1) (zA 2) T.b_list))
  (zC (Ux 7 6 G_Watcher_init (hr.mono (by decide)) zW nd)
  (zC (Ux 8 6 G_Watcher_init (hr.mono (by decide)) zW nd)
  (zC (jK 6 9 10 11 (.tup [.int 0,.tup []]) Yv rfl nd (UH zD) (Z6 (zB (zD) (zB (Z6 (zE)) (zE)))) (λ_=>rfl) (λ_=>rfl))
  (zC (Jy 6 (Z6 (zB (Wh) (zB (zD) (zB (xE (zE)) (zE))))))
  (zC (zy 12 nd (zD))
  (zC (zy 13 nd (xE (zE)))
  (zC (Z2 (zu (yt hr) yr (YL 7 T.cl G_Watcher_told (hr.mono (by decide)) zW) (Z6 (zB (zU (zU (zA 1) (zD)) (zD)) (zB (zX G_law_later (hr.mono (by decide)) zW (zB (zA 1) (zB (zD) (zE)))) (zE)))) (nomark _)) (zG (ZN (Wh))) (ZG))
  (zC (XZ Yv rfl (zX G_law_word (hr.mono (by decide)) zW (zB (zA 0) (zB (zD) (zB (zD) (zE))))) (Zq 14 nd) (zC (VR (zX G_law_come (hr.mono (by decide)) zW (zB (zA 1) (zB (zA 12) (zB (zA 13) (zB (zA 14) (zE)))))) (We rfl (Zs 12 nd (Zs 13 nd (Xc))) rfl))
  (zC (zy 15 nd (kE 7 T.cl G_Watcher_come (hr.mono (by decide)) zW (zB (zA 14) (zE))))
  (zC (Z2 (MW.mt (wY (jI (XA (UI T.b_isinstance T.b_bool (zU (zA 15) (zD))))) (xC (zu (yt hr) yr (zA 15) (Z6 (zB (zU (zU (zA 1) (zA 12)) (zD)) (zB (zX G_law_later (hr.mono (by decide)) zW (zB (zA 1) (zB (zA 12) (zE)))) (zE)))) (nomark _))))) (zG (ZN (Wh))) (ZG))
  (zC (Z2 (MW.mt (wY (zu (yt hr) yr (YL 7 T.cl G_Watcher_told (hr.mono (by decide)) zW) (zA 15) (nomark _)) (xC (zu (yt hr) yr (YL 7 T.cl G_Watcher_kept.to (hr.mono (by decide)) zW) (kD T.b_sorted (zB (zA 13) (zE))) (nomark _))))) (zG (ZN (Wh))) (ZG))
  (zG (UD 7 14 T.cl G_Watcher_kept (hr.mono (by decide)) zW)))))))
  (zC (Z2 (MW.mt (wY (zu (yt hr) yr (YL 8 T.cl G_Watcher_told (hr.mono (by decide)) zW) (Z6 (zB (zU (zU (zA 1) (zD)) (zD)) (zB (zX G_law_later (hr.mono (by decide)) zW (zB (zA 1) (zB (zD) (zE)))) (zE)))) (nomark _)) (xC (zu (yt hr) yr (YL 8 T.cl G_Watcher_kept.to (hr.mono (by decide)) zW) (xE (zE)) (nomark _))))) (zG (ZN (Wh))) (ZG))
  (zC (zy 16 nd (X4))
  (zC (Kx (iy:=16) (ie:=17) A.all T.caught T.e_BoxError T.c_BoxError (λpins xe E' hp=>zG (Xa (jU G_Watcher_init (hr.mono (by decide)) hp (zB (xE (zE)) (zE))))) nd rfl rfl rfl rfl (by decide))
  (zG (ZN (VX (X1 hr) X0 (zX G_law_refusal (hr.mono (by decide)) zW (zB (zA 16) (zE))) (yY) (nomark _))))))))))))))))))
end PM.K60
namespace PM.K60
open PySem PySem.Spec PyProof.Rows L2 PM
noncomputable def Uo (K:PySem.W.Frag):Sp:=λvs H Q _=>∃ (a:Addr)(ns:List Int),vs=[.ref a]/\SqL K H a (ns.map V.int)/\ns.length<=63/\∀ H',Q (.bl true) H'
theorem jX {K:PySem.W.Frag}{A:Cls}(C:Addr)(hA:A.Ok)(vs:List V)(H:Hp)(Q:VK)(E:XK)(h:Uo K vs H Q E):spM K 1 (JE A C) vs H Q E:=by
 obtain⟨a,ns,rfl,hq,hl,q⟩:=h
 refine⟨rfl,H,[.lst (ns.map .int)],Same.refl _,zF.cons (zQ.mpr ⟨a,_,rfl,hq,zF.ofInts ns⟩) zF.nil,?_⟩
 rw[law_true hA C (zAd ns)]
 exact λv G' H' _ _ r=>by rw[ZL.mp r];exact q H'
theorem us0 {P:List Value->Prop}(h:P [])(us:List Value)(hl:us.length=0):P us:=by
 rw[List.length_eq_zero_iff.mp hl];exact h
theorem JH {n:Nat}{P:List Value->Prop}(h:∀ a r,r.length=n->P (a::r))(us:List Value)(hl:us.length=n+1):P us:=by
 cases us with
 |nil=>cases hl
 |cons a r=>exact h a r (Nat.succ.inj hl)
theorem us1 {P:List Value->Prop}(h:∀ a,P [a])(us:List Value)(hl:us.length=1):P us:=JH (λa=>us0 (P:=λr=>P (a::r)) (h a)) us hl
theorem us2 {P:List Value->Prop}(h:∀ a b,P [a,b])(us:List Value)(hl:us.length=2):P us:=JH (λa=>us1 (P:=λr=>P (a::r)) (h a)) us hl
theorem us3 {P:List Value->Prop}(h:∀ a b c,P [a,b,c])(us:List Value)(hl:us.length=3):P us:=JH (λa=>us2 (P:=λr=>P (a::r)) (h a)) us hl
theorem us4 {P:List Value->Prop}(h:∀ a b c d,P [a,b,c,d])(us:List Value)(hl:us.length=4):P us:=JH (λa=>us3 (P:=λr=>P (a::r)) (h a)) us hl
theorem Vb {K:PySem.W.Frag}{A:Cls}{c:Addr}{R:Addr->Bool->Prop}(h1:R A.bm (A.bm == c))(h2:R A.bw (A.bw == c))(h3:R A.tm (A.tm == c))(h4:R A.bt (A.bt == c))(a:Addr)(b:Bool)(h:A.is c a=some b):R a b:=by
 unfold Cls.is at h
 split at h
 ·rename_i hc
  cases h
  have hm:a ∈ A.all:=by simpa using hc
  simp only[Cls.all,List.mem_cons,List.not_mem_nil,or_false]at hm
  rcases hm with rfl | rfl | rfl | rfl
  ·exact h1
  ·exact h2
  ·exact h3
  ·exact h4
 ·cases h
theorem Zp {K:PySem.W.Frag}{a b:Addr}(h1:PySem.W.kitOne K (.ref a) (.ref a)=some true)(h2:PySem.W.kitOne K (.ref a) (.ref b)=some false):a≠b:=λe=>by
 subst e
 rw[h1]at h2
 cases h2
theorem all_mk {l:PySem.W.OpenLaw}{w:World}{K:PySem.W.Frag}{h:Heap}{mg:Str->Option Value}{fa:Addr}(X:K.In h)(G:h.Ns mainGlobals mg)(hfa:mg "law" = some (.ref fa))
  {C:Addr}
  {f0:Addr}{od0 an0:Option Addr}{sl0:Array (Option Value)}{oc0 kV0 dc0 pm0 cd0 ct0:Value}
  {f1:Addr}{od1 an1:Option Addr}{sl1:Array (Option Value)}{oc1 kV1 dc1 pm1 cd1 ct1:Value}
  {f2:Addr}{od2 an2:Option Addr}{sl2:Array (Option Value)}{oc2 kV2 dc2 pm2 cd2 ct2:Value}
  {f3:Addr}{od3 an3:Option Addr}{sl3:Array (Option Value)}{oc3 kV3 dc3 pm3 cd3 ct3:Value}
  {f4:Addr}{od4 an4:Option Addr}{sl4:Array (Option Value)}{oc4 kV4 dc4 pm4 cd4 ct4:Value}
  {f5:Addr}{od5 an5:Option Addr}{sl5:Array (Option Value)}{oc5 kV5 dc5 pm5 cd5 ct5:Value}
  {f6:Addr}{od6 an6:Option Addr}{sl6:Array (Option Value)}{oc6 kV6 dc6 pm6 cd6 ct6:Value}
  {f7:Addr}{od7 an7:Option Addr}{sl7:Array (Option Value)}{oc7 kV7 dc7 pm7 cd7 ct7:Value}
  {f8:Addr}{od8 an8:Option Addr}{sl8:Array (Option Value)}{oc8 kV8 dc8 pm8 cd8 ct8:Value}
  {f9:Addr}{od9 an9:Option Addr}{sl9:Array (Option Value)}{oc9 kV9 dc9 pm9 cd9 ct9:Value}
  {f10:Addr}{od10 an10:Option Addr}{sl10:Array (Option Value)}{oc10 kV10 dc10 pm10 cd10 ct10:Value}
  {f11:Addr}{od11 an11:Option Addr}{sl11:Array (Option Value)}{oc11 kV11 dc11 pm11 cd11 ct11:Value}
  {f12:Addr}{od12 an12:Option Addr}{sl12:Array (Option Value)}{oc12 kV12 dc12 pm12 cd12 ct12:Value}
  {f13:Addr}{od13 an13:Option Addr}{sl13:Array (Option Value)}{oc13 kV13 dc13 pm13 cd13 ct13:Value}
  {f14:Addr}{od14 an14:Option Addr}{sl14:Array (Option Value)}{oc14 kV14 dc14 pm14 cd14 ct14:Value}
  {f15:Addr}{od15 an15:Option Addr}{sl15:Array (Option Value)}{oc15 kV15 dc15 pm15 cd15 ct15:Value}
  {f16:Addr}{od16 an16:Option Addr}{sl16:Array (Option Value)}{oc16 kV16 dc16 pm16 cd16 ct16:Value}
  {f17:Addr}{od17 an17:Option Addr}{sl17:Array (Option Value)}{oc17 kV17 dc17 pm17 cd17 ct17:Value}
  {f18:Addr}{od18 an18:Option Addr}{sl18:Array (Option Value)}{oc18 kV18 dc18 pm18 cd18 ct18:Value}
  {f19:Addr}{od19 an19:Option Addr}{sl19:Array (Option Value)}{oc19 kV19 dc19 pm19 cd19 ct19:Value}
  {f20:Addr}{od20 an20:Option Addr}{sl20:Array (Option Value)}{oc20 kV20 dc20 pm20 cd20 ct20:Value}
  {f21:Addr}{od21 an21:Option Addr}{sl21:Array (Option Value)}{oc21 kV21 dc21 pm21 cd21 ct21:Value}
  {t_MOST_BOXES:Tok}
  {t_MOST_STATES:Tok}
  {be:Addr}
  {bm:Addr}
  {bw:Addr}
  {tm:Addr}
  {bt:Addr}
  {cdd_bm:ClassData}
  {cdd_bw:ClassData}
  {cdd_tm:ClassData}
  {cdd_bt:ClassData}
  (aC:PySem.W.nsIn K mainGlobals "Watcher" = some (some (.ref C)))
  (a0:PySem.W.findIn K (.ref C) "told" = some (some (.ref f0)))
  (i0:PySem.W.isFn K (.ref f0)=true)
  (l0:K.lookup f0=some ⟨oc0,od0,.func (PySem.W.fnOf "told" "Watcher.told" (defArgs (ye 19 1)) (defBody (ye 19 1)) (defScope (ye 19 1)) .none kV0 dc0 pm0 an0 cd0 ct0),sl0⟩)
  (c0:PySem.W.codeIn K cd0 "Watcher.told" = true)
  (k0:PySem.W.keepIn K (.ref f0)=true)
  (a1:PySem.W.findIn K (.ref C) "kept" = some (some (.ref f1)))
  (i1:PySem.W.isFn K (.ref f1)=true)
  (l1:K.lookup f1=some ⟨oc1,od1,.func (PySem.W.fnOf "kept" "Watcher.kept" (defArgs (ye 19 3)) (defBody (ye 19 3)) (defScope (ye 19 3)) .none kV1 dc1 pm1 an1 cd1 ct1),sl1⟩)
  (c1:PySem.W.codeIn K cd1 "Watcher.kept" = true)
  (k1:PySem.W.keepIn K (.ref f1)=true)
  (a2:PySem.W.nsIn K mainGlobals "look_move" = some (some (.ref f2)))
  (l2:K.lookup f2=some ⟨oc2,od2,.func (PySem.W.fnOf "look_move" "look_move" (defArgs (top 11)) (defBody (top 11)) (defScope (top 11)) .none kV2 dc2 pm2 an2 cd2 ct2),sl2⟩)
  (c2:PySem.W.codeIn K cd2 "look_move" = true)
  (k2:PySem.W.keepIn K (.ref f2)=true)
  (a3:PySem.W.nsIn K mainGlobals "gone_on" = some (some (.ref f3)))
  (l3:K.lookup f3=some ⟨oc3,od3,.func (PySem.W.fnOf "gone_on" "gone_on" (defArgs (top 12)) (defBody (top 12)) (defScope (top 12)) .none kV3 dc3 pm3 an3 cd3 ct3),sl3⟩)
  (c3:PySem.W.codeIn K cd3 "gone_on" = true)
  (k3:PySem.W.keepIn K (.ref f3)=true)
  (a4:PySem.W.nsIn K mainGlobals "states_ahead" = some (some (.ref f4)))
  (l4:K.lookup f4=some ⟨oc4,od4,.func (PySem.W.fnOf "states_ahead" "states_ahead" (defArgs (top 17)) (defBody (top 17)) (defScope (top 17)) .none kV4 dc4 pm4 an4 cd4 ct4),sl4⟩)
  (c4:PySem.W.codeIn K cd4 "states_ahead" = true)
  (k4:PySem.W.keepIn K (.ref f4)=true)
  (a5:PySem.W.nsIn K mainGlobals "outlook" = some (some (.ref f5)))
  (l5:K.lookup f5=some ⟨oc5,od5,.func (PySem.W.fnOf "outlook" "outlook" (defArgs (top 21)) (defBody (top 21)) (defScope (top 21)) .none kV5 dc5 pm5 an5 cd5 ct5),sl5⟩)
  (c5:PySem.W.codeIn K cd5 "outlook" = true)
  (k5:PySem.W.keepIn K (.ref f5)=true)
  (a6:PySem.W.nsIn K mainGlobals "_law_cell" = some (some (.ref f6)))
  (l6:K.lookup f6=some ⟨oc6,od6,.func (PySem.W.fnOf "_law_cell" "_law_cell" (defArgs (top 23)) (defBody (top 23)) (defScope (top 23)) .none kV6 dc6 pm6 an6 cd6 ct6),sl6⟩)
  (c6:PySem.W.codeIn K cd6 "_law_cell" = true)
  (k6:PySem.W.keepIn K (.ref f6)=true)
  (a7:PySem.W.nsIn K mainGlobals "_law_come" = some (some (.ref f7)))
  (l7:K.lookup f7=some ⟨oc7,od7,.func (PySem.W.fnOf "_law_come" "_law_come" (defArgs (top 28)) (defBody (top 28)) (defScope (top 28)) .none kV7 dc7 pm7 an7 cd7 ct7),sl7⟩)
  (c7:PySem.W.codeIn K cd7 "_law_come" = true)
  (k7:PySem.W.keepIn K (.ref f7)=true)
  (a8:PySem.W.nsIn K mainGlobals "_law_refusal" = some (some (.ref f8)))
  (l8:K.lookup f8=some ⟨oc8,od8,.func (PySem.W.fnOf "_law_refusal" "_law_refusal" (defArgs (top 29)) (defBody (top 29)) (defScope (top 29)) .none kV8 dc8 pm8 an8 cd8 ct8),sl8⟩)
  (c8:PySem.W.codeIn K cd8 "_law_refusal" = true)
  (k8:PySem.W.keepIn K (.ref f8)=true)
  (a9:PySem.W.nsIn K mainGlobals "_law_later" = some (some (.ref f9)))
  (l9:K.lookup f9=some ⟨oc9,od9,.func (PySem.W.fnOf "_law_later" "_law_later" (defArgs (top 30)) (defBody (top 30)) (defScope (top 30)) .none kV9 dc9 pm9 an9 cd9 ct9),sl9⟩)
  (c9:PySem.W.codeIn K cd9 "_law_later" = true)
  (k9:PySem.W.keepIn K (.ref f9)=true)
  (a10:PySem.W.findIn K (.ref C) "come" = some (some (.ref f10)))
  (i10:PySem.W.isFn K (.ref f10)=true)
  (l10:K.lookup f10=some ⟨oc10,od10,.func (PySem.W.fnOf "come" "Watcher.come" (defArgs (ye 19 2)) (defBody (ye 19 2)) (defScope (ye 19 2)) .none kV10 dc10 pm10 an10 cd10 ct10),sl10⟩)
  (c10:PySem.W.codeIn K cd10 "Watcher.come" = true)
  (k10:PySem.W.keepIn K (.ref f10)=true)
  (a11:PySem.W.nsIn K mainGlobals "look_state" = some (some (.ref f11)))
  (l11:K.lookup f11=some ⟨oc11,od11,.func (PySem.W.fnOf "look_state" "look_state" (defArgs (top 10)) (defBody (top 10)) (defScope (top 10)) .none kV11 dc11 pm11 an11 cd11 ct11),sl11⟩)
  (c11:PySem.W.codeIn K cd11 "look_state" = true)
  (k11:PySem.W.keepIn K (.ref f11)=true)
  (a12:PySem.W.nsIn K mainGlobals "steps_left" = some (some (.ref f12)))
  (l12:K.lookup f12=some ⟨oc12,od12,.func (PySem.W.fnOf "steps_left" "steps_left" (defArgs (top 16)) (defBody (top 16)) (defScope (top 16)) .none kV12 dc12 pm12 an12 cd12 ct12),sl12⟩)
  (c12:PySem.W.codeIn K cd12 "steps_left" = true)
  (k12:PySem.W.keepIn K (.ref f12)=true)
  (a13:PySem.W.nsIn K mainGlobals "_law_mix" = some (some (.ref f13)))
  (l13:K.lookup f13=some ⟨oc13,od13,.func (PySem.W.fnOf "_law_mix" "_law_mix" (defArgs (top 24)) (defBody (top 24)) (defScope (top 24)) .none kV13 dc13 pm13 an13 cd13 ct13),sl13⟩)
  (c13:PySem.W.codeIn K cd13 "_law_mix" = true)
  (k13:PySem.W.keepIn K (.ref f13)=true)
  (a14:PySem.W.nsIn K mainGlobals "look_machine" = some (some (.ref f14)))
  (l14:K.lookup f14=some ⟨oc14,od14,.func (PySem.W.fnOf "look_machine" "look_machine" (defArgs (top 9)) (defBody (top 9)) (defScope (top 9)) .none kV14 dc14 pm14 an14 cd14 ct14),sl14⟩)
  (c14:PySem.W.codeIn K cd14 "look_machine" = true)
  (k14:PySem.W.keepIn K (.ref f14)=true)
  (a15:PySem.W.nsIn K mainGlobals "_law_sources" = some (some (.ref f15)))
  (l15:K.lookup f15=some ⟨oc15,od15,.func (PySem.W.fnOf "_law_sources" "_law_sources" (defArgs (top 25)) (defBody (top 25)) (defScope (top 25)) .none kV15 dc15 pm15 an15 cd15 ct15),sl15⟩)
  (c15:PySem.W.codeIn K cd15 "_law_sources" = true)
  (k15:PySem.W.keepIn K (.ref f15)=true)
  (a16:PySem.W.nsIn K mainGlobals "_law_word" = some (some (.ref f16)))
  (l16:K.lookup f16=some ⟨oc16,od16,.func (PySem.W.fnOf "_law_word" "_law_word" (defArgs (top 27)) (defBody (top 27)) (defScope (top 27)) .none kV16 dc16 pm16 an16 cd16 ct16),sl16⟩)
  (c16:PySem.W.codeIn K cd16 "_law_word" = true)
  (k16:PySem.W.keepIn K (.ref f16)=true)
  (a17:PySem.W.nsIn K mainGlobals "turned" = some (some (.ref f17)))
  (l17:K.lookup f17=some ⟨oc17,od17,.func (PySem.W.fnOf "turned" "turned" (defArgs (top 14)) (defBody (top 14)) (defScope (top 14)) .none kV17 dc17 pm17 an17 cd17 ct17),sl17⟩)
  (c17:PySem.W.codeIn K cd17 "turned" = true)
  (k17:PySem.W.keepIn K (.ref f17)=true)
  (a18:PySem.W.nsIn K mainGlobals "_law_machine" = some (some (.ref f18)))
  (l18:K.lookup f18=some ⟨oc18,od18,.func (PySem.W.fnOf "_law_machine" "_law_machine" (defArgs (top 26)) (defBody (top 26)) (defScope (top 26)) .none kV18 dc18 pm18 an18 cd18 ct18),sl18⟩)
  (c18:PySem.W.codeIn K cd18 "_law_machine" = true)
  (k18:PySem.W.keepIn K (.ref f18)=true)
  (a19:PySem.W.nsIn K mainGlobals "tellings_of" = some (some (.ref f19)))
  (l19:K.lookup f19=some ⟨oc19,od19,.func (PySem.W.fnOf "tellings_of" "tellings_of" (defArgs (top 20)) (defBody (top 20)) (defScope (top 20)) .none kV19 dc19 pm19 an19 cd19 ct19),sl19⟩)
  (c19:PySem.W.codeIn K cd19 "tellings_of" = true)
  (k19:PySem.W.keepIn K (.ref f19)=true)
  (a20:PySem.W.findIn K (.ref C) "__init__" = some (some (.ref f20)))
  (i20:PySem.W.isFn K (.ref f20)=true)
  (l20:K.lookup f20=some ⟨oc20,od20,.func (PySem.W.fnOf "__init__" "Watcher.__init__" (defArgs (ye 19 0)) (defBody (ye 19 0)) (defScope (ye 19 0)) .none kV20 dc20 pm20 an20 cd20 ct20),sl20⟩)
  (c20:PySem.W.codeIn K cd20 "Watcher.__init__" = true)
  (k20:PySem.W.keepIn K (.ref f20)=true)
  (a21:PySem.W.nsIn K mainGlobals "law" = some (some (.ref f21)))
  (l21:K.lookup f21=some ⟨oc21,od21,.func (PySem.W.fnOf "law" "law" (defArgs (top 31)) (defBody (top 31)) (defScope (top 31)) .none kV21 dc21 pm21 an21 cd21 ct21),sl21⟩)
  (c21:PySem.W.codeIn K cd21 "law" = true)
  (k21:PySem.W.keepIn K (.ref f21)=true)
  (pg:PySem.W.plainGet K C Str.empty=true)
  (hd:PySem.W.hasDictIn K C=true)
  (po:PySem.W.plainOver K C=true)
  (sa:PySem.W.findIn K (.ref C) "__setattr__" = some (some (.builtin "object.__setattr__")))
  (mk:PySem.W.makesIn K C=true)
  (kc:PySem.W.keepIn K (.ref C)=true)
  (na_machine:PySem.W.findIn K (.ref C) "machine" = some none)
  (na_place:PySem.W.findIn K (.ref C) "place" = some none)
  (na_tellings:PySem.W.findIn K (.ref C) "tellings" = some none)
  (b_ValueError:PySem.W.nsIn K mainGlobals "ValueError" = some none)
  (b_all:PySem.W.nsIn K mainGlobals "all" = some none)
  (b_any:PySem.W.nsIn K mainGlobals "any" = some none)
  (b_bool:PySem.W.nsIn K mainGlobals "bool" = some none)
  (b_enumerate:PySem.W.nsIn K mainGlobals "enumerate" = some none)
  (b_int:PySem.W.nsIn K mainGlobals "int" = some none)
  (b_isinstance:PySem.W.nsIn K mainGlobals "isinstance" = some none)
  (b_len:PySem.W.nsIn K mainGlobals "len" = some none)
  (b_list:PySem.W.nsIn K mainGlobals "list" = some none)
  (b_range:PySem.W.nsIn K mainGlobals "range" = some none)
  (b_set:PySem.W.nsIn K mainGlobals "set" = some none)
  (b_sorted:PySem.W.nsIn K mainGlobals "sorted" = some none)
  (b_tuple:PySem.W.nsIn K mainGlobals "tuple" = some none)
  (b_zip:PySem.W.nsIn K mainGlobals "zip" = some none)
  (g_MOST_BOXES:PySem.W.nsIn K mainGlobals "MOST_BOXES" = some (some (.int 6 t_MOST_BOXES)))
  (g_MOST_STATES:PySem.W.nsIn K mainGlobals "MOST_STATES" = some (some (.int 400 t_MOST_STATES)))
  (c_be:PySem.W.nsIn K mainGlobals "BoxError" = some (some (.ref be)))
  (c_bm:PySem.W.nsIn K mainGlobals "BadMachine" = some (some (.ref bm)))
  (c_bw:PySem.W.nsIn K mainGlobals "BadWord" = some (some (.ref bw)))
  (c_tm:PySem.W.nsIn K mainGlobals "TooMany" = some (some (.ref tm)))
  (c_bt:PySem.W.nsIn K mainGlobals "BadText" = some (some (.ref bt)))
  (e_be:PySem.W.excIn K be Yk yG=true)
  (e_bm:PySem.W.excIn K bm Yk yG=true)
  (e_bw:PySem.W.excIn K bw Yk yG=true)
  (e_tm:PySem.W.excIn K tm Yk yG=true)
  (e_bt:PySem.W.excIn K bt Yk yG=true)
  (m_bm:PySem.W.mroIn K bm (.ref be)=some true)
  (x_bm:PySem.W.clsIn K bm=some cdd_bm)
  (ga_bm:PySem.W.findIn K (.ref bm) "__getattribute__" = some (some (.builtin "BaseException.__getattribute__")))
  (no_bm:PySem.W.findIn K (.ref bm) "__getattr__" = some none)
  (cl_bm:PySem.W.findIn K (.ref bm) "__class__" = some (some (.builtin "object.__class__")))
  (ob_bm:PySem.W.mroIn K bm (.type "object")=some true)
  (be_bm:PySem.W.mroIn K bm (.type "BaseException")=some true)
  (ve_bm:PySem.W.kitOne K (.ref bm) (.type "ValueError")=some true)
  (q_bm_bm:PySem.W.kitOne K (.ref bm) (.ref bm)=some true)
  (q_bm_bw:PySem.W.kitOne K (.ref bm) (.ref bw)=some false)
  (q_bm_tm:PySem.W.kitOne K (.ref bm) (.ref tm)=some false)
  (q_bm_bt:PySem.W.kitOne K (.ref bm) (.ref bt)=some false)
  (m_bw:PySem.W.mroIn K bw (.ref be)=some true)
  (x_bw:PySem.W.clsIn K bw=some cdd_bw)
  (ga_bw:PySem.W.findIn K (.ref bw) "__getattribute__" = some (some (.builtin "BaseException.__getattribute__")))
  (no_bw:PySem.W.findIn K (.ref bw) "__getattr__" = some none)
  (cl_bw:PySem.W.findIn K (.ref bw) "__class__" = some (some (.builtin "object.__class__")))
  (ob_bw:PySem.W.mroIn K bw (.type "object")=some true)
  (be_bw:PySem.W.mroIn K bw (.type "BaseException")=some true)
  (ve_bw:PySem.W.kitOne K (.ref bw) (.type "ValueError")=some true)
  (q_bw_bm:PySem.W.kitOne K (.ref bw) (.ref bm)=some false)
  (q_bw_bw:PySem.W.kitOne K (.ref bw) (.ref bw)=some true)
  (q_bw_tm:PySem.W.kitOne K (.ref bw) (.ref tm)=some false)
  (q_bw_bt:PySem.W.kitOne K (.ref bw) (.ref bt)=some false)
  (m_tm:PySem.W.mroIn K tm (.ref be)=some true)
  (x_tm:PySem.W.clsIn K tm=some cdd_tm)
  (ga_tm:PySem.W.findIn K (.ref tm) "__getattribute__" = some (some (.builtin "BaseException.__getattribute__")))
  (no_tm:PySem.W.findIn K (.ref tm) "__getattr__" = some none)
  (cl_tm:PySem.W.findIn K (.ref tm) "__class__" = some (some (.builtin "object.__class__")))
  (ob_tm:PySem.W.mroIn K tm (.type "object")=some true)
  (be_tm:PySem.W.mroIn K tm (.type "BaseException")=some true)
  (ve_tm:PySem.W.kitOne K (.ref tm) (.type "ValueError")=some true)
  (q_tm_bm:PySem.W.kitOne K (.ref tm) (.ref bm)=some false)
  (q_tm_bw:PySem.W.kitOne K (.ref tm) (.ref bw)=some false)
  (q_tm_tm:PySem.W.kitOne K (.ref tm) (.ref tm)=some true)
  (q_tm_bt:PySem.W.kitOne K (.ref tm) (.ref bt)=some false)
  (m_bt:PySem.W.mroIn K bt (.ref be)=some true)
  (x_bt:PySem.W.clsIn K bt=some cdd_bt)
  (ga_bt:PySem.W.findIn K (.ref bt) "__getattribute__" = some (some (.builtin "BaseException.__getattribute__")))
  (no_bt:PySem.W.findIn K (.ref bt) "__getattr__" = some none)
  (cl_bt:PySem.W.findIn K (.ref bt) "__class__" = some (some (.builtin "object.__class__")))
  (ob_bt:PySem.W.mroIn K bt (.type "object")=some true)
  (be_bt:PySem.W.mroIn K bt (.type "BaseException")=some true)
  (ve_bt:PySem.W.kitOne K (.ref bt) (.type "ValueError")=some true)
  (q_bt_bm:PySem.W.kitOne K (.ref bt) (.ref bm)=some false)
  (q_bt_bw:PySem.W.kitOne K (.ref bt) (.ref bw)=some false)
  (q_bt_tm:PySem.W.kitOne K (.ref bt) (.ref tm)=some false)
  (q_bt_bt:PySem.W.kitOne K (.ref bt) (.ref bt)=some true) :
  ∃ fd:FuncData,(∀ (s:Shared) (v:Value),BindsTo s fd ⟨[v],[]⟩ [("_law_script",v)])/\∀ base:Heap,K.In base->base.Ns mainGlobals mg->FnOk l.prog w K mg base (CX1 l.prog w) 8 fa fd ["_law_script"] (Uo K):=by
 have e:=hfa.symm.trans (PySem.W.mg_of X G a21)
 cases e
 let A:Cls:=⟨be,bm,bw,tm,bt⟩
 have hA:A.Ok:=⟨Zp q_bm_bm q_bm_bt,Zp q_bm_bm q_bm_bw,Zp q_bm_bm q_bm_tm,Zp q_bt_bt q_bt_bw,Zp q_bt_bt q_bt_tm,Zp q_bw_bw q_bw_tm⟩
 have X_bm:ExcCls K bm:=⟨ga_bm,no_bm,cl_bm,ob_bm,be_bm⟩
 have X_bw:ExcCls K bw:=⟨ga_bw,no_bw,cl_bw,ob_bw,be_bw⟩
 have X_tm:ExcCls K tm:=⟨ga_tm,no_tm,cl_tm,ob_tm,be_tm⟩
 have X_bt:ExcCls K bt:=⟨ga_bt,no_bt,cl_bt,ob_bt,be_bt⟩
 have T:Txt K mg A C:=
  {c_BoxError:=PySem.W.mg_of X G c_be,c_BadMachine:=PySem.W.mg_of X G c_bm,c_BadWord:=PySem.W.mg_of X G c_bw,c_TooMany:=PySem.W.mg_of X G c_tm,c_BadText:=PySem.W.mg_of X G c_bt,
   cl:=⟨pg,hd,po,sa⟩,na_machine:=na_machine,na_place:=na_place,na_tellings:=na_tellings,e_BoxError:=e_be,e_BadMachine:=e_bm,e_BadWord:=e_bw,e_TooMany:=e_tm,e_BadText:=e_bt,
   caught:=(λc hc=>by
    simp only[Cls.all,List.mem_cons,List.not_mem_nil,or_false]at hc
    rcases hc with rfl | rfl | rfl | rfl
    ·exact⟨e_bm,m_bm⟩
    ·exact⟨e_bw,m_bw⟩
    ·exact⟨e_tm,m_tm⟩
    ·exact⟨e_bt,m_bt⟩),
   i_BadMachine:=(Vb (K:=K) (A:=A) (R:=λa b=>(PySem.W.clsIn K a).isSome=true/\ExcCls K a/\PySem.W.kitOne K (.ref a) (.ref bm)=some b) ⟨(by rw[x_bm];rfl),X_bm,by rw[show (bm == bm)=true from beq_self_eq_true _];exact q_bm_bm⟩ ⟨(by rw[x_bw];rfl),X_bw,by rw[show (bw == bm)=false from beq_false_of_ne (Zp q_bw_bw q_bw_bm)];exact q_bw_bm⟩ ⟨(by rw[x_tm];rfl),X_tm,by rw[show (tm == bm)=false from beq_false_of_ne (Zp q_tm_tm q_tm_bm)];exact q_tm_bm⟩ ⟨(by rw[x_bt];rfl),X_bt,by rw[show (bt == bm)=false from beq_false_of_ne (Zp q_bt_bt q_bt_bm)];exact q_bt_bm⟩),
   i_BadWord:=(Vb (K:=K) (A:=A) (R:=λa b=>(PySem.W.clsIn K a).isSome=true/\ExcCls K a/\PySem.W.kitOne K (.ref a) (.ref bw)=some b) ⟨(by rw[x_bm];rfl),X_bm,by rw[show (bm == bw)=false from beq_false_of_ne (Zp q_bm_bm q_bm_bw)];exact q_bm_bw⟩ ⟨(by rw[x_bw];rfl),X_bw,by rw[show (bw == bw)=true from beq_self_eq_true _];exact q_bw_bw⟩ ⟨(by rw[x_tm];rfl),X_tm,by rw[show (tm == bw)=false from beq_false_of_ne (Zp q_tm_tm q_tm_bw)];exact q_tm_bw⟩ ⟨(by rw[x_bt];rfl),X_bt,by rw[show (bt == bw)=false from beq_false_of_ne (Zp q_bt_bt q_bt_bw)];exact q_bt_bw⟩),
   i_TooMany:=(Vb (K:=K) (A:=A) (R:=λa b=>(PySem.W.clsIn K a).isSome=true/\ExcCls K a/\PySem.W.kitOne K (.ref a) (.ref tm)=some b) ⟨(by rw[x_bm];rfl),X_bm,by rw[show (bm == tm)=false from beq_false_of_ne (Zp q_bm_bm q_bm_tm)];exact q_bm_tm⟩ ⟨(by rw[x_bw];rfl),X_bw,by rw[show (bw == tm)=false from beq_false_of_ne (Zp q_bw_bw q_bw_tm)];exact q_bw_tm⟩ ⟨(by rw[x_tm];rfl),X_tm,by rw[show (tm == tm)=true from beq_self_eq_true _];exact q_tm_tm⟩ ⟨(by rw[x_bt];rfl),X_bt,by rw[show (bt == tm)=false from beq_false_of_ne (Zp q_bt_bt q_bt_tm)];exact q_bt_tm⟩),
   i_BadText:=(Vb (K:=K) (A:=A) (R:=λa b=>(PySem.W.clsIn K a).isSome=true/\ExcCls K a/\PySem.W.kitOne K (.ref a) (.ref bt)=some b) ⟨(by rw[x_bm];rfl),X_bm,by rw[show (bm == bt)=false from beq_false_of_ne (Zp q_bm_bm q_bm_bt)];exact q_bm_bt⟩ ⟨(by rw[x_bw];rfl),X_bw,by rw[show (bw == bt)=false from beq_false_of_ne (Zp q_bw_bw q_bw_bt)];exact q_bw_bt⟩ ⟨(by rw[x_tm];rfl),X_tm,by rw[show (tm == bt)=false from beq_false_of_ne (Zp q_tm_tm q_tm_bt)];exact q_tm_bt⟩ ⟨(by rw[x_bt];rfl),X_bt,by rw[show (bt == bt)=true from beq_self_eq_true _];exact q_bt_bt⟩),
   i_VE:=(λa b hab=>by
    unfold Cls.isVE at hab
    split at hab
    ·rename_i hc
     cases hab
     have hm:a ∈ A.all:=by simpa using hc
     simp only[Cls.all,List.mem_cons,List.not_mem_nil,or_false]at hm
     rcases hm with rfl | rfl | rfl | rfl
     ·exact⟨(by rw[x_bm];rfl),X_bm,ve_bm⟩
     ·exact⟨(by rw[x_bw];rfl),X_bw,ve_bw⟩
     ·exact⟨(by rw[x_tm];rfl),X_tm,ve_tm⟩
     ·exact⟨(by rw[x_bt];rfl),X_bt,ve_bt⟩
    ·cases hab),
   b_ValueError:=PySem.W.mg_none_of X G b_ValueError,b_all:=PySem.W.mg_none_of X G b_all,b_any:=PySem.W.mg_none_of X G b_any,b_bool:=PySem.W.mg_none_of X G b_bool,b_enumerate:=PySem.W.mg_none_of X G b_enumerate,b_int:=PySem.W.mg_none_of X G b_int,b_isinstance:=PySem.W.mg_none_of X G b_isinstance,b_len:=PySem.W.mg_none_of X G b_len,b_list:=PySem.W.mg_none_of X G b_list,b_range:=PySem.W.mg_none_of X G b_range,b_set:=PySem.W.mg_none_of X G b_set,b_sorted:=PySem.W.mg_none_of X G b_sorted,b_tuple:=PySem.W.mg_none_of X G b_tuple,b_zip:=PySem.W.mg_none_of X G b_zip,g_MOST_BOXES:=⟨_,PySem.W.mg_of X G g_MOST_BOXES⟩,g_MOST_STATES:=⟨_,PySem.W.mg_of X G g_MOST_STATES⟩ }
 refine⟨PySem.W.fnOf "law" "law" (defArgs (top 31)) (defBody (top 31)) (defScope (top 31)) .none kV21 dc21 pm21 an21 cd21 ct21,λs v=>.of_eq rfl,λbase _ _=>?_⟩
 have F0:=fun_mk (st:=ye 19 1) l0 c0 k0
 have O0:=wo (P:=l.prog) (w:=w) (base:=base) (A:=A) (C:=C) F0 T
 have G0:FkO l.prog w K mg base 1 C "told" ["self"] 1 zM:=⟨_,_,O0,⟨a0,i0,k0⟩,F0.binds (ps:=["self"]) λ_ _ _ _ _ _=>us1 (λ_=>rfl)⟩
 have F1:=fun_mk (st:=ye 19 3) l1 c1 k1
 have O1:=wq (P:=l.prog) (w:=w) (base:=base) (A:=A) (C:=C) F1 T
 have G1:FkK l.prog w K mg base 1 C "kept" ["self"] "place":=⟨_,_,O1,⟨a1,i1,k1⟩,F1.binds (ps:=["self"]) λ_ _ _ _ _ _=>us1 (λ_=>rfl)⟩
 have F2:=fun_mk (st:=top 11) l2 c2 k2
 have O2:=VN (P:=l.prog) (w:=w) (base:=base) (A:=A) (C:=C) F2 T
 have G2:Fk l.prog w K mg base 1 "look_move" ["machine","move","letters"] 3 (yL A):=⟨_,_,O2,PySem.W.mg_of X G a2,k2,F2.binds (ps:=["machine","move","letters"]) λ_ _ _ _ _ _=>us3 (λ_ _ _=>rfl)⟩
 have F3:=fun_mk (st:=top 12) l3 c3 k3
 have O3:=UB (P:=l.prog) (w:=w) (base:=base) (A:=A) (C:=C) F3 T
 have G3:Fk l.prog w K mg base 1 "gone_on" ["machine","place","letter"] 3 yn:=⟨_,_,O3,PySem.W.mg_of X G a3,k3,F3.binds (ps:=["machine","place","letter"]) λ_ _ _ _ _ _=>us3 (λ_ _ _=>rfl)⟩
 have F4:=fun_mk (st:=top 17) l4 c4 k4
 have O4:=wl (P:=l.prog) (w:=w) (base:=base) (A:=A) (C:=C) F4 T
 have G4:Fk l.prog w K mg base 1 "states_ahead" ["machine"] 1 Zh:=⟨_,_,O4,PySem.W.mg_of X G a4,k4,F4.binds (ps:=["machine"]) λ_ _ _ _ _ _=>us1 (λ_=>rfl)⟩
 have F5:=fun_mk (st:=top 21) l5 c5 k5
 have O5:=u9 (P:=l.prog) (w:=w) (base:=base) (A:=A) (C:=C) F5 T
 have G5:Fk l.prog w K mg base 1 "outlook" ["to_good","to_bad"] 2 Zn:=⟨_,_,O5,PySem.W.mg_of X G a5,k5,F5.binds (ps:=["to_good","to_bad"]) λ_ _ _ _ _ _=>us2 (λ_ _=>rfl)⟩
 have F6:=fun_mk (st:=top 23) l6 c6 k6
 have O6:=uB (P:=l.prog) (w:=w) (base:=base) (A:=A) (C:=C) F6 T
 have G6:Fk l.prog w K mg base 1 "_law_cell" ["_law_script","_law_k"] 2 yx:=⟨_,_,O6,PySem.W.mg_of X G a6,k6,F6.binds (ps:=["_law_script","_law_k"]) λ_ _ _ _ _ _=>us2 (λ_ _=>rfl)⟩
 have F7:=fun_mk (st:=top 28) l7 c7 k7
 have O7:=uA (P:=l.prog) (w:=w) (base:=base) (A:=A) (C:=C) F7 T
 have G7:Fk l.prog w K mg base 1 "_law_come" ["_law_machine_here","_law_state","_law_held","_law_letter"] 4 Zz:=⟨_,_,O7,PySem.W.mg_of X G a7,k7,F7.binds (ps:=["_law_machine_here","_law_state","_law_held","_law_letter"]) λ_ _ _ _ _ _=>us4 (λ_ _ _ _=>rfl)⟩
 have F8:=fun_mk (st:=top 29) l8 c8 k8
 have O8:=Wa (P:=l.prog) (w:=w) (base:=base) (A:=A) (C:=C) F8 T
 have G8:Fk l.prog w K mg base 1 "_law_refusal" ["_law_kept"] 1 (Za A):=⟨_,_,O8,PySem.W.mg_of X G a8,k8,F8.binds (ps:=["_law_kept"]) λ_ _ _ _ _ _=>us1 (λ_=>rfl)⟩
 have F9:=fun_mk (st:=top 30) l9 c9 k9
 have O9:=VO (P:=l.prog) (w:=w) (base:=base) (A:=A) (C:=C) F9 T
 have G9:Fk l.prog w K mg base 1 "_law_later" ["_law_machine_here","_law_state"] 2 zt:=⟨_,_,O9,PySem.W.mg_of X G a9,k9,F9.binds (ps:=["_law_machine_here","_law_state"]) λ_ _ _ _ _ _=>us2 (λ_ _=>rfl)⟩
 have F10:=fun_mk (st:=ye 19 2) l10 c10 k10
 have O10:=wv (P:=l.prog) (w:=w) (base:=base) (A:=A) (C:=C) F10 T G3 G0
 have G10:FkO l.prog w K mg base 2 C "come" ["self","letter"] 2 zw:=⟨_,_,O10,⟨a10,i10,k10⟩,F10.binds (ps:=["self","letter"]) λ_ _ _ _ _ _=>us2 (λ_ _=>rfl)⟩
 have F11:=fun_mk (st:=top 10) l11 c11 k11
 have O11:=vK (P:=l.prog) (w:=w) (base:=base) (A:=A) (C:=C) F11 T G2
 have G11:Fk l.prog w K mg base 2 "look_state" ["machine","state"] 2 (yP A):=⟨_,_,O11,PySem.W.mg_of X G a11,k11,F11.binds (ps:=["machine","state"]) λ_ _ _ _ _ _=>us2 (λ_ _=>rfl)⟩
 have F12:=fun_mk (st:=top 16) l12 c12 k12
 have O12:=vJ (P:=l.prog) (w:=w) (base:=base) (A:=A) (C:=C) F12 T G4
 have G12:Fk l.prog w K mg base 2 "steps_left" ["machine"] 1 Zl:=⟨_,_,O12,PySem.W.mg_of X G a12,k12,F12.binds (ps:=["machine"]) λ_ _ _ _ _ _=>us1 (λ_=>rfl)⟩
 have F13:=fun_mk (st:=top 24) l13 c13 k13
 have O13:=UA (P:=l.prog) (w:=w) (base:=base) (A:=A) (C:=C) F13 T G6
 have G13:Fk l.prog w K mg base 2 "_law_mix" ["_law_script","_law_k"] 2 zN:=⟨_,_,O13,PySem.W.mg_of X G a13,k13,F13.binds (ps:=["_law_script","_law_k"]) λ_ _ _ _ _ _=>us2 (λ_ _=>rfl)⟩
 have F14:=fun_mk (st:=top 9) l14 c14 k14
 have O14:=wn (P:=l.prog) (w:=w) (base:=base) (A:=A) (C:=C) F14 T G11
 have G14:Fk l.prog w K mg base 3 "look_machine" ["machine"] 1 (zr A):=⟨_,_,O14,PySem.W.mg_of X G a14,k14,F14.binds (ps:=["machine"]) λ_ _ _ _ _ _=>us1 (λ_=>rfl)⟩
 have F15:=fun_mk (st:=top 25) l15 c15 k15
 have O15:=WZ (P:=l.prog) (w:=w) (base:=base) (A:=A) (C:=C) F15 T G13
 have G15:Fk l.prog w K mg base 3 "_law_sources" ["_law_script","_law_k","_law_many","_law_most"] 4 ZZ:=⟨_,_,O15,PySem.W.mg_of X G a15,k15,F15.binds (ps:=["_law_script","_law_k","_law_many","_law_most"]) λ_ _ _ _ _ _=>us4 (λ_ _ _ _=>rfl)⟩
 have F16:=fun_mk (st:=top 27) l16 c16 k16
 have O16:=V9 (P:=l.prog) (w:=w) (base:=base) (A:=A) (C:=C) F16 T G13
 have G16:Fk l.prog w K mg base 3 "_law_word" ["_law_script","_law_k","_law_most"] 3 Zy:=⟨_,_,O16,PySem.W.mg_of X G a16,k16,F16.binds (ps:=["_law_script","_law_k","_law_most"]) λ_ _ _ _ _ _=>us3 (λ_ _ _=>rfl)⟩
 have F17:=fun_mk (st:=top 14) l17 c17 k17
 have O17:=qm (P:=l.prog) (w:=w) (base:=base) (A:=A) (C:=C) F17 T G14
 have G17:Fk l.prog w K mg base 4 "turned" ["machine"] 1 (xS A):=⟨_,_,O17,PySem.W.mg_of X G a17,k17,F17.binds (ps:=["machine"]) λ_ _ _ _ _ _=>us1 (λ_=>rfl)⟩
 have F18:=fun_mk (st:=top 26) l18 c18 k18
 have O18:=Wb (P:=l.prog) (w:=w) (base:=base) (A:=A) (C:=C) F18 T G13 G15
 have G18:Fk l.prog w K mg base 4 "_law_machine" ["_law_script","_law_k","_law_most"] 3 yC:=⟨_,_,O18,PySem.W.mg_of X G a18,k18,F18.binds (ps:=["_law_script","_law_k","_law_most"]) λ_ _ _ _ _ _=>us3 (λ_ _ _=>rfl)⟩
 have F19:=fun_mk (st:=top 20) l19 c19 k19
 have O19:=WY (P:=l.prog) (w:=w) (base:=base) (A:=A) (C:=C) F19 T G12 G17 G5
 have G19:Fk l.prog w K mg base 5 "tellings_of" ["machine"] 1 (yB A):=⟨_,_,O19,PySem.W.mg_of X G a19,k19,F19.binds (ps:=["machine"]) λ_ _ _ _ _ _=>us1 (λ_=>rfl)⟩
 have F20:=fun_mk (st:=ye 19 0) l20 c20 k20
 have O20:=wu (P:=l.prog) (w:=w) (base:=base) (A:=A) (C:=C) F20 T G14 G19
 have G20:FkI l.prog w K mg base 6 "Watcher" C ["self","machine"] 2 (zK A):=⟨_,_,O20,⟨mk,a20,i20,kc⟩,PySem.W.mg_of X G aC,F20.binds (ps:=["self","machine"]) λ_ _ _ _ _ _=>us2 (λ_ _=>rfl)⟩
 have F21:=fun_mk (st:=top 31) l21 c21 k21
 have O21:=Kv (P:=l.prog) (w:=w) (base:=base) (A:=A) (C:=C) F21 T G18 G16 G13 G7 G8 G9 G20 G0 G10 G1
 exact⟨λvs H Q E h=>O21.len vs H Q E (jX C hA vs H Q E h),λA' outer s H args us vs Q E hr e0 hb hv hs=>O21.run A' outer s H args us vs Q E hr e0 hb hv (jX C hA vs H Q E hs)⟩
theorem walk {l:PySem.W.OpenLaw}{q:Program}{loose:List Str}{XP:(Str->Option Value)->Heap->Prop}{YP:World->Heap->Prop}{d:DefRec}{K:Params->PySem.W.Frag}(hn:l.most=some 63)(hdf:d.params.defaults=[])
  (hY:∀ (w:World)(h:Heap),YP w h->(K w.params).In h)
  (F:∀ (w:World)(mg:Str->Option Value)(fa:Addr)(h:Heap),(K w.params).In h->h.Ns mainGlobals mg->mg d.name=some (.ref fa) ->
   ∃ fd:FuncData,(∀ (s:Shared) (u:Value),BindsTo s fd ⟨[u],[]⟩ [("_law_script",u)])/\∀ base:Heap,(K w.params).In base->base.Ns mainGlobals mg->FnOk l.prog w (K w.params) mg base (CX1 l.prog w) 8 fa fd ["_law_script"] (Uo (K w.params))) :
  PySem.W.WalkO q loose XP YP l.row.toRowW d [] (λf vs=>PySem.call f vs):=
 L2.walk_of (n:=63) (k:=8) (x:="_law_script") (CX:=λw=>CX1 l.prog w) (sp:=λw=>Uo (K w.params)) hn (by decide) hdf ⟨rfl,by decide,by decide⟩ hY F (λ_ _ a ns hl _ hS=>⟨a,ns,rfl,hS,hl,λ_=>rfl⟩) λ_ _ _ _ _ z=>by
  obtain⟨_,_,_,_,_,_,z⟩:=z
  exact z
end PM.K60
open PySem PySem.W PyProof.Rows
set_option maxRecDepth 100000 in
set_option maxHeartbeats 0 in
theorem PySem.Challenge.cw_boxword_k60_whole_watched_holds : PySem.Challenge.rw_boxword_k60_whole_watched.Holds := by
 w_on;o_law;k_head;(case hw=>w_witness2)
 k_fill
 refine PM.K60.walk (l:=PySem.Challenge.rw_boxword_k60_whole_watched) rfl rfl (λw h Y=>PySem.W.kIn_of Y) ?F
 case F=>
  intro w mg fa h KX G hmg
  refine' PM.K60.all_mk KX G hmg ?aC ?a0 ?i0 ?l0 ?c0 ?k0 ?a1 ?i1 ?l1 ?c1 ?k1 ?a2 ?l2 ?c2 ?k2 ?a3 ?l3 ?c3 ?k3 ?a4 ?l4 ?c4 ?k4 ?a5 ?l5 ?c5 ?k5 ?a6 ?l6 ?c6 ?k6 ?a7 ?l7 ?c7 ?k7 ?a8 ?l8 ?c8 ?k8 ?a9 ?l9 ?c9 ?k9 ?a10 ?i10 ?l10 ?c10 ?k10 ?a11 ?l11 ?c11 ?k11 ?a12 ?l12 ?c12 ?k12 ?a13 ?l13 ?c13 ?k13 ?a14 ?l14 ?c14 ?k14 ?a15 ?l15 ?c15 ?k15 ?a16 ?l16 ?c16 ?k16 ?a17 ?l17 ?c17 ?k17 ?a18 ?l18 ?c18 ?k18 ?a19 ?l19 ?c19 ?k19 ?a20 ?i20 ?l20 ?c20 ?k20 ?a21 ?l21 ?c21 ?k21 ?pg ?hd ?po ?sa ?mk ?kc ?na_machine ?na_place ?na_tellings ?b_ValueError ?b_all ?b_any ?b_bool ?b_enumerate ?b_int ?b_isinstance ?b_len ?b_list ?b_range ?b_set ?b_sorted ?b_tuple ?b_zip ?g_MOST_BOXES ?g_MOST_STATES ?c_be ?c_bm ?c_bw ?c_tm ?c_bt ?e_be ?e_bm ?e_bw ?e_tm ?e_bt ?m_bm ?x_bm ?ga_bm ?no_bm ?cl_bm ?ob_bm ?be_bm ?ve_bm ?q_bm_bm ?q_bm_bw ?q_bm_tm ?q_bm_bt ?m_bw ?x_bw ?ga_bw ?no_bw ?cl_bw ?ob_bw ?be_bw ?ve_bw ?q_bw_bm ?q_bw_bw ?q_bw_tm ?q_bw_bt ?m_tm ?x_tm ?ga_tm ?no_tm ?cl_tm ?ob_tm ?be_tm ?ve_tm ?q_tm_bm ?q_tm_bw ?q_tm_tm ?q_tm_bt ?m_bt ?x_bt ?ga_bt ?no_bt ?cl_bt ?ob_bt ?be_bt ?ve_bt ?q_bt_bm ?q_bt_bw ?q_bt_tm ?q_bt_bt
  (case aC=>k_is)
  (case a0=>k_is)
  (case i0=>k_is)
  (case l0=>k_is)
  (case c0=>k_is)
  (case k0=>k_is)
  (case a1=>k_is)
  (case i1=>k_is)
  (case l1=>k_is)
  (case c1=>k_is)
  (case k1=>k_is)
  (case a2=>k_is)
  (case l2=>k_is)
  (case c2=>k_is)
  (case k2=>k_is)
  (case a3=>k_is)
  (case l3=>k_is)
  (case c3=>k_is)
  (case k3=>k_is)
  (case a4=>k_is)
  (case l4=>k_is)
  (case c4=>k_is)
  (case k4=>k_is)
  (case a5=>k_is)
  (case l5=>k_is)
  (case c5=>k_is)
  (case k5=>k_is)
  (case a6=>k_is)
  (case l6=>k_is)
  (case c6=>k_is)
  (case k6=>k_is)
  (case a7=>k_is)
  (case l7=>k_is)
  (case c7=>k_is)
  (case k7=>k_is)
  (case a8=>k_is)
  (case l8=>k_is)
  (case c8=>k_is)
  (case k8=>k_is)
  (case a9=>k_is)
  (case l9=>k_is)
  (case c9=>k_is)
  (case k9=>k_is)
  (case a10=>k_is)
  (case i10=>k_is)
  (case l10=>k_is)
  (case c10=>k_is)
  (case k10=>k_is)
  (case a11=>k_is)
  (case l11=>k_is)
  (case c11=>k_is)
  (case k11=>k_is)
  (case a12=>k_is)
  (case l12=>k_is)
  (case c12=>k_is)
  (case k12=>k_is)
  (case a13=>k_is)
  (case l13=>k_is)
  (case c13=>k_is)
  (case k13=>k_is)
  (case a14=>k_is)
  (case l14=>k_is)
  (case c14=>k_is)
  (case k14=>k_is)
  (case a15=>k_is)
  (case l15=>k_is)
  (case c15=>k_is)
  (case k15=>k_is)
  (case a16=>k_is)
  (case l16=>k_is)
  (case c16=>k_is)
  (case k16=>k_is)
  (case a17=>k_is)
  (case l17=>k_is)
  (case c17=>k_is)
  (case k17=>k_is)
  (case a18=>k_is)
  (case l18=>k_is)
  (case c18=>k_is)
  (case k18=>k_is)
  (case a19=>k_is)
  (case l19=>k_is)
  (case c19=>k_is)
  (case k19=>k_is)
  (case a20=>k_is)
  (case i20=>k_is)
  (case l20=>k_is)
  (case c20=>k_is)
  (case k20=>k_is)
  (case a21=>k_is)
  (case l21=>k_is)
  (case c21=>k_is)
  (case k21=>k_is)
  (case pg=>k_is)
  (case hd=>k_is)
  (case po=>k_is)
  (case sa=>k_is)
  (case mk=>k_is)
  (case kc=>k_is)
  (case na_machine=>k_is)
  (case na_place=>k_is)
  (case na_tellings=>k_is)
  (case b_ValueError=>k_is)
  (case b_all=>k_is)
  (case b_any=>k_is)
  (case b_bool=>k_is)
  (case b_enumerate=>k_is)
  (case b_int=>k_is)
  (case b_isinstance=>k_is)
  (case b_len=>k_is)
  (case b_list=>k_is)
  (case b_range=>k_is)
  (case b_set=>k_is)
  (case b_sorted=>k_is)
  (case b_tuple=>k_is)
  (case b_zip=>k_is)
  (case g_MOST_BOXES=>k_is)
  (case g_MOST_STATES=>k_is)
  (case c_be=>k_is)
  (case c_bm=>k_is)
  (case c_bw=>k_is)
  (case c_tm=>k_is)
  (case c_bt=>k_is)
  (case e_be=>k_exc)
  (case e_bm=>k_exc)
  (case e_bw=>k_exc)
  (case e_tm=>k_exc)
  (case e_bt=>k_exc)
  (case m_bm=>k_is)
  (case x_bm=>k_is)
  (case ga_bm=>k_is)
  (case no_bm=>k_is)
  (case cl_bm=>k_is)
  (case ob_bm=>k_is)
  (case be_bm=>k_is)
  (case ve_bm=>kit_is)
  (case q_bm_bm=>kit_is)
  (case q_bm_bw=>kit_is)
  (case q_bm_tm=>kit_is)
  (case q_bm_bt=>kit_is)
  (case m_bw=>k_is)
  (case x_bw=>k_is)
  (case ga_bw=>k_is)
  (case no_bw=>k_is)
  (case cl_bw=>k_is)
  (case ob_bw=>k_is)
  (case be_bw=>k_is)
  (case ve_bw=>kit_is)
  (case q_bw_bm=>kit_is)
  (case q_bw_bw=>kit_is)
  (case q_bw_tm=>kit_is)
  (case q_bw_bt=>kit_is)
  (case m_tm=>k_is)
  (case x_tm=>k_is)
  (case ga_tm=>k_is)
  (case no_tm=>k_is)
  (case cl_tm=>k_is)
  (case ob_tm=>k_is)
  (case be_tm=>k_is)
  (case ve_tm=>kit_is)
  (case q_tm_bm=>kit_is)
  (case q_tm_bw=>kit_is)
  (case q_tm_tm=>kit_is)
  (case q_tm_bt=>kit_is)
  (case m_bt=>k_is)
  (case x_bt=>k_is)
  (case ga_bt=>k_is)
  (case no_bt=>k_is)
  (case cl_bt=>k_is)
  (case ob_bt=>k_is)
  (case be_bt=>k_is)
  (case ve_bt=>kit_is)
  (case q_bt_bm=>kit_is)
  (case q_bt_bw=>kit_is)
  (case q_bt_tm=>kit_is)
  (case q_bt_bt=>kit_is)
