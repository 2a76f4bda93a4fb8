import PyProof.Rows.All
import Wide.All
import OpenK.AllK
import Wide.FinOn
import Lean
import PyProof.EqAt
import PyProof.EqKinds
import PyProof.TupleCall
import PyProof.StationsW
import PyProof.CompUse
import PyProof.CompFree
import OpenK.KWalk
import PyProof.CompMap
import KE.KIntText
import PyProof.StrLawsRepr
import PySem.Challenge.RW_boxword_k70_texts
set_option Elab.async false
set_option linter.all false
set_option maxRecDepth 100000
theorem aR (h:0=0:=by rfl):True:=trivial
theorem aD (h:0=0:=by decide):True:=trivial
theorem aV (h:0=0:=by first | exact Or.inl rfl | exact Or.inr (Or.inl rfl) | exact Or.inr (Or.inr rfl)):True:=trivial
theorem aL (h:0=0:=by first | exact Or.inl rfl | exact Or.inr rfl):True:=trivial
theorem aF (h:0=0:=by first | exact .inl rfl | exact .inr rfl):True:=trivial
namespace L2
open PySem PySem.Spec PyProof.Rows
abbrev Key:=Sum Int Str
def keyIs:Key->Value->Bool
 |.inl k,v=>Value.isInt k v
 |.inr x,v=>Value.isStrOf x v
def keyH (w:World):Key->Int
 |.inl k=>hashInt k
 |.inr x=>hashStr w x
theorem keyIs_shape:∀ {k:Key}{v:Value},keyIs k v=true->(∃ i t,k=Sum.inl i/\v=Value.int i t)\/(∃ x t,k=Sum.inr x/\v=Value.str x t)
 |.inl i,v,h=>by
  obtain⟨t,e⟩:=Value.isInt_shape (k:=i) (v:=v) h
  exact .inl ⟨i,t,rfl,e⟩
 |.inr x,v,h=>by
  obtain⟨t,e⟩:=Value.isStrOf_shape (x:=x) (v:=v) h
  exact .inr ⟨x,t,rfl,e⟩
theorem key_ll (a b:Int):decide ((Sum.inl a:Key)=Sum.inl b)=(a == b):=by
 by_cases e:a=b
 ·subst e;simp
 ·have h:¬ (Sum.inl a:Key)=Sum.inl b:=λq=>e (Sum.inl.inj q)
  rw[decide_eq_false h]
  exact (beq_eq_false_iff_ne.mpr e).symm
theorem key_rr (a b:Str):decide ((Sum.inr a:Key)=Sum.inr b)=decide (a=b):=by
 by_cases e:a=b
 ·subst e;simp
 ·have h:¬ (Sum.inr a:Key)=Sum.inr b:=λq=>e (Sum.inr.inj q)
  rw[decide_eq_false h,decide_eq_false e]
theorem key_lr (a:Int) (b:Str):decide ((Sum.inl a:Key)=Sum.inr b)=false:=decide_eq_false (λq=>nomatch q)
theorem key_rl (a:Str) (b:Int):decide ((Sum.inr a:Key)=Sum.inl b)=false:=decide_eq_false (λq=>nomatch q)
def mixKind (prog:Program)(w:World):PySem.KeyKind prog w Key where
 is:=keyIs
 hash:=keyH w
 inj:=λv a b ha hb=>by
  rcases keyIs_shape ha with ⟨i,t,rfl,rfl⟩ | ⟨x,t,rfl,rfl⟩
  ·rcases keyIs_shape hb with ⟨j,u,rfl,e⟩ | ⟨y,u,rfl,e⟩
   ·injection e with e1 _;rw[e1]
   ·exact nomatch e
  ·rcases keyIs_shape hb with ⟨j,u,rfl,e⟩ | ⟨y,u,rfl,e⟩
   ·exact nomatch e
   ·injection e with e1 _;rw[e1]
 byValue:=λk v h=>by
  rcases keyIs_shape h with ⟨i,t,rfl,rfl⟩ | ⟨x,t,rfl,rfl⟩<;>rfl
 pyHash:=λhv h=>by
  rcases keyIs_shape hv with ⟨i,t,rfl,rfl⟩ | ⟨x,t,rfl,rfl⟩
  ·exact wpAny_pyHash_int h
  ·exact wpAny_pyHash_str h
 eqBool:=λhu hv h=>by
  rcases keyIs_shape hu with ⟨i,t,rfl,rfl⟩ | ⟨x,t,rfl,rfl⟩
  ·rcases keyIs_shape hv with ⟨j,u,rfl,rfl⟩ | ⟨y,u,rfl,rfl⟩
   ·rw[key_ll]at h;exact wpAny_eqBool_int h
   ·rw[key_lr]at h;exact SeqAt.EqAt.int_str i t y u _ _ _ _ h
  ·rcases keyIs_shape hv with ⟨j,u,rfl,rfl⟩ | ⟨y,u,rfl,rfl⟩
   ·rw[key_rl]at h;exact SeqAt.EqAt.str_int x t j u _ _ _ _ h
   ·rw[key_rr]at h;exact wpAny_eqBool_str h
 «strs»:=λk x t v h=>by
  rcases keyIs_shape h with ⟨i,u,rfl,e⟩ | ⟨y,u,rfl,e⟩
  ·exact nomatch e
  ·injection e with e1 _
   subst e1
   cases v<;>rfl
end L2
namespace L2
open PySem PySem.Spec PyProof.Rows
inductive V where
 |non | bl (b:Bool) | int (i:Int) | str (x:Str) | byt (b:Array UInt8) | flt (b:UInt64) | ref (a:Addr) | ty (n:String)
 deriving DecidableEq
def RelV:V->Value->Prop
 |.non,u=>u=Value.none
 |.bl b,u=>u=Value.bool b
 |.int i,u=>∃ t,u=Value.int i t
 |.str x,u=>∃ t,u=Value.str x t
 |.byt b,u=>∃ t,u=Value.bytes b t
 |.flt b,u=>∃ t,u=Value.float b t
 |.ref a,u=>u=Value.ref a
 |.ty n,u=>u=Value.type n
abbrev Vals:List V->List Value->Prop:=Paired RelV
theorem Vals.length {xs:List V}{us:List Value}(r:Vals xs us):xs.length=us.length:=Paired.length r
theorem Vals.get:∀ {xs:List V}{us:List Value}{i:Nat}{x:V},Vals xs us->xs[i]? = some x->∃ u,us[i]? = some u/\RelV x u
 |_,_,_,_,.nil,e=>by simp at e
 |_,_,0,_,.cons r _,e=>by simp at e;subst e;exact⟨_,rfl,r⟩
 |_,_,i+1,x,.cons _ t,e=>by
  obtain⟨u,h1,h2⟩:=Vals.get (i:=i) (x:=x) t (by simpa using e)
  exact⟨u,by simpa using h1,h2⟩
theorem Vals.append:∀ {xs ys:List V}{us ws:List Value},Vals xs us->Vals ys ws->Vals (xs++ys) (us++ws)
 |_,_,_,_,.nil,s=>s
 |_,_,_,_,.cons r t,s=>.cons r (Vals.append t s)
theorem Vals.take:∀ {xs:List V}{us:List Value} (n:Nat),Vals xs us->Vals (xs.take n) (us.take n)
 |_,_,0,_=>.nil
 |_,_,_+1,.nil=>.nil
 |_,_,n+1,.cons r t=>.cons r (Vals.take n t)
theorem Vals.drop:∀ {xs:List V}{us:List Value} (n:Nat),Vals xs us->Vals (xs.drop n) (us.drop n)
 |_,_,0,r=>r
 |_,_,_+1,.nil=>.nil
 |_,_,n+1,.cons _ t=>Vals.drop n t
def RelO:Option V->Option Value->Prop
 |some v,some u=>RelV v u
 |none,none=>True
 |_,_=>False
def KV {κ:Type}:List (κ×V)->List (κ×Value)->Prop:=Paired λ(p:κ×V)(q:κ×Value)=>p.1=q.1/\RelV p.2 q.2
def kV:Key->V
 |.inl i=>.int i
 |.inr x=>.str x
inductive HO where
 /-- a list -/
 |lst (xs:List V)
 /-- a tuple (never changes) -/
 |tup (xs:List V)
 /-- a dict whose keys are ints and texts;one whose keys are tuples of ints and texts (the empty one is both) -/
 |dK (kvs:List (Key×V)) | dT (kvs:List (List Key×V))
 /-- a set of ints: its members,its size -/
 |set (S:Int->Bool) (n:Nat)
 /-- an instance of the class at C,its dict at dx,its attributes -/
 |ins (C dx:Addr)(fs:List (Str×V))
 /-- the dict of the instance at x -/
 |own (x:Addr)
 /-- the dict of an exception -/
 |xd (fs:List (Str×V))
 /-- a bound method,f of x -/
 |met (f x:Addr)
 /-- a range object lo,lo+1,.. below hi -/
 |rng (lo hi:Int)
 /-- a thing that is known to the object (the script;a dict while a loop walks it): read,never written while it is so -/
 |frz (o:Obj)(u:HO)
 /-- a code object's table -/
 |tbl (ps:Array Value)
 /-- any other thing,by what is true of its one object (a def of one's own: SetO a S n:=HO.ext λh=>..) -/
 |ext (φ:Heap->Prop)
abbrev Hp:=Addr->Option HO
def upd (H:Hp)(a:Addr)(o:HO):Hp:=λb=>if b=a then some o else H b
theorem upd_same {H:Hp}{a:Addr}{o:HO}:upd H a o a=some o:=by unfold upd;rw[if_pos rfl]
theorem upd_ne {H:Hp}{a b:Addr}{o:HO}(h:b≠a):upd H a o b=H b:=by unfold upd;rw[if_neg h]
theorem ne_of_none {H:Hp}{a b:Addr}{o:HO}(h:H a=some o)(h':H b=none):a≠b:=by
 intro e;subst e;rw[h]at h';cases h'
def IsTupD (h:Heap)(a:Addr)(items:Array Value):Prop:=∃ o,h.get? a=some o/\o.cls=.type "tuple"/\(∃ n,o.data=.seq items n)/\o.dict=none
theorem IsTupD.tup {h:Heap}{a:Addr}{items:Array Value}(x:IsTupD h a items):IsTup h a items:=let ⟨o,h1,h2,h3,_⟩:=x;⟨o,h1,h2,h3⟩
theorem IsTupD.new (h:Heap)(items:Array Value):IsTupD (h.push { cls:=.type "tuple",data:=.seq items }) h.objs.size items:=⟨_,Heap.get?_push_size _ rfl,rfl,⟨_,rfl⟩,rfl⟩
section
variable (P:Program)(w:World)
def ObjOk (H:Hp)(h:Heap)(a:Addr):HO->Prop
 |.lst xs=>xs.length<=sizeLine/\∃ (its:List Value) (n:Nat),Vals xs its/\h.get? a=some { cls:=.type "list",data:=.seq its.toArray n }
 |.tup xs=>xs.length<=sizeLine/\∃ its:List Value,Vals xs its/\IsTupD h a its.toArray
 |.dK kvs=>kvs.length<=sizeLine/\(a == sysModules)=false/\∃ vs,KV kvs vs/\h.DictOf (mixKind P w) a vs
 |.dT kvs=>kvs.length<=sizeLine/\(a == sysModules)=false/\∃ xs:List (List Key×Addr×Value),
   Paired (λ(p:List Key×V)(q:List Key×Addr×Value)=>p.1=q.1/\H q.2.1=some (.tup (p.1.map kV))/\RelV p.2 q.2.2) kvs xs ∧
   ∃ o es ep,h.get? a=some o/\o.ExactDict/\o.data=.dict es ep/\es.toList=xs.map (entryOfKey (tupleKind (mixKind P w)))/\(xs.map (·.1)).Nodup
 |.set S n=>h.SetOf (intKind P w) a S n
 |.ins C dx fs=>H dx=some (.own a)/\fs.length<=1000/\dx≠a/\h.get? a=some (PySem.W.instObj C dx) ∧
   ∃ mA,h.Ns1 dx mA/\(∀ f,RelO (fs.lookup f) (mA f))/\PySem.Within mA (fs.map (·.1))
 |.own _=>∃ o,h.get? a=some o
 |.xd fs=>∃ mA,h.Ns1 a mA/\∀ f,RelO (fs.lookup f) (mA f)
 |.rng lo hi=>∃ t u v,h.get? a=some { cls:=.type "range",data:=.fields #[.int lo t,.int hi u,.int 1 v] }
 |.frz o u=>h.get? a=some o/\ObjOk H h a u
 |.tbl ps=>h.get? a=some { cls:=.none,data:=.fields ps }
 |.met f x=>h.get? a=some (PySem.W.methodObj (.ref f) (.ref x))
 |.ext φ=>φ h/\(∃ o,h.get? a=some o)/\∀ h1 h2:Heap,φ h1->(∀ o,h1.get? a=some o->h2.get? a=some o)->φ h2
def HOk (H:Hp)(h:Heap):Prop:=∀ a o,H a=some o->ObjOk P w H h a o
end
section
variable {P:Program}{w:World}{H H':Hp}{h h':Heap}{a:Addr}{o:HO}
theorem ObjOk.lt (x:ObjOk P w H h a o):a<h.objs.size:=by
 cases o with
 |lst xs=>obtain⟨_,_,_,_,e⟩:=x;exact Heap.lt_size e
 |tup xs=>obtain⟨_,_,_,p⟩:=x;exact p.tup.lt
 |dK kvs=>obtain⟨_,_,_,_,o,_,_,e,_⟩:=x;exact Heap.lt_size e
 |dT kvs=>obtain⟨_,_,_,_,o,_,_,e,_⟩:=x;exact Heap.lt_size e
 |set S n=>obtain⟨o,_,_,_,e,_⟩:=x;exact Heap.lt_size e
 |ins C dx fs=>obtain⟨_,_,_,e,_⟩:=x;exact Heap.lt_size e
 |own y=>obtain⟨_,e⟩:=x;exact Heap.lt_size e
 |xd fs=>obtain⟨_,⟨_,_,_,e,_⟩,_⟩:=x;exact Heap.lt_size e
 |rng lo hi=>obtain⟨_,_,_,e⟩:=x;exact Heap.lt_size e
 |frz ob u=>obtain⟨e,_⟩:=x;exact Heap.lt_size e
 |tbl ps=>exact Heap.lt_size (show h.get? a=some _ from x)
 |met f y=>exact Heap.lt_size (show h.get? a=some _ from x)
 |ext φ=>obtain⟨_,⟨_,e⟩,_⟩:=x;exact Heap.lt_size e
theorem Paired.mapP {α β:Type}{F G:α->β->Prop}:∀ {l₁:List α}{l₂:List β},Paired F l₁ l₂->(∀ a b,F a b->G a b)->Paired G l₁ l₂
 |_,_,.nil,_=>.nil
 |_,_,.cons r t,f=>.cons (f _ _ r) (Paired.mapP t f)
theorem ObjOk.stay (x:ObjOk P w H h a o)(k:∀ b u,(b=a\/H b=some (.own a))->h.get? b=some u->h'.get? b=some u)
  (ho:∀ b,H b=some (.own a)->H' b=some (.own a))(ht:∀ b xs,H b=some (.tup xs)->H' b=some (.tup xs)):ObjOk P w H' h' a o:=by
 induction o with
 |lst xs=>obtain⟨z,its,n,r,e⟩:=x;exact⟨z,its,n,r,k _ _ (.inl rfl) e⟩
 |tup xs=>obtain⟨z,its,r,ob,e,c⟩:=x;exact⟨z,its,r,ob,k _ _ (.inl rfl) e,c⟩
 |dK kvs=>obtain⟨z,y,vs,r,ob,es,ep,e,c⟩:=x;exact⟨z,y,vs,r,ob,es,ep,k _ _ (.inl rfl) e,c⟩
 |dT kvs=>
  obtain⟨z,y,xs,r,ob,es,ep,e,c⟩:=x
  exact⟨z,y,xs,Paired.mapP r λp q z=>⟨z.1,ht _ _ z.2.1,z.2.2⟩,ob,es,ep,k _ _ (.inl rfl) e,c⟩
 |set S n=>obtain⟨ob,es,ep,t,e,c⟩:=x;exact⟨ob,es,ep,t,k _ _ (.inl rfl) e,c⟩
 |ins C dx fs=>
  obtain⟨d,z,ne,e,mA,⟨od,es,ep,e2,c⟩,r⟩:=x
  exact⟨ho _ d,z,ne,k _ _ (.inl rfl) e,mA,⟨od,es,ep,k _ _ (.inr d) e2,c⟩,r⟩
 |own y=>obtain⟨ob,e⟩:=x;exact⟨ob,k _ _ (.inl rfl) e⟩
 |xd fs=>obtain⟨mA,⟨od,es,ep,e,c⟩,r⟩:=x;exact⟨mA,⟨od,es,ep,k _ _ (.inl rfl) e,c⟩,r⟩
 |rng lo hi=>obtain⟨t,u,v,e⟩:=x;exact⟨t,u,v,k _ _ (.inl rfl) e⟩
 |frz ob u ih=>obtain⟨e,q⟩:=x;exact⟨k _ _ (.inl rfl) e,ih q⟩
 |tbl ps=>
  have e:h.get? a=some { cls:=.none,data:=.fields ps }:=x
  show h'.get? a=some { cls:=.none,data:=.fields ps }
  exact k a _ (.inl rfl) e
 |met f y=>
  have e:h.get? a=some (PySem.W.methodObj (.ref f) (.ref y)):=x
  show h'.get? a=some (PySem.W.methodObj (.ref f) (.ref y))
  exact k a _ (.inl rfl) e
 |ext φ=>obtain⟨p,⟨o,e⟩,st⟩:=x;exact⟨st _ _ p λo q=>k _ _ (.inl rfl) q,⟨o,k _ _ (.inl rfl) e⟩,st⟩
theorem HOk.lt (x:HOk P w H h)(e:H a=some o):a<h.objs.size:=(x a o e).lt
theorem HOk.fresh (x:HOk P w H h)(e:h.objs.size<=a):H a=none:=by
 cases q:H a with
 |none=>rfl
 |some u=>exact absurd (Nat.lt_of_lt_of_le (x.lt q) e) (Nat.lt_irrefl _)
theorem HOk.kept (x:HOk P w H h)(k:∀ b u,h.get? b=some u->h'.get? b=some u):HOk P w H h':=λa o e=>
 (x a o e).stay (λb u _ q=>k b u q) (λ_ q=>q) λ_ _ q=>q
theorem HOk.laid (x:HOk P w H h)(k:∀ b u,h.get? b=some u->h'.get? b=some u)(hp:h.objs.size<=a)(new:ObjOk P w (upd H a o) h' a o):HOk P w (upd H a o) h':=λb u e=>by
 have hn:=x.fresh hp
 by_cases hb:b=a
 ·subst hb;rw[upd_same]at e;cases e;exact new
 ·rw[upd_ne hb]at e
  exact (x b u e).stay (λc v _ q=>k c v q) (λc q=>by rw[upd_ne (ne_of_none q hn)];exact q) λc xs q=>by rw[upd_ne (ne_of_none q hn)];exact q
end
def Rd (H:Hp)(a:Addr)(u:HO):Prop:=H a=some u\/∃ o,H a=some (.frz o u)
theorem Rd.ok {P:Program}{w:World}{H:Hp}{h:Heap}{a:Addr}{u:HO}(r:Rd H a u)(x:HOk P w H h):ObjOk P w H h a u:=by
 rcases r with r | ⟨o,r⟩
 ·exact x a u r
 ·obtain⟨_,q⟩:=x a _ r
  exact q
def Mut:Option HO->Prop
 |some (.lst _)=>True
 |some (.dK _)=>True
 |some (.dT _)=>True
 |some (.set _ _)=>True
 |some (.ins _ _ _)=>True
 |some (.ext _)=>True
 |_=>False
section
variable {P:Program}{w:World}{H:Hp}{h h':Heap}{x e:Addr}{o':HO}
theorem HOk.write (ok:HOk P w H h)(mu:Mut (H x))(he:e=x\/H e=some (.own x))(k:∀ b u,b≠e->h.get? b=some u->h'.get? b=some u)(heo:∃ u,h'.get? e=some u)
  (new:ObjOk P w (upd H x o') h' x o'):HOk P w (upd H x o') h':=λb u q=>by
 have nown:∀ c y,H c=some (.own y)->c≠x:=λc y r z=>by subst z;rw[r]at mu;exact mu
 have ntup:∀ c xs,H c=some (.tup xs)->c≠x:=λc xs r z=>by subst z;rw[r]at mu;exact mu
 by_cases hb:b=x
 ·subst hb;rw[upd_same]at q;cases q;exact new
 ·rw[upd_ne hb]at q
  by_cases hbe:b=e
  ·have q':H b=some (.own x):=by
    rcases he with z | z
    ·exact absurd (hbe.trans z) hb
    ·rw[hbe];exact z
   rw[q]at q';cases q'
   obtain⟨v,hv⟩:=heo
   exact⟨v,by rw[hbe];exact hv⟩
  ·refine (ok b u q).stay (λc v hc r=>k c v ?_ r) (λc r=>by rw[upd_ne (nown c b r)];exact r) λc xs r=>by rw[upd_ne (ntup c xs r)];exact r
   rcases hc with rfl | hc
   ·exact hbe
   ·rintro rfl
    rcases he with z | z
    ·exact nown c b hc z
    ·rw[hc]at z;cases z;exact hb rfl
end
structure Un (fs ex:List Addr)(H H':Hp)(h h':Heap):Prop where
 keep:∀ b o,h.get? b=some o->H b=none->b ∉ fs->b ∉ ex->h'.get? b=some o
 slot:∀ b o,h.get? b=some o->H b=none->b ∈ fs->b ∉ ex->∃ sl,h'.get? b=some { o with slots:=sl }
 free:∀ b o,h.get? b=some o->H b=none->b ∉ ex->H' b=none
 there:∀ b o,h.get? b=some o->b ∉ ex->∃ o',h'.get? b=some o'
 tups:∀ b xs,H b=some (.tup xs)->H' b=some (.tup xs)
 frzs:∀ b o u,H b=some (.frz o u)->H' b=some (.frz o u)
 tbls:∀ b ps,H b=some (.tbl ps)->∃ more,H' b=some (.tbl (ps++more))
section
variable {fs fs' ex ex':List Addr}{H H1 H2:Hp}{h h1 h2 h':Heap}{a x e:Addr}{o:HO}
theorem Un.any (u:Un fs ex H H1 h h1){b:Addr}{ob:Obj}(q:h.get? b=some ob)(n:H b=none)(hx:b ∉ ex):∃ sl,h1.get? b=some { ob with slots:=sl }:=by
 by_cases hb:b ∈ fs
 ·exact u.slot b ob q n hb hx
 ·exact⟨ob.slots,u.keep b ob q n hb hx⟩
theorem Un.kept (k:∀ b u,h.get? b=some u->h'.get? b=some u):Un fs ex H H h h':=
 ⟨λb ob q _ _ _=>k b ob q,λb ob q _ _ _=>⟨ob.slots,k b ob q⟩,λ_ _ _ n _=>n,λb ob q _=>⟨ob,k b ob q⟩,λ_ _ q=>q,λ_ _ _ q=>q,λ_ ps q=>⟨#[],by rw[q];simp⟩⟩
theorem Un.refl:Un fs ex H H h h:=Un.kept λ_ _ q=>q
theorem Un.laid (k:∀ b u,h.get? b=some u->h'.get? b=some u)(hp:h.objs.size<=a)(hn:H a=none):Un fs ex H (upd H a o) h h' where
 keep:=λb u q _ _ _=>k b u q
 slot:=λb u q _ _ _=>⟨u.slots,k b u q⟩
 free:=λb u q n _=>by rw[upd_ne (Nat.ne_of_lt (Nat.lt_of_lt_of_le (Heap.lt_size q) hp))];exact n
 there:=λb u q _=>⟨u,k b u q⟩
 tups:=λb xs q=>by rw[upd_ne (ne_of_none q hn)];exact q
 frzs:=λb u xs q=>by rw[upd_ne (ne_of_none q hn)];exact q
 tbls:=λb ps q=>⟨#[],by rw[upd_ne (ne_of_none q hn),q];simp⟩
theorem Un.write (mu:Mut (H x))(he:e=x\/H e=some (.own x))(k:∀ b u,b≠e->h.get? b=some u->h'.get? b=some u)(heo:∃ u,h'.get? e=some u):Un fs ex H (upd H x o) h h':=by
 have hx:∀ b,H b=none->b≠x:=λb n z=>by subst z;rw[n]at mu;exact mu
 have hb:∀ b,H b=none->b≠e:=λb n z=>by
  subst z
  rcases he with r | r
  ·exact hx b n r
  ·rw[n]at r;cases r
 have hm:∀ b u,H b=some u->¬ Mut (some u)->b≠x:=λb u q nm z=>by subst z;rw[q]at mu;exact nm mu
 refine⟨λb u q n _ _=>k b u (hb b n) q,λb u q n _ _=>⟨u.slots,k b u (hb b n) q⟩,λb u q n _=>by rw[upd_ne (hx b n)];exact n,λb u q _=>?_,
  λb xs q=>by rw[upd_ne (hm b _ q λz=>z)];exact q,λb u xs q=>by rw[upd_ne (hm b _ q λz=>z)];exact q,λb ps q=>⟨#[],by rw[upd_ne (hm b _ q λz=>z),q];simp⟩⟩
 by_cases hbe:b=e
 ·subst hbe;exact heo
 ·exact⟨u,k b u hbe q⟩
end
def trk (h:Heap)(H:Hp):List Addr:=(List.range h.objs.size).filter λa=>(H a).isSome
def hidT (h:Heap)(H:Hp):Heap:=PySem.W.hideAll h (trk h H)
theorem hidT_size (h:Heap)(H:Hp):(hidT h H).objs.size=h.objs.size:=PySem.W.hideAll_size _ _
theorem hidT_get {h:Heap}{H:Hp}{b:Addr}{o:Obj}(e:h.get? b=some o)(n:H b=none):(hidT h H).get? b=some o:=
 PySem.W.hideAll_get _ e λhm=>by
  have q:(H b).isSome=true:=(List.mem_filter.mp hm).2
  rw[n]at q;simp at q
theorem of_hidT {h:Heap}{H:Hp}{b:Addr}{o:Obj}(e:(hidT h H).get? b=some o):h.get? b=some o/\H b=none:=by
 have e':h.get? b=some o:=PySem.W.of_hideAll (trk h H) e
 refine⟨e',?_⟩
 cases q:H b with
 |none=>rfl
 |some x=>
  have hm:b ∈ trk h H:=List.mem_filter.mpr ⟨List.mem_range.mpr (Heap.lt_size e'),by simp[q]⟩
  have z:(hidT h H).get? b=none:=PySem.W.hideAll_none (trk h H) hm
  rw[z]at e;cases e
end L2
namespace L2
open PySem PySem.Spec PyProof.Rows
structure Mod (K:PySem.W.Frag)(mg:Str->Option Value)(base:Heap):Prop where
 kin:K.In base
 glob:base.Ns mainGlobals mg
 blt:∃ mb,base.Ns builtinsNs mb/\∀ x:Str,x ≠ "__name__"->mb x=bootBuiltins x
 nolimit:base.NoLimit
structure Cx where
 prog:Program
 w:World
 K:PySem.W.Frag
 mg:Str->Option Value
 base:Heap
 A:Around
 N:List Str
 s₀:Shared
 H₀:Hp
 env:Env
 outer:List Env
 stack:List Env
 ex:List Addr
 fn:Str->Bool
 calm:Bool
 pn:List (Addr×Obj)
 xe:Value->Shared->Prop
def frs (l:List Env):List Addr:=l.filterMap (·.frame)
abbrev Cx.fs (X:Cx):List Addr:=frs X.outer
def Vis (sc:Scope) (x:Str):Prop:=sc.names.lookup x=some .local\/sc.names.lookup x=some .cell\/sc.names.lookup x=some .free
def Loc (sc:Scope) (x:Str):Prop:=sc.names.lookup x=some .local\/sc.names.lookup x=some .cell
def Look (env:Env)(h:Heap)(m:Str->Option Value) (x:Str) (u:Value):Prop:=
 (env.kindOf x=some .local/\m x=some u)\/((env.kindOf x=some .cell\/env.kindOf x=some .free)/\∃ c,env.cells.lookup x=some c/\h.IsCell c (some u))
structure Cx.Ok (X:Cx):Prop where
 mod:Mod X.K X.mg X.base
 kind:X.env.scope.kind=.function
 glob:X.env.globals=mainGlobals
 blt:X.env.builtins=builtinsNs
 above:X.s₀.heap.objs.size<=X.env.locals
 inj:∀ x y c,X.env.cells.lookup x=some c->X.env.cells.lookup y=some c->x=y
 has:∀ x,(X.env.kindOf x=some .cell\/X.env.kindOf x=some .free)->∃ c,X.env.cells.lookup x=some c
 cab:∀ x c,X.fn x=true->X.env.cells.lookup x=some c->X.s₀.heap.objs.size<=c
 hd:X.calm=true->X.A.handled=none
 frames:X.A.frames=some X.stack
 stk:X.stack=X.outer\/(X.stack=X.env::X.outer/\X.env.frame=some X.env.locals)
 exf:∀ b ∈ X.ex,b≠X.env.locals/\∀ x c,X.env.cells.lookup x=some c->c≠b
 bs:∀ b o,X.base.get? b=some o->X.s₀.heap.get? b=some o/\X.H₀ b=none
 bsz:X.base.objs.size<=X.s₀.heap.objs.size
 noex:∀ b o,X.base.get? b=some o->b ∉ X.ex
 exfs:∀ b ∈ X.ex,b ∉ X.fs
 funs:X.s₀.heap.FunFrames X.base X.outer
 frf:∀ b ∈ X.fs,X.H₀ b=none
structure Inv (X:Cx)(pins:List (Addr×Obj))(σ:List (Option V))(H:Hp)(s:Shared):Prop where
 ok:X.Ok
 os:s.os=X.s₀.os
 bare:AllBare s.gens
 base:Un X.fs X.ex X.H₀ H X.s₀.heap s.heap
 loc:∃ m,s.heap.Ns X.env.locals m/\∀ (i:Nat) (x:Str)(v:V),X.N[i]? = some x->σ[i]? = some (some v)->Vis X.env.scope x->∃ u,RelV v u/\Look X.env s.heap m x u
 cell:∀ x c,X.env.cells.lookup x=some c->∃ v,s.heap.IsCell c v
 free:H X.env.locals=none
 freeC:∀ x c,X.env.cells.lookup x=some c->H c=none
 pin:∀ p ∈ X.pn++pins,s.heap.get? p.1=some p.2/\H p.1=none/\p.1≠X.env.locals/\p.1 ∉ X.fs/\∀ v,p.2.data≠.cell v
 hok:HOk X.prog X.w H s.heap
 len:σ.length=X.N.length
section
variable {X:Cx}{pins:List (Addr×Obj)}{σ:List (Option V)}{H H':Hp}{s:Shared}{h':Heap}
theorem Cx.Ok.nofr (ok:X.Ok){b:Addr}{o:Obj}(e:X.base.get? b=some o):b ∉ X.fs:=λhb=>by
 have:=(ok.funs.mem hb).1
 rw[e]at this;cases this
theorem Inv.bs (I:Inv X pins σ H s):∀ b o,X.base.get? b=some o->s.heap.get? b=some o/\H b=none:=λb o e=>
 ⟨I.base.keep b o (I.ok.bs b o e).1 (I.ok.bs b o e).2 (I.ok.nofr e) (I.ok.noex b o e),I.base.free b o (I.ok.bs b o e).1 (I.ok.bs b o e).2 (I.ok.noex b o e)⟩
theorem Inv.bk (I:Inv X pins σ H s):∀ b o,X.base.get? b=some o->s.heap.get? b=some o:=λb o e=>(I.bs b o e).1
theorem Inv.mod (I:Inv X pins σ H s):Mod X.K X.mg X.base:=I.ok.mod
theorem Inv.kIn (I:Inv X pins σ H s):X.K.In s.heap:=I.ok.mod.kin.keeps I.bk
theorem Inv.lt (I:Inv X pins σ H s):X.env.locals<s.heap.objs.size:=let ⟨_,hn,_⟩:=I.loc;hn.lt
theorem Inv.sz (I:Inv X pins σ H s):X.s₀.heap.objs.size<=s.heap.objs.size:=Nat.le_trans I.ok.above (Nat.le_of_lt I.lt)
theorem Inv.nofs (I:Inv X pins σ H s){a:Addr}(h:s.heap.objs.size<=a):a ∉ X.fs:=λhb=>by
 obtain⟨_,o,ho,_⟩:=I.ok.funs.mem hb
 exact absurd (Nat.lt_of_lt_of_le (Heap.lt_size ho) (Nat.le_trans I.sz h)) (Nat.lt_irrefl _)
theorem Inv.cne (I:Inv X pins σ H s):∀ x c,X.env.cells.lookup x=some c->c≠X.env.locals:=λx c e z=>by
 obtain⟨v,o,ho,hd⟩:=I.cell x c e
 obtain⟨m,⟨o',es,ep,ho',hd',_⟩,_⟩:=I.loc
 rw[z,ho']at ho;cases ho;rw[hd']at hd;cases hd
theorem Inv.funs (I:Inv X pins σ H s):s.heap.FunFrames X.base X.outer:=by
 have all:∀ (l:List Env),(∀ b ∈ frs l,b ∈ X.fs)->X.s₀.heap.FunFrames X.base l->s.heap.FunFrames X.base l:=by
  intro l
  induction l with
  |nil=>intro _ _;trivial
  |cons env r ih=>
   intro hs hl
   obtain⟨hk,⟨L,o,hf,hn,ho,hd⟩,hr⟩:=hl
   have hL:L ∈ X.fs:=hs L (by unfold frs;rw[List.filterMap_cons,hf];exact List.mem_cons_self)
   obtain⟨sl,e⟩:=I.base.slot L o ho (I.ok.frf L hL) hL λz=>I.ok.exfs L z hL
   exact⟨hk,⟨L,_,hf,hn,e,hd⟩,ih (λb hb=>hs b (by unfold frs;rw[List.filterMap_cons,hf];exact List.mem_cons_of_mem _ hb)) hr⟩
 exact all X.outer (λ_ hb=>hb) I.ok.funs
theorem Inv.stack (I:Inv X pins σ H s):s.heap.FunFrames X.base X.stack:=by
 rcases I.ok.stk with e | ⟨e,hf⟩
 ·rw[e];exact I.funs
 ·rw[e]
  obtain⟨m,hn,_⟩:=I.loc
  refine .cons (by rw[I.ok.kind];decide) hf hn ?_ I.funs
  exact Heap.get?_none_of_le (Nat.le_trans I.ok.bsz I.ok.above)
theorem Inv.stkSub (I:Inv X pins σ H s):∀ b ∈ frs X.stack,b ∈ X.env.locals::X.fs:=λb hb=>by
 rcases I.ok.stk with e | ⟨e,hf⟩
 ·rw[e]at hb;exact List.mem_cons_of_mem _ hb
 ·rw[e]at hb
  unfold frs at hb
  rw[List.filterMap_cons,hf]at hb
  exact hb
theorem Inv.stkFree (I:Inv X pins σ H s):∀ b ∈ frs X.stack,H b=none:=λb hb=>by
 rcases List.mem_cons.mp (I.stkSub b hb) with e | hb
 ·rw[e];exact I.free
 ·obtain⟨_,o,ho,_⟩:=I.ok.funs.mem hb
  exact I.base.free b o ho (I.ok.frf b hb) λz=>I.ok.exfs b z hb
theorem Inv.step {g':Array GenState}{t':Nat}{d':Drawn}{ch:List Addr}(I:Inv X pins σ H s)
  (hch:∀ b ∈ ch,(b ∈ X.ex\/X.s₀.heap.objs.size<=b)/\b≠X.env.locals/\(∀ x c,X.env.cells.lookup x=some c->c≠b)/\∀ p ∈ X.pn++pins,p.1≠b)
  (keep:∀ b o,b≠X.env.locals->b ∉ X.fs->b ∉ ch->s.heap.get? b=some o->H b=none->h'.get? b=some o)
  (slot:∀ b o,b≠X.env.locals->b ∈ X.fs->b ∉ ch->s.heap.get? b=some o->H b=none->∃ sl,h'.get? b=some { o with slots:=sl })(free:∀ b o,b ∉ ch->s.heap.get? b=some o->H b=none->H' b=none)
  (there:∀ b o,b ∉ ch->s.heap.get? b=some o->∃ o',h'.get? b=some o')
  (tups:∀ b xs,H b=some (.tup xs)->H' b=some (.tup xs))(frzs:∀ b o u,H b=some (.frz o u)->H' b=some (.frz o u))(tbls:∀ b ps,H b=some (.tbl ps)->∃ more,H' b=some (.tbl (ps++more)))
  (ns:∀ m,s.heap.Ns X.env.locals m->h'.Ns X.env.locals m)(hok:HOk X.prog X.w H' h')(hg:AllBare g') :
  Inv X pins σ H' { s with heap:=h',gens:=g',drawn:=d',toks:=t' }:=by
 have neL:∀ b o,X.s₀.heap.get? b=some o->b≠X.env.locals:=λb o e=>Nat.ne_of_lt (Nat.lt_of_lt_of_le (Heap.lt_size e) I.ok.above)
 have neC:∀ b o,X.s₀.heap.get? b=some o->b ∉ X.ex->b ∉ ch:=λb o e hx hb=>by
  rcases (hch b hb).1 with z | z
  ·exact hx z
  ·exact absurd (Nat.lt_of_lt_of_le (Heap.lt_size e) z) (Nat.lt_irrefl _)
 have cellK:∀ x c,X.env.cells.lookup x=some c->∀ v,s.heap.IsCell c v->h'.IsCell c v:=λx c e v ⟨o,ho,hd⟩=>by
  have nch:c ∉ ch:=λz=>(hch c z).2.2.1 x c e rfl
  by_cases hc:c ∈ X.fs
  ·obtain⟨sl,q⟩:=slot c o (I.cne x c e) hc nch ho (I.freeC x c e)
   exact⟨_,q,hd⟩
  ·exact⟨o,keep c o (I.cne x c e) hc nch ho (I.freeC x c e),hd⟩
 refine⟨I.ok,I.os,hg,⟨λb o e n hb hx=>?_,λb o e n hb hx=>?_,λb o e n hx=>?_,λb o e hx=>?_,λb xs e=>tups b xs (I.base.tups b xs e),λb o xs e=>frzs b o xs (I.base.frzs b o xs e),λb ps e=>?_⟩,?_,λx c e=>?_,?_,λx c e=>?_,λp hp=>?_,hok,I.len⟩
 ·exact keep b o (neL b o e) hb (neC b o e hx) (I.base.keep b o e n hb hx) (I.base.free b o e n hx)
 ·obtain⟨sl,e1⟩:=I.base.slot b o e n hb hx
  obtain⟨sl',e2⟩:=slot b _ (neL b o e) hb (neC b o e hx) e1 (I.base.free b o e n hx)
  exact⟨sl',e2⟩
 ·obtain⟨o',e1⟩:=I.base.there b o e hx
  exact free b o' (neC b o e hx) e1 (I.base.free b o e n hx)
 ·obtain⟨o',e1⟩:=I.base.there b o e hx
  exact there b o' (neC b o e hx) e1
 ·obtain⟨m1,e1⟩:=I.base.tbls b ps e
  obtain⟨m2,e2⟩:=tbls b _ e1
  exact⟨m1++m2,by rw[e2,Array.append_assoc]⟩
 ·obtain⟨m,hn,hl⟩:=I.loc
  refine⟨m,ns m hn,λi x v e1 e2 e3=>?_⟩
  obtain⟨u,r,l⟩:=hl i x v e1 e2 e3
  refine⟨u,r,?_⟩
  rcases l with l | ⟨k,c,e,z⟩
  ·exact .inl l
  ·exact .inr ⟨k,c,e,cellK x c e _ z⟩
 ·obtain⟨v,z⟩:=I.cell x c e
  exact⟨v,cellK x c e v z⟩
 ·obtain⟨m,⟨o,_,_,ho,_⟩,_⟩:=I.loc
  exact free _ o (λz=>(hch _ z).2.1 rfl) ho I.free
 ·obtain⟨v,o,ho,hd⟩:=I.cell x c e
  exact free c o (λz=>(hch c z).2.2.1 x c e rfl) ho (I.freeC x c e)
 ·obtain⟨e,n,ne,nf,d⟩:=I.pin p hp
  have nch:p.1 ∉ ch:=λz=>(hch p.1 z).2.2.2 p hp rfl
  exact⟨keep p.1 p.2 ne nf nch e n,free p.1 p.2 nch e n,ne,nf,d⟩
theorem Inv.un {t':Nat}(I:Inv X pins σ H s)(u:Un X.fs [] H H' s.heap h')(hok:HOk X.prog X.w H' h'):Inv X pins σ H' { s with heap:=h',toks:=t' }:=by
 obtain⟨m,⟨o,es,ep,ho,r⟩,_⟩:=id I.loc
 obtain⟨sl,hL⟩:=u.any ho I.free (by simp)
 exact I.step (g':=s.gens) (d':=s.drawn) (ch:=[]) (λ_ z=>nomatch z) (λb o _ hb _ e n=>u.keep b o e n hb (by simp)) (λb o _ hb _ e n=>u.slot b o e n hb (by simp)) (λb o _ e n=>u.free b o e n (by simp)) (λb o _ e=>u.there b o e (by simp)) u.tups u.frzs u.tbls (λm' hm=>by
  obtain⟨o',es',ep',ho',r'⟩:=hm
  rw[ho]at ho';cases ho'
  exact⟨_,es',ep',hL,r'⟩) hok I.bare
theorem Inv.call {g':Array GenState}{t':Nat}{d':Drawn}{ch:List Addr}(I:Inv X pins σ H s)(u:Un (frs X.stack) ch H H' s.heap h')(hok:HOk X.prog X.w H' h')(hg:AllBare g')
  (hch:∀ b ∈ ch,(b ∈ X.ex\/X.s₀.heap.objs.size<=b)/\b≠X.env.locals/\(∀ x c,X.env.cells.lookup x=some c->c≠b)/\∀ p ∈ X.pn++pins,p.1≠b) :
  Inv X pins σ H' { s with heap:=h',gens:=g',drawn:=d',toks:=t' }:=by
 obtain⟨m,⟨o,es,ep,ho,r⟩,_⟩:=id I.loc
 obtain⟨sl,hL⟩:=u.any ho I.free λz=>(hch _ z).2.1 rfl
 exact I.step (ch:=ch) hch (λb o hL hb hc e n=>u.keep b o e n (λz=>(List.mem_cons.mp (I.stkSub b z)).elim hL hb) hc) (λb o _ _ hc e n=>u.any e n hc) (λb o hc e n=>u.free b o e n hc) (λb o hc e=>u.there b o e hc) u.tups u.frzs u.tbls (λm' hm=>by
  obtain⟨o',es',ep',ho',r'⟩:=hm
  rw[ho]at ho';cases ho'
  exact⟨_,es',ep',hL,r'⟩) hok hg
theorem Inv.turned {t':Nat}{it:Addr}(I:Inv X pins σ H s)(k:∀ b o,b≠it->s.heap.get? b=some o->h'.get? b=some o)(hn:H it=none)(hL:it≠X.env.locals)
  (h1:it ∈ X.ex\/X.s₀.heap.objs.size<=it)(h2:∀ x c,X.env.cells.lookup x=some c->c≠it)(h3:∀ p ∈ X.pn++pins,p.1≠it):Inv X pins σ H { s with heap:=h',toks:=t' }:=by
 have nit:∀ b u,H b=some u->b≠it:=λb u e z=>by rw[z,hn]at e;cases e
 refine I.step (g':=s.gens) (d':=s.drawn) (ch:=[it]) (λb hb=>?_) (λb o _ _ hc e _=>k b o (λz=>hc (by simp[z])) e) (λb o _ _ hc e _=>⟨o.slots,k b o (λz=>hc (by simp[z])) e⟩) (λ_ _ _ _ n=>n)
  (λb o hc e=>⟨o,k b o (λz=>hc (by simp[z])) e⟩) (λ_ _ e=>e) (λ_ _ _ e=>e) (λb ps e=>⟨#[],by rw[e];simp⟩) (λm hm=>?_) (λb u e=>?_) I.bare
 ·have e:b=it:=by simpa using hb
  subst e
  exact⟨h1,hL,h2,h3⟩
 ·obtain⟨o,es,ep,ho,r⟩:=hm
  exact⟨o,es,ep,k _ o (Ne.symm hL) ho,r⟩
 ·refine (I.hok b u e).stay (λc v hc q=>k c v ?_ q) (λ_ q=>q) λ_ _ q=>q
  rcases hc with z | z
  ·rw[z];exact nit b u e
  ·exact nit c _ z
theorem Inv.tok (I:Inv X pins σ H s) (t:Nat):Inv X pins σ H { s with toks:=t }:=I.un (h':=s.heap) (t':=t) Un.refl I.hok
theorem Inv.kept {t':Nat}(I:Inv X pins σ H s)(k:∀ b u,s.heap.get? b=some u->h'.get? b=some u):Inv X pins σ H { s with heap:=h',toks:=t' }:=I.un (Un.kept k) (I.hok.kept k)
theorem Inv.laid {a:Addr}{o:HO}{t':Nat}(I:Inv X pins σ H s)(k:∀ b u,s.heap.get? b=some u->h'.get? b=some u)(hp:s.heap.objs.size<=a)(new:ObjOk X.prog X.w (upd H a o) h' a o) :
  Inv X pins σ (upd H a o) { s with heap:=h',toks:=t' }:=I.un (Un.laid k hp (I.hok.fresh hp)) (I.hok.laid k hp new)
theorem Inv.write {x e:Addr}{o:HO}{t':Nat}(I:Inv X pins σ H s)(mu:Mut (H x))(he:e=x\/H e=some (.own x))(k:∀ b u,b≠e->s.heap.get? b=some u->h'.get? b=some u)(heo:∃ u,h'.get? e=some u)
  (new:ObjOk X.prog X.w (upd H x o) h' x o):Inv X pins σ (upd H x o) { s with heap:=h',toks:=t' }:=I.un (Un.write mu he k heo) (I.hok.write mu he k heo new)
theorem Inv.pins_of {pins':List (Addr×Obj)}(I:Inv X pins σ H s)(h:∀ p ∈ pins',s.heap.get? p.1=some p.2/\H p.1=none/\p.1≠X.env.locals/\p.1 ∉ X.fs/\∀ v,p.2.data≠.cell v):Inv X pins' σ H s:=
 ⟨I.ok,I.os,I.bare,I.base,I.loc,I.cell,I.free,I.freeC,λp hp=>(List.mem_append.mp hp).elim (λz=>I.pin p (List.mem_append_left _ z)) (h p),I.hok,I.len⟩
theorem nodup_ix {N:List Str}(hN:N.Nodup){i j:Nat}{x:Str}(a:N[i]? = some x)(b:N[j]? = some x):i=j:=by
 obtain⟨h1,e1⟩:=List.getElem?_eq_some_iff.mp a
 obtain⟨h2,e2⟩:=List.getElem?_eq_some_iff.mp b
 exact (List.getElem_inj hN).mp (e1.trans e2.symm)
theorem store_ok2 {M:Model}{A:Around}{E:Value->Shared->Prop}{i:Nat}{x:Str}{v:V}{u:Value}{Q:Unit->Shared->Prop}(I:Inv X pins σ H s)(hN:X.N.Nodup)(hi:X.N[i]? = some x)(hx:Loc X.env.scope x)(r:RelV v u)
  (h:∀ s',Inv X pins (σ.set i (some v)) H s'->(∃ a,Heap.SameBut a s.heap s'.heap/\(a=X.env.locals\/X.env.cells.lookup x=some a))->Q () s')(hf:X.fn x=true\/X.env.scope.names.lookup x=some .local:=by first | exact .inl rfl | exact .inr rfl | assumption):wpAny M A (storeName X.env x u) Q E s:=by
 obtain⟨m,hn,hl⟩:=id I.loc
 have hcls:(X.env.scope.kind == .class || (X.env.scope.kind == .module && X.env.locals != X.env.globals))=false:=by rw[I.ok.kind];rfl
 have hiσ:i<σ.length:=by rw[I.len];exact (List.getElem?_eq_some_iff.mp hi).1
 have cne:=I.cne
 have tracked:∀ {a:Addr}{h':Heap},(∃ o,s.heap.get? a=some o/\H a=none)->Heap.SameBut a s.heap h'->HOk X.prog X.w H h':=fun {a h'} ha hs b ob e=>by
  obtain⟨_,_,hfree⟩:=ha
  refine (I.hok b ob e).stay (λc w' hc q=>(hs.2 c ?_).trans q) (λ_ q=>q) λ_ _ q=>q
  rintro rfl
  rcases hc with rfl | hc
  ·rw[hfree]at e;cases e
  ·rw[hfree]at hc;cases hc
 rcases hx with hk | hk
 ·refine wpAny_storeName_local hk hn (λh' hn' hs=>?_) hcls
  obtain⟨oL,_,_,hoL,_⟩:=id hn
  refine h _ ⟨I.ok,I.os,I.bare,⟨λb o e n hb hx=>?_,λb o e n hb hx=>?_,I.base.free,λb o e hx=>?_,I.base.tups,I.base.frzs,I.base.tbls⟩,⟨_,hn',λj y v' e1 e2 e3=>?_⟩,λy c e=>?_,I.free,I.freeC,λp hp=>?_,tracked ⟨oL,hoL,I.free⟩ hs,by simpa using I.len⟩ ⟨_,hs,.inl rfl⟩
  ·exact (hs.2 b (Nat.ne_of_lt (Nat.lt_of_lt_of_le (Heap.lt_size e) I.ok.above))).trans (I.base.keep b o e n hb hx)
  ·obtain⟨sl,e1⟩:=I.base.slot b o e n hb hx
   exact⟨sl,(hs.2 b (Nat.ne_of_lt (Nat.lt_of_lt_of_le (Heap.lt_size e) I.ok.above))).trans e1⟩
  ·obtain⟨o',e1⟩:=I.base.there b o e hx
   exact⟨o',(hs.2 b (Nat.ne_of_lt (Nat.lt_of_lt_of_le (Heap.lt_size e) I.ok.above))).trans e1⟩
  ·by_cases hj:j=i
   ·subst hj
    rw[hi]at e1;cases e1
    rw[List.getElem?_set_self hiσ]at e2
    cases e2
    exact⟨u,r,.inl ⟨hk,by simp⟩⟩
   ·rw[List.getElem?_set_ne (Ne.symm hj)]at e2
    obtain⟨u',r',q⟩:=hl j y v' e1 e2 e3
    refine⟨u',r',?_⟩
    rcases q with ⟨k,e⟩ | ⟨k,c,e,z⟩
    ·refine .inl ⟨k,?_⟩
     have:y≠x:=λe=>hj (nodup_ix hN e1 (e ▸ hi))
     simp[this,e]
    ·exact .inr ⟨k,c,e,z.sameBut hs (cne y c e)⟩
  ·obtain⟨w',z⟩:=I.cell y c e
   exact⟨w',z.sameBut hs (cne y c e)⟩
  ·obtain⟨e,n,ne,nf,d⟩:=I.pin p hp
   exact⟨(hs.2 p.1 ne).trans e,n,ne,nf,d⟩
 ·have hfn:X.fn x=true:=by
   rcases hf with z | z
   ·exact z
   ·rw[z]at hk;cases hk
  obtain⟨c,hc⟩:=I.ok.has x (.inl hk)
  obtain⟨w',z⟩:=I.cell x c hc
  refine wpAny_storeName_cell I.ok.kind hk hc z (λh' hc' hs=>?_)
  obtain⟨oc,hoc,hocd⟩:=id z
  refine h { s with heap:=h' } ⟨I.ok,I.os,I.bare,⟨λb o e n hb hx=>?_,λb o e n hb hx=>?_,I.base.free,λb o e hx=>?_,I.base.tups,I.base.frzs,I.base.tbls⟩,⟨m,hn.sameBut hs (Ne.symm (cne x c hc)),λj y v' e1 e2 e3=>?_⟩,λy c' e=>?_,I.free,I.freeC,λp hp=>?_,tracked ⟨oc,hoc,I.freeC x c hc⟩ hs,by simpa using I.len⟩ ⟨c,hs,.inr hc⟩
  ·exact (hs.2 b (Nat.ne_of_lt (Nat.lt_of_lt_of_le (Heap.lt_size e) (I.ok.cab x c hfn hc)))).trans (I.base.keep b o e n hb hx)
  ·obtain⟨sl,e1⟩:=I.base.slot b o e n hb hx
   exact⟨sl,(hs.2 b (Nat.ne_of_lt (Nat.lt_of_lt_of_le (Heap.lt_size e) (I.ok.cab x c hfn hc)))).trans e1⟩
  ·obtain⟨o',e1⟩:=I.base.there b o e hx
   exact⟨o',(hs.2 b (Nat.ne_of_lt (Nat.lt_of_lt_of_le (Heap.lt_size e) (I.ok.cab x c hfn hc)))).trans e1⟩
  ·by_cases hj:j=i
   ·subst hj
    rw[hi]at e1;cases e1
    rw[List.getElem?_set_self hiσ]at e2
    cases e2
    exact⟨u,r,.inr ⟨.inl hk,c,hc,hc'⟩⟩
   ·rw[List.getElem?_set_ne (Ne.symm hj)]at e2
    obtain⟨u',r',q⟩:=hl j y v' e1 e2 e3
    refine⟨u',r',?_⟩
    rcases q with q | ⟨k,c',e,z'⟩
    ·exact .inl q
    ·refine .inr ⟨k,c',e,z'.sameBut hs ?_⟩
     rintro rfl
     exact hj (nodup_ix hN e1 (I.ok.inj _ _ _ e hc ▸ hi))
  ·by_cases hcc:c'=c
   ·subst hcc;exact⟨_,hc'⟩
   ·obtain⟨w2,z2⟩:=I.cell y c' e
    exact⟨w2,z2.sameBut hs hcc⟩
  ·obtain⟨e,n,ne,nf,d⟩:=I.pin p hp
   refine⟨(hs.2 p.1 ?_).trans e,n,ne,nf,d⟩
   intro q
   rw[q,hoc]at e
   have q':oc=p.2:=Option.some.inj e
   exact d w' (by rw[<-q'];exact hocd)
theorem store_ok {M:Model}{A:Around}{E:Value->Shared->Prop}{i:Nat}{x:Str}{v:V}{u:Value}{Q:Unit->Shared->Prop}(I:Inv X pins σ H s)(hN:X.N.Nodup)(hi:X.N[i]? = some x)(hx:Loc X.env.scope x)(r:RelV v u)
  (h:∀ s',Inv X pins (σ.set i (some v)) H s'->Q () s')(hf:X.fn x=true\/X.env.scope.names.lookup x=some .local:=by first | exact .inl rfl | exact .inr rfl | assumption):wpAny M A (storeName X.env x u) Q E s:=
 store_ok2 I hN hi hx r (λs' I' _=>h s' I') hf
theorem Inv.call' {s':Shared}{ch:List Addr}(I:Inv X pins σ H s)(ho:s'.os=s.os)(u:Un (frs X.stack) ch H H' s.heap s'.heap)(hok:HOk X.prog X.w H' s'.heap)(hg:AllBare s'.gens)
  (hch:∀ b ∈ ch,(b ∈ X.ex\/X.s₀.heap.objs.size<=b)/\b≠X.env.locals/\(∀ x c,X.env.cells.lookup x=some c->c≠b)/\∀ p ∈ X.pn++pins,p.1≠b):Inv X pins σ H' s':=by
 obtain⟨h',g',d',t',o'⟩:=s'
 have e:o'=s.os:=ho
 subst e
 exact I.call (g':=g') (t':=t') (d':=d') u hok hg hch
end
abbrev XK:=Value->Option Addr->Hp->Prop
abbrev St:=List (Option V)
abbrev VK:=V->Hp->Prop
abbrev TE:=St->Hp->VK->Prop
abbrev TT:=St->Hp->(Bool->Hp->Prop)->Prop
abbrev TA:=St->Hp->(List V->Hp->Prop)->Prop
structure Ends where
 nx:St->Hp->Prop
 rt:VK
 bk:St->Hp->Prop:=λ_ _=>False
 ct:St->Hp->Prop:=λ_ _=>False
abbrev TS:=Ends->St->Hp->Prop
def EP (X:Cx)(pins:List (Addr×Obj))(σ:St)(Q:VK) (u:Value)(s':Shared):Prop:=∃ v H',Inv X pins σ H' s'/\RelV v u/\Q v H'
def TP (X:Cx)(pins:List (Addr×Obj))(σ:St)(Q:Bool->Hp->Prop)(b:Bool)(s':Shared):Prop:=∃ H',Inv X pins σ H' s'/\Q b H'
def AP (X:Cx)(pins:List (Addr×Obj))(σ:St)(Q:List V->Hp->Prop)(us:List Value)(s':Shared):Prop:=∃ vs H',Inv X pins σ H' s'/\Vals vs us/\Q vs H'
def SP (X:Cx)(pins:List (Addr×Obj))(D:Ends)(f:Flow)(s':Shared):Prop:=
 match f with
 |.next=>∃ σ' H',Inv X pins σ' H' s'/\D.nx σ' H'
 |.brk=>∃ σ' H',Inv X pins σ' H' s'/\D.bk σ' H'
 |.cont=>∃ σ' H',Inv X pins σ' H' s'/\D.ct σ' H'
 |.ret u=>∃ v σ' H',Inv X pins σ' H' s'/\RelV v u/\D.rt v H'
def PE (X:Cx)(e:Expr)(t:TE):Prop:=
 ∀ (pins:List (Addr×Obj))(s:Shared)(σ:St)(H:Hp)(Q:VK),Inv X pins σ H s->t σ H Q->wpAny (model X.prog X.w) X.A (eval e X.env) (EP X pins σ Q) X.xe s
def PT (X:Cx)(e:Expr)(t:TT):Prop:=
 ∀ (pins:List (Addr×Obj))(s:Shared)(σ:St)(H:Hp)(Q:Bool->Hp->Prop),Inv X pins σ H s->t σ H Q->wpAny (model X.prog X.w) X.A (isTrue e X.env (eval e X.env)) (TP X pins σ Q) X.xe s
def PW (X:Cx)(e:Expr)(t:TT):Prop:=
 ∀ (whole:Sem Value)(pins:List (Addr×Obj))(s:Shared)(σ:St)(H:Hp)(Q:Bool->Hp->Prop),Inv X pins σ H s->t σ H Q->wpAny (model X.prog X.w) X.A (isTrue e X.env whole) (TP X pins σ Q) X.xe s
theorem PW.pt {X:Cx}{e:Expr}{t:TT}(h:PW X e t):PT X e t:=h _
def PA (X:Cx)(es:List Expr)(t:TA):Prop:=
 ∀ (pos:Pos)(pins:List (Addr×Obj))(s:Shared)(σ:St)(H:Hp)(Q:List V->Hp->Prop),Inv X pins σ H s->t σ H Q->wpAny (model X.prog X.w) X.A (spliced (backTo pos (starEach es X.env))) (AP X pins σ Q) X.xe s
def PS (X:Cx)(st:Stmt)(t:TS):Prop:=
 ∀ (pins:List (Addr×Obj))(s:Shared)(σ:St)(H:Hp)(D:Ends),Inv X pins σ H s->t D σ H->wpAny (model X.prog X.w) X.A (exec st X.env) (SP X pins D) X.xe s
def PSs (X:Cx)(st:List Stmt)(t:TS):Prop:=
 ∀ (pins:List (Addr×Obj))(s:Shared)(σ:St)(H:Hp)(D:Ends),Inv X pins σ H s->t D σ H->wpAny (model X.prog X.w) X.A (execs st X.env) (SP X pins D) X.xe s
theorem thn {α:Type}{t:Sem α}{Q Q':α->Shared->Prop}{M:Model}{A:Around}{E:Value->Shared->Prop}{s:Shared}(h:wpAny M A t Q E s)(hQ:∀ a s,Q a s->Q' a s):wpAny M A t Q' E s:=wpAny_mono h hQ λ_ _ x=>x
end L2
namespace L2
open PySem PySem.Spec PyProof.Rows
section
variable {X:Cx}
def tVar (i:Nat):TE:=λσ H Q=>∃ v,σ[i]? = some (some v)/\Q v H
def tC (v:V):TE:=λ_ H Q=>Q v H
theorem pe_var {i:Nat}{x:Str}{pos:Pos}(hN:X.N[i]? = some x)(hv:Vis X.env.scope x)(hd:autoParam ((x == ("__debug__" : Str))=false) aD._auto_1)(hcd:autoParam ((x == ("__classdict__" : Str))=false) aD._auto_1):PE X (.Name x pos) (tVar i):=by
 intro pins s σ H Q I h
 obtain⟨v,e,h⟩:=h
 obtain⟨m,hn,hl⟩:=I.loc
 obtain⟨u,r,l⟩:=hl i x v hN e hv
 have fin:EP X pins σ Q u s:=⟨v,H,I,r,h⟩
 rcases l with ⟨hk,hm⟩ | ⟨hk,c,hc,hcell⟩
 ·exact wpAny_Name (wpAny_loadName_local I.ok.kind hk hn hm fin) hd
 ·rcases hk with hk | hk
  ·exact wpAny_Name (wpAny_loadName_cell I.ok.kind hk hc hcell fin) hd
  ·exact wpAny_Name (wpAny_loadName_free I.ok.kind hk hc hcell fin hcd) hd
theorem pe_int {i j pos}:PE X (.Constant (.int i) j pos) (tC (.int i)):=λ_ _ _ H _ I h=>wpAny_Constant_int ⟨.int i,H,I.tok _,⟨_,rfl⟩,h⟩
theorem pe_bl {b j pos}:PE X (.Constant (.bool b) j pos) (tC (.bl b)):=λ_ _ _ H _ I h=>Constant_bool ⟨.bl b,H,I,rfl,h⟩
theorem pe_non {j pos}:PE X (.Constant .none j pos) (tC .non):=λ_ _ _ H _ I h=>Constant_none ⟨.non,H,I,rfl,h⟩
theorem pe_str {x j pos}:PE X (.Constant (.str x) j pos) (tC (.str x)):=λ_ _ _ H _ I h=>Calls.Constant_str ⟨.str x,H,I.tok _,⟨_,rfl⟩,h⟩
def Gl (X:Cx) (x:Str):Prop:=X.env.kindOf x=some .globalImplicit
theorem ld_glob {E:Value->Shared->Prop}{pins:List (Addr×Obj)}{s:Shared}{σ:St}{H:Hp}{x:Str}{u:Value}{pos:Pos}{Q:Value->Shared->Prop}(I:Inv X pins σ H s)(hg:Gl X x)(hm:X.mg x=some u)(h:Q u s)
  (hd:autoParam ((x == ("__debug__" : Str))=false) aD._auto_1):wpAny (model X.prog X.w) X.A (eval (.Name x pos) X.env) Q E s:=
 Calls.Name_function_global I.ok.kind hg (Calls.loadGlobal_global (by rw[I.ok.glob];exact I.mod.glob.keeps I.bk) hm h) hd
theorem ld_blt {E:Value->Shared->Prop}{pins:List (Addr×Obj)}{s:Shared}{σ:St}{H:Hp}{x:Str}{u:Value}{pos:Pos}{Q:Value->Shared->Prop}(I:Inv X pins σ H s)(hg:Gl X x)(hm:X.mg x=none)(hv:bootBuiltins x=some u)(h:Q u s)
  (hn:x ≠ "__name__":=by decide)(hd:autoParam ((x == ("__debug__" : Str))=false) aD._auto_1):wpAny (model X.prog X.w) X.A (eval (.Name x pos) X.env) Q E s:=by
 obtain⟨mb,h1,h2⟩:=I.mod.blt
 exact Calls.Name_function_global I.ok.kind hg (Calls.loadGlobal_builtin (by rw[I.ok.glob];exact I.mod.glob.keeps I.bk) hm (by rw[I.ok.blt];exact h1.keeps I.bk) ((h2 x hn).trans hv) h) hd
theorem pe_glob {x:Str}{v:V}{u:Value}{pos:Pos}(hg:Gl X x)(hm:X.mg x=some u)(r:RelV v u)(hd:autoParam ((x == ("__debug__" : Str))=false) aD._auto_1):PE X (.Name x pos) (tC v):=
 λ_ _ _ H _ I h=>ld_glob I hg hm ⟨v,H,I,r,h⟩ hd
theorem pe_bltn {x:Str}{v:V}{u:Value}{pos:Pos}(hg:Gl X x)(hm:X.mg x=none)(hv:bootBuiltins x=some u)(r:RelV v u)(hn:x ≠ "__name__":=by decide)(hd:autoParam ((x == ("__debug__" : Str))=false) aD._auto_1):PE X (.Name x pos) (tC v):=
 λ_ _ _ H _ I h=>ld_blt I hg hm hv ⟨v,H,I,r,h⟩ hn hd
variable {a b:Expr}{ta tb:TE}{pos:Pos}
def tB (t:TE):TT:=λσ H Q=>t σ H λx H1=>∃ c,x=.bl c/\Q c H1
variable {tA tB':TT}{rest:List Expr}
def tAnd (t u:TT):TT:=λσ H Q=>t σ H λc H1=>if c=true then u σ H1 Q else Q false H1
def tOr (t u:TT):TT:=λσ H Q=>t σ H λc H1=>if c=true then Q true H1 else u σ H1 Q
def tNot (t:TT):TT:=λσ H Q=>t σ H λc H1=>Q (!c) H1
theorem pw_and1 (ha:PT X a tA):PW X (.BoolOp .And [a] pos) tA:=by
 intro wh pins s σ H Q I h
 refine isTrue_and (thn (ha pins s σ H Q I h) λc s1 e=>?_)
 cases c with
 |true=>exact isTrue_and_nil e
 |false=>exact e
theorem pw_or1 (ha:PT X a tA):PW X (.BoolOp .Or [a] pos) tA:=by
 intro wh pins s σ H Q I h
 refine isTrue_or (thn (ha pins s σ H Q I h) λc s1 e=>?_)
 cases c with
 |false=>exact isTrue_or_nil e
 |true=>exact e
theorem pw_and (ha:PT X a tA)(hb:PW X (.BoolOp .And (b::rest) pos) tB'):PW X (.BoolOp .And (a::b::rest) pos) (tAnd tA tB'):=by
 intro wh pins s σ H Q I h
 refine isTrue_and (thn (ha pins s σ H _ I h) λc s1 ⟨H1,I1,q1⟩=>?_)
 cases c with
 |true=>exact hb wh pins s1 σ H1 Q I1 q1
 |false=>exact⟨H1,I1,q1⟩
theorem pw_or (ha:PT X a tA)(hb:PW X (.BoolOp .Or (b::rest) pos) tB'):PW X (.BoolOp .Or (a::b::rest) pos) (tOr tA tB'):=by
 intro wh pins s σ H Q I h
 refine isTrue_or (thn (ha pins s σ H _ I h) λc s1 ⟨H1,I1,q1⟩=>?_)
 cases c with
 |true=>exact⟨H1,I1,q1⟩
 |false=>exact hb wh pins s1 σ H1 Q I1 q1
theorem pt_not (ha:PT X a tA):PT X (.UnaryOp .Not a pos) (tNot tA):=by
 intro pins s σ H Q I h
 exact isTrue_not (ha pins s σ H (λc H1=>Q (!c) H1) I h)
def tAndV (ta tb:TE):TE:=λσ H Q=>ta σ H λx H1=>∃ c,x=.bl c/\if c=true then tb σ H1 Q else Q (.bl false) H1
theorem pe_one {op}{t:TE}(h:PE X a t):PE X (.BoolOp op [a] pos) t:=λpins s σ H Q I hw=>BoolOp_one (h pins s σ H Q I hw)
theorem pe_and (ha:PE X a ta)(hb:PE X (.BoolOp .And (b::rest) pos) tb):PE X (.BoolOp .And (a::b::rest) pos) (tAndV ta tb):=by
 intro pins s σ H Q I h
 refine BoolOp_and (thn (ha pins s σ H _ I h) λv s1 ⟨x,H1,I1,r1,q1⟩=>?_)
 obtain⟨c,rfl,q1⟩:=q1
 cases r1
 refine wpAny_truthy_bool ?_
 cases c with
 |true=>exact hb pins s1 σ H1 Q I1 q1
 |false=>exact⟨.bl false,H1,I1,rfl,q1⟩
def tIf (t:TT)(ta tb:TE):TE:=λσ H Q=>t σ H λc H1=>if c=true then ta σ H1 Q else tb σ H1 Q
theorem pe_ifExp {c:Expr}(hc:PT X c tA)(ha:PE X a ta)(hb:PE X b tb):PE X (.IfExp c a b pos) (tIf tA ta tb):=by
 intro pins s σ H Q I h
 refine wpAny_IfExp (thn (hc pins s σ H _ I h) λd s1 ⟨H1,I1,q1⟩=>?_)
 cases d with
 |true=>exact ha pins s1 σ H1 Q I1 q1
 |false=>exact hb pins s1 σ H1 Q I1 q1
end
end L2
namespace L2
open PySem PySem.Spec PyProof.Rows
def SqL (K:PySem.W.Frag)(H:Hp)(a:Addr)(xs:List V):Prop:=
 Rd H a (.lst xs) ∨
  ∃ (o:Obj)(its:Array Value) (n:Nat),K.lookup a=some o/\o.cls=.type "list"/\o.dict=none/\o.data=.seq its n/\its.size<=sizeLine/\Vals xs its.toList
def SqT (K:PySem.W.Frag)(H:Hp)(a:Addr)(xs:List V):Prop:=
 Rd H a (.tup xs) ∨
  ∃ (o:Obj)(its:Array Value) (n:Nat),K.lookup a=some o/\o.cls=.type "tuple"/\o.dict=none/\o.data=.seq its n/\its.size<=sizeLine/\Vals xs its.toList
def absV:Value->Option V
 |.none=>some .non
 |.bool b=>some (.bl b)
 |.int i _=>some (.int i)
 |.str x _=>some (.str x)
 |.bytes b _=>some (.byt b)
 |.float b _=>some (.flt b)
 |.ref a=>some (.ref a)
 |.type n=>some (.ty n)
 |_=>none
theorem RelV.abs {x:V}{u:Value}(r:RelV x u):absV u=some x:=by
 cases x with
 |non=>cases r;rfl
 |bl _=>cases r;rfl
 |int _=>obtain⟨t,rfl⟩:=r;rfl
 |str _=>obtain⟨t,rfl⟩:=r;rfl
 |byt _=>obtain⟨t,rfl⟩:=r;rfl
 |flt _=>obtain⟨t,rfl⟩:=r;rfl
 |ref _=>cases r;rfl
 |ty _=>cases r;rfl
theorem RelV.inj {x y:V}{u:Value}(r:RelV x u)(q:RelV y u):x=y:=Option.some.inj (r.abs.symm.trans q.abs)
theorem Vals.inj:∀ {xs ys:List V}{us:List Value},Vals xs us->Vals ys us->xs=ys
 |_,_,_,.nil,.nil=>rfl
 |_,_,_,.cons r t,.cons r' t'=>by rw[r.inj r',Vals.inj t t']
section
variable {X:Cx}{pins:List (Addr×Obj)}{σ:St}{H:Hp}{s:Shared}{a:Addr}{xs ys:List V}
theorem SqL.of {K:PySem.W.Frag}(h:H a=some (.lst xs)):SqL K H a xs:=.inl (.inl h)
theorem SqT.of {K:PySem.W.Frag}(h:H a=some (.tup xs)):SqT K H a xs:=.inl (.inl h)
theorem Inv.list (I:Inv X pins σ H s)(h:SqL X.K H a xs):∃ its:List Value,Vals xs its/\PlainL s.heap a its.toArray/\xs.length<=sizeLine:=by
 rcases h with h | ⟨o,its,n,hk,hc,hd,hs,hz,r⟩
 ·obtain⟨z,its,n,r,e⟩:=h.ok I.hok
  exact⟨its,r,⟨_,n,e,rfl,rfl,rfl⟩,z⟩
 ·refine⟨its.toList,r,⟨o,n,I.kIn a o hk,hc,hd,by simpa using hs⟩,?_⟩
  have e:=r.length
  simp only[Array.length_toList]at e
  omega
theorem Inv.tuple (I:Inv X pins σ H s)(h:SqT X.K H a xs):∃ its:List Value,Vals xs its/\IsTup s.heap a its.toArray/\xs.length<=sizeLine:=by
 rcases h with h | ⟨o,its,n,hk,hc,_,hs,hz,r⟩
 ·obtain⟨z,its,r,p⟩:=h.ok I.hok
  exact⟨its,r,p.tup,z⟩
 ·refine⟨its.toList,r,⟨o,I.kIn a o hk,hc,n,by simpa using hs⟩,?_⟩
  have e:=r.length
  simp only[Array.length_toList]at e
  omega
theorem Inv.list_inj (I:Inv X pins σ H s)(h:SqL X.K H a xs)(h':SqL X.K H a ys):xs=ys:=by
 obtain⟨its,r,⟨o,n,e,_,_,d⟩,_⟩:=I.list h
 obtain⟨its',r',⟨o',n',e',_,_,d'⟩,_⟩:=I.list h'
 rw[e]at e';cases e'
 rw[d]at d'
 injection d' with d1 _
 have:its=its':=by simpa using congrArg Array.toList d1
 subst this
 exact r.inj r'
theorem Inv.tuple_inj (I:Inv X pins σ H s)(h:SqT X.K H a xs)(h':SqT X.K H a ys):xs=ys:=by
 obtain⟨its,r,⟨o,e,_,n,d⟩,_⟩:=I.tuple h
 obtain⟨its',r',⟨o',e',_,n',d'⟩,_⟩:=I.tuple h'
 rw[e]at e';cases e'
 rw[d]at d'
 injection d' with d1 _
 have:its=its':=by simpa using congrArg Array.toList d1
 subst this
 exact r.inj r'
end
section
variable {X:Cx}{pins:List (Addr×Obj)}{σ:St}{H:Hp}{s:Shared}{E:Value->Shared->Prop}
end
section
variable {X:Cx}{st:Stmt}{rest:List Stmt}{t u:TS}{e:Expr}{te:TE}{pos:Pos}
def tNext:TS:=λD σ H=>D.nx σ H
def tSeq (t u:TS):TS:=λD σ H=>t { D with nx:=u D } σ H
theorem pss_nil:PSs X [] tNext:=λ_ _ σ H _ I h=>wpAny_execs_nil ⟨σ,H,I,h⟩
theorem pss_cons (h1:PS X st t)(h2:PSs X rest u):PSs X (st::rest) (tSeq t u):=by
 intro pins s σ H D I h
 refine wpAny_execs_cons (thn (h1 pins s σ H { D with nx:=u D } I h) λf s1 q=>?_)
 cases f with
 |next=>
  obtain⟨σ',H',I',q⟩:=q
  exact h2 pins s1 σ' H' D I' q
 |ret v=>exact q
 |brk=>exact q
 |cont=>exact q
theorem pss_one (h1:PS X st t):PSs X [st] t:=by
 intro pins s σ H D I h
 refine wpAny_execs_cons (thn (h1 pins s σ H D I h) λf s1 q=>?_)
 cases f with
 |next=>exact wpAny_execs_nil q
 |ret v=>exact q
 |brk=>exact q
 |cont=>exact q
theorem Inv.quiet {pins:List (Addr×Obj)}{σ:St}{H:Hp}{s:Shared}(I:Inv X pins σ H s):interactive X.env=false:=by simp[interactive,I.ok.kind]
def tDrop (te:TE):TS:=λD σ H=>te σ H λ_ H1=>D.nx σ H1
theorem ps_expr (he:PE X e te)(hs:autoParam (swapsWith e none pos.line X.env=pure false) aR._auto_1):PS X (.Expr e pos) (tDrop te):=by
 intro pins s σ H D I h
 exact wpAny_Expr_any (thn (he pins s σ H _ I h) λv s1 ⟨x,H1,I1,r1,q1⟩=>⟨σ,H1,I1,q1⟩) I.quiet hs
def tRet (te:TE):TS:=λD σ H=>te σ H D.rt
theorem ps_ret (he:PE X e te):PS X (.Return (some e) pos) (tRet te):=by
 intro pins s σ H D I h
 exact wpAny_Return_some (thn (he pins s σ H _ I h) λv s1 ⟨x,H1,I1,r1,q1⟩=>⟨x,σ,H1,I1,r1,q1⟩)
def tIfS (c:TT)(t u:TS):TS:=λD σ H=>c σ H λb H1=>if b=true then t D σ H1 else u D σ H1
theorem ps_if {c:Expr}{a b:List Stmt}{tc:TT}(hc:PT X c tc)(ha:PSs X a t)(hb:PSs X b u):PS X (.If c a b pos) (tIfS tc t u):=by
 intro pins s σ H D I h
 refine wpAny_If (thn (hc pins s σ H _ I h) λd s1 ⟨H1,I1,q1⟩=>?_)
 cases d with
 |true=>exact ha pins s1 σ H1 D I1 q1
 |false=>exact hb pins s1 σ H1 D I1 q1
end
abbrev TG:=V->St->Hp->(St->Hp->Prop)->Prop
abbrev TGs:=List V->St->Hp->(St->Hp->Prop)->Prop
def PG (X:Cx)(target:Expr)(t:TG):Prop:=
 ∀ (pins:List (Addr×Obj))(s:Shared)(σ:St)(H:Hp)(v:V) (u:Value)(Q:St->Hp->Prop),Inv X pins σ H s->RelV v u->t v σ H Q ->
  wpAny (model X.prog X.w) X.A (assign target X.env u) (λ_ s'=>∃ σ' H',Inv X pins σ' H' s'/\Q σ' H') X.xe s
def PGs (X:Cx)(ts:List Expr)(t:TGs):Prop:=
 ∀ (pins:List (Addr×Obj))(s:Shared)(σ:St)(H:Hp)(vs:List V)(us:List Value)(Q:St->Hp->Prop),Inv X pins σ H s->Vals vs us->t vs σ H Q ->
  wpAny (model X.prog X.w) X.A (assignInOrder ((assignEach ts X.env).map (·.2)) us) (λ_ s'=>∃ σ' H',Inv X pins σ' H' s'/\Q σ' H') X.xe s
section
variable {X:Cx}{pos:Pos}
def gName (i:Nat):TG:=λv σ H Q=>Q (σ.set i (some v)) H
theorem pg_name {i:Nat}{x:Str}(hN:X.N.Nodup)(hi:X.N[i]? = some x)(hx:Loc X.env.scope x)(hf:X.fn x=true\/X.env.scope.names.lookup x=some .local:=by first | exact .inl rfl | exact .inr rfl | assumption):PG X (.Name x pos) (gName i):=by
 intro pins s σ H v u Q I r h
 exact wpAny_assign_Name (store_ok I hN hi hx r (λs' I'=>⟨_,H,I',h⟩) hf)
def gNil:TGs:=λvs σ H Q=>vs=[]/\Q σ H
def gCons (t:TG)(u:TGs):TGs:=λvs σ H Q=>∃ v r,vs=v::r/\t v σ H λσ' H'=>u r σ' H' Q
theorem pgs_nil:PGs X [] gNil:=by
 intro pins s σ H vs us Q I r h
 obtain⟨e,h⟩:=h
 subst e
 cases r
 exact assignInOrder_nil ⟨σ,H,I,h⟩
theorem pgs_cons {e:Expr}{es:List Expr}{t:TG}{u:TGs}(h1:PG X e t)(h2:PGs X es u)
  (hs:autoParam ((assignEach (e::es) X.env).map (·.2)=assign e X.env::(assignEach es X.env).map (·.2)) aR._auto_1):PGs X (e::es) (gCons t u):=by
 intro pins s σ H vs us Q I r h
 obtain⟨v,vr,e1,h⟩:=h
 subst e1
 cases r with
 |cons r rr=>
  rw[hs]
  refine assignInOrder_cons (thn (h1 pins s σ H _ _ _ I r h) λ_ s1 ⟨σ1,H1,I1,q1⟩=>?_)
  exact h2 pins s1 σ1 H1 _ _ Q I1 rr q1
def gTup (K:PySem.W.Frag) (n:Nat)(t:TGs):TG:=λv σ H Q=>∃ a xs,v=.ref a/\SqT K H a xs/\xs.length=n/\t xs σ H Q
theorem pg_tup {es:List Expr}{k:Nat}{t:TGs}{n:Nat}(hc:X.calm=true)(h:PGs X es t)
  (hn:autoParam ((assignEach es X.env).length=n) aR._auto_1)(hst:autoParam ((assignEach es X.env).findIdx? (·.1)=none) aR._auto_1):PG X (.Tuple es k pos) (gTup X.K n t):=by
 intro pins s σ H v u Q I r hw
 obtain⟨a,xs,e1,hq,hl,hw⟩:=hw
 subst e1
 cases r
 obtain⟨its,rv,ht,hz⟩:=I.tuple hq
 refine assign_Tuple_tuple (I.ok.hd hc) ht (by simp[hn,<-hl,rv.length]) hst λh' hx=>?_
 have I1:Inv X pins σ H { s with heap:=h' }:=I.kept (t':=s.toks) λb o e=>hx b o (Nat.ne_of_lt (Heap.lt_size e)) e
 exact h pins _ σ H xs _ Q I1 (by simpa using rv) hw
def tAsg (te:TE)(g:TG):TS:=λD σ H=>te σ H λx H1=>g x σ H1 D.nx
theorem ps_set {i:Nat}{x:Str}{e:Expr}{te:TE}{pos':Pos}(hN:X.N.Nodup)(hi:X.N[i]? = some x)(hx:Loc X.env.scope x)(he:PE X e te)(hs:autoParam (swapsWith e (some (.Name x pos')) pos.line X.env=pure false) aR._auto_1)(hf:X.fn x=true\/X.env.scope.names.lookup x=some .local:=by first | exact .inl rfl | exact .inr rfl | assumption) :
  PS X (.Assign [.Name x pos'] e pos) (tAsg te (gName i)):=by
 intro pins s σ H D I h
 refine wpAny_Assign_Name (thn (he pins s σ H _ I h) λv s1 ⟨y,H1,I1,r1,q1⟩=>?_) hs
 exact store_ok I1 hN hi hx r1 (λs2 I2=>⟨_,H1,I2,q1⟩) hf
end
section
variable {X:Cx}{pos:Pos}
def tWhile (c:TT)(tb:TS):TS:=λD σ H=>∃ W:Nat->St->Hp->Prop,(∃ m,W m σ H)/\∀ m σ H,W m σ H ->
 c σ H λb H1=>if b=true then ∃ N:St->Hp->Prop,(∀ σ' H',N σ' H'->∃ m',m'<m/\W m' σ' H')/\tb { D with nx:=N,ct:=N,bk:=D.nx } σ H1 else D.nx σ H1
theorem ps_while {c:Expr}{body:List Stmt}{tc:TT}{tb:TS}(hp:PassesOwn (model X.prog X.w) X.A X.env X.xe)(hc:PT X c tc)(hb:PSs X body tb):PS X (.While c body [] pos) (tWhile tc tb):=by
 intro pins s σ H D I h
 obtain⟨W,⟨m0,w0⟩,turn⟩:=h
 refine wpAny_While (codeAny_whileLoop (λn s'=>∃ σ' H',Inv X pins σ' H' s'/\W n σ' H') ?_ m0 ⟨σ,H,I,w0⟩)
 rintro n s1 ⟨σ1,H1,I1,w1⟩
 refine wpAny_passesOwn hp (thn (hc pins s1 σ1 H1 _ I1 (turn n σ1 H1 w1)) λb s2 ⟨H2,I2,q2⟩=>?_)
 cases b with
 |true=>
  obtain⟨N,hN,q2⟩:=q2
  rw[if_pos rfl]
  refine wpAny_passesOwn hp (thn (hb pins s2 σ1 H2 _ I2 q2) λf s3 q3=>?_)
  cases f with
  |next=>
   obtain⟨σ3,H3,I3,n3⟩:=q3
   obtain⟨m',hm,w3⟩:=hN σ3 H3 n3
   exact⟨m',hm,σ3,H3,I3,w3⟩
  |cont=>
   obtain⟨σ3,H3,I3,n3⟩:=q3
   obtain⟨m',hm,w3⟩:=hN σ3 H3 n3
   exact⟨m',hm,σ3,H3,I3,w3⟩
  |brk=>exact q3
  |ret v=>exact q3
 |false=>
  rw[if_neg Bool.false_ne_true]
  exact wpAny_execs_nil ⟨σ1,H2,I2,q2⟩
end
structure It where
 go:Nat->Hp->Prop
 yld:Nat->Hp->V->Hp->Prop
 stop:Nat->Hp->Prop
def FpOk (X:Cx)(pins:List (Addr×Obj))(H:Hp)(b:Addr):Prop:=
 H b=none/\b≠X.env.locals/\b ∉ X.fs/\(b ∈ X.ex\/X.s₀.heap.objs.size<=b)/\(∀ x c,X.env.cells.lookup x=some c->c≠b)/\∀ p ∈ X.pn++pins,p.1≠b
theorem Inv.fpOk {X:Cx}{pins:List (Addr×Obj)}{σ:St}{H H':Hp}{s:Shared}{b:Addr}(I:Inv X pins σ H s)(hb:s.heap.objs.size<=b)(hn:H' b=none):FpOk X pins H' b:=by
 refine⟨hn,Nat.ne_of_gt (Nat.lt_of_lt_of_le I.lt hb),I.nofs hb,.inr (Nat.le_trans I.sz hb),λx c e z=>?_,λp hp z=>?_⟩
 ·obtain⟨v,q⟩:=I.cell x c e
  exact absurd (Nat.lt_of_lt_of_le q.lt (by rw[z];exact hb)) (Nat.lt_irrefl _)
 ·exact absurd (Nat.lt_of_lt_of_le (Heap.lt_size (I.pin p hp).1) (by rw[z];exact hb)) (Nat.lt_irrefl _)
structure Turn (P:Program)(w:World)(K:PySem.W.Frag)(tg:Expr)(J:It)(fp:List Addr)(it:Addr)(tn:Nat->Heap->Prop):Prop where
 mem:it ∈ fp
 obj:∀ i h,tn i h->∀ b ∈ fp,∃ o,h.get? b=some o/\∀ v,o.data≠.cell v
 keep:∀ i h h',tn i h->(∀ b ∈ fp,∀ o,h.get? b=some o->h'.get? b=some o)->tn i h'
 item:∀ (X:Cx),X.prog=P->X.w=w->X.K=K->X.calm=true->∀ (i:Nat)(pins:List (Addr×Obj))(s:Shared)(σ:St)(H:Hp)(E:Value->Shared->Prop),Inv X pins σ H s->(∀ b ∈ fp,FpOk X pins H b)->tn i s.heap->J.go i H ->
  wpAny (model P w) X.A (pyNext (.ref it)) (λr s1=>∃ u,r=some u ∧
   wpAny (model P w) X.A (letOwnedTupleGo tg (.ref it) u) (λ_ s2=>∃ x H',Inv X pins σ H' s2/\RelV x u/\J.yld i H x H'/\tn (i+1) s2.heap/\∀ b ∈ fp,H' b=none) E s1) E s
 done:∀ (X:Cx),X.prog=P->X.w=w->X.K=K->X.calm=true->∀ (i:Nat)(pins:List (Addr×Obj))(s:Shared)(σ:St)(H:Hp)(E:Value->Shared->Prop),Inv X pins σ H s->(∀ b ∈ fp,FpOk X pins H b)->tn i s.heap->J.stop i H ->
  wpAny (model P w) X.A (pyNext (.ref it)) (λr s1=>r=none/\Inv X pins σ H s1) E s
 self:∀ (A:Around) (i:Nat)(s:Shared)(Q:Value->Shared->Prop)(E:Value->Shared->Prop),tn i s.heap->Q (.ref it) s->wpAny (model P w) A (pyIter (.ref it)) Q E s
abbrev TI:=St->Hp->(It->Hp->Prop)->Prop
def PIE (X:Cx)(pins:List (Addr×Obj))(σ:St)(tg:Expr)(R:It->Hp->Prop) (itv:Value)(s2:Shared):Prop:=
 ∃ (it:Addr)(fp:List Addr)(tn:Nat->Heap->Prop)(J:It)(H':Hp),itv=.ref it/\Inv X pins σ H' s2/\Turn X.prog X.w X.K tg J fp it tn/\tn 0 s2.heap/\(∀ b ∈ fp,FpOk X pins H' b)/\R J H'
def PI (X:Cx)(tg iter:Expr)(wi:TI):Prop:=
 ∀ (pins:List (Addr×Obj))(s:Shared)(σ:St)(H:Hp)(R:It->Hp->Prop),Inv X pins σ H s->wi σ H R ->
  wpAny (model X.prog X.w) X.A (eval iter X.env) (λv s1=>wpAny (model X.prog X.w) X.A (pyIter v) (PIE X pins σ tg R) X.xe s1) X.xe s
theorem go_of {M:Model}{A:Around}{E:Value->Shared->Prop}{s:Shared}{tg:Expr}{it:Addr}{u:Value}{o:Obj}{n:String}{vs:Array Value}{Q:Unit->Shared->Prop}(ho:s.heap.get? it=some o)(hc:o.cls=.type n)(hd:o.data=.fields vs)
  (hn:["enumerate","zip","dict_itemiterator","dict_reverseitemiterator","odict_iterator","itertools.zip_longest","itertools.pairwise"].contains n=false)(hQ:Q () s):wpAny M A (letOwnedTupleGo tg (.ref it) u) Q E s:=by
 unfold letOwnedTupleGo
 cases tg<;>first
  |exact wpAny_pure hQ
  |(cases u<;>first
    |exact wpAny_pure hQ
    |(refine wpAny_bind (wpAny_load ho ?_)
      rw[hc,hd]
      show wpAny M A (if (["enumerate","zip","dict_itemiterator","dict_reverseitemiterator","odict_iterator","itertools.zip_longest","itertools.pairwise"].contains n && vs[0]? == some (rawInt _))=true then _ else _) Q E s
      rw[if_neg (by intro h;rw[hn,Bool.false_and]at h;cases h)]
      exact wpAny_pure hQ))
def Itl (K:PySem.W.Frag)(a:Addr):It:=
 ⟨λi H=>∃ xs x,SqL K H a xs/\xs[i]? = some x,λi H x H'=>H'=H/\∀ xs,SqL K H a xs->xs[i]? = some x,λi H=>∃ xs,SqL K H a xs/\xs.length<=i⟩
def Itt (K:PySem.W.Frag)(a:Addr):It:=
 ⟨λi H=>∃ xs x,SqT K H a xs/\xs[i]? = some x,λi H x H'=>H'=H/\∀ xs,SqT K H a xs->xs[i]? = some x,λi H=>∃ xs,SqT K H a xs/\xs.length<=i⟩
def Itr (lo:Int) (n:Nat):It:=⟨λi _=>i<n,λi H x H'=>H'=H/\x=.int (lo+i),λi _=>n<=i⟩
theorem turn_list {P:Program}{w:World}{K:PySem.W.Frag}{tg:Expr}(a it:Addr):Turn P w K tg (Itl K a) [it] it (λi h=>h.IsListIter it a i) where
 mem:=by simp
 obj:=λi h st b hb=>by
  have e:b=it:=by simpa using hb
  subst e
  obtain⟨o,e,c,d⟩:=st
  exact⟨o,e,λv z=>by rw[d]at z;cases z⟩
 keep:=λi h h' st k=>st.at λo e=>k it (by simp) o e
 item:=by
  intro X hP hw hK hc i pins s σ H E I hf st hg
  subst hP hw hK
  obtain⟨xs,x,hq,hx⟩:=hg
  obtain⟨its,rv,p,hz⟩:=I.list hq
  obtain⟨u,hu,ru⟩:=rv.get hx
  obtain⟨f0,f1,f2,f3,f4,f5⟩:=hf it (by simp)
  refine wpAny_pyNext_list_item st p.isList (x:=u) (by simpa using hu) λh' st' sb=>?_
  have I1:Inv X pins σ H { s with heap:=h' }:=I.turned (t':=s.toks) (λb o hb e=>(sb.2 b hb).trans e) f0 f1 f3 f4 f5
  obtain⟨o,e,c,d⟩:=id st'
  exact⟨u,rfl,go_of (s:={ s with heap:=h' }) e c d (by decide) ⟨x,H,I1,ru,⟨rfl,λys hy=>by rw[I.list_inj hy hq];exact hx⟩,st',λb hb=>(hf b hb).1⟩⟩
 done:=by
  intro X hP hw hK hc i pins s σ H E I hf st hg
  subst hP hw hK
  obtain⟨xs,hq,hx⟩:=hg
  obtain⟨its,rv,p,hz⟩:=I.list hq
  obtain⟨f0,f1,f2,f3,f4,f5⟩:=hf it (by simp)
  have hl:=rv.length
  exact wpAny_pyNext_list_end (I.ok.hd hc) st p.isList (by simp;omega) λh' eb=>⟨rfl,I.turned (t':=s.toks) (λb o hb e=>eb b o hb e) f0 f1 f3 f4 f5⟩
 self:=λ_ _ _ _ _ st h=>wpAny_pyIter_listiter st h
theorem turn_tuple {P:Program}{w:World}{K:PySem.W.Frag}{tg:Expr}(a it:Addr):Turn P w K tg (Itt K a) [it] it (λi h=>h.IsTupleIter it a i) where
 mem:=by simp
 obj:=λi h st b hb=>by
  have e:b=it:=by simpa using hb
  subst e
  obtain⟨o,e,c,d⟩:=st
  exact⟨o,e,λv z=>by rw[d]at z;cases z⟩
 keep:=λi h h' st k=>st.at λo e=>k it (by simp) o e
 item:=by
  intro X hP hw hK hc i pins s σ H E I hf st hg
  subst hP hw hK
  obtain⟨xs,x,hq,hx⟩:=hg
  obtain⟨its,rv,p,hz⟩:=I.tuple hq
  obtain⟨u,hu,ru⟩:=rv.get hx
  obtain⟨f0,f1,f2,f3,f4,f5⟩:=hf it (by simp)
  refine wpAny_pyNext_tuple_item st (show s.heap.IsTuple a its.toArray from p) (x:=u) (by simpa using hu) λh' st' sb=>?_
  have I1:Inv X pins σ H { s with heap:=h' }:=I.turned (t':=s.toks) (λb o hb e=>(sb.2 b hb).trans e) f0 f1 f3 f4 f5
  obtain⟨o,e,c,d⟩:=id st'
  exact⟨u,rfl,go_of (s:={ s with heap:=h' }) e c d (by decide) ⟨x,H,I1,ru,⟨rfl,λys hy=>by rw[I.tuple_inj hy hq];exact hx⟩,st',λb hb=>(hf b hb).1⟩⟩
 done:=by
  intro X hP hw hK hc i pins s σ H E I hf st hg
  subst hP hw hK
  obtain⟨xs,hq,hx⟩:=hg
  obtain⟨its,rv,p,hz⟩:=I.tuple hq
  obtain⟨f0,f1,f2,f3,f4,f5⟩:=hf it (by simp)
  have hl:=rv.length
  exact wpAny_pyNext_tuple_end (I.ok.hd hc) st (show s.heap.IsTuple a its.toArray from p) (by simp;omega) λh' eb=>⟨rfl,I.turned (t':=s.toks) (λb o hb e=>eb b o hb e) f0 f1 f3 f4 f5⟩
 self:=λ_ _ _ _ _ st h=>wpAny_pyIter_tupleiter st h
theorem turn_range {P:Program}{w:World}{K:PySem.W.Frag}{tg:Expr}(it:Addr) (lo:Int) (n:Nat):Turn P w K tg (Itr lo n) [it] it (λi h=>IsRangeIter h it (lo+(i:Nat) * 1) ((n:Int) - (i:Nat)) 1) where
 mem:=by simp
 obj:=λi h st b hb=>by
  have e:b=it:=by simpa using hb
  subst e
  exact⟨_,st,λv z=>by
   have z':Data.fields _=Data.cell v:=z
   cases z'⟩
 keep:=λi h h' st k=>k it (by simp) _ st
 item:=by
  intro X hP hw hK hc i pins s σ H E I hf st hg
  subst hP hw hK
  obtain⟨f0,f1,f2,f3,f4,f5⟩:=hf it (by simp)
  have W:=Walks.range (prog:=X.prog) (w:=X.w) (I.ok.hd hc) it lo 1 n
  refine W.item i s _ _ hg st λv h' tk hv st' kk=>?_
  obtain⟨t,rfl⟩:=hv
  have I1:Inv X pins σ H { s with heap:=h',toks:=tk }:=I.turned (λb o hb e=>kk b o (by simpa using hb) e) f0 f1 f3 f4 f5
  refine⟨_,rfl,go_of (s:={ s with heap:=h',toks:=tk }) (n:="range_iterator") st' rfl rfl (by decide) ⟨.int (lo+i),H,I1,⟨t,?_⟩,⟨rfl,rfl⟩,st',λb hb=>(hf b hb).1⟩⟩
  rw[Int.mul_one]
 done:=by
  intro X hP hw hK hc i pins s σ H E I hf st hg
  subst hP hw hK
  obtain⟨f0,f1,f2,f3,f4,f5⟩:=hf it (by simp)
  exact wpAny_pyNext_range_end (I.ok.hd hc) st (by have:n<=i:=hg;omega) λh' eb=>⟨rfl,I.turned (t':=s.toks) (λb o hb e=>eb b o hb e) f0 f1 f3 f4 f5⟩
 self:=λ_ _ _ _ _ st h=>wpAny_pyIter_rangeiter st h
end L2
namespace L2
open PySem PySem.Spec PyProof.Rows
section
variable {X:Cx}{tg:Expr}
def iList (K:PySem.W.Frag)(tl:TE):TI:=λσ H R=>tl σ H λx H1=>∃ a,x=.ref a/\(∃ xs,SqL K H1 a xs)/\R (Itl K a) H1
def iTup (K:PySem.W.Frag)(tl:TE):TI:=λσ H R=>tl σ H λx H1=>∃ a,x=.ref a/\(∃ xs,SqT K H1 a xs)/\R (Itt K a) H1
theorem pi_list {l:Expr}{tl:TE}(hl:PE X l tl):PI X tg l (iList X.K tl):=by
 intro pins s σ H R I h
 refine thn (hl pins s σ H _ I h) λv s1 ⟨x,H1,I1,r1,q1⟩=>?_
 obtain⟨a,e,⟨xs,hq⟩,q⟩:=q1
 subst e
 cases r1
 obtain⟨its,rv,p,hz⟩:=I1.list hq
 refine wpAny_pyIter_list p.isList ?_
 refine⟨s1.heap.objs.size,[s1.heap.objs.size],_,_,H1,rfl,I1.kept (t':=s1.toks) λb o e=>Heap.get?_push_of_some _ e,turn_list a _,⟨_,Heap.get?_push_size _ rfl,rfl,rfl⟩,λb hb=>?_,q⟩
 have e:b=s1.heap.objs.size:=by simpa using hb
 subst e
 exact I1.fpOk (Nat.le_refl _) (I1.hok.fresh (Nat.le_refl _))
theorem pi_tup {l:Expr}{tl:TE}(hl:PE X l tl):PI X tg l (iTup X.K tl):=by
 intro pins s σ H R I h
 refine thn (hl pins s σ H _ I h) λv s1 ⟨x,H1,I1,r1,q1⟩=>?_
 obtain⟨a,e,⟨xs,hq⟩,q⟩:=q1
 subst e
 cases r1
 obtain⟨its,rv,p,hz⟩:=I1.tuple hq
 refine wpAny_pyIter_tuple (show s1.heap.IsTuple a its.toArray from p) ?_
 refine⟨s1.heap.objs.size,[s1.heap.objs.size],_,_,H1,rfl,I1.kept (t':=s1.toks) λb o e=>Heap.get?_push_of_some _ e,turn_tuple a _,⟨_,Heap.get?_push_size _ rfl,rfl,rfl⟩,λb hb=>?_,q⟩
 have e:b=s1.heap.objs.size:=by simpa using hb
 subst e
 exact I1.fpOk (Nat.le_refl _) (I1.hok.fresh (Nat.le_refl _))
theorem range_it {pins:List (Addr×Obj)}{σ:St}{H:Hp}{s:Shared}{R:It->Hp->Prop}{E:Value->Shared->Prop}{lo hi:Int}{t u v:Tok}{tk:Nat}(I:Inv X pins σ H s) (h1 : -(2 ^ 62)<=lo)(h2:lo<2 ^ 62) (h3 : -(2 ^ 62)<=hi)(h4:hi<2 ^ 62)
  (q:R (Itr lo (hi - lo).toNat) H):wpAny (model X.prog X.w) X.A (pyIter (.ref s.heap.objs.size)) (PIE X pins σ tg R) E { s with heap:=s.heap.push { cls:=.type "range",data:=.fields #[.int lo t,.int hi u,.int 1 v] },toks:=tk }:=by
 refine wpAny_pyIter_range (IsRange.new ..) (small_one h1 h2 h3 h4) ?_
 have I1:Inv X pins σ H { s with heap:=s.heap.push { cls:=.type "range",data:=.fields #[.int lo t,.int hi u,.int 1 v] },toks:=tk }:=I.kept λb o e=>Heap.get?_push_of_some _ e
 refine⟨(s.heap.push { cls:=.type "range",data:=.fields #[.int lo t,.int hi u,.int 1 v] }).objs.size,[(s.heap.push { cls:=.type "range",data:=.fields #[.int lo t,.int hi u,.int 1 v] }).objs.size],_,_,H,rfl,
  I1.kept (t':=tk) λb o e=>Heap.get?_push_of_some _ e,turn_range _ lo (hi - lo).toNat,?_,λb hb=>?_,q⟩
 ·have e1:lo+((0:Nat):Int) * 1=lo:=by simp
  have e2:(((hi - lo).toNat:Nat):Int) - ((0:Nat):Int)=Builtin.Range.rangeSize lo hi 1:=by rw[rangeSize_one];split<;>omega
  show IsRangeIter _ _ (lo+((0:Nat):Int) * 1) ((((hi - lo).toNat:Nat):Int) - ((0:Nat):Int)) 1
  rw[e1,e2]
  exact Heap.get?_push_size _ rfl
 ·have e:b=(s.heap.push { cls:=.type "range",data:=.fields #[.int lo t,.int hi u,.int 1 v] }).objs.size:=by simpa using hb
  subst e
  exact I1.fpOk (Nat.le_refl _) (I1.hok.fresh (Nat.le_refl _))
def iRng1 (ta:TA):TI:=λσ H R=>ta σ H λvs H1=>∃ j:Int,vs=[.int j]/\-(2 ^ 62)<=j/\j<2 ^ 62/\R (Itr 0 j.toNat) H1
theorem pi_range1 {a:Expr}{ta:TA}{p pos:Pos}(hg:Gl X "range")(hm:X.mg "range" = none)(ha:PA X [a] ta)(hs:autoParam (starEach [a] X.env=[(false,eval a X.env)]) aR._auto_1):PI X tg (.Call (.Name "range" p) [a] [] pos) (iRng1 ta):=by
 intro pins s σ H R I h
 refine Call_ (ld_blt I hg hm boot_range (PyProof.Rows.callWith_type1 (thn (ha pos pins s σ H _ I h) λus s1 ⟨vs,H1,I1,r1,q1⟩=>?_) hs rfl))
 obtain⟨j,e,q1,q2,q⟩:=q1
 subst e
 cases r1 with
 |cons r rr=>
  cases rr
  obtain⟨t,rfl⟩:=r
  exact call_range_1 (range_it I1 (by omega) (by omega) q1 q2 (by simpa using q))
def tFor (wi:TI)(g:TG)(tb:TS):TS:=λD σ H=>wi σ H λJ H1=>∃ W:Nat->Nat->St->Hp->Prop,(∃ m,W 0 m σ H1)/\∀ i m σ H,W i m σ H ->
 (J.stop i H/\D.nx σ H)\/(J.go i H/\∃ N:St->Hp->Prop,(∀ σ' H',N σ' H'->∃ m',m'<m/\W (i+1) m' σ' H')/\∀ x H',J.yld i H x H'->g x σ H' λσ2 H2=>tb { D with nx:=N,ct:=N,bk:=D.nx } σ2 H2)
def pinsAt (fp:List Addr)(h:Heap):List (Addr×Obj):=fp.filterMap λb=>(h.get? b).map λo=>(b,o)
theorem mem_pinsAt {fp:List Addr}{h:Heap}{b:Addr}{o:Obj}(hb:b ∈ fp)(e:h.get? b=some o):(b,o) ∈ pinsAt fp h:=List.mem_filterMap.mpr ⟨b,hb,by rw[e];rfl⟩
theorem of_pinsAt {fp:List Addr}{h:Heap}{p:Addr×Obj}(hp:p ∈ pinsAt fp h):p.1 ∈ fp/\h.get? p.1=some p.2:=by
 obtain⟨b,hb,e⟩:=List.mem_filterMap.mp hp
 cases q:h.get? b with
 |none=>rw[q]at e;cases e
 |some o=>
  rw[q]at e
  have e':(b,o)=p:=Option.some.inj e
  subst e'
  exact⟨hb,q⟩
theorem Inv.pinned {pins:List (Addr×Obj)}{σ:St}{H:Hp}{s:Shared}{fp:List Addr}(I:Inv X pins σ H s)(hf:∀ b ∈ fp,FpOk X pins H b)(ho:∀ b ∈ fp,∃ o,s.heap.get? b=some o/\∀ v,o.data≠.cell v):Inv X (pins++pinsAt fp s.heap) σ H s:=
 I.pins_of λp hp=>(List.mem_append.mp hp).elim (λz=>I.pin p (List.mem_append_right _ z)) λz=>by
  obtain⟨hb,e⟩:=of_pinsAt z
  obtain⟨f0,f1,f2,_⟩:=hf p.1 hb
  obtain⟨o,e',d⟩:=ho p.1 hb
  rw[e]at e';cases e'
  exact⟨e,f0,f1,f2,d⟩
theorem Inv.unpinned {pins pl:List (Addr×Obj)}{σ:St}{H:Hp}{s:Shared}(I:Inv X (pins++pl) σ H s):Inv X pins σ H s:=I.pins_of λp hp=>I.pin p (List.mem_append_right _ (List.mem_append_left _ hp))
theorem ps_for {iter:Expr}{body:List Stmt}{wi:TI}{g:TG}{tb:TS}{pos:Pos}(hp:PassesOwn (model X.prog X.w) X.A X.env X.xe)(hc:X.calm=true)(hi:PI X tg iter wi)(hg:PG X tg g)(hb:PSs X body tb)
  (hs:∀ x,foldedSetIterable iter X.env x=pure x:=by intro _;rfl):PS X (.For tg iter body [] pos) (tFor wi g tb):=by
 intro pins s σ H D I h
 refine wpAny_For (thn (hi pins s σ H _ I h) λv s1 h1=>thn h1 λitv s2 h2=>?_) hs
 obtain⟨it,fp,tn,J,H2,e,I2,T,st2,f2,W,⟨m0,w0⟩,turn⟩:=h2
 subst e
 -- what stays true of the iterator's objects through the loop
 have stat:∀ {H':Hp},(∀ b ∈ fp,H' b=none)->∀ b ∈ fp,FpOk X pins H' b:=λhn b hb=>⟨hn b hb,(f2 b hb).2⟩
 refine codeAny_forLoop_any (λn s'=>∃ i σ' H',Inv X pins σ' H' s'/\tn i s'.heap/\(∀ b ∈ fp,H' b=none)/\W i n σ' H') ?_ m0 ⟨0,σ,H2,I2,st2,λb hb=>(f2 b hb).1,w0⟩
 rintro n s3 ⟨i,σ3,H3,I3,st3,fr3,w3⟩
 rcases turn i n σ3 H3 w3 with ⟨stop,qn⟩ | ⟨go,N,hN,step⟩
 ·refine wpAny_passesOwn hp (thn (T.done X rfl rfl rfl hc i pins s3 σ3 H3 X.xe I3 (stat fr3) st3 stop) λr s4 ⟨hr,I4⟩=>?_)
  subst hr
  exact wpAny_execs_nil ⟨σ3,H3,I4,qn⟩
 ·refine wpAny_passesOwn hp (thn (T.item X rfl rfl rfl hc i pins s3 σ3 H3 X.xe I3 (stat fr3) st3 go) λr s4 ⟨u,hr,h4⟩=>?_)
  subst hr
  refine wpAny_passesOwn hp (thn h4 λ_ s5 ⟨x,H5,I5,r5,y5,st5,fr5⟩=>?_)
  have I5':=I5.pinned (stat fr5) (T.obj _ _ st5)
  refine wpAny_passesOwn hp (thn (hg _ s5 σ3 H5 x u _ I5' r5 (step x H5 y5)) λ_ s6 ⟨σ6,H6,I6,q6⟩=>?_)
  refine wpAny_passesOwn hp (thn (hb _ s6 σ6 H6 _ I6 q6) λf s7 q7=>?_)
  have again:∀ {σ7:St}{H7:Hp},Inv X (pins++pinsAt fp s5.heap) σ7 H7 s7->N σ7 H7->∃ m,m<n/\∃ i σ' H',Inv X pins σ' H' s7/\tn i s7.heap/\(∀ b ∈ fp,H' b=none)/\W i m σ' H':=fun {σ7 H7} I7 n7=>by
   obtain⟨m',hm,w7⟩:=hN σ7 H7 n7
   refine⟨m',hm,i+1,σ7,H7,I7.unpinned,T.keep _ _ _ st5 λb hb o e=>(I7.pin (b,o) (List.mem_append_right _ (List.mem_append_right _ (mem_pinsAt hb e)))).1,λb hb=>?_,w7⟩
   obtain⟨o,e,d⟩:=T.obj _ _ st5 b hb
   exact (I7.pin (b,o) (List.mem_append_right _ (List.mem_append_right _ (mem_pinsAt hb e)))).2.1
  cases f with
  |next=>obtain⟨σ7,H7,I7,n7⟩:=q7;exact again I7 n7
  |cont=>obtain⟨σ7,H7,I7,n7⟩:=q7;exact again I7 n7
  |brk=>obtain⟨σ7,H7,I7,q7⟩:=q7;exact⟨σ7,H7,I7.unpinned,q7⟩
  |ret v=>obtain⟨x7,σ7,H7,I7,r7,q7⟩:=q7;exact⟨x7,σ7,H7,I7.unpinned,r7,q7⟩
end
end L2
namespace L2
open PySem PySem.Spec PyProof.Rows
abbrev R2:=V->V->Hp->VK->Prop
def OpR (X:Cx)(f:Value->Value->Sem Value)(r:R2):Prop:=
 ∀ (pins:List (Addr×Obj))(s:Shared)(σ:St)(H:Hp)(x y:V) (v u:Value)(Q:VK),Inv X pins σ H s->RelV x v->RelV y u->r x y H Q ->
  wpAny (model X.prog X.w) X.A (f v u) (EP X pins σ Q) X.xe s
def CallR (X:Cx) (f:Value)(r:List V->Hp->VK->Prop):Prop:=
 ∀ (pins:List (Addr×Obj))(s:Shared)(σ:St)(H:Hp)(xs:List V)(us:List Value)(Q:VK),Inv X pins σ H s->Vals xs us->r xs H Q ->
  wpAny (model X.prog X.w) X.A (call f us) (EP X pins σ Q) X.xe s
def TruR (X:Cx)(r:V->Hp->(Bool->Hp->Prop)->Prop):Prop:=
 ∀ (pins:List (Addr×Obj))(s:Shared)(σ:St)(H:Hp)(x:V) (v:Value)(Q:Bool->Hp->Prop),Inv X pins σ H s->RelV x v->r x H Q ->
  wpAny (model X.prog X.w) X.A (truthy v) (TP X pins σ Q) X.xe s
def tOp (r:R2)(ta tb:TE):TE:=λσ H Q=>ta σ H λx H1=>tb σ H1 λy H2=>r x y H2 Q
def rI (C:Int->Int->Prop)(g:Int->Int->V):R2:=λx y H Q=>∃ i j,x=.int i/\y=.int j/\C i j/\Q (g i j) H
def rI0 (g:Int->Int->V):R2:=λx y H Q=>∃ i j,x=.int i/\y=.int j/\Q (g i j) H
section
variable {X:Cx}{a b c:Expr}{ta tb tc:TE}{pos:Pos}
theorem binT (ha:PE X a ta)(hb:PE X b tb){pins:List (Addr×Obj)}{s:Shared}{σ:St}{H:Hp}{R:V->V->Hp->Prop}(I:Inv X pins σ H s)
  (h:ta σ H λx H1=>tb σ H1 λy H2=>R x y H2){Q:Value->Shared->Prop}{f:Value->Value->Sem Value}
  (hf:∀ v u s2 x y H2,Inv X pins σ H2 s2->RelV x v->RelV y u->R x y H2->wpAny (model X.prog X.w) X.A (f v u) Q X.xe s2) :
  wpAny (model X.prog X.w) X.A (eval a X.env) (λv s₁=>wpAny (model X.prog X.w) X.A (eval b X.env) (λu s₂=>wpAny (model X.prog X.w) X.A (f v u) Q X.xe s₂) X.xe s₁) X.xe s:=by
 refine thn (ha pins s σ H _ I h) λv s1 ⟨x,H1,I1,r1,q1⟩=>?_
 refine thn (hb pins s1 σ H1 _ I1 q1) λu s2 ⟨y,H2,I2,r2,q2⟩=>?_
 exact hf v u s2 x y H2 I2 r1 r2 q2
theorem pe_op {op:Operator}{r:R2}(ho:OpR X (binaryOp op) r)(ha:PE X a ta)(hb:PE X b tb):PE X (.BinOp a op b pos) (tOp r ta tb):=by
 intro pins s σ H Q I h
 exact wpAny_BinOp (binT ha hb I h λv u s2 x y H2 I2 rx ry q=>ho pins s2 σ H2 x y v u Q I2 rx ry q)
theorem opI {f:Value->Value->Sem Value}{C:Int->Int->Prop}{g:Int->Int->Int}
  (rule:∀ (i j:Int)(t u:Tok)(s:Shared)(Q:Value->Shared->Prop)(E:Value->Shared->Prop),C i j->Q (.int (g i j) s.toks) { s with toks:=s.toks+1 }->wpAny (model X.prog X.w) X.A (f (.int i t) (.int j u)) Q E s) :
  OpR X f (rI C λi j=>.int (g i j)):=by
 intro pins s σ H x y v u Q I rx ry h
 obtain⟨i,j,rfl,rfl,hc,q⟩:=h
 obtain⟨t,rfl⟩:=rx
 obtain⟨t',rfl⟩:=ry
 exact rule i j t t' s _ _ hc ⟨.int (g i j),H,I.tok _,⟨_,rfl⟩,q⟩
theorem opI0 {f:Value->Value->Sem Value}{g:Int->Int->Int}
  (rule:∀ (i j:Int)(t u:Tok)(s:Shared)(Q:Value->Shared->Prop)(E:Value->Shared->Prop),Q (.int (g i j) s.toks) { s with toks:=s.toks+1 }->wpAny (model X.prog X.w) X.A (f (.int i t) (.int j u)) Q E s) :
  OpR X f (rI0 λi j=>.int (g i j)):=by
 intro pins s σ H x y v u Q I rx ry h
 obtain⟨i,j,rfl,rfl,q⟩:=h
 obtain⟨t,rfl⟩:=rx
 obtain⟨t',rfl⟩:=ry
 exact rule i j t t' s _ _ ⟨.int (g i j),H,I.tok _,⟨_,rfl⟩,q⟩
theorem opB0 {f:Value->Value->Sem Value}{g:Int->Int->Bool}
  (rule:∀ (i j:Int)(t u:Tok)(s:Shared)(Q:Value->Shared->Prop)(E:Value->Shared->Prop),Q (.bool (g i j)) s->wpAny (model X.prog X.w) X.A (f (.int i t) (.int j u)) Q E s) :
  OpR X f (rI0 λi j=>.bl (g i j)):=by
 intro pins s σ H x y v u Q I rx ry h
 obtain⟨i,j,rfl,rfl,q⟩:=h
 obtain⟨t,rfl⟩:=rx
 obtain⟨t',rfl⟩:=ry
 exact rule i j t t' s _ _ ⟨.bl (g i j),H,I,rfl,q⟩
def CDiv (i j:Int):Prop:=0<j/\j<1073741824
def CMul (i j:Int):Prop:=(-(2 ^ 64)<i/\i<2 ^ 64)\/(-(2 ^ 64)<j/\j<2 ^ 64)
theorem CMul.ok {i j:Int}(h:CMul i j):IntMulOk i j:=by
 rcases h with ⟨h1,h2⟩ | ⟨h1,h2⟩
 ·exact .of_left (intBits_le_64 h1 h2)
 ·exact .of_right (intBits_le_64 h1 h2)
theorem op_add:OpR X (binaryOp .Add) (rI0 λi j=>.int (i+j)):=opI0 λ_ _ _ _ _ _ _ q=>add_int q
theorem op_sub:OpR X (binaryOp .Sub) (rI0 λi j=>.int (i - j)):=opI0 λ_ _ _ _ _ _ _ q=>sub_int q
theorem op_mul:OpR X (binaryOp .Mult) (rI CMul λi j=>.int (i * j)):=opI λ_ _ _ _ _ _ _ hc q=>mul_int q hc.ok
theorem op_fdiv:OpR X (binaryOp .FloorDiv) (rI CDiv λi j=>.int (i / j)):=opI λi j _ _ _ _ _ hc q=>by
 have h1:(0:Int)<j:=hc.1
 have h2:j<1073741824:=hc.2
 exact floordiv_int (by omega) (by rw[Int.fdiv_eq_ediv_of_nonneg i (by omega)];exact q) (.inl (PyProof.noPylong_small (by omega)))
theorem op_mod:OpR X (binaryOp .Mod) (rI (λ_ j=>0<j) λi j=>.int (i % j)):=opI λi j _ _ _ _ _ hc q=>by
 have h1:(0:Int)<j:=hc
 exact mod_int' (by omega) (by rw[Int.fmod_eq_emod_of_nonneg i (by omega)];exact q)
end
section
variable {X:Cx}{a b c:Expr}{ta tb tc:TE}{pos:Pos}
theorem fin_bl {pins:List (Addr×Obj)}{σ:St}{H:Hp}{s:Shared}{Q:VK}{k k':Bool}(I:Inv X pins σ H s)(q:Q (.bl k) H)(e:k=k'):EP X pins σ Q (.bool k') s:=by
 subst e
 exact⟨.bl k,H,I,rfl,q⟩
theorem op_lt:OpR X (compareOp .Lt) (rI0 λi j=>.bl (decide (i<j))):=opB0 λ_ _ _ _ _ _ _ q=>lt_int q
theorem op_le:OpR X (compareOp .LtE) (rI0 λi j=>.bl (decide (i<=j))):=opB0 λ_ _ _ _ _ _ _ q=>le_int q
theorem op_gt:OpR X (compareOp .Gt) (rI0 λi j=>.bl (decide (j<i))):=opB0 λ_ _ _ _ _ _ _ q=>gt_int q
theorem op_ge:OpR X (compareOp .GtE) (rI0 λi j=>.bl (decide (j<=i))):=opB0 λ_ _ _ _ _ _ _ q=>ge_int q
theorem op_in_str:OpR X (compareOp .In) (λx y H Q=>∃ i j,x=.str i/\y=.str j/\Q (.bl (!(Builtin.Str.occurrences j i 0 j.length 1).isEmpty)) H):=by
 intro pins s σ H x y v u Q I rx ry h
 obtain⟨i,j,rfl,rfl,q⟩:=h
 obtain⟨t,rfl⟩:=rx
 obtain⟨t',rfl⟩:=ry
 exact in_str (fin_bl I q rfl)
theorem op_isN:OpR X (compareOp .Is) (λx y H Q=>y=.non/\Q (.bl (decide (x=.non))) H):=by
 intro pins s σ H x y v u Q I rx ry h
 obtain⟨rfl,q⟩:=h
 cases ry
 refine is_none_gen (fin_bl I q ?_)
 cases x<;>first
  |(cases rx;rfl)
  |(obtain⟨t,rfl⟩:=rx;rfl)
theorem op_notN:OpR X (compareOp .IsNot) (λx y H Q=>y=.non/\Q (.bl (!decide (x=.non))) H):=by
 intro pins s σ H x y v u Q I rx ry h
 obtain⟨rfl,q⟩:=h
 cases ry
 refine isnot_none_gen (fin_bl I q ?_)
 cases x<;>first
  |(cases rx;rfl)
  |(obtain⟨t,rfl⟩:=rx;rfl)
theorem OpR.or {f:Value->Value->Sem Value}{r r':R2}(h:OpR X f r)(h':OpR X f r'):OpR X f (λx y H Q=>r x y H Q\/r' x y H Q):=by
 intro pins s σ H x y v u Q I rx ry q
 rcases q with q | q
 ·exact h pins s σ H x y v u Q I rx ry q
 ·exact h' pins s σ H x y v u Q I rx ry q
theorem nomark (b:Expr){op:CmpOp}(h:autoParam (op≠.In) aD._auto_1)(h2:autoParam (op≠.NotIn) aD._auto_1):behindInMarks op b=false:=by
 have e1:(op == CmpOp.In)=false:=by cases op<;>first | rfl | exact absurd rfl h
 have e2:(op == CmpOp.NotIn)=false:=by cases op<;>first | rfl | exact absurd rfl h2
 cases b<;>simp[behindInMarks,e1,e2]
theorem pe_cmpR {op:CmpOp}{r:R2}(ho:OpR X (compareOp op) r)(ha:PE X a ta)(hb:PE X b tb)(hm:behindInMarks op b=false):PE X (.Compare a [op] [b] pos) (tOp r ta tb):=by
 intro pins s σ H Q I h
 exact wpAny_Compare1 (binT ha hb I h λv u s2 x y H2 I2 rx ry q=>ho pins s2 σ H2 x y v u Q I2 rx ry q) hm
def tTest (t:TE):TT:=λσ H Q=>t σ H λx H'=>∃ k,x=.bl k/\Q k H'
theorem pt_cmpR {op:CmpOp}{r:R2}(ho:OpR X (compareOp op) r)(ha:PE X a ta)(hb:PE X b tb)(hm:behindInMarks op b=false):PT X (.Compare a [op] [b] pos) (tTest (tOp r ta tb)):=by
 intro pins s σ H Q I h
 refine wpAny_isTrue_Compare1 (thn (ha pins s σ H _ I h) λv s1 ⟨x,H1,I1,r1,q1⟩=>thn (hb pins s1 σ H1 _ I1 q1) λu s2 ⟨y,H2,I2,r2,q2⟩=>
  thn (ho pins s2 σ H2 x y v u _ I2 r1 r2 q2) λc s3 ⟨z,H3,I3,r3,k,e,q3⟩=>?_) hm
 subst e
 cases r3
 exact wpAny_truthy_bool ⟨H3,I3,q3⟩
def TruV (K:PySem.W.Frag)(x:V)(H:Hp)(k:Bool):Prop:=
 match x with
 |.non=>k=false
 |.bl b=>k=b
 |.int i=>k=(i != 0)
 |.str y=>y.length<=sizeLine/\k=((y.length:Int) != 0)
 |.byt y=>y.size<=sizeLine/\k=((y.size:Int) != 0)
 |.ref p=>(∃ xs,SqL K H p xs/\k = !xs.isEmpty)\/(∃ xs,SqT K H p xs/\k = !xs.isEmpty)\/∃ kvs,H p=some (.dK kvs)/\k = !kvs.isEmpty
 |_=>False
theorem isEmpty_kv {κ:Type}{kvs:List (κ×V)}{vs:List (κ×Value)}(r:KV kvs vs):(!vs.isEmpty) = !kvs.isEmpty:=by
 cases r<;>rfl
theorem isEmpty_of {xs:List V}{its:List Value}(r:Vals xs its):(!its.toArray.isEmpty) = !xs.isEmpty:=by
 cases r<;>simp
theorem line63:(sizeLine:Nat)<2 ^ 63:=by rw[sizeLine_eq];decide
theorem tru_ok:TruR X (λx H Q=>∃ k,TruV X.K x H k/\Q k H):=by
 intro pins s σ H x v Q I rx h
 obtain⟨k,e,q⟩:=h
 have hl:=line63
 have hs:sizeLine=16777216:=sizeLine_eq
 cases x with
 |non=>
  cases rx
  have e':k=false:=e
  subst e'
  exact truthy_none ⟨H,I,q⟩
 |bl b=>
  cases rx
  have e':k=b:=e
  subst e'
  exact wpAny_truthy_bool ⟨H,I,q⟩
 |int i=>
  obtain⟨t,rfl⟩:=rx
  have e':k=(i != 0):=e
  subst e'
  exact PySem.P.truthy_int ⟨H,I,q⟩
 |str y=>
  obtain⟨t,rfl⟩:=rx
  obtain⟨hy,e'⟩ : y.length<=sizeLine/\k=((y.length:Int) != 0):=e
  subst e'
  exact PySem.P.truthy_str (by omega) ⟨H,I.tok _,q⟩
 |byt y=>
  obtain⟨t,rfl⟩:=rx
  obtain⟨hy,e'⟩ : y.size<=sizeLine/\k=((y.size:Int) != 0):=e
  subst e'
  exact PySem.W.truthy_bytes (by omega) ⟨H,I.tok _,q⟩
 |ref p=>
  cases rx
  have e':(∃ xs,SqL X.K H p xs/\k = !xs.isEmpty)\/(∃ xs,SqT X.K H p xs/\k = !xs.isEmpty)\/∃ kvs,H p=some (.dK kvs)/\k = !kvs.isEmpty:=e
  rcases e' with ⟨xs,hx,e'⟩ | ⟨xs,hx,e'⟩ | ⟨kvs,hx,e'⟩
  ·subst e'
   obtain⟨its,r,pl,hz⟩:=I.list hx
   have hlen:=r.length
   exact wpAny_truthy_list pl.isList (by simp only[List.size_toArray];omega) ⟨H,I.tok _,by rw[isEmpty_of r];exact q⟩
  ·subst e'
   obtain⟨its,r,pl,hz⟩:=I.tuple hx
   have hlen:=r.length
   exact truthy_tuple pl (by simp only[List.size_toArray];omega) ⟨H,I.tok _,by rw[isEmpty_of r];exact q⟩
  ·subst e'
   obtain⟨hz,hS,vs,r,m⟩ : kvs.length<=sizeLine/\(p == sysModules)=false/\∃ vs,KV kvs vs/\s.heap.DictOf (mixKind X.prog X.w) p vs:=I.hok p _ hx
   have hlen:kvs.length=vs.length:=Paired.length r
   exact wpAny_truthy_dict hS m (by omega) ⟨H,I.tok _,by rw[isEmpty_kv r];exact q⟩
 |_=>exact (show False from e).elim
theorem op_add_str:OpR X (binaryOp .Add) (λx y H Q=>∃ i j,x=.str i/\y=.str j/\i.length+j.length<=sizeLine/\Q (.str (i++j)) H):=by
 intro pins s σ H x y v u Q I rx ry h
 obtain⟨i,j,rfl,rfl,hz,q⟩:=h
 obtain⟨t,rfl⟩:=rx
 obtain⟨t',rfl⟩:=ry
 exact add_str (λt' tk=>⟨.str (i++j),H,I.tok _,⟨_,rfl⟩,q⟩) hz
theorem vals1 {x:V}{us:List Value}(r:Vals [x] us):∃ u,us=[u]/\RelV x u:=by
 cases r with
 |cons r1 r2=>cases r2;exact⟨_,rfl,r1⟩
theorem call_int1:CallR X (.type "int") (λxs H Q=>(∃ i,xs=[.int i]/\Q (.int i) H)\/∃ k,xs=[.bl k]/\Q (.int (if k then 1 else 0)) H):=by
 intro pins s σ H xs us Q I r h
 rcases h with ⟨i,rfl,q⟩ | ⟨k,rfl,q⟩
 ·obtain⟨u,rfl,t,rfl⟩:=vals1 r
  exact call_int_int ⟨.int i,H,I,⟨_,rfl⟩,q⟩
 ·obtain⟨u,rfl,r1⟩:=vals1 r
  cases r1
  exact call_int_bool ⟨.int (if k then 1 else 0),H,I.tok _,⟨_,rfl⟩,q⟩
theorem call_str_int:CallR X (.type "str") (λxs H Q=>∃ i,xs=[.int i]/\i.natAbs.log2<1920/\Q (.str (toString i)) H):=by
 intro pins s σ H xs us Q I r h
 obtain⟨i,rfl,hz,q⟩:=h
 obtain⟨u,rfl,t,rfl⟩:=vals1 r
 exact PySem.P.str_of_int hz ⟨.str _,H,I.tok _,⟨_,rfl⟩,q⟩
end
end L2
namespace L2
open PySem PySem.Spec PyProof.Rows
structure ObjM (h:Heap)(x dx C:Addr)(mA:Str->Option Value):Prop where
 obj:h.get? x=some (PySem.W.instObj C dx)
 ns:h.Ns1 dx mA
 ne:dx≠x
theorem lookIn_ns {h:Heap}{dx:Addr}{mA:Str->Option Value}(n:h.Ns1 dx mA):∃ od,h.get? dx=some od/\∀ name,PySem.W.lookIn name od=some (mA name):=by
 obtain⟨o,es,ep,ho,hd,hk,_,hm⟩:=n
 refine⟨o,ho,λname=>?_⟩
 have e:=hm name
 unfold nsFind findBy at e
 rw[<-Array.find?_toList]at e
 unfold PySem.W.lookIn
 rw[hd]
 dsimp only
 split
 ·rename_i y q
  rw[q]at e
  exact congrArg some e
 ·rename_i q
  rw[q]at e
  have a:es.toList.any (·.refKey)=false:=by
   rw[List.any_eq_false]
   intro y hy
   obtain⟨z,t,hkey⟩:=hk y (Array.mem_toList_iff.mp hy)
   simp[DictEntry.refKey,hkey]
  have a':¬ es.toList.any (·.refKey)=true:=by rw[a];exact Bool.false_ne_true
  rw[if_neg a']
  exact congrArg some e
theorem ObjM.look {h:Heap}{x dx C:Addr}{mA:Str->Option Value}(I:ObjM h x dx C mA):∃ od,PySem.W.InstAt h x (PySem.W.instObj C dx) C (some od)/\∀ name,PySem.W.lookIn name od=some (mA name):=
 let ⟨od,ho,hl⟩:=lookIn_ns I.ns
 ⟨od,⟨I.obj,rfl,rfl,ho⟩,hl⟩
section
variable {prog:Program}{w:World}{A:Around}{E:Value->Shared->Prop}{s:Shared}{K:PySem.W.Frag}{x dx C f:Addr}{mA:Str->Option Value}{name:Str}{v:Value}
end
section
variable {P:Program}{w:World}{H H':Hp}{h h':Heap}{a C dx:Addr}{fs fs':List (Str×V)}
theorem ins_get (hok:HOk P w H h)(e:H a=some (.ins C dx fs)):∃ mA,ObjM h a dx C mA/\(∀ f,RelO (fs.lookup f) (mA f))/\PySem.Within mA (fs.map (·.1))/\fs.length<=1000/\H dx=some (.own a):=by
 obtain⟨d,z,ne,ob,mA,n,r,q⟩:=(show ObjOk P w H h a (.ins C dx fs) from hok a _ e)
 exact⟨mA,⟨ob,n,ne⟩,r,q,z,d⟩
end
structure Cls (K:PySem.W.Frag)(C:Addr):Prop where
 pg:PySem.W.plainGet K C Str.empty=true
 hd:PySem.W.hasDictIn K C=true
 po:PySem.W.plainOver K C=true
 sa:PySem.W.findIn K (.ref C) "__setattr__" = some (some (.builtin "object.__setattr__"))
theorem Cls.get {K:PySem.W.Frag}{C:Addr}(c:Cls K C) (f:Str):PySem.W.plainGet K C f=true:=c.pg
structure Con (K:PySem.W.Frag)(C:Addr) (f:Str)(v:V) (u:Value):Prop where
 at_:PySem.W.findIn K (.ref C) f=some (some u)
 rel:RelV v u
 get:PySem.W.specialIn K u "__get__" = some none
 cp:PySem.W.copiedNames.contains f=false
structure Meth (K:PySem.W.Frag)(C:Addr) (m:Str)(f:Addr):Prop where
 at_:PySem.W.findIn K (.ref C) m=some (some (.ref f))
 fn:PySem.W.isFn K (.ref f)=true
 kp:PySem.W.keepIn K (.ref f)=true
section
variable {X:Cx}{pins:List (Addr×Obj)}{σ:St}{H:Hp}{s:Shared}{a C dx:Addr}{fs:List (Str×V)}{f:Str}{v:V}{A:Around}{E:Value->Shared->Prop}
end
section
variable {X:Cx}{o e value:Expr}{f:Str}{pos pos' tpos:Pos}{ta tv:TE}
end
section
variable {X:Cx}{pins:List (Addr×Obj)}{σ:St}{H:Hp}{s:Shared}{A:Around}{E:Value->Shared->Prop}{Q:Value->Shared->Prop}{c:Value}{b:Bool}
inductive TyOf (K:PySem.W.Frag)(H:Hp):V->Value->Prop where
 |non:TyOf K H .non (.type "NoneType")
 |bl (x:Bool):TyOf K H (.bl x) (.type "bool")
 |int (i:Int):TyOf K H (.int i) (.type "int")
 |str (x:Str):TyOf K H (.str x) (.type "str")
 |flt (x:UInt64):TyOf K H (.flt x) (.type "float")
 |lst {a:Addr}{xs:List V}(e:H a=some (.lst xs)):TyOf K H (.ref a) (.type "list")
 |frz {a:Addr}{o:Obj}{xs:List V}(e:H a=some (.frz o (.lst xs))):TyOf K H (.ref a) (.type "list")
 |tup {a:Addr}{xs:List V}(e:H a=some (.tup xs)):TyOf K H (.ref a) (.type "tuple")
 |dK {a:Addr}{kvs:List (Key×V)}(e:H a=some (.dK kvs)):TyOf K H (.ref a) (.type "dict")
 |dT {a:Addr}{kvs:List (List Key×V)}(e:H a=some (.dT kvs)):TyOf K H (.ref a) (.type "dict")
 |ins {a C dx:Addr}{fs:List (Str×V)}(e:H a=some (.ins C dx fs))(cl:Cls K C)(ha:PySem.W.findIn K (.ref C) "__class__" = some (some (.builtin "object.__class__")))
   (hn:PySem.W.specialIn K (.builtin "object.__class__") "__get__" = some (some (.builtin "getset_descriptor.__get__")))(htk:PySem.W.takesIn K (.builtin "object.__class__")=some true)
   (hm:PySem.W.mroIn K C (.type "object")=some true):TyOf K H (.ref a) (.ref C)
theorem isinst_ok {x:V}{u t:Value}(I:Inv X pins σ H s)(rx:RelV x u)(ty:TyOf X.K H x t)(e:PySem.W.kitOne X.K t c=some b)(h:∀ tk,Q (.bool b) { s with toks:=tk }) :
  wpAny (model X.prog X.w) A (call (.builtin "isinstance") [u,c]) Q E s:=by
 cases ty with
 |non=>cases (show u=Value.none from rx);exact PySem.W.kia_one PySem.W.kitx_none I.kIn True.intro e (λz=>nomatch z) h
 |bl y=>cases (show u=Value.bool y from rx);exact PySem.W.kia_one PySem.W.kitx_bool I.kIn True.intro e (λz=>nomatch z) h
 |int i=>obtain⟨t,q⟩:=(show ∃ t,u=Value.int i t from rx);cases q;exact PySem.W.kia_one PySem.W.kitx_int I.kIn True.intro e (λz=>nomatch z) h
 |str y=>obtain⟨t,q⟩:=(show ∃ t,u=Value.str y t from rx);cases q;exact PySem.W.kia_one PySem.W.kitx_str I.kIn True.intro e (λz=>nomatch z) h
 |flt y=>obtain⟨t,q⟩:=(show ∃ t,u=Value.float y t from rx);cases q;exact PySem.W.kia_one PySem.W.kitx_float I.kIn True.intro e (λz=>nomatch z) h
 |@lst a xs ea=>
  cases (show u=Value.ref a from rx)
  obtain⟨_,_,n,_,h1⟩:=(show ObjOk X.prog X.w H s.heap a (.lst xs) from I.hok a _ ea)
  exact PySem.W.kia_one PySem.W.kitx_list I.kIn ⟨_,h1,rfl⟩ e (λz=>nomatch z) h
 |@frz a ob xs ea=>
  cases (show u=Value.ref a from rx)
  obtain⟨_,_,_,n,_,h1⟩:=(show ObjOk X.prog X.w H s.heap a (.frz ob (.lst xs)) from I.hok a _ ea)
  exact PySem.W.kia_one PySem.W.kitx_list I.kIn ⟨_,h1,rfl⟩ e (λz=>nomatch z) h
 |@tup a xs ea=>
  cases (show u=Value.ref a from rx)
  obtain⟨_,_,_,p⟩:=(show ObjOk X.prog X.w H s.heap a (.tup xs) from I.hok a _ ea)
  obtain⟨o,h1,h2,_⟩:=p
  exact PySem.W.kia_one PySem.W.kitx_tuple I.kIn ⟨o,h1,h2⟩ e (λz=>nomatch z) h
 |@dK a kvs ea=>
  cases (show u=Value.ref a from rx)
  obtain⟨_,_,vs,_,p⟩:=(show ObjOk X.prog X.w H s.heap a (.dK kvs) from I.hok a _ ea)
  obtain⟨o,es,ep,h1,h2,_⟩:=p
  exact PySem.W.kia_one PySem.W.kitx_dict I.kIn ⟨o,h1,h2.1⟩ e (λz=>nomatch z) h
 |@dT a kvs ea=>
  cases (show u=Value.ref a from rx)
  obtain⟨_,_,xs,_,o,es,ep,h1,h2,_⟩:=(show ObjOk X.prog X.w H s.heap a (.dT kvs) from I.hok a _ ea)
  exact PySem.W.kia_one PySem.W.kitx_dict I.kIn ⟨o,h1,h2.1⟩ e (λz=>nomatch z) h
 |@ins a C dx fs ea cl ha hn htk hm=>
  cases (show u=Value.ref a from rx)
  obtain⟨mA,O,_⟩:=ins_get I.hok ea
  obtain⟨od,J,_⟩:=O.look
  exact PySem.W.kia_one (PySem.W.kitx_own (cl.get _) cl.hd ha hn htk hm) I.kIn J e (λz=>nomatch z) h
end
end L2
namespace L2
open PySem PySem.Spec PyProof.Rows
structure Room (k:Nat)(A:Around):Prop where
 hd:A.handled=none
 dp:A.depth+3 * k+5<recursionLimit
 un:A.units+16 * k+200<cLine
theorem Room.mono {j k:Nat}{A:Around}(r:Room k A)(h:j<=k):Room j A:=⟨r.hd,by have:=r.dp;omega,by have:=r.un;omega⟩
theorem Room.deeper {k:Nat}{A:Around}(r:Room (k+1) A)(env:Env):Room k (A.deeper env):=
 ⟨r.hd,by have:=r.dp;show A.depth+1+3 * k+5<_;omega,by have:=r.un;show A.units+3+16 * k+200<_;omega⟩
theorem Room.depth {k:Nat}{A:Around}(r:Room k A):A.depth<recursionLimit:=by have:=r.dp;omega
theorem Room.units {k:Nat}{A:Around}(r:Room k A):A.units+64<cLine:=by have:=r.un;omega
def tNil:TA:=λ_ H Q=>Q [] H
def tCons (ta:TE)(tr:TA):TA:=λσ H Q=>ta σ H λx H1=>tr σ H1 λxs H2=>Q (x::xs) H2
section
variable {X:Cx}{e:Expr}{es:List Expr}{te:TE}{t:TA}{pos:Pos}
theorem pa_nil:PA X [] tNil:=λ_ _ _ _ H Q I h=>Calls.spliced_nil ⟨[],H,I,.nil,h⟩
theorem pa_cons (ha:PE X e te)(hr:PA X es t)(hs:autoParam (starEach (e::es) X.env=(false,eval e X.env)::starEach es X.env) aR._auto_1):PA X (e::es) (tCons te t):=by
 intro pos pins s σ H Q I h
 rw[hs]
 show wpAny _ _ (spliced ((false,eval e X.env)::backTo pos (starEach es X.env))) _ _ s
 refine Calls.spliced_cons (thn (ha pins s σ H _ I h) λu s1 ⟨x,H1,I1,r1,q1⟩=>?_)
 exact thn (hr pos pins s1 σ H1 _ I1 q1) λus s2 ⟨xs,H2,I2,r2,q2⟩=>⟨x::xs,H2,I2,.cons r1 r2,q2⟩
def tTup (t:TA):TE:=λσ H Q=>t σ H λxs H1=>xs.length<=sizeLine/\∀ p,H1 p=none->Q (.ref p) (upd H1 p (.tup xs))
def tLst (t:TA):TE:=λσ H Q=>t σ H λxs H1=>xs.length<=sizeLine/\∀ p,H1 p=none->Q (.ref p) (upd H1 p (.lst xs))
theorem pe_tup {x1}(h:PA X es t):PE X (.Tuple es x1 pos) (tTup t):=by
 intro pins s σ H Q I hq
 refine wpAny_Tuple_spliced (thn (h pos pins s σ H _ I hq) λus s1 ⟨xs,H1,I1,r,z,q⟩=>⟨by rw[<-r.length];exact z,?_⟩)
 have hf:H1 s1.heap.objs.size=none:=I1.hok.fresh (Nat.le_refl _)
 refine⟨.ref s1.heap.objs.size,upd H1 s1.heap.objs.size (.tup xs),I1.laid (t':=s1.toks) (λb u e=>Heap.get?_push_of_some _ e) (Nat.le_refl _) ?_,rfl,q _ hf⟩
 exact⟨z,us,r,IsTupD.new _ _⟩
theorem pe_lst (h:PA X es t):PE X (.List es pos) (tLst t):=by
 intro pins s σ H Q I hq
 refine wpAny_List_spliced (thn (h pos pins s σ H _ I hq) λus s1 ⟨xs,H1,I1,r,z,q⟩=>⟨by rw[<-r.length];exact z,?_⟩)
 have hf:H1 s1.heap.objs.size=none:=I1.hok.fresh (Nat.le_refl _)
 refine⟨.ref s1.heap.objs.size,upd H1 s1.heap.objs.size (.lst xs),I1.laid (t':=s1.toks) (λb u e=>Heap.get?_push_of_some _ e) (Nat.le_refl _) ?_,rfl,q _ hf⟩
 exact⟨z,us,0,r,Heap.get?_push_size _ rfl⟩
end
abbrev Sp:=List V->Hp->VK->XK->Prop
abbrev CXT:=List Env->Hp->Shared->XK->Value->Shared->Prop
structure Env0 (P:Program)(w:World)(K:PySem.W.Frag)(mg:Str->Option Value)(base:Heap)(A:Around)(outer:List Env)(s:Shared)(H:Hp):Prop where
 frames:A.frames=some outer
 mod:Mod K mg base
 bs:∀ b o,base.get? b=some o->s.heap.get? b=some o/\H b=none
 bsz:base.objs.size<=s.heap.objs.size
 funs:s.heap.FunFrames base outer
 frf:∀ b ∈ frs outer,H b=none
 hok:HOk P w H s.heap
 bare:AllBare s.gens
def CE (outer:List Env)(P:Program)(w:World)(H:Hp)(s:Shared)(Q:VK) (u:Value)(s':Shared):Prop:=
 ∃ v H',s'.os=s.os/\AllBare s'.gens/\Un (frs outer) [] H H' s.heap s'.heap/\HOk P w H' s'.heap/\RelV v u/\Q v H'
def CR (CX:CXT)(outer:List Env)(P:Program)(w:World)(H:Hp)(s:Shared)(Q:VK)(E:XK)(r:Result)(s':Shared):Prop:=
 match r with
 |.ok (.ret u)=>CE outer P w H s Q u s'
 |.ok _=>False
 |.error e=>CX outer H s E e s'
structure FnOk (P:Program)(w:World)(K:PySem.W.Frag)(mg:Str->Option Value)(base:Heap)(CX:CXT) (k:Nat)(f:Addr)(fd:FuncData)(ps:List Str)(sp:Sp):Prop where
 len:∀ vs H Q E,sp vs H Q E->vs.length=ps.length
 run:∀ (A:Around)(outer:List Env)(s:Shared)(H:Hp)(args:Args)(us:List Value)(vs:List V)(Q:VK)(E:XK),Room k A->Env0 P w K mg base A outer s H->BindsTo s fd args (ps.zip us)->Vals vs us->sp vs H Q E ->
  codeAny (model P w) A (.call (.ref f) args) (CR CX outer P w H s Q E) s
section
variable {X:Cx}{pins:List (Addr×Obj)}{σ:St}{H:Hp}{s s':Shared}
theorem Inv.env0 (I:Inv X pins σ H s):Env0 X.prog X.w X.K X.mg X.base X.A X.stack s H:=
 ⟨I.ok.frames,I.ok.mod,I.bs,Nat.le_trans I.ok.bsz I.sz,I.stack,I.stkFree,I.hok,I.bare⟩
theorem Inv.after {Q:VK}{u:Value}(I:Inv X pins σ H s)(h:CE X.stack X.prog X.w H s Q u s'):EP X pins σ Q u s':=by
 obtain⟨v,H',os,bare,un,hok,r,q⟩:=h
 obtain⟨hh,g,d,t,os'⟩:=s'
 obtain rfl:os'=s.os:=os
 exact⟨v,H',I.call (h':=hh) (g':=g) (d':=d) (t':=t) (ch:=[]) un hok bare (λb z=>absurd z (by simp)),r,q⟩
end
def tCall (sp:Sp)(dvs:List V)(E:XK)(t:TA):TE:=λσ H Q=>t σ H λvs H1=>sp (vs++dvs) H1 Q E
def Binds (K:PySem.W.Frag)(fd:FuncData)(ps:List Str)(ds:List Value):Prop:=
 ∀ (s:Shared)(us:List Value),K.In s.heap->(us++ds).length=ps.length->BindsTo s fd ⟨us,[]⟩ (ps.zip (us++ds))
theorem Binds.all {K:PySem.W.Frag}{fd:FuncData}{ps:List Str}(h:∀ us:List Value,us.length=ps.length->bindArgs fd ⟨us,[]⟩=pure (ps.zip us)):Binds K fd ps []:=λs us _ hl=>by
 rw[List.append_nil]at hl ⊢
 exact .of_eq (h us hl)
def Passes (CX:CXT)(X:Cx)(E:XK):Prop:=∀ (pins:List (Addr×Obj))(σ:St)(H:Hp)(s:Shared) (e:Value)(s':Shared),Inv X pins σ H s->CX X.stack H s E e s'->X.xe e s'
section
variable {X:Cx}{CX:CXT}{k:Nat}{f C:Addr}{fd:FuncData}{ps:List Str}{sp:Sp}{dvs:List V}{ds:List Value}{E:XK}{x m:Str}{p pos apos:Pos}{e o:Expr}{es:List Expr}{ta:TE}{t:TA}
theorem run_fn {pins:List (Addr×Obj)}{σ:St}{H:Hp}{s:Shared}{Q:VK}{us:List Value}{vs:List V}(F:FnOk X.prog X.w X.K X.mg X.base CX k f fd ps sp)(hr:Room k X.A)(hb:Binds X.K fd ps ds)(hd:Vals dvs ds)(hx:Passes CX X E)
  (I:Inv X pins σ H s)(r:Vals vs us)(h:sp (vs++dvs) H Q E):wpAny (model X.prog X.w) X.A (call (.ref f) us) (EP X pins σ Q) X.xe s:=by
 have r2:Vals (vs++dvs) (us++ds):=r.append hd
 have hl:(us++ds).length=ps.length:=by rw[<-r2.length];exact F.len _ _ _ _ h
 refine wpAny_call (codeAny_mono (F.run X.A X.stack s H ⟨us,[]⟩ (us++ds) (vs++dvs) Q E hr I.env0 (hb s us I.kIn hl) r2 h) λr s' hq=>?_)
 cases r with
 |error e=>exact hx pins σ H s e s' I hq
 |ok fl=>
  cases fl with
  |ret u=>exact I.after hq
  |next=>exact False.elim hq
  |brk=>exact False.elim hq
  |cont=>exact False.elim hq
theorem pe_call (F:FnOk X.prog X.w X.K X.mg X.base CX k f fd ps sp)(hr:Room k X.A)(hg:Gl X x)(hm:X.mg x=some (.ref f))(hk:PySem.W.keepIn X.K (.ref f)=true)(hb:Binds X.K fd ps ds)(hd:Vals dvs ds)(hx:Passes CX X E)
  (ha:PA X (e::es) t)(hdb:autoParam ((x == ("__debug__" : Str))=false) aD._auto_1)(he:autoParam (starEach (e::es) X.env=(false,eval e X.env)::starEach es X.env) aR._auto_1)(hpl:autoParam ((backTo pos (starEach es X.env)).any (·.1)=false) aR._auto_1) :
  PE X (.Call (.Name x p) (e::es) [] pos) (tCall sp dvs E t):=by
 intro pins s σ H Q I h
 refine wpAny_Call_Name_kw (ld_glob I hg hm ?_ hdb)
 refine PySem.W.callWith_K (h₀:=X.base) I.ok.mod.kin hk (thn (ha pos pins s σ H _ I h) λus s1 ⟨vs,H1,I1,r,q⟩=>⟨I1.kIn,?_⟩) he hpl
 exact run_fn F hr hb hd hx I1 r q
structure Mk (K:PySem.W.Frag)(C f:Addr):Prop where
 makes:PySem.W.makesIn K C=true
 init:PySem.W.findIn K (.ref C) "__init__" = some (some (.ref f))
 fn:PySem.W.isFn K (.ref f)=true
 kp:PySem.W.keepIn K (.ref C)=true
end
section
variable {X:Cx}{CX:CXT}{k:Nat}{f C:Addr}{fd:FuncData}{ps ks:List Str}{sp:Sp}{E:XK}{x m:Str}{p pos apos kpos:Pos}{e o:Expr}{es:List Expr}{kws:List Keyword}{te ta:TE}{t tk:TA}{nm:Option Str}
structure KBinds (K:PySem.W.Frag)(fd:FuncData)(ps ks:List Str)(g:List Value->List Value->List Value)(gV:List V->List V->List V):Prop where
 to:∀ (s:Shared)(us ws:List Value),K.In s.heap->(g us ws).length=ps.length->BindsTo s fd ⟨us,ks.zip ws⟩ (ps.zip (g us ws))
 rel:∀ {vs:List V}{us:List Value}{zs:List V}{ws:List Value},Vals vs us->Vals zs ws->Vals (gV vs zs) (g us ws)
variable {g:List Value->List Value->List Value}{gV:List V->List V->List V}
end
structure FnScope (N P:List Str)(sc:Scope):Prop where
 kind:sc.kind=.function
 co:sc.isCoroutine=false
 gen:sc.isGenerator=false
 nd:N.Nodup
 pre:N.take P.length=P
 par:∀ x ∈ P,sc.names.lookup x=some .local\/sc.names.lookup x=some .cell
 nofree:∀ y ∈ sc.names,y.2≠.free
theorem bindL_out {kindOf:Str->Option NameKind}{x:Str}:∀ {binds:List (Str×Value)}{m:Str->Option Value},(∀ v,(x,v) ∉ binds)->bindL kindOf binds m x=m x
 |[],_,_=>rfl
 |(n,v)::r,m,h=>by
  unfold bindL
  rw[bindL_out λw hw=>h w (List.mem_cons_of_mem _ hw)]
  split
  ·have:x≠n:=by rintro rfl;exact h v List.mem_cons_self
   simp[this]
  ·rfl
theorem bindC_out {kindOf:Str->Option NameKind}{x:Str}:∀ {binds:List (Str×Value)}{m:Str->Option Value},(∀ v,(x,v) ∉ binds)->bindC kindOf binds m x=m x
 |[],_,_=>rfl
 |(n,v)::r,m,h=>by
  unfold bindC
  rw[bindC_out λw hw=>h w (List.mem_cons_of_mem _ hw)]
  split
  ·rfl
  ·have:x≠n:=by rintro rfl;exact h v List.mem_cons_self
   simp[this]
theorem bindL_get {kindOf:Str->Option NameKind}{x:Str}{v:Value}:∀ {P:List Str}{vs:List Value}{i:Nat}{m:Str->Option Value},P.Nodup->P[i]? = some x->vs[i]? = some v->kindOf x=some .local ->
  bindL kindOf (P.zip vs) m x=some v
 |[],_,_,_,_,h,_,_=>by simp at h
 |_::_,[],_,_,_,_,h,_=>by simp at h
 |p::P,w::vs,0,m,nd,h1,h2,hk=>by
  simp at h1 h2;subst h1;subst h2
  show bindL kindOf ((p,w)::P.zip vs) m p=_
  unfold bindL
  rw[bindL_out λv hv=>(List.nodup_cons.mp nd).1 (List.of_mem_zip hv).1,if_pos hk]
  simp
 |p::P,w::vs,i+1,m,nd,h1,h2,hk=>by
  show bindL kindOf ((p,w)::P.zip vs) m x=_
  unfold bindL
  exact bindL_get (i:=i) (List.nodup_cons.mp nd).2 (by simpa using h1) (by simpa using h2) hk
theorem bindC_get {kindOf:Str->Option NameKind}{x:Str}{v:Value}:∀ {P:List Str}{vs:List Value}{i:Nat}{m:Str->Option Value},P.Nodup->P[i]? = some x->vs[i]? = some v->kindOf x≠some .local ->
  bindC kindOf (P.zip vs) m x=some v
 |[],_,_,_,_,h,_,_=>by simp at h
 |_::_,[],_,_,_,_,h,_=>by simp at h
 |p::P,w::vs,0,m,nd,h1,h2,hk=>by
  simp at h1 h2;subst h1;subst h2
  show bindC kindOf ((p,w)::P.zip vs) m p=_
  unfold bindC
  rw[bindC_out λv hv=>(List.nodup_cons.mp nd).1 (List.of_mem_zip hv).1,if_neg hk]
  simp
 |p::P,w::vs,i+1,m,nd,h1,h2,hk=>by
  show bindC kindOf ((p,w)::P.zip vs) m x=_
  unfold bindC
  exact bindC_get (i:=i) (List.nodup_cons.mp nd).2 (by simpa using h1) (by simpa using h2) hk
def start (N:List Str)(vs:List V):St:=vs.map some++List.replicate (N.length - vs.length) none
def cxOf (CX:CXT)(P:Program)(w:World)(K:PySem.W.Frag)(mg:Str->Option Value)(base:Heap)(N:List Str) (qual:Str)(scope:Scope)(f:Addr) (cd:Value)(A:Around)(outer:List Env)(s:Shared)(H:Hp)(E:XK):Cx where
 prog:=P
 w:=w
 K:=K
 mg:=mg
 base:=base
 A:=A.deeper (envOfC qual scope s.heap.objs.size f cd)
 N:=N
 s₀:=s
 H₀:=H
 env:=envOfC qual scope s.heap.objs.size f cd
 outer:=outer
 stack:=envOfC qual scope s.heap.objs.size f cd::outer
 ex:=[]
 calm:=true
 fn:=λ_=>true
 pn:=[]
 xe:=λe s'=>wpAny (model P w) (A.deeper (envOfC qual scope s.heap.objs.size f cd)) (leaving (envOfC qual scope s.heap.objs.size f cd) e) (λ_ s''=>CX outer H s E e s'') (λe' s''=>CX outer H s E e' s'') s'
theorem cell_has {sc:Scope}{n:Nat}{x:Str}(h:sc.names.lookup x=some .cell):∃ c,(cellsFrom n sc.names []).lookup x=some c:=by
 have q:=PySem.W.cellsFrom_some sc.names n [] (.inl h)
 exact Option.isSome_iff_exists.mp q
theorem inv_start {CX:CXT}{P:Program}{w:World}{K:PySem.W.Frag}{mg:Str->Option Value}{base:Heap}{N ps:List Str}{qual:Str}{scope:Scope}{f:Addr}{cd:Value}{A:Around}{outer:List Env}{s s1:Shared}{H:Hp}{E:XK}{us:List Value}{vs:List V}
  (S:FnScope N ps scope)(hd:A.handled=none)(e0:Env0 P w K mg base A outer s H)(hl:vs.length=ps.length)(r:Vals vs us)
  (x:InCallC s s.heap.objs.size (bindL (envOfC qual scope s.heap.objs.size f cd).kindOf (ps.zip us) λ_=>none) (cellsFrom (s.heap.objs.size+1) scope.names []) (bindC (envOfC qual scope s.heap.objs.size f cd).kindOf (ps.zip us) λ_=>none) s1) :
  Inv (cxOf CX P w K mg base N qual scope f cd A outer s H E) [] (start N vs) H s1:=by
 have hpl:ps.length<=N.length:=by have:=congrArg List.length S.pre;rw[List.length_take]at this;omega
 obtain⟨h1,tk,rfl,hk⟩:=x.done
 have noA:∀ b:Addr,b ∉ (cxOf CX P w K mg base N qual scope f cd A outer s H E).ex:=λb z=>absurd (show b ∈ ([]:List Addr) from z) (by simp)
 refine⟨⟨e0.mod,S.kind,rfl,rfl,Nat.le_refl _,λy z c h1 h2=>?_,λy hy=>?_,λy c _ h=>?_,λ_=>hd,Around.frames_deeper e0.frames,.inr ⟨rfl,rfl⟩,λb z=>absurd z (noA b),e0.bs,e0.bsz,λb _ _=>noA b,λb z=>absurd z (noA b),e0.funs,e0.frf⟩,
  rfl,e0.bare,Un.kept hk,⟨_,x.toInCall.ns,λi y v h1 h2 h3=>?_⟩,λy c h=>⟨_,x.cell y c h⟩,e0.hok.fresh (Nat.le_refl _),λy c h=>?_,λp hp=>absurd (show p ∈ ([]:List (Addr×Obj)) from hp) (by simp),e0.hok.kept hk,?_⟩
 ·exact name_of_addr x.apart (PySem.mem_of_lookup h1) (PySem.mem_of_lookup h2)
 ·have hy:scope.names.lookup y=some .cell\/scope.names.lookup y=some .free:=hy
  rcases hy with hy | hy
  ·exact cell_has hy
  ·exact absurd rfl (S.nofree _ (PySem.mem_of_lookup hy))
 ·exact Nat.le_of_lt (x.above y c (PySem.mem_of_lookup h))
 ·have hi:i<vs.length:=by
   unfold start at h2
   by_cases hi:i<vs.length
   ·exact hi
   ·rw[List.getElem?_append_right (by simpa using hi)]at h2
    rw[List.getElem?_replicate]at h2
    split at h2<;>cases h2
  have ha:vs[i]? = some v:=by
   unfold start at h2
   rw[List.getElem?_append_left (by simpa using hi),List.getElem?_map]at h2
   cases e:vs[i]? with
   |none=>rw[e]at h2;cases h2
   |some a=>rw[e]at h2;cases h2;rfl
  obtain⟨u,hu,rv⟩:=r.get ha
  have hp:ps[i]? = some y:=by
   rw[<-S.pre,List.getElem?_take_of_lt (by omega)];exact h1
  have ndP:ps.Nodup:=by rw[<-S.pre];exact S.nd.sublist (List.take_sublist _ _)
  refine⟨u,rv,?_⟩
  rcases S.par y (List.mem_of_getElem? hp) with k | k
  ·exact .inl ⟨k,bindL_get ndP hp hu k⟩
  ·obtain⟨c,e⟩:=cell_has (n:=s.heap.objs.size+1) k
   refine .inr ⟨.inl k,c,e,?_⟩
   have q:=x.cell y c e
   rw[bindC_get ndP hp hu (by show scope.names.lookup y≠_;rw[k];decide)]at q
   exact q
 ·exact e0.hok.fresh (Nat.le_of_lt (x.above y c (PySem.mem_of_lookup h)))
 ·unfold start
  show _=N.length
  rw[List.length_append,List.length_map,List.length_replicate]
  omega
theorem fn_of {CX:CXT}{P:Program}{w:World}{K:PySem.W.Frag}{mg:Str->Option Value}{base:Heap}{k:Nat}{f:Addr}{name qual:Str}{params:Arguments}{body:List Stmt}{scope:Scope}{dV kV doc pm cdv ct oc:Value}{an od:Option Addr}
  {osl:Array (Option Value)}{N ps:List Str}{sp:Sp}(lk:K.lookup f=some ⟨oc,od,.func (PySem.W.fnOf name qual params body scope dV kV doc pm an cdv ct),osl⟩)(hcd:PySem.W.codeIn K cdv qual=true)(S:FnScope N ps scope)
  (len:∀ vs H Q E,sp vs H Q E->vs.length=ps.length)
  (hbody:∀ (A:Around)(outer:List Env)(s:Shared)(H:Hp)(vs:List V)(Q:VK)(E:XK),Room k (A.deeper (envOfC qual scope s.heap.objs.size f cdv))->sp vs H Q E ->
   ∃ t,PSs (cxOf CX P w K mg base N qual scope f cdv A outer s H E) body t/\t { nx:=λ_ H'=>Q .non H',rt:=Q } (start N vs) H) :
  FnOk P w K mg base CX (k+1) f (PySem.W.fnOf name qual params body scope dV kV doc pm an cdv ct) ps sp:=by
 refine⟨len,λA outer s H args us vs Q E hr e0 hb r hsp=>?_⟩
 have hl:=len _ _ _ _ hsp
 have KX:K.In s.heap:=e0.mod.kin.keeps λb o e=>(e0.bs b o e).1
 have lim:s.heap.NoLimit:=e0.mod.nolimit.keeps λb o e=>(e0.bs b o e).1
 have hkind:∀ y ∈ ps.zip us,scope.names.lookup y.1=some .local\/(scope.names.lookup y.1=some .cell/\((cellsFrom (s.heap.objs.size+1) scope.names []).lookup y.1).isSome=true):=λ⟨n,v⟩ hy=>by
  rcases S.par n (List.of_mem_zip hy).1 with q | q
  ·exact .inl q
  ·exact .inr ⟨q,PySem.W.cellsFrom_some _ _ _ (.inl q)⟩
 refine codeAny_call_function hr.depth (KX _ _ lk) rfl S.co S.gen rfl (PySem.W.codeRec_of KX hcd) (hb _ _ _ _ ?_)
 refine wpAny_newFunctionEnv_cells S.kind hkind λenv he s1 x=>?_
 subst he
 refine⟨lim.keeps x.toInCall.keep,codeAny_func ?_⟩
 obtain⟨t,ht,hq⟩:=hbody A outer s H vs Q E (hr.deeper _) hsp
 have I:Inv (cxOf CX P w K mg base N qual scope f cdv A outer s H E) [] (start N vs) H s1:=inv_start S hr.hd e0 hl r x
 refine wpAny_mono (ht [] s1 (start N vs) H _ I hq) (λfl s' hs=>?_) λe s' hs=>hs
 have fin:∀ {σ':St}{H':Hp}{v:V}{u:Value},Inv (cxOf CX P w K mg base N qual scope f cdv A outer s H E) [] σ' H' s'->RelV v u->Q v H'->CE outer P w H s Q u s':=
  fun {σ' H' v u} J rv q=>⟨v,H',J.os,J.bare,J.base,J.hok,rv,q⟩
 cases fl with
 |ret u=>
  obtain⟨v,σ',H',J,rv,q⟩:=hs
  exact fin J rv q
 |next=>
  obtain⟨σ',H',J,q⟩:=hs
  exact fin (v:=V.non) (u:=Value.none) J rfl q
 |brk=>
  obtain⟨_,_,_,q⟩:=hs
  exact False.elim q
 |cont=>
  obtain⟨_,_,_,q⟩:=hs
  exact False.elim q
end L2
namespace L2
open PySem PySem.Spec PyProof.Rows
section
variable {X:Cx}{x:Str}{p pos:Pos}{e:Expr}{es:List Expr}{t:TA}{id T:String}{r:List V->Hp->VK->Prop}
def tCB (r:List V->Hp->VK->Prop)(t:TA):TE:=λσ H Q=>t σ H λvs H1=>r vs H1 Q
theorem pe_callB (hc:CallR X (.builtin id) r)(hg:Gl X x)(hm:X.mg x=none)(hv:bootBuiltins x=some (.builtin id))(ha:PA X (e::es) t)(hn:x ≠ "__name__":=by decide)(hdb:autoParam ((x == ("__debug__" : Str))=false) aD._auto_1)
  (he:autoParam (starEach (e::es) X.env=(false,eval e X.env)::starEach es X.env) aR._auto_1)(hpl:autoParam ((backTo pos (starEach es X.env)).any (·.1)=false) aR._auto_1):PE X (.Call (.Name x p) (e::es) [] pos) (tCB r t):=by
 intro pins s σ H Q I h
 refine wpAny_Call_Name_kw (ld_blt I hg hm hv ?_ hn hdb)
 exact PyProof.Rows.callWith_builtin1 (thn (ha pos pins s σ H _ I h) λus s1 ⟨vs,H1,I1,r1,q1⟩=>hc pins s1 σ H1 vs us Q I1 r1 q1) he hpl
theorem pe_callTy (hc:CallR X (.type T) r)(hg:Gl X x)(hm:X.mg x=none)(hv:bootBuiltins x=some (.type T))(ha:PA X (e::es) t)(hn:x ≠ "__name__":=by decide)(hdb:autoParam ((x == ("__debug__" : Str))=false) aD._auto_1)
  (he:autoParam (starEach (e::es) X.env=(false,eval e X.env)::starEach es X.env) aR._auto_1)(hpl:autoParam ((backTo pos (starEach es X.env)).any (·.1)=false) aR._auto_1):PE X (.Call (.Name x p) (e::es) [] pos) (tCB r t):=by
 intro pins s σ H Q I h
 refine wpAny_Call_Name_kw (ld_blt I hg hm hv ?_ hn hdb)
 exact PyProof.Rows.callWith_type1 (thn (ha pos pins s σ H _ I h) λus s1 ⟨vs,H1,I1,r1,q1⟩=>hc pins s1 σ H1 vs us Q I1 r1 q1) he hpl
end
end L2
namespace HT
open PySem PyProof.Rows
section
open PySem.SeqAt
open PySem.AutoSeq1 (wpAny_loadPart')
open PySem.MeetsSeq PySem.MeetsSeq2 PySem.MeetsSeq3
end
section
variable {prog:Program}{w:World}{A:Around}{E:Value->Shared->Prop}{s:Shared}
theorem cat_tup {t b:Addr}{vs ws:List Value}{Q:Value->Shared->Prop}(ht:IsTup s.heap t vs.toArray)(hb:IsTup s.heap b ws.toArray)(hv:vs≠[])
  (h1:ws=[]->Q (.ref t) s)(h2:ws≠[]->Q (.ref s.heap.objs.size) { s with heap:=s.heap.push { cls:=.type "tuple",data:=.seq (vs++ws).toArray } })
  (hsz:vs.length+ws.length<=sizeLine):wpAny (model prog w) A (binaryOp .Add (.ref t) (.ref b)) Q E s:=by
 obtain⟨⟨cls,dd,data,sl⟩,ho,hc,n,hd⟩:=id ht
 obtain⟨⟨cls2,dd2,data2,sl2⟩,ho2,hc2,n2,hd2⟩:=id hb
 simp only at hc hd hc2 hd2
 subst hc hd hc2 hd2
 have e:vs.toArray++ws.toArray=(vs++ws).toArray:=by simp
 by_cases hw:ws=[]
 ·exact concat_meets ⟨_,ho,rfl⟩ ⟨_,ho2,rfl⟩ noFill_tuple_add seq_tuple_add PySem.F.slot_tuple_add PySem.F.entry_tuple_add (PySem.F.args_tuple_add_2 _ _)
   (tuple_addW1 t b vs.toArray ws.toArray n n2 dd dd2 sl sl2 (by simpa using hv) (by simp[hw])) ⟨ho,ho2,h1 hw⟩
 ·refine concat_meets ⟨_,ho,rfl⟩ ⟨_,ho2,rfl⟩ noFill_tuple_add seq_tuple_add PySem.F.slot_tuple_add PySem.F.entry_tuple_add (PySem.F.args_tuple_add_2 _ _)
   (tuple_addW2 t b vs.toArray ws.toArray n n2 dd dd2 sl sl2 (by simpa using hv) (by simpa using hw) (by rw[List.size_toArray,List.size_toArray];exact hsz)) ⟨ho,ho2,?_⟩
  rw[e]
  exact h2 hw
def sIx (n d:Nat):Option Int->Nat
 |none=>d
 |some v=>if v<0 then (v+(n:Int)).toNat else min v.toNat n
theorem sIx_le (n d:Nat)(hd:d<=n)(o:Option Int):sIx n d o<=n:=by
 cases o with
 |none=>exact hd
 |some v=>
  show (if v<0 then (v+(n:Int)).toNat else min v.toNat n)<=n
  by_cases hv:v<0
  ·rw[if_pos hv];omega
  ·rw[if_neg hv];exact Nat.min_le_right _ _
theorem clip_eq (v:Int) (n d:Nat):(if v<0 then max (v+(n:Int)) 0 else min v (n:Int))=((sIx n d (some v):Nat):Int):=by
 show (if v<0 then max (v+(n:Int)) 0 else min v (n:Int))=(((if v<0 then (v+(n:Int)).toNat else min v.toNat n):Nat):Int)
 by_cases hv:v<0
 ·simp only[if_pos hv];omega
 ·simp only[if_neg hv];omega
theorem adjust_gen (lo hi:Option Int) (n:Nat):Builtin.Slice.sliceAdjust lo hi 1 (n:Int)=(((sIx n 0 lo:Nat):Int),((sIx n n hi:Nat):Int)):=by
 have h1:¬ ((1:Int)<0):=by omega
 unfold Builtin.Slice.sliceAdjust
 simp only[h1,if_false]
 refine Prod.ext ?_ ?_
 ·cases lo with
  |none=>rfl
  |some v=>exact clip_eq v n 0
 ·cases hi with
  |none=>rfl
  |some v=>exact clip_eq v n n
theorem places_gen (i j:Nat):Builtin.Slice.slicePlaces (i:Int) (j:Int) 1=j - i:=by
 unfold Builtin.Slice.slicePlaces
 have h1:(1:Int) > 0:=by omega
 simp only[h1,if_true,Int.ediv_one]
 split<;>omega
theorem slicePart_ {v:Value}{o:Option Int}{Q:Option Int->Shared->Prop}(p:IsPart v o)(h:Q o s):wpAny (model prog w) A (Builtin.Slice.slicePartIndex v) Q E s:=by
 cases p with
 |none=>exact slicePart_none h
 |int i t=>exact slicePart_int h
theorem sliceApplied_gen {sl:Addr}{vl vu:Value}{lo hi:Option Int}{n:Nat}{Q:Int×Int×Nat->Shared->Prop}(hs:s.heap.IsSliceOf sl vl vu .none)(pl:IsPart vl lo)(pu:IsPart vu hi)
  (h:Q (((sIx n 0 lo:Nat):Int),1,sIx n n hi - sIx n 0 lo) s):wpAny (model prog w) A (Builtin.Slice.sliceApplied (.ref sl) (pure (n:Int))) Q E s:=by
 obtain⟨os,hos,hcs,hds⟩:=id hs
 unfold Builtin.Slice.sliceApplied Builtin.Slice.sliceFields
 refine wpAny_bind (wpAny_bind (wpAny_field hos hds (x:=vl) rfl (wpAny_bind (wpAny_field hos hds (x:=vu) rfl (wpAny_bind (wpAny_field hos hds (x:=.none) rfl (wpAny_pure ?_)))))))
 refine wpAny_bind (slicePart_none ?_)
 show wpAny _ _ (if ((1:Int) == 0)=true then _ else _) _ _ s
 rw[if_neg (by decide)]
 refine wpAny_bind (slicePart_ pl (wpAny_bind (slicePart_ pu (wpAny_bind (wpAny_pure ?_)))))
 show wpAny _ _ (match Builtin.Slice.sliceAdjust lo hi 1 (n:Int) with | (lo,hi)=>pure (lo,(1:Int),Builtin.Slice.slicePlaces lo hi 1)) _ _ s
 rw[adjust_gen lo hi n]
 show wpAny _ _ (pure (((sIx n 0 lo:Nat):Int),(1:Int),Builtin.Slice.slicePlaces ((sIx n 0 lo:Nat):Int) ((sIx n n hi:Nat):Int) 1)) _ _ s
 rw[places_gen]
 exact wpAny_pure h
theorem pick_gen (xs:Array Value) (i k:Nat):((List.range k).filterMap λ(m:Nat)=>xs[((i:Int)+(m:Int) * 1).toNat]?).toArray=((xs.toList.drop i).take k).toArray:=by
 have e:(λ(m:Nat)=>xs[((i:Int)+(m:Int) * 1).toNat]?)=λm=>xs[i+m]?:=by
  funext m
  have:((i:Int)+(m:Int) * 1).toNat=i+m:=by omega
  rw[this]
 rw[e]
 have:=pick_run xs i k
 rw[List.filterMap_map]at this
 have e2:((λx=>xs[x]?) ∘ λx=>i+x)=λm=>xs[i+m]?:=rfl
 rw[e2]at this
 rw[this]
theorem getItem_tuple_cut {t sl:Addr}{items:Array Value}{vl vu:Value}{lo hi:Option Int}{Q:Value->Shared->Prop}(ht:IsTup s.heap t items)(hs:s.heap.IsSliceOf sl vl vu .none)(pl:IsPart vl lo)(pu:IsPart vu hi)
  (hw:¬ (sIx items.size 0 lo=0/\sIx items.size items.size hi=items.size))
  (h:Q (.ref s.heap.objs.size) { s with heap:=s.heap.push { cls:=.type "tuple",data:=.seq ((items.toList.drop (sIx items.size 0 lo)).take (sIx items.size items.size hi - sIx items.size 0 lo)).toArray } })
  (hsz:items.size<=sizeLine):wpAny (model prog w) A (getItem (.ref t) (.ref sl)) Q E s:=by
 have htake:sizeOk (.seq ((items.toList.drop (sIx items.size 0 lo)).take (sIx items.size items.size hi - sIx items.size 0 lo)).toArray):=by
  show ((items.toList.drop (sIx items.size 0 lo)).take (sIx items.size items.size hi - sIx items.size 0 lo)).toArray.size<=sizeLine
  rw[List.size_toArray,List.length_take,List.length_drop,Array.length_toList]
  omega
 have hj:sIx items.size items.size hi<=items.size:=sIx_le _ _ (Nat.le_refl _) hi
 obtain⟨os,hos,hcs,hds⟩:=id hs
 have hTs:s.TypeIs (.ref sl) "slice":=⟨os,hos,hcs⟩
 unfold getItem
 try with_reducible refine wpAny_holding ?_
 first | refine wpAny_bind (wpAny_pure ?_) | skip
 refine wpAny_bind (wpAny_sequenceKey ht.typeIs (by decide) ?_)
 refine wpAny_bind (wpAny_callSpecial?_slot (name:=Str.ofString "__getitem__") ht.typeIs PyProof.Rows.slot_tuple_getitem
  (wpAny_call_entry PyProof.Rows.slot_tuple_getitem ht.typeIs entry_tuple_getitem ?_ (args_tuple_getitem _ _)))
 show wpAny _ _ (Builtin.Tuple.tupleItemsOf (.ref t) >>= _) _ _ s
 refine wpAny_bind (tupleItemsOf_ ht ?_)
 refine wpAny_bind (wpAny_typeOf hTs ?_)
 rw[if_pos (by decide)]
 refine wpAny_bind (sliceApplied_gen hs pl pu ?_)
 have hno:¬ ((((sIx items.size 0 lo:Nat):Int) == 0 && (1:Int) == 1 && (sIx items.size items.size hi - sIx items.size 0 lo) == items.size)=true):=by
  intro q
  rw[Bool.and_eq_true,Bool.and_eq_true]at q
  have q1:((sIx items.size 0 lo:Nat):Int)=0:=eq_of_beq q.1.1
  have q2:sIx items.size items.size hi - sIx items.size 0 lo=items.size:=eq_of_beq q.2
  exact hw ⟨by omega,by omega⟩
 show wpAny _ _ (if (((sIx items.size 0 lo:Nat):Int) == 0 && (1:Int) == 1 && (sIx items.size items.size hi - sIx items.size 0 lo) == items.size)=true then _ else _) _ _ s
 rw[if_neg hno,pick_gen]
 first
  |exact wpAny_bind (m:=Builtin.Tuple.tupleExact _) (wpAny_newObj_type (wpAny_pure ⟨_,rfl,wpAny_pure h⟩) htake)
  |exact wpAny_bind (m:=Builtin.Tuple.tupleExact _) (wpAny_newObj_type (wpAny_bind (wpAny_pure (wpAny_pure ⟨_,rfl,wpAny_pure h⟩))) htake)
  |exact wpAny_bind (wpAny_bind (m:=Builtin.Tuple.tupleExact _) (wpAny_newObj_type (wpAny_pure (wpAny_pure ⟨_,rfl,wpAny_pure h⟩)) htake))
  |exact wpAny_bind (wpAny_bind (m:=Builtin.Tuple.tupleExact _) (wpAny_newObj_type (wpAny_pure ⟨_,rfl,wpAny_pure h⟩) htake))
end
end HT
namespace L2
open PySem PySem.Spec PyProof.Rows
abbrev TO:=St->Hp->(Option Int->Hp->Prop)->Prop
def PO (X:Cx)(e:Option Expr)(t:TO):Prop:=
 ∀ (pins:List (Addr×Obj))(s:Shared)(σ:St)(H:Hp)(Q:Option Int->Hp->Prop),Inv X pins σ H s->t σ H Q ->
  wpAny (model X.prog X.w) X.A (evalPart e X.env) (λu s'=>∃ o H',Inv X pins σ H' s'/\IsPart u o/\Q o H') X.xe s
def tNoPart:TO:=λ_ H Q=>Q none H
def tPart (t:TE):TO:=λσ H Q=>t σ H λx H1=>∃ i,x=.int i/\Q (some i) H1
section
variable {X:Cx}{e:Expr}{te:TE}{lo hi:Option Expr}{tl th:TO}{pos p2:Pos}
theorem po_none:PO X none tNoPart:=by
 intro pins s σ H Q I h
 rw[evalPart_none]
 exact wpAny_pure ⟨none,H,I,.none,h⟩
theorem po_some (h:PE X e te):PO X (some e) (tPart te):=by
 intro pins s σ H Q I hw
 rw[evalPart_some]
 refine thn (h pins s σ H _ I hw) λu s1 ⟨x,H1,I1,r1,q1⟩=>?_
 obtain⟨i,rfl,q⟩:=q1
 obtain⟨t,rfl⟩:=r1
 exact⟨some i,H1,I1,.int i t,q⟩
def SlR (X:Cx)(r:V->Option Int->Option Int->Hp->VK->Prop):Prop:=
 ∀ (pins:List (Addr×Obj))(s:Shared)(σ:St)(H:Hp)(x:V) (v vl vu:Value)(lo hi:Option Int)(sl:Addr)(Q:VK),Inv X pins σ H s->RelV x v->s.heap.IsSliceOf sl vl vu .none->IsPart vl lo->IsPart vu hi->r x lo hi H Q ->
  ∃ T id,typeLookup (.type T) "__getitem__" = pure (some (.builtin id))/\s.TypeIs v T/\wpAny (model X.prog X.w) X.A (getItem v (.ref sl)) (EP X pins σ Q) X.xe s
theorem SlR.or {r r':V->Option Int->Option Int->Hp->VK->Prop}(h:SlR X r)(h':SlR X r'):SlR X (λx lo hi H Q=>r x lo hi H Q\/r' x lo hi H Q):=by
 intro pins s σ H x v vl vu lo hi sl Q I rx hs pl pu q
 rcases q with q | q
 ·exact h pins s σ H x v vl vu lo hi sl Q I rx hs pl pu q
 ·exact h' pins s σ H x v vl vu lo hi sl Q I rx hs pl pu q
def tSl (r:V->Option Int->Option Int->Hp->VK->Prop)(te:TE)(tl th:TO):TE:=λσ H Q=>te σ H λx H1=>tl σ H1 λl H2=>th σ H2 λu H3=>r x l u H3 Q
theorem pe_slice {r:V->Option Int->Option Int->Hp->VK->Prop}(hr:SlR X r)(he:PE X e te)(hl:PO X lo tl)(hu:PO X hi th):PE X (.Subscript e (.Slice lo hi none p2) pos) (tSl r te tl th):=by
 intro pins s σ H Q I h
 refine Subscript_ (thn (he pins s σ H _ I h) λv s1 ⟨x,H1,I1,r1,q1⟩=>?_)
 refine wpAny_Slice (thn (hl pins s1 σ H1 _ I1 q1) λvl s2 ⟨l,H2,I2,pl,q2⟩=>thn (hu pins s2 σ H2 _ I2 q2) λvu s3 ⟨u,H3,I3,pu,q3⟩=>?_)
 rw[evalPart_none]
 refine wpAny_pure ?_
 have I4:Inv X pins σ H3 { s3 with heap:=s3.heap.push { cls:=.type "slice",data:=.fields #[vl,vu,.none] } }:=I3.kept (t':=s3.toks) λb ob q=>Heap.get?_push_of_some _ q
 obtain⟨T,id,hT,ht,hg⟩:=hr pins { s3 with heap:=s3.heap.push { cls:=.type "slice",data:=.fields #[vl,vu,.none] } } σ H3 x v vl vu l u s3.heap.objs.size Q I4 r1 (Heap.IsSliceOf.new ..) pl pu q3
 show wpAny (model X.prog X.w) X.A (subscriptTail e (.Slice lo hi none p2) v (.ref s3.heap.objs.size)) (EP X pins σ Q) X.xe { s3 with heap:=s3.heap.push { cls:=.type "slice",data:=.fields #[vl,vu,.none] } }
 exact tail_any (ops:=[.ref s3.heap.objs.size,v]) ht hT hg (by with_unfolding_all rfl)
def cutV (xs:List V)(lo hi:Option Int):List V:=(xs.drop (HT.sIx xs.length 0 lo)).take (HT.sIx xs.length xs.length hi - HT.sIx xs.length 0 lo)
theorem cutV_length (xs:List V)(lo hi:Option Int):(cutV xs lo hi).length<=xs.length:=by
 unfold cutV
 rw[List.length_take,List.length_drop]
 omega
def rSlT (K:PySem.W.Frag):V->Option Int->Option Int->Hp->VK->Prop:=λx lo hi H Q=>∃ a xs,x=.ref a/\SqT K H a xs ∧
 ¬ (HT.sIx xs.length 0 lo=0/\HT.sIx xs.length xs.length hi=xs.length)/\∀ p,H p=none->Q (.ref p) (upd H p (.tup (cutV xs lo hi)))
theorem sl_tup:SlR X (rSlT X.K):=by
 intro pins s σ H x v vl vu lo hi sl Q I rx hs pl pu h
 obtain⟨a,xs,rfl,hx,hw,q⟩:=h
 cases rx
 obtain⟨its,r,ht,hz⟩:=I.tuple hx
 have hlen:its.toArray.size=xs.length:=by rw[List.size_toArray];exact r.length.symm
 refine⟨"tuple",_,PyProof.Rows.slot_tuple_getitem.lookup,ht.typeIs,?_⟩
 refine HT.getItem_tuple_cut ht hs pl pu (by rw[hlen];exact hw) ?_ (by rw[hlen];exact hz)
 rw[hlen]
 refine⟨.ref s.heap.objs.size,_,I.laid (t':=s.toks) (o:=.tup (cutV xs lo hi)) (λb ob q=>Heap.get?_push_of_some _ q) (Nat.le_refl _) ?_,rfl,q _ (I.hok.fresh (Nat.le_refl _))⟩
 exact⟨Nat.le_trans (cutV_length xs lo hi) hz,_,(r.drop (HT.sIx xs.length 0 lo)).take (HT.sIx xs.length xs.length hi - HT.sIx xs.length 0 lo),IsTupD.new _ _⟩
def rCatT (K:PySem.W.Frag):R2:=λx y H Q=>∃ a b xs ys,x=.ref a/\y=.ref b/\SqT K H a xs/\SqT K H b ys/\xs≠[]/\xs.length+ys.length<=sizeLine ∧
 (ys=[]->Q (.ref a) H)/\(ys≠[]->∀ p,H p=none->Q (.ref p) (upd H p (.tup (xs++ys))))
theorem Vals.nil_iff {xs:List V}{us:List Value}(r:Vals xs us):us=[] ↔ xs=[]:=by
 cases r with
 |nil=>simp
 |cons _ _=>simp
theorem op_catT:OpR X (binaryOp .Add) (rCatT X.K):=by
 intro pins s σ H x y v u Q I rx ry h
 obtain⟨a,b,xs,ys,rfl,rfl,ha,hb,hx,hz,q1,q2⟩:=h
 cases rx
 cases ry
 obtain⟨its,r1,p1,_⟩:=I.tuple ha
 obtain⟨its2,r2,p2,_⟩:=I.tuple hb
 refine HT.cat_tup p1 p2 (λz=>hx (r1.nil_iff.mp z)) (λz=>⟨.ref a,H,I,rfl,q1 (r2.nil_iff.mp z)⟩) (λz=>?_) (by rw[<-r1.length,<-r2.length];exact hz)
 refine⟨.ref s.heap.objs.size,_,I.laid (t':=s.toks) (o:=.tup (xs++ys)) (λb ob q=>Heap.get?_push_of_some _ q) (Nat.le_refl _) ?_,rfl,q2 (λw=>z (r2.nil_iff.mpr w)) _ (I.hok.fresh (Nat.le_refl _))⟩
 exact⟨by rw[List.length_append];exact hz,_,r1.append r2,IsTupD.new _ _⟩
end
end L2
namespace L2
open PySem PySem.Spec PyProof.Rows
def ixN (n:Nat) (i:Int):Option Nat:=if 0<=i then (if i<n then some i.toNat else none) else if -(n:Int)<=i then some (i+n).toNat else none
def atI {α:Type}(xs:List α) (i:Int):Option α:=(ixN xs.length i).bind λj=>xs[j]?
theorem ixN_seq {n:Nat}{i:Int}{j:Nat}(h:ixN n i=some j):seqIndex? i n=some j/\j<n/\-(n:Int)<=i/\i<n:=by
 unfold ixN at h
 by_cases h0:0<=i
 ·rw[if_pos h0]at h
  by_cases h1:i<n
  ·rw[if_pos h1]at h
   have e:i.toNat=j:=Option.some.inj h
   exact⟨by rw[seqIndex_of h0 h1,e],by omega,by omega,h1⟩
  ·rw[if_neg h1]at h;cases h
 ·rw[if_neg h0]at h
  by_cases h1 : -(n:Int)<=i
  ·rw[if_pos h1]at h
   have e:(i+n).toNat=j:=Option.some.inj h
   exact⟨by rw[seqIndex_neg (by omega) h1,e],by omega,h1,by omega⟩
  ·rw[if_neg h1]at h;cases h
theorem atI_get {α:Type}{xs:List α}{i:Int}{v:α}(h:atI xs i=some v):∃ j,seqIndex? i xs.length=some j/\xs[j]? = some v/\j<xs.length/\-(xs.length:Int)<=i/\i<xs.length:=by
 unfold atI at h
 cases e:ixN xs.length i with
 |none=>rw[e]at h;cases h
 |some j=>
  rw[e]at h
  obtain⟨h1,h2,h3,h4⟩:=ixN_seq e
  exact⟨j,h1,h,h2,h3,h4⟩
def PlainIx (b:Expr):Prop:=∀ o i,subscripted b false o i=operate [o,i] (getItem o i)
def IxR (X:Cx)(r:R2):Prop:=
 ∀ (value slice:Expr)(pins:List (Addr×Obj))(s:Shared)(σ:St)(H:Hp)(x y:V) (v u:Value)(Q:VK),Inv X pins σ H s->RelV x v->RelV y u->r x y H Q ->
  subscripted slice false v u=operate [v,u] (getItem v u)->wpAny (model X.prog X.w) X.A (subscriptTail value slice v u) (EP X pins σ Q) X.xe s
def MtR (X:Cx) (id:String)(r:V->List V->Hp->VK->Prop):Prop:=
 ∀ (pins:List (Addr×Obj))(s:Shared)(σ:St)(H:Hp)(x:V)(xs:List V) (v:Value)(us:List Value)(Q:VK),Inv X pins σ H s->RelV x v->Vals xs us->r x xs H Q ->
  wpAny (model X.prog X.w) X.A (call (.builtin id) (v::us)) (EP X pins σ Q) X.xe s
section
variable {X:Cx}{a b:Expr}{ta tb:TE}{pos:Pos}
theorem IxR.or {r r':R2}(h:IxR X r)(h':IxR X r'):IxR X (λx y H Q=>r x y H Q\/r' x y H Q):=by
 intro value slice pins s σ H x y v u Q I rx ry q hs
 rcases q with q | q
 ·exact h value slice pins s σ H x y v u Q I rx ry q hs
 ·exact h' value slice pins s σ H x y v u Q I rx ry q hs
theorem pe_ix {r:R2}(hr:IxR X r)(ha:PE X a ta)(hb:PE X b tb)(hs:PlainIx b):PE X (.Subscript a b pos) (tOp r ta tb):=by
 intro pins s σ H Q I h
 exact Subscript_ (binT ha hb I h λv u s2 x y H2 I2 rx ry q=>hr a b pins s2 σ H2 x y v u Q I2 rx ry q (hs _ _))
def rIxL (K:PySem.W.Frag):R2:=λx y H Q=>∃ p xs i v,x=.ref p/\y=.int i/\SqL K H p xs/\atI xs i=some v/\Q v H
def rIxT (K:PySem.W.Frag):R2:=λx y H Q=>∃ p xs i v,x=.ref p/\y=.int i/\SqT K H p xs/\atI xs i=some v/\Q v H
def rIxS:R2:=λx y H Q=>∃ z i c,x=.str z/\y=.int i/\z.length<=sizeLine/\atI z.cps.toList i=some c/\Q (.str ⟨#[c]⟩) H
theorem ix_list:IxR X (rIxL X.K):=by
 intro value slice pins s σ H x y v u Q I rx ry h hs
 obtain⟨p,xs,i,z,rfl,rfl,hq,he,q⟩:=h
 cases rx
 obtain⟨t,rfl⟩:=ry
 obtain⟨its,r,pl,hz⟩:=I.list hq
 obtain⟨j,h1,h2,h3,h4,h5⟩:=atI_get he
 obtain⟨w,ew,rw'⟩:=r.get h2
 have hl:=r.length
 have hn:=line63
 have fin:EP X pins σ Q w s:=⟨z,H,I,rw',q⟩
 by_cases h0:0<=i
 ·have hj:i.toNat=j:=by
   rw[seqIndex_of h0 h5]at h1
   exact Option.some.inj h1
  exact item_listR pl.isList h0 (by omega) (by rw[hj];simpa using ew) fin hs
 ·have hj:(i+(its.toArray.size:Int)).toNat=j:=by
   rw[seqIndex_neg (by omega) h4]at h1
   rw[List.size_toArray,<-hl]
   exact Option.some.inj h1
  exact subscriptTail_builtinR (x:=w) pl.isList.typeIs slot_list_getitem.lookup
   (wpAny_getItem_list_neg (Q:=λr s'=>r=w/\EP X pins σ Q r s') pl.isList (by omega) (by rw[List.size_toArray]<;>omega) (by omega) (by rw[hj];simpa using ew) ⟨rfl,fin⟩) hs
theorem ix_tup:IxR X (rIxT X.K):=by
 intro value slice pins s σ H x y v u Q I rx ry h hs
 obtain⟨p,xs,i,z,rfl,rfl,hq,he,q⟩:=h
 cases rx
 obtain⟨t,rfl⟩:=ry
 obtain⟨its,r,pl,hz⟩:=I.tuple hq
 obtain⟨j,h1,h2,h3,h4,h5⟩:=atI_get he
 obtain⟨w,ew,rw'⟩:=r.get h2
 have hl:=r.length
 have hn:=line63
 have fin:EP X pins σ Q w s:=⟨z,H,I,rw',q⟩
 exact subscriptTail_builtinR (x:=w) pl.typeIs slot_tuple_getitem.lookup
  (getItem_tuple (j:=j) (Q:=λr s'=>r=w/\EP X pins σ Q r s') pl (by omega) (by omega) (by rw[List.size_toArray,<-hl];exact h1) (by simpa using ew) ⟨rfl,fin⟩) hs
theorem ix_str:IxR X rIxS:=by
 intro value slice pins s σ H x y v u Q I rx ry h hs
 obtain⟨z,i,c,rfl,rfl,hz,he,q⟩:=h
 obtain⟨t,rfl⟩:=rx
 obtain⟨t',rfl⟩:=ry
 obtain⟨j,h1,h2,h3,h4,h5⟩:=atI_get he
 have hl:z.cps.toList.length=z.length:=by simp[Str.length]
 rw[hl]at h1 h4 h5
 have hn:=line63
 exact tail_any (typeIs_str s z t) slot_str_getitem.lookup (getItem_str (c:=c) (by
  have e1:decide (i < -(2 ^ 63:Int))=false:=decide_eq_false (by omega)
  have e2:decide (i ≥ 2 ^ 63)=false:=decide_eq_false (by omega)
  rw[e1,e2,Bool.or_false]) (by rw[h1];simpa using h2) ⟨.str ⟨#[c]⟩,H,I.tok _,⟨_,rfl⟩,q⟩) hs
def rIx (K:PySem.W.Frag):R2:=λx y H Q=>rIxL K x y H Q\/rIxT K x y H Q\/rIxS x y H Q
theorem ix_seq:IxR X (rIx X.K):=ix_list.or (ix_tup.or ix_str)
theorem slice_bounds (lo hi:Option Int) (n:Nat):(sliceBounds lo hi none n).1=((HT.sIx n 0 lo:Nat):Int)/\(sliceBounds lo hi none n).2.1=((HT.sIx n n hi:Nat):Int)/\(sliceBounds lo hi none n).2.2=1:=by
 refine⟨?_,?_,rfl⟩
 ·cases lo with
  |none=>simp[sliceBounds,HT.sIx]
  |some i=>
   simp only[sliceBounds,HT.sIx,Option.getD_none,show (1:Int) > 0 by decide,if_true]
   by_cases h:i<0
   ·simp only[h,if_true]<;>omega
   ·simp only[h,if_false]<;>omega
 ·cases hi with
  |none=>simp[sliceBounds,HT.sIx]
  |some i=>
   simp only[sliceBounds,HT.sIx,Option.getD_none,show (1:Int) > 0 by decide,if_true]
   by_cases h:i<0
   ·simp only[h,if_true]<;>omega
   ·simp only[h,if_false]<;>omega
theorem slicePick_cut (its:List Value)(lo hi:Option Int):slicePick its.toArray lo hi none=((its.drop (HT.sIx its.length 0 lo)).take (HT.sIx its.length its.length hi - HT.sIx its.length 0 lo)).toArray:=by
 obtain⟨h1,h2,h3⟩:=slice_bounds lo hi its.toArray.size
 unfold slicePick
 rw[h1,h2,h3]
 simp only[sliceRange_one,pick_run,List.size_toArray]<;>rfl
def rSlL (K:PySem.W.Frag):V->Option Int->Option Int->Hp->VK->Prop:=λx lo hi H Q=>∃ a xs,x=.ref a/\SqL K H a xs/\∀ p,H p=none->Q (.ref p) (upd H p (.lst (cutV xs lo hi)))
theorem sl_list:SlR X (rSlL X.K):=by
 intro pins s σ H x v vl vu lo hi sl Q I rx hs pl pu h
 obtain⟨a,xs,rfl,hx,q⟩:=h
 cases rx
 obtain⟨its,r,ht,hz⟩:=I.list hx
 have hlen:=r.length
 refine⟨"list",_,slot_list_getitem.lookup,ht.isList.typeIs,?_⟩
 refine wpAny_getItem_list_slice ht.isList hs pl pu .none (by simp) ?_ (by rw[List.size_toArray]<;>omega)
 rw[slicePick_cut,<-hlen]
 refine⟨.ref s.heap.objs.size,_,I.laid (t':=s.toks) (o:=.lst (cutV xs lo hi)) (λb ob q=>Heap.get?_push_of_some _ q) (Nat.le_refl _) ?_,rfl,q _ (I.hok.fresh (Nat.le_refl _))⟩
 exact⟨Nat.le_trans (cutV_length xs lo hi) hz,_,0,(r.drop (HT.sIx xs.length 0 lo)).take (HT.sIx xs.length xs.length hi - HT.sIx xs.length 0 lo),Heap.get?_push_size _ rfl⟩
theorem call_len_seq:CallR X (.builtin "len") (λxs H Q=>∃ p ys,xs=[.ref p]/\(SqL X.K H p ys\/SqT X.K H p ys)/\Q (.int ys.length) H):=by
 intro pins s σ H xs us Q I r h
 obtain⟨p,ys,rfl,hq,q⟩:=h
 obtain⟨u,rfl,rx⟩:=vals1 r
 cases rx
 have hn:=line63
 rcases hq with hq | hq
 ·obtain⟨its,r',pl,hz⟩:=I.list hq
  have hlen:=r'.length
  exact Calls.call_len_list pl.isList (by simp only[List.size_toArray]<;>omega) ⟨.int ys.length,H,I.tok _,⟨s.toks+1,by rw[List.size_toArray,hlen]⟩,q⟩
 ·obtain⟨its,r',pl,hz⟩:=I.tuple hq
  have hlen:=r'.length
  exact len_tuple pl (by simp only[List.size_toArray]<;>omega) ⟨.int ys.length,H,I.tok _,⟨s.toks+1,by rw[List.size_toArray,hlen]⟩,q⟩
theorem call_len_str:CallR X (.builtin "len") (λxs H Q=>∃ z,xs=[.str z]/\z.length<=sizeLine/\Q (.int z.length) H):=by
 intro pins s σ H xs us Q I r h
 obtain⟨z,rfl,hz,q⟩:=h
 obtain⟨u,rfl,t,rfl⟩:=vals1 r
 have hn:=line63
 exact len_str (by omega) ⟨.int z.length,H,I.tok _,⟨_,rfl⟩,q⟩
theorem call_tuple_of:CallR X (.type "tuple") (λxs H Q=>∃ p ys,xs=[.ref p]/\((SqL X.K H p ys/\∀ l,H l=none->Q (.ref l) (upd H l (.tup ys)))\/(SqT X.K H p ys/\Q (.ref p) H))):=by
 intro pins s σ H xs us Q I r h
 obtain⟨p,ys,rfl,h⟩:=h
 obtain⟨u,rfl,rx⟩:=vals1 r
 cases rx
 rcases h with ⟨hq,q⟩ | ⟨hq,q⟩
 ·obtain⟨its,r',pl,hz⟩:=I.list hq
  have hlen:=r'.length
  refine call_tuple_list pl.isList (λh' kp=>?_) (by simp only[List.size_toArray]<;>omega)
  have I1:Inv X pins σ H { s with heap:=h' }:=I.kept (t':=s.toks) kp
  have I2:Inv X pins σ (upd H h'.objs.size (.tup ys)) { s with heap:=h'.push { cls:=.type "tuple",data:=.seq its.toArray } }:=
   I1.laid (t':=s.toks) (λb o e=>Heap.get?_push_of_some _ e) (Nat.le_refl _) (show ObjOk X.prog X.w _ _ _ (.tup ys) from ⟨hz,its,r',IsTupD.new _ _⟩)
  exact⟨.ref h'.objs.size,_,I2,rfl,q _ (I1.hok.fresh (Nat.le_refl _))⟩
 ·obtain⟨its,r',pl,hz⟩:=I.tuple hq
  exact call_tuple_same pl ⟨.ref p,H,I,rfl,q⟩
def tyV (K:PySem.W.Frag) (T:String)(x:V)(H:Hp):Prop:=match x with
 |.str _=>T = "str"
 |.int _=>T = "int"
 |.ref p=>(T = "list"/\∃ xs,SqL K H p xs)\/(T = "tuple"/\∃ o,K.lookup p=some o/\o.cls=.type "tuple"/\o.dict=none) ∨
   (T = "dict"/\((∃ kvs,H p=some (.dK kvs))\/∃ kvs,H p=some (.dT kvs)))\/(T = "set"/\∃ S n,H p=some (.set S n))
 |_=>False
theorem tyV_is {pins:List (Addr×Obj)}{σ:St}{H:Hp}{s:Shared}{T:String}{x:V}{v:Value}(I:Inv X pins σ H s)(r:RelV x v)(ty:tyV X.K T x H) :
  s.TypeIs v T/\∀ a,v=.ref a->∃ ob,s.heap.get? a=some ob/\ob.dict=none:=by
 cases x with
 |str z=>
  obtain⟨t,rfl⟩:=r
  cases (show T = "str" from ty)
  exact⟨typeIs_str s z t,λ_ e=>nomatch e⟩
 |int i=>
  obtain⟨t,rfl⟩:=r
  cases (show T = "int" from ty)
  exact⟨typeIs_int s i t,λ_ e=>nomatch e⟩
 |ref p=>
  cases r
  rcases ty with ⟨rfl,xs,hq⟩ | ⟨rfl,o,hk,hc,hd⟩ | ⟨rfl,hk⟩ | ⟨rfl,S,n,hk⟩
  ·obtain⟨its,_,pl,_⟩:=I.list hq
   refine⟨pl.isList.typeIs,λa e=>?_⟩
   cases e
   obtain⟨o,n,e,c,hd,_⟩:=pl
   exact⟨o,e,hd⟩
  ·refine⟨⟨o,I.kIn p o hk,hc⟩,λa e=>?_⟩
   cases e
   exact⟨o,I.kIn _ o hk,hd⟩
  ·have z:∃ o,s.heap.get? p=some o/\o.ExactDict:=by
    rcases hk with ⟨kvs,hk⟩ | ⟨kvs,hk⟩
    ·obtain⟨_,_,_,_,o,_,_,e,ex,_⟩:=I.hok p _ hk
     exact⟨o,e,ex⟩
    ·obtain⟨_,_,_,_,o,_,_,e,ex,_⟩:=I.hok p _ hk
     exact⟨o,e,ex⟩
   obtain⟨o,e,ex⟩:=z
   refine⟨⟨o,e,ex.1⟩,λa e2=>?_⟩
   cases e2
   exact⟨o,e,ex.2.1⟩
  ·obtain⟨o,_,_,_,e,ex,_⟩:=I.hok p _ hk
   refine⟨⟨o,e,ex.1⟩,λa e2=>?_⟩
   cases e2
   exact⟨o,e,ex.2.1⟩
 |_=>exact False.elim ty
def tBM (K:PySem.W.Frag) (T:String)(r:V->List V->Hp->VK->Prop)(to:TE)(t:TA):TE:=λσ H Q=>to σ H λx H1=>tyV K T x H1/\t σ H1 λxs H2=>r x xs H2 Q
variable {o e:Expr}{es:List Expr}{to:TE}{t:TA}{name:Str}{apos cpos:Pos}{T id:String}{r:V->List V->Hp->VK->Prop}
theorem pe_bm (pa:PlainAttrs T)(slot:Slot T name id)(hty:typeOf (.builtin id)=pure (.type "method_descriptor"))(hm:MtR X id r)(ho:PE X o to)(ha:PA X (e::es) t)
  (hbase:autoParam (attributeBase o name X.env (eval o X.env)=eval o X.env) aR._auto_1)
  (hfew:((backTo cpos (starEach (e::es) X.env)).all (λx=>!x.1) && (backToKw cpos (keywordEach [] X.env)).all (λx=>x.1.isSome)
   && decide ((e::es).length+([]:List Keyword).length+(if ([]:List Keyword).isEmpty then 0 else 1)<30))=true:=by rfl)
  (hline:autoParam ((apos.endLine == cpos.line)=true) aR._auto_1)(hs:autoParam (starEach (e::es) X.env=(false,eval e X.env)::starEach es X.env) aR._auto_1)(hplain:autoParam ((backTo cpos (starEach es X.env)).any (·.1)=false) aR._auto_1) :
  PE X (.Call (.Attribute o name apos) (e::es) [] cpos) (tBM X.K T r to t):=by
 intro pins s σ H Q I h
 refine wpAny_Call_method_late hbase hfew hline rfl (thn (ho pins s σ H _ I h) λv s1 ⟨x,H1,I1,r1,ty,q1⟩=>?_)
 obtain⟨h1,h2⟩:=tyV_is I1 r1 ty
 refine⟨T,id,pa,slot,hty,h1,h2,?_⟩
 have hA:=ha cpos pins s1 σ H1 _ I1 q1
 rw[hs]at hA ⊢
 refine Calls.callWith_builtin (by show (false || (backTo cpos (starEach es X.env)).any (·.1))=false;rw[hplain]<;>rfl) (Calls.evalArgs_plain ?_)
 exact thn hA λus s2 ⟨vs,H2,I2,r2,q2⟩=>hm pins s2 σ H2 x vs v us Q I2 r1 r2 q2
end
end L2
namespace L2
open PySem PySem.Spec PyProof.Rows
def MtM (X:Cx) (id:String)(r:V->List V->Hp->VK->Prop):Prop:=
 ∀ (pins:List (Addr×Obj))(s:Shared)(σ:St)(H:Hp)(x:V)(xs:List V) (v:Value)(us:List Value)(Q:VK),Inv X pins σ H s->RelV x v->Vals xs us->r x xs H Q ->
  wpAny (model X.prog X.w) X.A (call (.builtin id) (v::us)) (EP X pins σ Q) X.xe s
theorem Vals.one:∀ {x:V}{us:List Value},Vals [x] us->∃ u,us=[u]/\RelV x u
 |_,_,.cons r .nil=>⟨_,rfl,r⟩
theorem Vals.eraseIdx:∀ {xs:List V}{us:List Value} (i:Nat),Vals xs us->Vals (xs.eraseIdx i) (us.eraseIdx i)
 |_,_,_,.nil=>.nil
 |_,_,0,.cons _ t=>t
 |_,_,i+1,.cons r t=>.cons r (Vals.eraseIdx i t)
theorem Vals.rep {xs:List V}{us:List Value}(h:Vals xs us):∀ k:Nat,Vals (List.replicate k xs).flatten (List.replicate k us).flatten
 |0=>.nil
 |k+1=>by
  rw[List.replicate_succ,List.replicate_succ,List.flatten_cons,List.flatten_cons]
  exact Vals.append h (Vals.rep h k)
theorem len_erase {α:Type}:∀ (l:List α) (i:Nat),(l.eraseIdx i).length<=l.length
 |[],_=>Nat.le_refl _
 |_::_,0=>Nat.le_succ _
 |_::r,i+1=>Nat.succ_le_succ (len_erase r i)
section
variable {X:Cx}{pins:List (Addr×Obj)}{σ:St}{H:Hp}{s:Shared}{l b:Addr}{xs ys zs:List V}
theorem Inv.lset {its its':List Value}{n:Nat}{f:Array Value->Array Value}{t':Nat}(I:Inv X pins σ H s)(hH:H l=some (.lst xs))
  (e:s.heap.get? l=some { cls:=.type "list",data:=.seq its.toArray n })(hf:f its.toArray=its'.toArray)(hv:Vals ys its')(hz:ys.length<=sizeLine) :
  Inv X pins σ (upd H l (.lst ys)) { s with heap:=s.heap.update l (Obj.mapSeq f),toks:=t' }:=by
 have q:=PySem.IsL.update e f
 rw[hf]at q
 refine I.write (x:=l) (e:=l) (by rw[hH];exact trivial) (.inl rfl) (λb' u hb hu=>(Heap.get?_update_other s.heap (Obj.mapSeq f) (Ne.symm hb)).trans hu) ⟨_,q⟩ ?_
 exact⟨hz,its',_,hv,q⟩
theorem Inv.lnew {its:List Value}{t':Nat}(I:Inv X pins σ H s)(hv:Vals ys its)(hz:ys.length<=sizeLine) :
  Inv X pins σ (upd H s.heap.objs.size (.lst ys)) { s with heap:=s.heap.push { cls:=.type "list",data:=.seq its.toArray },toks:=t' }:=
 I.laid (λ_ _ q=>Heap.get?_push_of_some _ q) (Nat.le_refl _) ⟨hz,its,0,hv,Heap.get?_push_size _ rfl⟩
theorem Inv.fresh (I:Inv X pins σ H s):H s.heap.objs.size=none:=I.hok.fresh (Nat.le_refl _)
theorem Inv.lstM (I:Inv X pins σ H s)(hH:H l=some (.lst xs)):xs.length<=sizeLine/\∃ (its:List Value) (n:Nat),Vals xs its/\xs.length=its.length/\s.heap.get? l=some { cls:=.type "list",data:=.seq its.toArray n }:=by
 obtain⟨z,its,n,r,e⟩:=I.hok l _ hH
 exact⟨z,its,n,r,r.length,e⟩
theorem notLongL {n:Nat}(h:n<=sizeLine):Builtin.List.listTooLong n=false:=by
 unfold Builtin.List.listTooLong
 exact decide_eq_false (by omega)
end
section
variable {X:Cx}
def rAppend:V->List V->Hp->VK->Prop:=λx vs H Q=>∃ l xs y,x=.ref l/\vs=[y]/\H l=some (.lst xs)/\xs.length<sizeLine/\Q .non (upd H l (.lst (xs++[y])))
theorem mt_append:MtM X "list.append" rAppend:=by
 intro pins s σ H x vs v us Q I rx rv h
 obtain⟨l,xs,y,rfl,rfl,hH,hz,q⟩:=h
 cases rx
 obtain⟨u,rfl,ru⟩:=rv.one
 obtain⟨z,its,n,r,hl,e⟩:=I.lstM hH
 refine call_meets F.slot_list_append ⟨_,e,rfl⟩ F.entry_list_append (F.args_list_append_2 _ _) (PySem.list_append l its.toArray n u (by rw[List.size_toArray];omega)) ⟨e,?_⟩
 refine⟨.non,_,I.lset (its':=its++[u]) hH e (by simp) (r.append (.cons ru .nil)) ?_,rfl,q⟩
 rw[List.length_append,List.length_singleton]
 omega
def rPopAt:V->List V->Hp->VK->Prop:=λx vs H Q=>∃ l xs i k y,x=.ref l/\vs=[.int i]/\H l=some (.lst xs)/\-(2 ^ 63)<=i/\i<2 ^ 63/\seqIndex? i xs.length=some k/\xs[k]? = some y/\Q y (upd H l (.lst (xs.eraseIdx k)))
theorem mt_popAt:MtM X "list.pop" rPopAt:=by
 intro pins s σ H x vs v us Q I rx rv h
 obtain⟨l,xs,i,k,y,rfl,rfl,hH,h1,h2,hk,hy,q⟩:=h
 cases rx
 obtain⟨u,rfl,ru⟩:=rv.one
 obtain⟨t,rfl⟩:=ru
 obtain⟨z,its,n,r,hl,e⟩:=I.lstM hH
 obtain⟨w,hw,rw'⟩:=r.get hy
 refine call_meets F.slot_list_pop ⟨_,e,rfl⟩ F.entry_list_pop (F.args_list_pop_2 _ _)
  (MeetsSeq.list_pop_at l its.toArray n i t k w (fitsIndex_both h1 h2) (by rw[List.size_toArray,<-hl];exact hk) (by rw[<-Array.getElem?_toList];exact hw) (by rw[List.size_toArray];omega)) ⟨e,?_⟩
 refine⟨y,_,I.lset (its':=its.eraseIdx k) hH e ?_ (r.eraseIdx k) ?_,rw',q⟩
 ·show its.toArray.eraseIdxIfInBounds k=(its.eraseIdx k).toArray
  rw[List.eraseIdxIfInBounds_toArray]
 ·have:=len_erase xs k
  omega
theorem len_rep {α:Type}(xs:List α) (k:Nat):(List.replicate k xs).flatten.length=k * xs.length:=by
 induction k with
 |zero=>simp
 |succ k ih=>rw[List.replicate_succ,List.flatten_cons,List.length_append,ih,Nat.succ_mul,Nat.add_comm]
end
section
variable {prog:Program}{w:World}{A:Around}{E:Value->Shared->Prop}{s:Shared}
end
section
variable {X:Cx}
end
end L2
namespace L2
open PySem PySem.Spec PyProof.Rows
section
variable {κ:Type} [DecidableEq κ]
end
section
variable {P:Program}{w:World}{H:Hp}{h:Heap}{a:Addr}
end
section
variable {X:Cx}{pins:List (Addr×Obj)}{σ:St}{H:Hp}{s:Shared}{a:Addr}{y v:V}{u r:Value}{o:Option V}{A:Around}{E:Value->Shared->Prop}
end
section
variable {X:Cx}{pins:List (Addr×Obj)}{σ:St}{H:Hp}{s:Shared}{a:Addr}{kvs:List (Key×V)}{k:Key}{u:Value}{A:Around}{E:Value->Shared->Prop}
end
section
variable {X:Cx}{o i e value:Expr}{pos pos' tpos:Pos}{td ty tv:TE}
end
section
variable {X:Cx}{pos:Pos}
end
structure M1 (X:Cx)(o:Expr) (m:Str)(apos:Pos)(e:Expr)(cpos:Pos):Prop where
 base:attributeBase o m X.env (eval o X.env)=eval o X.env
 few:((backTo cpos (starEach [e] X.env)).all (λx=>!x.1) && (backToKw cpos (keywordEach [] X.env)).all (λx=>x.1.isSome)
  && decide (([e]:List Expr).length+([]:List Keyword).length+(if ([]:List Keyword).isEmpty then 0 else 1)<30))=true
 line:(apos.endLine == cpos.line)=true
 trees:backTo cpos (starEach [e] X.env)=[(false,eval e X.env)]
structure M2 (X:Cx)(o:Expr) (m:Str)(apos:Pos)(e f:Expr)(cpos:Pos):Prop where
 base:attributeBase o m X.env (eval o X.env)=eval o X.env
 few:((backTo cpos (starEach [e,f] X.env)).all (λx=>!x.1) && (backToKw cpos (keywordEach [] X.env)).all (λx=>x.1.isSome)
  && decide (([e,f]:List Expr).length+([]:List Keyword).length+(if ([]:List Keyword).isEmpty then 0 else 1)<30))=true
 line:(apos.endLine == cpos.line)=true
 trees:backTo cpos (starEach [e,f] X.env)=[(false,eval e X.env),(false,eval f X.env)]
section
variable {X:Cx}{pins:List (Addr×Obj)}{σ:St}{H:Hp}{s:Shared}{a:Addr}{y d:V}{u r:Value}{o:Option V}{A:Around}{E:Value->Shared->Prop}
end
section
variable {X:Cx}{o e f:Expr}{apos cpos:Pos}{td ty tx:TE}
end
section
variable {X:Cx}{pins:List (Addr×Obj)}{σ:St}{H:Hp}{s:Shared}{a:Addr}{kvs:List (Key×V)}{A:Around}{E:Value->Shared->Prop}
end
section
variable {X:Cx}{pins:List (Addr×Obj)}{σ:St}{H:Hp}{s:Shared}{a:Addr}{y:V}{u:Value}{A:Around}{E:Value->Shared->Prop}
end
end L2
namespace Att
open PySem PySem.W PySem.Calls PyProof.Rows
theorem ints_of_wellAll {P:Params}{h:Heap}:∀ (ns:List Int)(vs:List Value),WellAll P h vs (ns.map WData.int)->IntsAre vs ns:=by
 intro ns
 induction ns with
 |nil=>
  intro vs w
  rw[List.map_nil]at w
  cases w
  exact .nil
 |cons n ns ih=>
  intro vs w
  rw[List.map_cons]at w
  cases w with
  |cons a b=>
   cases a
   exact .cons _ _ (ih _ b)
theorem script_of {l:OpenLaw}{n:Nat}(hn:l.most=some n){P:Params}{h:Heap}{args:List WData}{vals:List Value}
  (hpre:l.row.toRowW.claim.pre args=true)(hwl:WellAll P h vals args) :
  ∃ a vs ns,vals=[Value.ref a]/\args=[WData.list (ns.map WData.int)]/\h.get? a=some { cls:=.type "list",data:=.seq vs.toArray }/\IntsAre vs ns/\ns.length<=n:=by
 have hsh:WShape.hasAll [] args [.list .int]=true:=(pre_splitW hpre).1
 have hc:l.pre.holds [] { args:=args }=true:=(pre_splitW hpre).2
 obtain⟨d,r,rfl,h1,h2⟩:=hasAllW_cons hsh
 obtain rfl:=hasAllW_nil h2
 obtain⟨xs,rfl,h3⟩:=hasW_list h1
 obtain⟨ns,rfl⟩:=items_int h3
 have hlen:ns.length<=n:=by
  unfold OpenLaw.pre at hc
  have h4:(WTm.not (.lt (.lit (.int (n:Int))) (.len (.arg 0)))).holds [] { args:=[.list (ns.map .int)] }=true:=by
   have h4:=(holds_andW hc).1
   rw[hn]at h4
   exact h4
  have h5:=condW_of h4 (w_not (w_lt w_lit (w_len_list (w_arg rfl))))
  rw[List.length_map]at h5
  refine Nat.le_of_not_lt λq=>?_
  have q':(n:Int)<((ns.length:Nat):Int):=by omega
  first
   |(rw[decide_eq_true q']at h5;exact absurd h5 (by decide))
   |(simp at h5;omega)
 cases hwl with
 |cons w1 w2=>
  cases w2
  cases w1 with
  |list ho hall=>exact⟨_,_,ns,rfl,rfl,ho,ints_of_wellAll ns _ hall,hlen⟩
theorem post_true (l:OpenLaw)(args:List WData):l.row.toRowW.claim.post args (.bool true) args=true:=
 postW_of (r:=l.row.toRowW) (X:=(true == true))
  (show WShape.has [] (.bool true) .bool=true by first | rfl | decide | simp[WShape.has,WShape.arms,WShape.armsAll])
  (show (WTm.eq .res (.lit (.bool true))).value [] { args:=args,res:=some (.bool true),after:=args }=some (.bool (true == true)) from w_eq_bool (w_res rfl) w_lit) rfl
section
variable {prog:Program}{w:World}{A:Around}{E:Value->Shared->Prop}{s:Shared}{K:Frag}
end
end Att
namespace L2
open PySem PySem.Spec PyProof.Rows
theorem Y9:∀ {vs:List Value}{ns:List Int},IntsAre vs ns->Vals (ns.map V.int) vs
 |_,_,.nil=>.nil
 |_,_,.cons n t h=>.cons ⟨t,rfl⟩ (Y9 h)
def Only (H:Hp):Prop:=∀ b,H b=none\/∃ o xs,H b=some (.frz o (.lst xs))
end L2
namespace L2
open PySem PySem.Spec PyProof.Rows
end L2
namespace L2
open PySem PySem.Spec PyProof.Rows
def defArgs (s:Stmt):Arguments:=match s with
 |.FunctionDef _ a _ _ _ _ _ _ _ _=>a
 |_=>{ posonlyargs:=[],args:=[],vararg:=none,kwonlyargs:=[],kw_defaults:=[],kwarg:=none,defaults:=[] }
def defBody (s:Stmt):List Stmt:=match s with
 |.FunctionDef _ _ b _ _ _ _ _ _ _=>b
 |_=>[]
def defScope (s:Stmt):Scope:=match s with
 |.FunctionDef _ _ _ _ _ _ sc _ _ _=>sc
 |_=>{ kind:=.function,names:=[],isGenerator:=false,isCoroutine:=false }
abbrev E0:XK:=λ_ _ _=>False
structure Fun (K:PySem.W.Frag) (x qual:Str)(st:Stmt)(f:Addr)(fd:FuncData):Prop where
 ex:∃ (oc:Value)(od:Option Addr) (kV doc pm:Value)(an:Option Addr) (cdv ct:Value)(osl:Array (Option Value)),
  fd=PySem.W.fnOf x qual (defArgs st) (defBody st) (defScope st) .none kV doc pm an cdv ct/\K.lookup f=some ⟨oc,od,.func fd,osl⟩/\PySem.W.codeIn K cdv qual=true
 kp:PySem.W.keepIn K (.ref f)=true
section
variable {P:Program}{w:World}{K:PySem.W.Frag}{mg:Str->Option Value}{base:Heap}
theorem Fun.binds {x qual:Str}{st:Stmt}{f:Addr}{fd:FuncData}{ps:List Str}(F:Fun K x qual st f fd)
  (h:∀ (kV doc pm:Value)(an:Option Addr) (cdv ct:Value)(us:List Value),us.length=ps.length->bindArgs (PySem.W.fnOf x qual (defArgs st) (defBody st) (defScope st) .none kV doc pm an cdv ct) ⟨us,[]⟩=pure (ps.zip us)):Binds K fd ps []:=by
 obtain⟨oc,od,kV,doc,pm,an,cdv,ct,osl,rfl,lk,hcd⟩:=F.ex
 exact .all (h kV doc pm an cdv ct)
theorem fun_mk {x qual:Str}{st:Stmt}{f:Addr}{oc:Value}{od an:Option Addr}{osl:Array (Option Value)}{kV doc pm cdv ct:Value}(l:K.lookup f=some ⟨oc,od,.func (PySem.W.fnOf x qual (defArgs st) (defBody st) (defScope st) .none kV doc pm an cdv ct),osl⟩)
  (c:PySem.W.codeIn K cdv qual=true)(k:PySem.W.keepIn K (.ref f)=true):Fun K x qual st f (PySem.W.fnOf x qual (defArgs st) (defBody st) (defScope st) .none kV doc pm an cdv ct):=⟨⟨oc,od,kV,doc,pm,an,cdv,ct,osl,rfl,l,c⟩,k⟩
end
section
variable {X:Cx}
end
def Same (H H':Hp):Prop:=∀ b o,H b=some o->H' b=some o
theorem Same.refl (H:Hp):Same H H:=λ_ _ h=>h
theorem Same.trans {H H1 H2:Hp}(a:Same H H1)(b:Same H1 H2):Same H H2:=λc o h=>b c o (a c o h)
theorem Same.free {H H':Hp}(e:Same H H'){l:Addr}(h:H' l=Option.none):H l=Option.none:=by
 cases q:H l with
 |none=>rfl
 |some o=>
  rw[e l o q]at h
  cases h
theorem Same.seq {K:PySem.W.Frag}{H H':Hp}{a:Addr}{xs:List V}(e:Same H H')(h:SqL K H a xs):SqL K H' a xs:=by
 rcases h with (h | ⟨o,h⟩) | h
 ·exact .inl (.inl (e _ _ h))
 ·exact .inl (.inr ⟨o,e _ _ h⟩)
 ·exact .inr h
section
variable {κ:Type} [DecidableEq κ]
end
end L2
namespace PySem
structure VOk where
 p:Array Value->Prop
 cl:∀ vs v,p vs->p (vs.setIfInBounds 1 v)
namespace Heap
structure Mild (base h h':Heap):Prop where
 st:base.StaysIn h->base.StaysIn h'
 up:h.UpToSlots h'
theorem Mild.trans {base a b c:Heap}(x:Mild base a b)(y:Mild base b c):Mild base a c:=⟨λh=>y.st (x.st h),x.up.trans y.up⟩
theorem Mild.frames {base a b:Heap}{l:List Env}(x:Mild base a b)(h:a.FunFrames base l):b.FunFrames base l:=
 h.of_keeps λr o e n=>(x.up r o e n).elim λ_ q=>⟨_,q,rfl⟩
theorem mild_write {base h:Heap}{r:Addr}{o:Obj}{vs:Array Value}(f:Obj->Obj)(e:h.get? r=some o)(d:o.data=.fields vs)(n:base.get? r=none):Mild base h (h.update r f):=by
 have far:∀ b,b≠r->(h.update r f).get? b=h.get? b:=λb z=>Heap.get?_update_other h f λq=>z q.symm
 refine⟨λk b x q=>?_,λb x q z=>⟨x.slots,?_⟩⟩
 ·refine (far b ?_).trans (k b x q)
  rintro rfl
  rw[n]at q
  cases q
 ·refine (far b ?_).trans q
  rintro rfl
  rw[e]at q
  cases q
  exact z _ d
theorem mild_new {base h:Heap}(o:Obj):Mild base h (h.push o):=
 ⟨λk b x q=>Heap.get?_push_of_some o (k b x q),.of_keeps λ_ _ q=>Heap.get?_push_of_some o q⟩
theorem mild_slots {base h h':Heap}{l:List Env}(hl:h.FunFrames base l)(x:SlotsOnly (l.filterMap (·.frame)) h h'):Mild base h h':=by
 refine⟨λk b o q=>?_,λb o q _=>x.2.2 b o q⟩
 by_cases m:b ∈ l.filterMap (·.frame)
 ·have:=(hl.mem m).1
  rw[q]at this
  cases this
 ·rw[x.2.1 b m]
  exact k b o q
inductive TracedAtC (h base:Heap)(e:Addr) (cls:Value)(ok:VOk) (fl:Value):Prop
 |mk (o:Obj)(vs:Array Value)(T:Addr)(t:Obj)(ts:Array Value)(at_e:h.get? e=some o)(kind:o.cls=cls/\ok.p vs)(fields:o.data=.fields vs)(top:vs[1]? = some (.ref T))(own:base.get? T=none)(apart:T≠e)
   (at_t:h.get? T=some t)(cells:t.data=.fields ts)(mark:ts[3]? = some fl)
structure NotedC (base:Heap)(l:List Env)(e:Addr) (cls:Value)(ok:VOk) (fl:Value)(h h':Heap):Prop where
 st:base.StaysIn h'
 frs:h'.FunFrames base l
 way:h'.TracedAtC base e cls ok fl
 up:h.UpToSlots h'
structure WayC (base:Heap)(l:List Env)(e:Addr) (cls:Value)(ok:VOk) (fl:Value)(h:Heap):Prop where
 st:base.StaysIn h
 new:base.get? e=none
 frs:h.FunFrames base l
 way:h.TracedAtC base e cls ok fl
noncomputable abbrev FlyingC (base:Heap)(l:List Env)(e:Addr) (cls:Value)(ok:VOk)(h:Heap):Prop:=WayC base l e cls ok .none h
noncomputable abbrev HeldC (base:Heap)(l:List Env)(e:Addr) (cls:Value)(ok:VOk)(L:Addr)(h:Heap):Prop:=WayC base l e cls ok (rawInt L) h
theorem Mild.noted {base h h':Heap}{l:List Env}{e:Addr}{cls fl:Value}{ok:VOk}(x:Mild base h h')(k:base.StaysIn h)(f:h.FunFrames base l)(w:h'.TracedAtC base e cls ok fl):NotedC base l e cls ok fl h h':=⟨x.st k,x.frames f,w,x.up⟩
theorem NotedC.to {base h h':Heap}{l:List Env}{e:Addr}{cls fl:Value}{ok:VOk}(x:NotedC base l e cls ok fl h h')(n:base.get? e=none):WayC base l e cls ok fl h':=⟨x.st,n,x.frs,x.way⟩
theorem WayC.out {base h:Heap}{env:Env}{l:List Env}{e:Addr}{cls fl:Value}{ok:VOk}(x:WayC base (env::l) e cls ok fl h):WayC base l e cls ok fl h:=⟨x.st,x.new,x.frs.2.2,x.way⟩
end Heap
section
variable {M:Model}{A:Around}{E:Value->Shared->Prop}{s:Shared}{base:Heap}{e L:Addr}{env:Env}{outer l:List Env}{cls fl:Value}{ok:VOk}{Q:Unit->Shared->Prop}
theorem wpAny_flightC (nf:Option Addr)(hkb:base.StaysIn s.heap)(hl:s.heap.FunFrames base l)(ht:s.heap.TracedAtC base e cls ok fl)
  (h:∀ h',Heap.NotedC base l e cls ok (nf.elim Value.none λf=>rawInt f) s.heap h'->Q () { s with heap:=h' }):wpAny M A (setFlight (.ref e) nf) Q E s:=by
 obtain⟨o,vs,T,t,ts,p,c,d,i1,n,ne,p',d',i3⟩:=ht
 have big:=(Array.getElem?_eq_some_iff.mp i3).1
 unfold setFlight
 refine wpAny_bind (wpAny_field p d i1 ?_)
 rw[show (Value.ref T != Value.none)=true by simp,if_pos rfl]
 refine wpAny_setField p' d' big (h _ ((Heap.mild_write _ p' d' n).noted hkb hl ?_))
 refine .mk o vs T _ _ ?_ c d i1 n ne (Heap.get?_update_self _ p' (Obj.isFreed_of_fields (Obj.data_mapFields d' _))) (Obj.data_mapFields d' _) ?_
 ·rw[Heap.get?_update_other _ _ ne]
  exact p
 ·rw[Array.getElem?_setIfInBounds_self_of_lt big]
theorem wpAny_entryC {oe:Obj}{vs:Array Value}{head:Value}{hadNext:Bool}(hfr:A.frames=some (env::outer))(hl:s.heap.FunFrames base (env::outer))(hf:env.frame=some L)
  (he:s.heap.get? e=some oe)(hkb:base.StaysIn s.heap)(hen:base.get? e=none)(hd:oe.data=.fields vs)(hsz:1<vs.size)(h0:ok.p vs)
  (h:∀ h',Heap.NotedC base (env::outer) e oe.cls ok (rawInt L) s.heap h'->Q () { s with heap:=h' }) :
  wpAny M A (do let a <-frameOf env;let pl <-entryPlaceOf L hadNext;let b <-EntryCells.newEntry head a .none (rawInt L) .none pl;setField (.ref e) 1 b) Q E s:=by
 refine wpAny_bind (wpAny_frameOf_fun hfr hl hf λg so=>wpAny_bind (wpAny_entryPlaceOf λpl ip=>?_))
 have m1:=Heap.mild_slots hl so
 have ge:g.get? e=some oe:=by
  rw[so.2.1 e λm=>?_]
  ·exact he
  ·obtain⟨_,o,q,z⟩:=hl.mem m
   rw[he]at q
   cases q
   exact z _ hd
 unfold EntryCells.newEntry newFields
 refine wpAny_bind (wpAny_newObj_type ?_ (ip.sizeOk5 _ _ _ _ _))
 generalize hcs:(([head,.ref L,.none,rawInt L,.none]++(if pl.isEmpty then List.replicate 6 Value.none else pl)).toArray:Array Value)=cs
 have c3:cs[3]? = some (rawInt L):=by rw[<-hcs];rfl
 have pe:=Heap.get?_push_of_some (h:=g) { cls:=.type "traceback",dict:=none,data:=.fields cs } ge
 have ne:g.objs.size≠e:=λz=>Nat.lt_irrefl _ (z ▸ Heap.lt_size ge)
 refine wpAny_setField pe hd hsz (h _ (((m1.trans (Heap.mild_new _)).trans (Heap.mild_write _ pe hd hen)).noted hkb hl ?_))
 refine .mk _ _ g.objs.size { cls:=.type "traceback",dict:=none,data:=.fields cs } cs (Heap.get?_update_self _ pe (Obj.isFreed_of_fields (Obj.data_mapFields hd _))) ⟨Obj.cls_mapFields _ _,ok.cl _ _ h0⟩ (Obj.data_mapFields hd _) ?_ (m1.st hkb).fresh ne ?_ rfl c3
 ·rw[Array.getElem?_setIfInBounds_self_of_lt hsz]
 ·rw[Heap.get?_update_other _ _ λz=>ne z.symm]
  exact Heap.get?_push_size g rfl
theorem noteFrame_firstC {oe:Obj}{vs:Array Value}(hfr:A.frames=some (env::outer))(hl:s.heap.FunFrames base (env::outer))(hf:env.frame=some L)
  (he:s.heap.get? e=some oe)(hkb:base.StaysIn s.heap)(hen:base.get? e=none)(hd:oe.data=.fields vs)(h1:vs[1]? = some .none)(h0:ok.p vs)
  (h:∀ h',Heap.NotedC base (env::outer) e oe.cls ok (rawInt L) s.heap h'->Q () { s with heap:=h' }):wpAny M A (noteFrame (.ref e) env) Q E s:=by
 unfold noteFrame
 simp only[hf]
 refine wpAny_bind (wpAny_field he hd h1 ?_)
 rw[if_neg (by decide)]
 exact wpAny_entryC hfr hl hf he hkb hen hd (Array.getElem?_eq_some_iff.mp h1).1 h0 h
theorem wpAny_looks_onC (hfr:A.frames=some (env::outer))(hf:env.frame=some L)(hfl:Heap.FlyingC base (env::outer) e cls ok s.heap)
  (hQ:∀ h',Heap.HeldC base (env::outer) e cls ok L h'->s.heap.UpToSlots h'->Q () { s with heap:=h' }):wpAny M A (noteFrame (.ref e) env) Q E s:=by
 obtain⟨k,n,f,⟨o,vs,T,t,ts,p,⟨rfl,c⟩,d,i1,nT,ne,p',d',i3⟩⟩:=hfl
 unfold noteFrame
 simp only[hf]
 refine wpAny_bind (wpAny_field p d i1 ?_)
 rw[show (Value.ref T != Value.none)=true by simp,if_pos rfl]
 refine wpAny_bind (wpAny_field p' d' i3 ?_)
 rw[show (Value.none == rawInt L)=false by simp[rawInt],if_neg Bool.false_ne_true]
 have m:=Heap.mild_write (base:=base) (Obj.mapFields (·.setIfInBounds 3 Value.none)) p' d' nT
 refine wpAny_bind (wpAny_setField p' d' (Array.getElem?_eq_some_iff.mp i3).1 ?_)
 refine wpAny_entryC (oe:=o) (ok:=ok) hfr (m.frames f) hf ((Heap.get?_update_other _ _ ne).trans p) (m.st k) n d (Array.getElem?_eq_some_iff.mp i1).1 c λh' x=>?_
 exact hQ h' (x.to n) (m.up.trans x.up)
theorem wpAny_noteFrame_againC (hf:env.frame=some L)(ht:s.heap.TracedAtC base e cls ok (rawInt L))(h:Q () s):wpAny M A (noteFrame (.ref e) env) Q E s:=by
 obtain⟨o,vs,T,t,ts,p,c,d,i1,nT,ne,p',d',i3⟩:=ht
 unfold noteFrame
 simp only[hf]
 refine wpAny_bind (wpAny_field p d i1 ?_)
 rw[show (Value.ref T != Value.none)=true by simp,if_pos rfl]
 refine wpAny_bind (wpAny_field p' d' i3 ?_)
 rw[beq_self_eq_true,if_pos rfl]
 exact wpAny_pure h
theorem wpAny_landsC (hh:Heap.WayC base l e cls ok fl s.heap)(hQ:∀ h',Heap.FlyingC base l e cls ok h'->s.heap.UpToSlots h'->Q () { s with heap:=h' }):wpAny M A (setFlight (.ref e) none) Q E s:=
 wpAny_flightC none hh.st hh.frs hh.way λh' x=>hQ h' (x.to hh.new) x.up
theorem wpAny_leaving_firstC {oe:Obj}{vs:Array Value}(hfr:A.frames=some (env::outer))(hl:s.heap.FunFrames base (env::outer))(hf:env.frame=some L)
  (he:s.heap.get? e=some oe)(hkb:base.StaysIn s.heap)(hen:base.get? e=none)(hd:oe.data=.fields vs)(h1:vs[1]? = some .none)(h0:ok.p vs)
  (h:∀ h',Heap.FlyingC base (env::outer) e oe.cls ok h'->s.heap.UpToSlots h'->Q () { s with heap:=h' }):wpAny M A (leaving env (.ref e)) Q E s:=by
 unfold leaving
 refine wpAny_bind (noteFrame_firstC hfr hl hf he hkb hen hd h1 h0 λg x=>?_)
 exact wpAny_landsC (s:={ s with heap:=g }) (x.to hen) λh' y u=>h h' y (x.up.trans u)
theorem wpAny_leaves_onC (hfr:A.frames=some (env::outer))(hf:env.frame=some L)(hfl:Heap.FlyingC base (env::outer) e cls ok s.heap)
  (hQ:∀ h',Heap.FlyingC base outer e cls ok h'->s.heap.UpToSlots h'->Q () { s with heap:=h' }):wpAny M A (leaving env (.ref e)) Q E s:=by
 unfold leaving
 refine wpAny_bind (wpAny_looks_onC hfr hf hfl λg x u=>?_)
 exact wpAny_landsC (s:={ s with heap:=g }) x λh' y v=>hQ h' y.out (u.trans v)
end
end PySem
namespace PM
open PySem PySem.Spec PyProof.Rows
theorem Wt:entryFor table "proto.unchain" = some Builtin.«proto.unchain»:=entryFor_of_tree (by kernel_rfl)
section
variable {prog:Program}{w:World}{A:Around}{E:Value->Shared->Prop}{s:Shared}
theorem Wl {α:Type}{e c:Addr}{oe oc:Obj}{vs ws:Array Value}{Q:α->Shared->Prop}(hh:A.handled=some (.ref c))(hne:c≠e)(he:s.heap.get? e=some oe)(hde:oe.data=.fields vs)(hsz:2<vs.size)
  (hc:s.heap.get? c=some oc)(hdc:oc.data=.fields ws)(h2:ws[2]? = some .none)(hE:E (.ref e) { s with heap:=s.heap.update e (Obj.mapFields (·.setIfInBounds 2 (.ref c))) }) :
  wpAny (model prog w) A (raiseNew (.ref e):Sem α) Q E s:=by
 unfold raiseNew
 refine wpAny_bind (wpAny_handled ?_)
 rw[hh]
 have hb:(Value.ref c != Value.ref e)=true:=by simpa using hne
 dsimp only
 rw[if_pos hb]
 refine wpAny_bind (wpAny_holding (runValue_entry Wt ?_))
 ·unfold Builtin.«proto.unchain»
  refine wpAny_bind (wpAny_field hc hdc h2 ?_)
  rw[if_pos (by rfl)]
  refine wpAny_pure ⟨_,rfl,?_⟩
  unfold updateField
  refine wpAny_bind (wpAny_bind (wpAny_load he ?_))
  rw[hde]
  dsimp only
  rw[if_pos hsz]
  exact wpAny_update he (wpAny_throw hE)
end
end PM
namespace PM
open PySem PySem.Spec PyProof.Rows
section
variable {M:Model}{A:Around}{E:Value->Shared->Prop}{env:Env}
variable {nm q:Str}{C N:Addr}{bs bm:List Value}{hdct:Bool}{sn:List Str}{sub:List Value}{ab:Bool}{col:Option Bool}{dd:Option Addr}{k0 k1 k2 k3 k5:Option Value}{newId:String}
 {h:Heap}{g:Array GenState}{d:Drawn}{tk:Nat}{os:OsState}{e:Addr}{dct:Option Addr}{sl:Array (Option Value)}{vs:Array Value}
theorem uC {msg:String}{Q:Value->Shared->Prop}(hbase:bm.contains (.type "BaseException")=true)(hC:h.get? C=some (excClassObj nm q C N bs bm hdct sn sub ab col dd k0 k1 k2 k3 k5 newId))(he:h.get? e=some ⟨.ref C,dct,.fields vs,sl⟩)
  (hq:Q (.ref e) ⟨h,g,d,tk,os⟩):wpAny M A (excFromValue (.ref e) msg) Q E ⟨h,g,d,tk,os⟩:=by
 have hcB:(Value.ref C::bm).contains (.type "BaseException")=true:=by rw[List.contains_cons,hbase,Bool.or_true]
 unfold excFromValue
 repeat (first | with_reducible refine wpAny_loadPart_at he ?_ | with_reducible refine wpAny_loadPart_at hC ?_ | (with_reducible refine wpAny_isSubtype_exc hC ?_;rw[hcB]) | wp_step)
 exact hq
theorem VP {Q:Bool->Shared->Prop}(he:h.get? e=some ⟨.ref C,dct,.fields vs,sl⟩)(hC:h.get? C=some (excClassObj nm q C N bs bm hdct sn sub ab col dd k0 k1 k2 k3 k5 newId))
  (hq:Q false ⟨h,g,d,tk,os⟩):wpAny M A (isType (.ref e)) Q E ⟨h,g,d,tk,os⟩:=by
 repeat (first | with_reducible refine wpAny_loadPart_at he ?_ | with_reducible refine wpAny_loadPart_at hC ?_ | wp_step)
 exact hq
theorem Wj {Q:Value->Shared->Prop}(he:h.get? e=some ⟨.ref C,dct,.fields vs,sl⟩)(hC:h.get? C=some (excClassObj nm q C N bs bm hdct sn sub ab col dd k0 k1 k2 k3 k5 newId))
  (hq:Q (.ref e) ⟨h,g,d,tk,os⟩):wpAny M A (raisedInstance (.ref e)) Q E ⟨h,g,d,tk,os⟩:=by
 unfold raisedInstance
 repeat (first | with_reducible refine wpAny_loadPart_at he ?_ | with_reducible refine wpAny_loadPart_at hC ?_ | wp_step)
 exact hq
theorem wE {oe:Obj}{s:Shared}{Q:Unit->Shared->Prop}(he:s.heap.get? e=some oe)(hd:oe.data=.fields vs)(h1:vs[1]? = some .none)(hq:Q () s):wpAny M A (setFlight (.ref e) none) Q E s:=by
 unfold setFlight
 refine wpAny_bind (wpAny_field he hd h1 ?_)
 rw[if_neg (by decide)]
 exact wpAny_pure hq
end
end PM
namespace PM
open PySem PySem.Spec PyProof.Rows
section
variable {prog:Program}{w:World}{A:Around}{E:Value->Shared->Prop}{s:Shared}{env:Env}
variable {nm q:Str}{C N:Addr}{bs bm:List Value}{hdct:Bool}{sn:List Str}{sub:List Value}{ab:Bool}{col:Option Bool}{dd:Option Addr}{k0 k1 k2 k3 k5:Option Value}{newId:String}
noncomputable def yJ (h:Heap)(e c:Addr):Heap:=((h.update e (Obj.mapFields (·.setIfInBounds 3 .none))).update e (Obj.mapFields (·.setIfInBounds 4 (.bool true)))).update e (Obj.mapFields (·.setIfInBounds 2 (.ref c)))
theorem wk {x cc:Sem Value}{c:Addr}{Q:Flow->Shared->Prop}(hbase:bm.contains (.type "BaseException")=true)(hh:A.handled=some (.ref c))
  (hcc:∀ s₁ (Q':Value->Shared->Prop),Q' .none s₁->wpAny (model prog w) A cc Q' E s₁)
  (h:wpAny (model prog w) A x (λv s₁=>∃ e t oc ws,v=.ref e/\s₁.heap.get? C=some (excClassObj nm q C N bs bm hdct sn sub ab col dd k0 k1 k2 k3 k5 newId) ∧
   s₁.heap.get? e=some { cls:=.ref C,data:=.fields #[.ref t,.none,.none,.none,.bool false,.none] }/\c≠e/\C≠e/\s₁.heap.get? c=some oc/\oc.data=.fields ws/\ws[2]? = some .none/\E (.ref e) { s₁ with heap:=yJ s₁.heap e c }) E s) :
  wpAny (model prog w) A (raiseStmt env (some x) (some cc)) Q E s:=by
 unfold raiseStmt
 refine wpAny_bind (wpAny_mono h (λv s₁ h₁=>?_) λ_ _ x=>x)
 obtain⟨e,t,oc,ws,rfl,hC,he,hne,hCe,hc,hdc,h2,hE⟩:=h₁
 obtain⟨hp,g,d,tk,os⟩:=s₁
 dsimp only at hC he hc hE
 have hd0:({ cls:=.ref C,data:=.fields #[.ref t,.none,.none,.none,.bool false,.none] }:Obj).data=.fields #[.ref t,.none,.none,.none,.bool false,.none]:=rfl
 have he1:=Heap.get?_update_self (Obj.mapFields (·.setIfInBounds 3 Value.none)) he (Obj.isFreed_of_fields (Obj.data_mapFields hd0 _))
 have hd1:=Obj.data_mapFields hd0 (·.setIfInBounds 3 Value.none)
 have he2:=Heap.get?_update_self (Obj.mapFields (·.setIfInBounds 4 (Value.bool true))) he1 (Obj.isFreed_of_fields (Obj.data_mapFields hd1 _))
 have hd2:=Obj.data_mapFields hd1 (·.setIfInBounds 4 (Value.bool true))
 have ot:∀ b,b≠e->((hp.update e (Obj.mapFields (·.setIfInBounds 3 Value.none))).update e (Obj.mapFields (·.setIfInBounds 4 (Value.bool true)))).get? b=hp.get? b:=λb hb=>by
  rw[Heap.get?_update_other _ _ (Ne.symm hb),Heap.get?_update_other _ _ (Ne.symm hb)]
 have hC2:=(ot C hCe).trans hC
 have hc2:=(ot c hne).trans hc
 refine wpAny_bind (wpAny_holding (hcc _ _ (wpAny_bind (wpAny_pure ?_))))
 refine wpAny_bind (wpAny_holding (uC hbase hC he ?_))
 dsimp only
 rw[if_pos (by rfl)]
 refine wpAny_bind (wpAny_pure (wpAny_bind (wpAny_setField he hd0 (by simp) ?_)))
 refine wpAny_bind (wpAny_setField he1 hd1 (by simp) ?_)
 refine wpAny_bind (VP (dct:=none) (sl:=#[]) he2 hC2 ?_)
 rw[if_neg (by decide)]
 refine wpAny_bind (Wj (dct:=none) (sl:=#[]) he2 hC2 ?_)
 refine wpAny_bind (wE he2 hd2 (by simp) ?_)
 exact Wl hh hne he2 hd2 (by simp) hc2 hdc h2 hE
end
end PM
namespace PM
open PySem PySem.Spec PyProof.Rows
section
variable {prog:Program}{w:World}{A:Around}{E:Value->Shared->Prop}{s:Shared}{env:Env}
variable {nm q:Str}{C N:Addr}{bs bm bmB:List Value}{hdct:Bool}{sn:List Str}{sub:List Value}{ab:Bool}{col:Option Bool}{dd:Option Addr}{k0 k1 k2 k3 k5:Option Value}{B newId initId:String}
theorem Y7 (F:ExcBaseFacts B newId initId bmB){mN:Str->Option Value}{x:Str}{np cpos pos kp:Pos} {kj}{args:List Expr}{c:Addr}{Q:Flow->Shared->Prop}
  (hbase:bm.contains (.type "BaseException")=true)(hh:A.handled=some (.ref c))(hplain:(backTo cpos (starEach args env)).any (·.1)=false)(hni:mN "__init__" = none)
  (h:wpAny (model prog w) A (eval (.Name x np) env) (λf s₁=>f=.ref C/\wpAny (model prog w) A (evalArgs (.ref C) true (backTo cpos (starEach args env)) [])
   (λa s₂=>a.kw=[]/\a.pos.length<=sizeLine/\s₂.heap.get? C=some (excClassObj nm q C N bs bm hdct sn sub ab col dd k0 k1 k2 k3 k5 newId)/\s₂.heap.Ns N mN/\OwnTail s₂.heap bmB bm ∧
    ∃ oc ws,s₂.heap.get? c=some oc/\oc.data=.fields ws/\ws[2]? = some .none ∧
    ∀ h' e,Heap.MadeExcOf s₂.heap h' e (.ref C) a.pos->E (.ref e) { s₂ with heap:=yJ h' e c }) E s₁) E s) :
  wpAny (model prog w) A (exec (.Raise (some (.Call (.Name x np) args [] cpos)) (some (.Constant .none kj kp)) pos) env) Q E s:=by
 rw[arm_exec_Raise]
 simp only[evalOpt,Option.map]
 refine wpAny_bind (wpAny_standAt (wk (C:=C) (nm:=nm) (q:=q) (N:=N) (bs:=bs) (bm:=bm) (hdct:=hdct) (sn:=sn) (sub:=sub) (ab:=ab) (col:=col) (dd:=dd) (k0:=k0) (k1:=k1) (k2:=k2) (k3:=k3) (k5:=k5) (newId:=newId) hbase hh (λs₁ Q' hq=>?_) ?_))
 ·exact wpAny_bind (wpAny_Constant_none (wpAny_bind (wpAny_standAt (wpAny_pure hq))))
 refine wpAny_bind (wpAny_mono (wpAny_Call_ofName (wpAny_mono h (λf s₁ h₁=>?_) λ_ _ x=>x)) (λv s₃ h₃=>wpAny_bind (wpAny_standAt (wpAny_pure h₃))) λ_ _ x=>x)
 obtain⟨rfl,h₁⟩:=h₁
 unfold callWith
 refine wpAny_bind (wpAny_holding (wpAny_mono h₁ (λa s₂ h₂=>wpAny_bind (wpAny_standAt ?_)) λ_ _ x=>x))
 obtain⟨apos,akw⟩:=a
 obtain⟨hkw,hlen,hC,hn,T,oc,ws,hoc,hdc,h2,h₂⟩:=h₂
 obtain rfl:akw=[]:=hkw
 obtain⟨hp,g,d,tk,os⟩:=s₂
 simp only[hplain]
 refine wpAny_bind (wpAny_keeperOf_exc hC ?_)
 refine wpAny_bind (wpAny_call_exc_subT (hrest:=hlen) F T hC hn hni λh' e hm=>wpAny_bind (wpAny_holding (wpAny_point (wpAny_pure ?_))))
 obtain⟨t,ht,_,_⟩:=hm.there
 have new:∀ b o,hp.get? b=some o->b≠e:=λb o hb z=>by
  have:=hm.new
  rw[<-z]at this
  rw[show hp.get? b=none from this]at hb
  cases hb
 exact⟨e,t,oc,ws,rfl,hm.keeps _ _ hC,ht,new _ _ hoc,new _ _ hC,hm.keeps _ _ hoc,hdc,h2,h₂ h' e hm⟩
end
end PM
namespace PM
open PySem PySem.Spec PyProof.Rows
noncomputable def VJ:VOk:=⟨λvs=>vs[2]? = some .none,λvs v h=>by rw[Array.getElem?_setIfInBounds_ne (by decide)];exact h⟩
noncomputable def QH:VOk:=⟨λ_=>True,λ_ _ h=>h⟩
section
variable {M:Model}{A:Around}{E:Value->Shared->Prop}{s:Shared}
theorem zq {base h:Heap}{l:List Env}{e:Addr}{cls:Value}{a0:VOk}(x:Heap.FlyingC base l e cls a0 h):∃ oe vs,h.get? e=some oe/\oe.cls=cls/\oe.data=.fields vs/\a0.p vs:=
 let ⟨oe,vs,_,_,_,he,hc,hd,_,_,_,_,_,_⟩:=x.way;⟨oe,vs,he,hc.1,hd,hc.2⟩
theorem YW {base:Heap}{l:List Env}{e:Addr}{cls:Value}{a0:VOk}{Q:Unit->Shared->Prop}(hh:Heap.FlyingC base l e cls a0 s.heap)
  (hQ:∀ h',Heap.FlyingC base l e cls a0 h'->s.heap.UpToSlots h'->Q () { s with heap:=h' }):wpAny M A (setFlight (.ref e) none) Q E s:=
 wpAny_landsC hh hQ
theorem vd {base h:Heap}{env:Env}{outer:List Env}{L e:Addr}{cls:Value}{args:List Value}{Q:Unit->Shared->Prop}
  (hfr:A.frames=some (env::outer))(hf:env.frame=some L)(hkb:base.StaysIn h)(hl:h.FunFrames base (env::outer))(hx:Heap.MadeExcOf h s.heap e cls args)
  (hQ:∀ h',Heap.FlyingC base outer e cls VJ h'->s.heap.UpToSlots h'->Q () { s with heap:=h' }):wpAny M A (leaving env (.ref e)) Q E s:=by
 obtain⟨t,he,htn,ht⟩:=hx.there
 have fresh:∀ b,h.get? b=none->base.get? b=none:=λb hb=>by
  cases hq:base.get? b with
  |none=>rfl
  |some o'=>have:=hkb b o' hq;rw[hb]at this;cases this
 refine wpAny_leaving_firstC (ok:=VJ) hfr (hl.of_keeps λb o hb _=>⟨o,hx.keeps b o hb,rfl⟩) hf he (λb o hb=>hx.keeps b o (hkb b o hb)) (fresh e hx.new) rfl rfl rfl λh' x u=>hQ h' x.out u
end
end PM
namespace PM
open PySem PySem.Spec PyProof.Rows
section
variable {M:Model}{A A':Around}{E:Value->Shared->Prop}{s:Shared}
theorem Wi {base:Heap}{env:Env}{outer:List Env}{L e:Addr}{oe:Obj}{vs:Array Value}{a0:VOk}{Q:Unit->Shared->Prop}
  (hfr:A.frames=some (env::outer))(hfr':A'.frames=some (env::outer))(hf:env.frame=some L)(hl:s.heap.FunFrames base (env::outer))
  (he:s.heap.get? e=some oe)(hkb:base.StaysIn s.heap)(hen:base.get? e=none)(hd:oe.data=.fields vs)(h1:vs[1]? = some .none)(h0:a0.p vs)
  {Xe:Value->Shared->Prop}(hX:∀ s',wpAny M A (leaving env (.ref e)) Q E s'->Xe (.ref e) s')(hQ:∀ h',Heap.FlyingC base outer e oe.cls a0 h'->s.heap.UpToSlots h'->Q () { s with heap:=h' }) :
  notedBy M A' env (cameBackBy M A env Xe) (.ref e) s:=by
 refine noteFrame_firstC hfr' hl hf he hkb hen hd h1 h0 λh2 hN=>?_
 obtain⟨n1,n2,n3,n4⟩:=hN
 obtain⟨oe2,vs2,T,oT,ts,he2,hc2,hd2,h12,r⟩:=id n3
 unfold cameBackBy
 refine wpAny_bind (wpAny_field he2 hd2 h12 ?_)
 rw[if_neg (by simp)]
 rw[hf]
 refine wpAny_flightC (some L) n1 n2 n3 λh3 x=>hX _ ?_
 unfold leaving
 refine wpAny_bind (wpAny_noteFrame_againC hf x.way ?_)
 exact wpAny_landsC (s:={ s with heap:=h3 }) (x.to hen) λh4 y u=>hQ h4 y.out (n4.trans (x.up.trans u))
end
end PM
namespace PM
open PySem PySem.Spec PyProof.Rows
open Sem (wp)
noncomputable def CIn (Γ:PySem.Ctx):Prop:=∃ a p,(Code.builtin "claim.caller" a,p) ∈ Γ.below
noncomputable def wpC {α:Type}(M:Model)(A:Around)(t:Sem α)(Q:α->Shared->Prop)(E:Value->Shared->Prop)(s:Shared):Prop:=
 ∀ Γ p,Γ.In A->CIn Γ->wp M Γ t (λa _ s'=>Q a s') (λe _ s'=>E e s') p s
noncomputable def ZI (M:Model)(A:Around)(c:Code)(R:Result->Shared->Prop)(s:Shared):Prop:=
 ∀ Γ p,Γ.code=c->Γ.Below A->CIn Γ->wpCode M Γ R p s
theorem CIn.enter {Γ:PySem.Ctx}(h:CIn Γ)(c:Code)(hd:Option Value)(p:Pos):CIn (Γ.enter c hd p):=
 let ⟨a,q,m⟩:=h;⟨a,q,List.mem_cons_of_mem _ m⟩
section
variable {α β:Type}{M:Model}{A:Around}{E:Value->Shared->Prop}{s:Shared}
theorem zt {t:Sem α}{Q:α->Shared->Prop}(h:wpAny M A t Q E s):wpC M A t Q E s:=λΓ p hi _=>h Γ p hi
theorem ze {t:Sem α}{Q Q':α->Shared->Prop}{E':Value->Shared->Prop}(h:wpC M A t Q E s)(hQ:∀ a s,Q a s->Q' a s)(hE:∀ e s,E e s->E' e s):wpC M A t Q' E' s:=
 λΓ p hi hk=>Sem.wp_mono M Γ t (λa _ s'=>hQ a s') (λe _ s'=>hE e s') p s (h Γ p hi hk)
theorem z7 {m:Sem α}{f:α->Sem β}{Q:β->Shared->Prop}(h:wpC M A m (λa s'=>wpC M A (f a) Q E s') E s):wpC M A (m >>= f) Q E s:=λΓ p hi hk=>by
 rw[Sem.wp_bind']
 exact Sem.wp_mono M Γ m (λa q s' z=>z Γ q hi hk) (λ_ _ _ z=>z) p s (h Γ p hi hk)
theorem zF {m:Sem α}{f:α->Sem β}{Q:β->Shared->Prop}(h:wpAny M A m (λa s'=>wpC M A (f a) Q E s') E s):wpC M A (m >>= f) Q E s:=z7 (zt h)
theorem ZZ {a:α}{Q:α->Shared->Prop}(h:Q a s):wpC M A (pure a) Q E s:=zt (wpAny_pure h)
theorem Yh {m:Sem α}{k:Value->Sem Unit}{Q:α->Shared->Prop}(h:wpC M A m Q (λe s'=>wpC M A (k e) (λ_ s''=>E e s'') E s') s):wpC M A (m.onRaise k) Q E s:=λΓ p hi hk=>by
 rw[Sem.wp_onRaise]
 exact Sem.wp_mono M Γ m (λ_ _ _ z=>z) (λe q s' z=>z Γ q hi hk) p s (h Γ p hi hk)
theorem X4 {m:Sem α}{Q:Except Value α->Shared->Prop}(h:wpC M A m (λa=>Q (.ok a)) (λe=>Q (.error e)) s):wpC M A m.attempt Q E s:=λΓ p hi hk=>by
 rw[Sem.wp_attempt];exact h Γ p hi hk
theorem yL {vs:List Value}{m:Sem α}{Q:α->Shared->Prop}(h:wpC M A m Q E s):wpC M A (holding vs m) Q E s:=λΓ p hi hk=>by
 rw[Sem.wp_holding];exact h Γ p hi hk
theorem Uu {vs:List Value}{m:Sem α}{Q:α->Shared->Prop}(h:wpC M A m Q E s):wpC M A (m.keep vs) Q E s:=λΓ p hi hk=>by
 rw[Sem.wp_keep];exact h Γ p hi hk
theorem Zu {c:Code}{R R':Result->Shared->Prop}(h:ZI M A c R s)(hR:∀ r s,R r s->R' r s):ZI M A c R' s:=λΓ p hc hb hk=>wpCode_mono hR (h Γ p hc hb hk)
theorem QO {c:Code}{hd:Option Value}{Q:Flow->Shared->Prop}(h:ZI M (A.mark hd) c (λr s'=>match r with | .ok f=>Q f s' | .error e=>E e s') s)(hnb:hd≠some byPass:=by intro x;cases x):wpC M A (run c hd) Q E s:=
 λΓ p hi hk=>by rw[Sem.wp_run];exact h _ p rfl (hi.enter c hd p hnb) (hk.enter c hd p)
theorem vK {c:Code}{Q:Value->Shared->Prop}(h:ZI M A c (λr s'=>match r with | .ok (.ret v)=>Q v s' | .ok _=>False | .error e=>E e s') s):wpC M A (runValue c) Q E s:=
 λΓ p hi hk=>by rw[Sem.wp_runValue];exact h _ p rfl (hi.enter c none p (by intro x;cases x)) (hk.enter c none p)
theorem xp {f:Value}{pos:List Value}{kw:List (Str×Value)}{Q:Value->Shared->Prop}(h:ZI M A (.call f ⟨pos,kw⟩) (λr s'=>match r with | .ok (.ret v)=>Q v s' | .ok _=>False | .error e=>E e s') s):wpC M A (call f pos kw) Q E s:=vK h
theorem ZO {c:Code}{R:Result->Shared->Prop}
  (h:wpC M (A.under c) (M.den c) (λfin s'=>match fin with | .done f=>R (.ok f) s' | .again c'=>c'.quiet=true/\ZI M A c' R s') (λe s'=>R (.error e) s') s):ZI M A c R s:=λΓ p hc hb hk=>by
 rw[wpCode_iff_wp,hc]
 refine Sem.wp_mono M Γ _ (λfin q s' z=>?_) (λ_ _ _ z=>z) p s (h Γ p (hc ▸ hb.in) hk)
 cases fin with
 |done f=>exact z
 |again c'=>exact⟨z.1,z.2 (Γ.goto c') q rfl (hb.goto c') hk⟩
theorem uI {c:Code}{R:Result->Shared->Prop}(hq:c.quiet=true)(I:Nat->Shared->Prop)
  (turn:∀ n s,I n s->wpC M (A.under c) (M.den c) (λfin s'=>match fin with | .done f=>R (.ok f) s' | .again c'=>c'=c/\∃ m,m<n/\I m s') (λe s'=>R (.error e) s') s) (n:Nat)(h:I n s):ZI M A c R s:=by
 induction n using Nat.strongRecOn generalizing s with
 |ind n ih=>
  refine ZO (ze (turn n s h) (λfin s' z=>?_) λ_ _ z=>z)
  cases fin with
  |done f=>exact z
  |again c'=>obtain⟨rfl,m,hm,hI⟩:=z;exact⟨hq,ih m hm hI⟩
end
end PM
namespace PM
open PySem PySem.Spec PyProof.Rows
open Sem (wp)
section
variable {M:Model}{A:Around}{E:Value->Shared->Prop}{s:Shared}{env:Env}
theorem yw {st:Stmt}{rest:List Stmt}{Q:Flow->Shared->Prop}(h:wpC M A (exec st env) (λf s'=>match f with | .next=>wpC M A (execs rest env) Q E s' | f=>Q f s') E s):wpC M A (execs (st::rest) env) Q E s:=λΓ p hi hk=>by
 rw[execs_cons,Sem.wp_bind']
 refine Sem.wp_mono M Γ _ (λf q s' z=>?_) (λ_ _ _ z=>z) _ _ (h Γ p hi hk)
 cases f<;>first | exact z Γ q hi hk | exact z
theorem Qg {e:Expr}{pos:Pos}{Q:Flow->Shared->Prop}(h:wpC M A (eval e env) (λv=>Q (.ret v)) E s):wpC M A (exec (.Return (some e) pos) env) Q E s:=λΓ p hi hk=>by
 simp only[exec_Return_some,Sem.wp_bind',Sem.wp_cmd_standAt,Sem.wp_pure']
 exact h Γ _ hi hk
theorem Uo {P:Heap->Prop}{f:Value}{pos:Pos}{args:List (Bool×Sem Value)}{Q:Value->Shared->Prop}(hpl:args.any (·.1)=false)
  (hk:∀ h,P h->∃ k,(k=Keeper.frame\/k=Keeper.machine\/k=Keeper.boundFrame)/\PySem.W.Looks M h (keeperOf f) k)
  (h:wpAny M A (evalArgs f true args []) (λa s₁=>P s₁.heap/\wpC M A (call f a.pos a.kw) Q E s₁) E s):wpC M A (callWith pos f [] args []) Q E s:=by
 unfold callWith
 refine z7 (yL (ze (zt h) (λa s₁ z=>zF (wpAny_standAt ?_)) λ_ _ z=>z))
 obtain⟨hP,hC⟩:=z
 obtain⟨k,hk',L⟩:=hk _ hP
 have hpl':(args.any (·.1) || ([]:List (Option Str×Sem Value)).any (·.1.isNone))=false:=by rw[hpl];rfl
 simp only[hpl']
 refine zF (L.here ?_)
 have fin:∀ {t:Sem Value},wpC M A t Q E s₁->wpC M A (t >>= λr=>holding [r] point >>= λ_=>pure r) Q E s₁:=λht=>
  z7 (ze ht (λr s₂ hr=>zt (wpAny_bind (wpAny_holding (wpAny_point (wpAny_pure hr))))) λ_ _ z=>z)
 have mk:∀ v,wpC M A (callMarked v f ([]++a.pos) a.kw) Q E s₁:=λv=>by unfold callMarked;exact Uu hC
 rcases hk' with rfl | rfl | rfl<;>dsimp only<;>first | exact fin hC | (split<;>first | exact fin hC | exact fin (mk _))
theorem vD {f:Value}{K:PySem.W.Frag}{x:Str}{np pos:Pos}{e:Expr}{es:List Expr}{Q:Value->Shared->Prop}(hk:PySem.W.keepIn K f=true)
  (h:wpAny M A (eval (.Name x np) env) (λu s₁=>u=f/\wpAny M A (spliced (backTo pos (starEach (e::es) env))) (λvs s₂=>K.In s₂.heap/\wpC M A (call f vs) Q E s₂) E s₁) E s)
  (he:starEach (e::es) env=(false,eval e env)::starEach es env)(hpl:(backTo pos (starEach es env)).any (·.1)=false):wpC M A (eval (.Call (.Name x np) (e::es) [] pos) env) Q E s:=by
 rw[arm_eval_Call_Name']
 refine zF (wpAny_mono h (λu s₁ z=>?_) λ_ _ z=>z)
 obtain⟨rfl,z⟩:=z
 rw[he]at z ⊢
 exact Uo (P:=K.In) (by show (false || (backTo pos (starEach es env)).any (·.1))=false;rw[hpl];rfl) (PySem.W.keeps_K hk) (Calls.evalArgs_plain z)
theorem Jn {body:List Stmt}{h₀:ExceptHandler}{hs:List ExceptHandler}{pos:Pos}{Q:Flow->Shared->Prop}
  (h:wpC M A (execs body env) Q (λe s₁=>wpAny M A (noteFrame e env) (λ_ s₂=>wpAny M A (setFlight e none) (λ_ s₃=>wpAny M A (handleBy e env (h₀::hs)) Q E s₃) E s₂) E s₁) s) :
  wpC M A (exec (.Try body (h₀::hs) [] [] pos) env) Q E s:=by
 rw[arm_exec_Try]
 refine zF (wpAny_standAt ?_)
 unfold tryStmt
 simp only[List.isEmpty_nil,if_true,List.isEmpty_cons,Bool.false_and,Bool.false_eq_true,if_false]
 refine z7 (X4 (ze h (λf s₁ z=>zt ?_) λe s₁ z=>zt ?_))
 ·cases f<;>first | exact wpAny_execs_nil z | exact wpAny_pure z
 ·exact wpAny_bind (wpAny_mono z (λ_ _ z=>wpAny_bind z) λ_ _ z=>z)
end
section
variable {prog:Program}{w:World}{A:Around}{R:Result->Shared->Prop}{s:Shared}
theorem uJ {body:List Stmt}{env:Env}(h:wpC (model prog w) (A.deeper env) (execs body env) (λf s'=>R (.ok (.ret (match f with | .ret v=>v | _=>.none))) s')
   (λe s'=>wpAny (model prog w) (A.deeper env) (leaving env e) (λ_ s''=>R (.error e) s'') (λe' s''=>R (.error e') s'') s') s):ZI (model prog w) A (.func body env) R s:=by
 refine ZO ?_
 show wpC _ (A.deeper env) (do point;match <-(execs body env).onRaise (leaving env) with | .ret v=>ret v | _=>ret .none) _ _ s
 refine zF (wpAny_point (z7 (Yh (ze h (λf s' z=>?_) λ_ _ z=>zt z))))
 cases f<;>exact ZZ z
theorem QD {a:Addr}{args:Args}{o:Obj}{fd:FuncData}{body:List Stmt}(hroom:A.depth<recursionLimit)(ho:s.heap.get? a=some o)(hd:o.data=.func fd)(hco:fd.scope.isCoroutine=false)(hgen:fd.scope.isGenerator=false)(hbody:fd.body=.stmts body)
  (hcd:s.heap.CodeRec fd.code fd.qualname)
  (h:wpAny (model prog w) A.in1 (bindArgs fd args) (λbinds s₁=>wpAny (model prog w) A.in1 (newFunctionEnv fd.scope fd.globals fd.closure binds (fd.qualname ++ ".<locals>.") (some a) fd.code none fd.builtins)
    (λenv s₂=>s₂.heap.NoLimit/\ZI (model prog w) A (.func body env) R s₂) (λe s'=>R (.error e) s') s₁) (λe s'=>R (.error e) s') s) :
  ZI (model prog w) A (.call (.ref a) args) R s:=by
 refine ZO ?_
 show wpC _ A.in1 (callAny (.ref a) args) _ _ s
 simp only[callAny]
 refine zF (wpAny_load ho ?_)
 obtain⟨c,oc,vs,tq,hc,hoc,hdc,hq⟩:=hcd
 simp only[hd,callFunction,hco,hgen,hbody,hc]
 rw[hc]at h
 refine zF (m:=field (.ref c) 1) (wpAny_field hoc hdc hq (zF (wpAny_pure ?_)))
 refine zF (wpAny_mono h (λbinds s₁ z=>zF (wpAny_mono z (λenv s₂ z=>?_) λ_ _ z=>z)) λ_ _ z=>z)
 exact zF (wpAny_enterFrame z.1 hroom (ZZ ⟨rfl,z.2⟩))
end
end PM
namespace PM
open PySem PySem.Spec PyProof.Rows
section
variable {M:Model}{A:Around}{E:Value->Shared->Prop}{s:Shared}{env:Env}
theorem JM {α:Type}{m:Sem α}{Q:α->Shared->Prop}(h:wpC M A m Q (notedBy M A env E) s):wpC M A (m.onRaise λx=>do noteFrame x env;theTreesLotGoes x) Q E s:=
 Yh (ze h (λ_ _ z=>z) λ_ _ z=>zt (wpAny_bind (wpAny_mono z (λ_ _ z=>wpAny_theTreesLotGoes z) λ_ _ z=>z)))
theorem qU {α:Type}{m:Sem α}{pos:Pos}{Q:α->Shared->Prop}(h:wpC M A m Q (notedBy M A env E) s):wpC M A (m.onRaise λx=>do noteFrame x env;standAt pos) Q E s:=
 Yh (ze h (λ_ _ z=>z) λ_ _ z=>zt (wpAny_bind (wpAny_mono z (λ_ _ z=>wpAny_standAt z) λ_ _ z=>z)))
noncomputable def xM (M:Model)(A:Around)(E:Value->Shared->Prop)(use:Option (Value->Sem Unit))(Q:Value->Shared->Prop) (acc:Value)(cenv:Env)(r:Result)(s':Shared):Prop:=match r,use with
 |.ok _,none=>∃ m,s'.heap.Ns cenv.locals m/\∀ h',Heap.SameBut cenv.locals s'.heap h'->Q acc { s' with heap:=h' }
 |.ok _,some u=>wpAny M A (u acc) (λ_ s''=>∃ m,s''.heap.Ns cenv.locals m/\∀ h',Heap.SameBut cenv.locals s''.heap h'->Q .none { s'' with heap:=h' }) E s'
 |.error x,_=>∃ m,s'.heap.Ns cenv.locals m/\∀ h',Heap.SameBut cenv.locals s'.heap h'->wpAny M A (passOn "comprehension.variables-let-go" x cenv:Sem Value) (λ_ _=>False) E { s' with heap:=h' }
theorem U5 {α:Type}{c:Prop} [Decidable c] {pos:Pos}{k:PUnit->Sem α}{Q:α->Shared->Prop}(h:wpC M A (k ()) Q E s):wpC M A (if c then (standAt pos >>= k) else k ()) Q E s:=by
 split
 ·exact zF (wpAny_standAt h)
 ·exact h
theorem WN {e:Expr}{scope:Scope}{pos:Pos}{newAcc first:Sem Value}{g:Comprehension}{gs:List Comprehension}{cl:List (Str×Addr)}{use:Option (Value->Sem Unit)}{Q:Value->Shared->Prop}
  (hcl:clausesOf e=g::gs)(hs:∀ x,foldedSetIterable g.iter env x=pure x)(hclos:closureFor scope env=pure cl)(hkind:scope.kind=.function)(hnames:∀ x ∈ scope.names,x.2=.local->scope.names.lookup x.1=some .local)
  (h:wpAny M A first (λx s₁=>wpAny M A (pyIter x) (λit s₂=>wpAny M A newAcc (λacc s₃=>wpAny M A (newFunctionEnv scope env.globals cl [] env.qual none .none (some env)) (λcenv s₄=>
    ZI M A (.compStart e 0 it acc { cenv with scope:=relabel scope env }) (xM M A E use Q acc { cenv with scope:=relabel scope env }) s₄) E s₃) E s₂) E s₁) E s) :
  wpC M A (comprehension e scope env pos newAcc false first use) Q E s:=by
 unfold comprehension
 rw[hclos,hcl]
 refine zF (wpAny_mono h (λx s₁ z1=>zF (wpAny_standAt (zF (wpAny_of_eq (hs x) (zF (wpAny_holding (wpAny_mono z1 (λit s₂ z2=>?_) λ_ _ z=>z))))))) λ_ _ z=>z)
 refine U5 (zF (wpAny_mono z2 (λacc s₃ z3=>zF (wpAny_pure (zF (wpAny_mono z3 (λcenv s₄ z4=>?_) λ_ _ z=>z)))) λ_ _ z=>z))
 dsimp only
 have kd:∀ x ∈ (scope.names.filter λx=>(x.2 == .local || x.2 == .cell) && x.1 != (".0" : Str)).reverse,x.2=.local->Env.kindOf { cenv with scope:=relabel scope env } x.1=some .local:=λx hx hl=>
  lookup_relabel_local (hnames x (List.mem_filter.mp (List.mem_reverse.mp hx)).1 hl)
 refine yL (z7 (X4 (yL (QO (Zu z4 λr s' hr=>?_)))))
 cases r with
 |ok f=>
  cases use with
  |none=>
   obtain⟨m,hn,hr⟩:=hr
   exact zt (wpAny_bind (wpAny_holding (wpAny_comp_letGo (cenv:={ cenv with scope:=relabel scope env }) hkind _ s' m kd hn λh' m' _ hs'=>wpAny_pure (hr h' hs'))))
  |some u=>
   refine zt (wpAny_bind (wpAny_rule (wpAny_bind (wpAny_holding (wpAny_mono hr (λ_ s'' hr'=>?_) λ_ _ z=>z)))))
   obtain⟨m,hn,hr'⟩:=hr'
   refine wpAny_bind (wpAny_comp_letGo (cenv:={ cenv with scope:=relabel scope env }) hkind _ s'' m (λx hx hl=>?_) hn λh' m' _ hs'=>wpAny_pure (hr' h' hs'))
   rcases List.mem_append.mp hx with q | q
   ·exact kd x (List.mem_of_mem_drop q) hl
   ·exact kd x (List.mem_of_mem_take q) hl
 |error x=>
  have hr':∃ m,s'.heap.Ns cenv.locals m/\∀ h',Heap.SameBut cenv.locals s'.heap h'->wpAny M A (passOn "comprehension.variables-let-go" x { cenv with scope:=relabel scope env }:Sem Value) (λ_ _=>False) E { s' with heap:=h' }:=by
   cases use<;>exact hr
  obtain⟨m,hn,hr⟩:=hr'
  exact zt (wpAny_bind (wpAny_holding (wpAny_comp_letGo (cenv:={ cenv with scope:=relabel scope env }) hkind _ s' m kd hn λh' m' _ hs'=>wpAny_mono (hr h' hs') (λ_ _ z=>z.elim) λ_ _ z=>z)))
end
section
variable {prog:Program}{w:World}{A:Around}{R:Result->Shared->Prop}{s:Shared}
theorem uH {elt target iter:Expr}{ifs:List Expr}{rest:List Comprehension}{scope:Scope}{pos:Pos}{it acc:Value}{env:Env}
  (h0:ZI (model prog w) A (.compLoop (.ListComp elt (⟨target,iter,ifs,0⟩::rest) scope pos) 0 it acc env) R s)
  (h:wpAny (model prog w) A (pyIter it) (λit' s'=>ZI (model prog w) A (.compLoop (.ListComp elt (⟨target,iter,ifs,0⟩::rest) scope pos) 0 it' acc env) R s') (notedBy (model prog w) A env λx s'=>R (.error x) s') s) :
  ZI (model prog w) A (.compStart (.ListComp elt (⟨target,iter,ifs,0⟩::rest) scope pos) 0 it acc env) R s:=by
 refine ZO ?_
 show wpC _ _ ((compStart (.ListComp elt (⟨target,iter,ifs,0⟩::rest) scope pos) 0 it acc env).onRaise (λx=>do noteFrame x env;standAt theWindowsPlace)) _ _ s
 refine qU ?_
 unfold compStart
 show wpC _ _ (ask >>= _) _ _ s
 refine zF (wpAny_askSetting ?_)
 split
 ·first
   |exact ZZ ⟨rfl,h0⟩
   |exact zF (wpAny_pure (ZZ ⟨rfl,h0⟩))
 ·first
   |exact zF (wpAny_rule (zF (wpAny_standAt (zF (wpAny_mono h (λit' s' z=>ZZ ⟨rfl,z⟩) λ_ _ z=>z)))))
   |(refine zF (wpAny_rule ?_);show wpC _ _ (standAt iter.pos >>= _) _ _ s;exact zF (wpAny_standAt (zF (wpAny_mono h (λit' s' z=>ZZ ⟨rfl,z⟩) λ_ _ z=>z))))
theorem Ug {elt target iter:Expr}{scope:Scope}{pos:Pos}{it acc:Value}{env:Env}(I:Nat->Shared->Prop)
  (turn:∀ n s,I n s->wpAny (model prog w) A (pyNext it) (λr s₁=>match r with
   |none=>R (.ok .next) s₁
   |some v=>wpAny (model prog w) A (letOwnedTupleGo target it v) (λ_ s₁=>wpAny (model prog w) A (assign target env v) (λ_ s₂=>
     wpC (model prog w) A (eval elt env) (λx s₄=>
       wpAny (model prog w) A (call (.builtin "list.append") [acc,x]) (λ_ s₅=>∃ m,m<n/\I m s₅) (notedBy (model prog w) A env λe s'=>R (.error e) s') s₄) (notedBy (model prog w) A env λe s'=>R (.error e) s') s₂)
      (notedBy (model prog w) A env λe s'=>R (.error e) s') s₁) (notedBy (model prog w) A env λe s'=>R (.error e) s') s₁) (notedBy (model prog w) A env λe s'=>R (.error e) s') s)
  (n:Nat)(h:I n s) :
  ZI (model prog w) A (.compLoop (.ListComp elt [⟨target,iter,[],0⟩] scope pos) 0 it acc env) R s:=by
 refine uI rfl I (λn s hI=>?_) n h
 show wpC _ A ((compTurn (.ListComp elt [⟨target,iter,[],0⟩] scope pos) 0 it acc env).onRaise (λx=>do noteFrame x env;theTreesLotGoes x)) _ _ s
 refine JM ?_
 rw[compTurn_list]
 refine zF (wpAny_standAt (zF (wpAny_mono (turn n s hI) (λr s₁ h₁=>?_) λ_ _ z=>z)))
 cases r with
 |none=>exact ZZ h₁
 |some v=>
  refine zF (wpAny_mono h₁ (λ_ s₁' h₁'=>zF (wpAny_mono h₁' (λ_ s₂ h₂=>zF (wpAny_pure ?_)) λ_ _ z=>z)) λ_ _ z=>z)
  exact z7 (z7 (ze h₂ (λx s₄ h₄=>zt (wpAny_bind (wpAny_mono h₄ (λ_ s₅ h₅=>wpAny_pure (zt (wpAny_pure ⟨rfl,h₅⟩))) λ_ _ z=>z))) λ_ _ z=>z))
end
end PM
namespace PM
open PySem PySem.Spec PyProof.Rows PySem.NumText PySem.W
theorem vN (v:Value):∃ k,Builtin.«type.__call__» ⟨[.type "int",v],[]⟩=(holding [.builtin "int.__new__"] (call (.builtin "int.__new__") [.type "int",v] []) >>= k):=by
 have h1:=F.called_int.notType
 have h2:=F.called_int.canCreate
 have h3:=F.called_int.made
 have h4:=F.typeCall_int_1 v
 have h5:=F.mro_int
 unfold Builtin.«type.__call__»
 simp only[h1,h2,h3,h4,h5,pure_bind,Bool.false_eq_true,if_false,List.isEmpty_cons]
 exact⟨_,rfl⟩
theorem V9 (x:Str)(t:Tok):Builtin.«int.__new__» ⟨[.type "int",.str x t],[]⟩=((int_private% "intFromText") (.str x t) (numTextOf x) 10 >>= λv=>ret v):=by kernel_rfl
section
variable {prog:Program}{w:World}{A:Around}{E:Value->Shared->Prop}{s:Shared}
theorem kB {own:List String}{e:Value}{Q:Unit->Shared->Prop}(h:Q () s):wpC (model prog w) A (markTheRefusal own e) Q E s:=λΓ p hi hk=>by
 obtain⟨a,q,m⟩:=hk
 have hno:pythonCodeMadeTheCall own (((Γ.code,p)::Γ.below).map (·.1))=false:=by
  unfold pythonCodeMadeTheCall
  refine Bool.and_eq_false_iff.mpr (.inl (Bool.and_eq_false_iff.mpr (.inl ?_)))
  rw[Bool.not_eq_false']
  exact List.any_eq_true.mpr ⟨.builtin "claim.caller" a,List.mem_map.mpr ⟨(_,q),List.mem_cons_of_mem _ m,rfl⟩,rfl⟩
 unfold markTheRefusal
 rw[Sem.wp_bind']
 show Sem.wp (model prog w) Γ (if pythonCodeMadeTheCall own (((Γ.code,p)::Γ.below).map (·.1))=true then _ else _) _ _ p s
 rw[if_neg (by rw[hno];decide)]
 exact h
theorem Jp {x pre:Str}{t:Tok}{Q:Value->Shared->Prop}(hh:A.handled=none)(hx:(reprText x).length<=sizeLine)(hp:pre.length<=100)
  (hE:∀ h1 e tk vs,Heap.MadeExc s.heap h1 e "ValueError" vs->E (.ref e) { s with heap:=h1,toks:=tk }) :
  wpC (model prog w) A (do
   let shown <-pyRepr (.str x t)
   let m <-mkStr (pre++({ cps:=shown.cps.extract 0 200 }:Str))
   let refusal <-newExc (.type "ValueError") [m]
   markTheRefusal ["int.__new__"] refusal
   raiseNew refusal:Sem Value) Q E s:=by
 refine zF (wpAny_pyRepr_str ?_ hx)
 have hlen:(pre++({ cps:=(reprText x).cps.extract 0 200 }:Str)).length<=sizeLine:=by
  show (pre.cps++(reprText x).cps.extract 0 200).size<=16777216
  rw[Array.size_append,Array.size_extract]
  have:pre.cps.size<=100:=hp
  omega
 refine zF (wpAny_mkStr ?_ hlen)
 refine zF (wpAny_newExc_plain plainExc_ValueError λh1 e hm=>?_)
 exact z7 (kB (zt (wpAny_raiseNew_none hh (hE h1 e _ _ hm))))
theorem Jo {x:Str}{t:Tok}{Q:Value->Shared->Prop}(hh:A.handled=none)(hl:x.length<=640)(ha:∀ c ∈ x.cps.toList,c<128)(hn:PySem.intText? x=none)
  (hE:∀ h1 e tk vs,Heap.MadeExc s.heap h1 e "ValueError" vs->E (.ref e) { s with heap:=h1,toks:=tk }) :
  wpC (model prog w) A ((int_private% "intFromText") (.str x t) (numTextOf x) 10) Q E s:=by
 have hs:(numSeenOf x).length<=640:=Nat.le_trans (seen_length x) hl
 have hz:sizeLine=16777216:=rfl
 have hr:=StrLaws.reprText_len x λc hc=>Nat.lt_of_lt_of_le (ha c hc) (by decide)
 have hx:(reprText x).length<=sizeLine:=by omega
 have hp:(Str.ofString (toString "invalid literal for int() with base " ++ toString 10++toString ": ")).length<=100:=by decide
 have fin:=Jp (prog:=prog) (w:=w) (A:=A) (t:=t) (Q:=Q) hh hx hp hE
 conv=>
  arg 3
  whnf
 generalize Nat.decLe (List.takeWhile (λx=>x != 0) (numTextOf x)).length 640=d
 cases d with
 |isFalse h=>exact absurd hs h
 |isTrue _=>
  refine zF (wpAny_pure ?_)
  dsimp only
  rcases read0 x hs with ⟨m,h1,_⟩ | ⟨_,hr | ⟨i,hr,hne⟩⟩
  ·rw[hn]at h1;cases h1
  ·rw[show (int_private% "readNumeral") 0 10 (List.takeWhile (λx=>x != 0) (numTextOf x))=_ from hr]
   refine zF (wpAny_of_eq (a:=none) rfl ?_)
   rw[if_neg (by simp)]
   refine zF (wpAny_rule ?_)
   exact zF (wpAny_of_eq (a:=none) rfl fin)
  ·rw[show (int_private% "readNumeral") 0 10 (List.takeWhile (λx=>x != 0) (numTextOf x))=_ from hr]
   dsimp only
   rw[if_neg hne]
   refine zF (wpAny_rule ?_)
   exact zF (wpAny_of_eq (a:=none) rfl fin)
theorem xb {id:String}{args:Args}{b:Builtin}{R:Result->Shared->Prop}(hb:entryFor table id=some b)
  (h:wpC (model prog w) (A.under (.builtin id args)) (b args) (λfin s'=>match fin with | .done f=>R (.ok f) s' | .again c'=>c'.quiet=true/\ZI (model prog w) A c' R s') (λe s'=>R (.error e) s') s):ZI (model prog w) A (.builtin id args) R s:=by
 refine ZO ?_
 show wpC _ _ (match entryFor table id with | some b=>b args | none=>unsupported ((withoutEnding? id "#data").getD id)) _ _ s
 rw[hb];exact h
theorem XU {id:String}{args:Args}{b:Builtin}{R:Result->Shared->Prop}(hq:plainId id=true)(hb:entryFor table id=some b)(hc:checkBuiltinCall id args=pure ())
  (h:wpC (model prog w) A.in1 (b args) (λfin s'=>match fin with | .done f=>R (.ok f) s' | .again c'=>c'.quiet=true/\ZI (model prog w) A c' R s') (λe s'=>R (.error e) s') s):ZI (model prog w) A (.call (.builtin id) args) R s:=by
 refine ZO ?_
 show wpC _ A.in1 (do checkBuiltinCall id args;again (.builtin id args)) _ _ s
 refine zF (wpAny_of_eq hc (ZZ ⟨plainId_quiet hq args,xb hb ?_⟩))
 rw[Around.under_plainId hq args]
 exact h
theorem WP {T:String}{args:List Value}{R:Result->Shared->Prop}(h:ZI (model prog w) A (.builtin "type.__call__" ⟨.type T::args,[]⟩) R s):ZI (model prog w) A (.call (.type T) ⟨args,[]⟩) R s:=by
 refine ZO ?_
 show wpC _ _ (callAny (.type T) _) _ _ _
 exact ZZ ⟨Code.quiet_builtin _ (by decide +kernel),h⟩
theorem QC {x:Str}{t:Tok}{Q:Value->Shared->Prop}(hl:x.length<=640)(ha:∀ c ∈ x.cps.toList,c<128)(hn:PySem.intText? x=none)(hh:A.handled=none)
  (hE:∀ h1 e tk vs,Heap.MadeExc s.heap h1 e "ValueError" vs->E (.ref e) { s with heap:=h1,toks:=tk }):wpC (model prog w) A (call (.type "int") [.str x t]) Q E s:=by
 refine xp (WP (xb F.entry_type_call ?_))
 rw[Around.under_plain (weight_type_call_type "int" [.str x t] []) (units_type_call_type "int" [.str x t] [])]
 obtain⟨k,hk⟩:=vN (.str x t)
 rw[hk]
 refine z7 (yL (xp (XU F.called_int.plain F.entry_int_new (F.newCall_int_1 _) ?_)))
 rw[V9]
 exact z7 (Jo hh hl ha hn hE)
end
end PM
namespace PM
open PySem
inductive D where
 |non | bl (b:Bool) | int (i:Int) | str (x:Str) | tup (xs:List D) | lst (xs:List D)
 |exc (c:Addr)
 |dct (ks:List Int)(vs:List D)
 |dcT (ks:List (List Int))(vs:List D)
 deriving Inhabited
inductive Slot where
 |un | fz (d:D) | own (ds:List D) | dic (kvs:List (Int×D)) | own2 (dss:List (List D)) | dicT (kvs:List (List Int×D))
 |ownM (ms:List (Bool×Int×List D)) | obj (C:Addr)(fs:List (Str×Bool×D)) | junk (n:Nat)
noncomputable abbrev Rho:=List Slot
inductive Res (α:Type) where
 |ok (a:α)(ρ:Rho) | exn (c:Addr)(ρ:Rho) | bad
noncomputable abbrev M (α:Type):=Rho->Res α
noncomputable def Res.bnd {α β:Type}(r:Res α)(k:α->Rho->Res β):Res β:=match r with
 |.ok a ρ'=>k a ρ'
 |.exn c ρ'=>.exn c ρ'
 |.bad=>.bad
theorem Res.bnd_ok {α β:Type}(a:α)(ρ:Rho)(k:α->Rho->Res β):(Res.ok a ρ).bnd k=k a ρ:=rfl
noncomputable def z8 {α:Type}(o:Option α)(ρ:Rho):Res α:=match o with
 |some a=>.ok a ρ
 |none=>.bad
theorem zz {α:Type}(a:α)(ρ:Rho):z8 (some a) ρ=.ok a ρ:=rfl
inductive Fl where
 |nx | ret (d:D) | brk | cont
mutual
noncomputable def D.eqv:D->D->Bool
 |.non,.non=>true
 |.bl a,.bl b=>a == b
 |.bl a,.int b=>(if a then 1 else 0) == b
 |.int a,.bl b=>a == (if b then 1 else 0)
 |.int a,.int b=>a == b
 |.str a,.str b=>a == b
 |.tup a,.tup b=>D.eqvs a b
 |.lst a,.lst b=>D.eqvs a b
 |_,_=>false
noncomputable def D.eqvs:List D->List D->Bool
 |[],[]=>true
 |a::r,b::s=>D.eqv a b && D.eqvs r s
 |_,_=>false
end
mutual
noncomputable def D.plain:D->Bool
 |.exc _=>false
 |.tup a=>D.plains a
 |.lst a=>D.plains a
 |.dct _ _=>false
 |.dcT _ _=>false
 |.str x=>x.cps.all (· < 0x110000)
 |_=>true
noncomputable def D.plains:List D->Bool
 |[]=>true
 |a::r=>D.plain a && D.plains r
end
mutual
noncomputable def D.deep:D->Nat
 |.tup a=>D.deeps a+1
 |.lst a=>D.deeps a+1
 |_=>0
noncomputable def D.deeps:List D->Nat
 |[]=>0
 |a::r=>max (D.deep a) (D.deeps r)
end
noncomputable def zk:D->D->Option D
 |.int a,.int b=>some (.int (a+b))
 |.lst a,.lst b=>if a.length+b.length<=sizeLine then some (.lst (a++b)) else none
 |.tup a,.tup b=>if a.length+b.length<=sizeLine then some (.tup (a++b)) else none
 |_,_=>none
noncomputable def Wf:D->D->Option D
 |.int a,.int b=>some (.int (a - b))
 |_,_=>none
noncomputable def Ye:D->D->Option D
 |.int a,.int b=>if (-(2 ^ 64)<a/\a<2 ^ 64)\/(-(2 ^ 64)<b/\b<2 ^ 64) then some (.int (a * b)) else none
 |.lst a,.int k=>if -(2 ^ 63)<=k/\k<2 ^ 63/\a.length * k.toNat<=sizeLine then some (.lst (List.replicate k.toNat a).flatten) else none
 |_,_=>none
noncomputable def Yb:D->D->Option D
 |.int a,.int b=>if 0<b/\b<1073741824 then some (.int (a / b)) else none
 |_,_=>none
noncomputable def yU:D->D->Option D
 |.int a,.int b=>if 0<b then some (.int (a % b)) else none
 |_,_=>none
noncomputable def ltD:D->D->Option D
 |.int a,.int b=>some (.bl (decide (a<b)))
 |_,_=>none
noncomputable def leD:D->D->Option D
 |.int a,.int b=>some (.bl (decide (a<=b)))
 |_,_=>none
noncomputable def gtD:D->D->Option D
 |.int a,.int b=>some (.bl (decide (b<a)))
 |_,_=>none
noncomputable def geD:D->D->Option D
 |.int a,.int b=>some (.bl (decide (b<=a)))
 |_,_=>none
noncomputable def eqD (a b:D):Option D:=if a.plain && b.plain && decide (a.deep<=30) then some (.bl (a.eqv b)) else none
noncomputable def neD (a b:D):Option D:=if a.plain && b.plain && decide (a.deep<=30) then some (.bl (!a.eqv b)) else none
noncomputable def D.items? : D->Option (List D)
 |.tup a=>some a
 |.lst a=>some a
 |_=>none
noncomputable def inD (x y:D):Option D:=match y.items? with
 |some ys=>if x.plain && D.plains ys && decide (D.deeps ys<=30) then some (.bl (ys.any λy=>y.eqv x)) else none
 |none=>none
noncomputable def YQ (x y:D):Option D:=match y.items? with
 |some ys=>if x.plain && D.plains ys && decide (D.deeps ys<=30) then some (.bl (!ys.any λy=>y.eqv x)) else none
 |none=>none
noncomputable def YA:D->Bool
 |.non=>true
 |_=>false
noncomputable def Zs:D->Option Bool
 |.non=>some false
 |.bl b=>some b
 |.int i=>some (i != 0)
 |.tup a=>some (!a.isEmpty)
 |.lst a=>some (!a.isEmpty)
 |_=>none
noncomputable def zP:D->Option Bool
 |.bl b=>some b
 |_=>none
noncomputable def yP:D->Option D
 |.tup a=>some (.int a.length)
 |.lst a=>some (.int a.length)
 |_=>none
noncomputable def Xr (n:Nat) (i:Int):Option Nat:=if 0<=i then (if i<n then some i.toNat else none) else if -(n:Int)<=i then some (i+n).toNat else none
noncomputable def atD (xs:List D) (i:Int):Option D:=(Xr xs.length i).bind λj=>xs[j]?
noncomputable def ixD:D->D->Option D
 |.tup a,.int i=>atD a i
 |.lst a,.int i=>atD a i
 |_,_=>none
noncomputable def vF (n d:Nat):Option Int->Nat
 |none=>d
 |some v=>if v<0 then (v+(n:Int)).toNat else min v.toNat n
noncomputable def cut {α:Type}(xs:List α)(lo hi:Option Int):List α:=(xs.drop (vF xs.length 0 lo)).take (vF xs.length xs.length hi - vF xs.length 0 lo)
noncomputable def slD (x:D)(lo hi:Option Int):Option D:=match x with
 |.tup a=>some (.tup (cut a lo hi))
 |.lst a=>some (.lst (cut a lo hi))
 |_=>none
noncomputable def W8:D->Option Int
 |.int i=>some i
 |_=>none
noncomputable def XY:D->Option D
 |.int i=>some (.int i)
 |.bl b=>some (.int (if b then 1 else 0))
 |_=>none
noncomputable def yT:D->Option D
 |.tup a=>some (.tup a)
 |.lst a=>some (.tup a)
 |_=>none
noncomputable def yu (n:Nat):List D:=(List.range n).map λk:Nat=>D.int (k:Int)
noncomputable def Y3:List D->Option (List Int)
 |[]=>some []
 |.int b::r=>(Y3 r).map (b :: ·)
 |_::_=>none
noncomputable def jE:Option Slot->Option D
 |some (.fz d)=>some d
 |_=>none
noncomputable def zn:Option Slot->Option (List D)
 |some (.own d)=>some d
 |_=>none
theorem xD (d:List D):zn (some (.own d))=some d:=rfl
noncomputable def vM (i:Nat):M D:=λρ=>z8 (jE ρ[i]?) ρ
noncomputable def cM (d:D):M D:=λρ=>.ok d ρ
noncomputable def op2 (f:D->D->Option D)(a b:M D):M D:=λρ=>(a ρ).bnd λx ρ=>(b ρ).bnd λy ρ=>z8 (f x y) ρ
noncomputable def op1 (f:D->Option D)(a:M D):M D:=λρ=>(a ρ).bnd λx ρ=>z8 (f x) ρ
noncomputable def za:List (M D)->M (List D)
 |[]=>λρ=>.ok [] ρ
 |a::r=>λρ=>(a ρ).bnd λx ρ=>(za r ρ).bnd λxs ρ=>.ok (x::xs) ρ
noncomputable def zK (f:D->Option Bool)(e:M D):M Bool:=λρ=>(e ρ).bnd λx ρ=>z8 (f x) ρ
noncomputable def Wb (a b:M Bool):M Bool:=λρ=>(a ρ).bnd λx ρ=>if x=true then b ρ else .ok false ρ
noncomputable def orM (a b:M Bool):M Bool:=λρ=>(a ρ).bnd λx ρ=>if x=true then .ok true ρ else b ρ
noncomputable def Wp (a:M Bool):M Bool:=λρ=>(a ρ).bnd λx ρ=>.ok (!x) ρ
noncomputable def V7 (c:M Bool)(a b:M D):M D:=λρ=>(c ρ).bnd λx ρ=>if x=true then a ρ else b ρ
noncomputable def uL (a b:M D):M D:=λρ=>(a ρ).bnd λx ρ=>(z8 (zP x) ρ).bnd λk ρ=>if k=true then b ρ else .ok (.bl false) ρ
noncomputable def ye (p:Option (M D)):M (Option Int):=match p with
 |none=>λρ=>.ok none ρ
 |some a=>λρ=>(a ρ).bnd λx ρ=>(z8 (W8 x) ρ).bnd λi ρ=>.ok (some i) ρ
noncomputable def ZV (a:M D)(lo hi:Option (M D)):M D:=λρ=>(a ρ).bnd λx ρ=>(ye lo ρ).bnd λl ρ=>(ye hi ρ).bnd λh ρ=>z8 (slD x l h) ρ
noncomputable def yA (as:List (M D)):M D:=λρ=>(za as ρ).bnd λxs ρ=>if xs.length<=sizeLine then .ok (.tup xs) ρ else .bad
noncomputable def lstM (as:List (M D)):M D:=λρ=>(za as ρ).bnd λxs ρ=>if xs.length<=sizeLine then .ok (.lst xs) ρ else .bad
noncomputable def ZE (i:Nat)(e:M D):M Fl:=λρ=>(e ρ).bnd λx ρ=>.ok .nx (ρ.set i (.fz x))
noncomputable def ZW (e:M D):M Fl:=λρ=>(e ρ).bnd λx ρ=>.ok (.ret x) ρ
noncomputable def Zq (e:M D):M Fl:=λρ=>(e ρ).bnd λ_ ρ=>.ok .nx ρ
noncomputable def nxM:M Fl:=λρ=>.ok .nx ρ
noncomputable def xP (i:Nat)(as:List (M D)):M Fl:=λρ=>(za as ρ).bnd λxs ρ=>if xs.length<=sizeLine then .ok .nx (ρ.set i (.own xs)) else .bad
noncomputable def Y6 (i:Nat)(b:M Fl):M Fl:=λρ=>(z8 (zn ρ[i]?) ρ).bnd λds ρ=>b (ρ.set i (.fz (.lst ds)))
noncomputable def zr (i:Nat)(e:M D):M Fl:=λρ=>(z8 (zn ρ[i]?) ρ).bnd λ_ ρ=>(e ρ).bnd λx ρ=>(z8 (zn ρ[i]?) ρ).bnd λds ρ=>if ds.length<sizeLine then .ok .nx (ρ.set i (.own (ds++[x]))) else .bad
noncomputable def V5 (i:Nat):M D:=λρ=>(z8 (zn ρ[i]?) ρ).bnd λds ρ=>.ok (.int ds.length) ρ
noncomputable def wt (i:Nat)(e:M D):M D:=λρ=>(z8 (zn ρ[i]?) ρ).bnd λ_ ρ=>(e ρ).bnd λx ρ=>(z8 (zn ρ[i]?) ρ).bnd λds ρ=>(z8 (W8 x) ρ).bnd λk ρ=>(z8 (if ds.length<=sizeLine then Xr ds.length k else none) ρ).bnd λj ρ=>
 (z8 (ds[j]?) ρ).bnd λy ρ=>.ok y (ρ.set i (.own (ds.eraseIdx j)))
noncomputable def Fl.isNx:Fl->Bool
 |.nx=>true
 |_=>false
noncomputable def zL (a b:M Fl):M Fl:=λρ=>(a ρ).bnd λf ρ=>if f.isNx=true then b ρ else .ok f ρ
noncomputable def ifM (c:M Bool)(a b:M Fl):M Fl:=λρ=>(c ρ).bnd λx ρ=>if x=true then a ρ else b ρ
noncomputable def yp (f:Fl)(ρ:Rho)(go:M Fl):Res Fl:=match f with
 |.nx=>go ρ
 |.cont=>go ρ
 |.brk=>.ok .nx ρ
 |.ret d=>.ok (.ret d) ρ
noncomputable abbrev GM:=D->Rho->Option Rho
noncomputable def zY (g:GM)(b:M Fl):List D->M Fl
 |[]=>λρ=>.ok .nx ρ
 |d::ds=>λρ=>(z8 (g d ρ) ρ).bnd λρ _=>(b ρ).bnd λf ρ=>yp f ρ (zY g b ds)
noncomputable def XO (it:M D)(items:D->Option (List D))(g:GM)(b:M Fl):M Fl:=λρ=>(it ρ).bnd λx ρ=>(z8 (items x) ρ).bnd λds ρ=>zY g b ds ρ
noncomputable def yy (c:M Bool)(b:M Fl):Nat->M Fl
 |0=>λ_=>.bad
 |n+1=>λρ=>(c ρ).bnd λx ρ=>if x=true then (b ρ).bnd λf ρ=>yp f ρ (yy c b n) else .ok .nx ρ
noncomputable def zx (i:Nat):GM:=λd ρ=>some (ρ.set i (.fz d))
noncomputable def XN:List Nat->List D->Rho->Option Rho
 |[],[],ρ=>some ρ
 |i::r,d::ds,ρ=>XN r ds (ρ.set i (.fz d))
 |_,_,_=>none
noncomputable def VT (is:List Nat):GM:=λd ρ=>match d with
 |.tup ds=>XN is ds ρ
 |_=>none
noncomputable def yC:D->Option (List D)
 |.int j=>if -(2 ^ 62)<=j/\j<2 ^ 62 then some (yu j.toNat) else none
 |_=>none
noncomputable def ZH:D->Option (List D)
 |.lst a=>some a
 |_=>none
noncomputable def xt:D->Option (List D)
 |.tup a=>some a
 |_=>none
inductive FR where
 |ok (d:D) | exn (c:Addr) | bad
noncomputable def FR.of:Res Fl->FR
 |.ok .nx _=>.ok .non
 |.ok (.ret d) _=>.ok d
 |.ok _ _=>.bad
 |.exn c _=>.exn c
 |.bad=>.bad
noncomputable def FR.to:FR->Rho->Res D
 |.ok d,ρ=>.ok d ρ
 |.exn c,ρ=>.exn c ρ
 |.bad,_=>.bad
noncomputable def ZS (n:Nat)(args:List D):Rho:=args.map .fz++List.replicate (n - args.length) .un
noncomputable def Ze (n:Nat)(b:M Fl)(args:List D):FR:=FR.of (b (ZS n args))
noncomputable def zH (F:List D->FR)(as:List (M D)):M D:=λρ=>(za as ρ).bnd λds ρ=>(F ds).to ρ
end PM
namespace PM
open PySem
noncomputable def wB (cs:List Addr) (iy:Nat)(m:M Fl):M Fl:=λρ=>match m ρ with
 |.exn c _=>if cs.contains c then .ok .nx ((List.replicate ρ.length Slot.un).set iy (.fz (.exc c))) else .bad
 |r=>r
noncomputable def yD (c:Addr):M Fl:=λρ=>.exn c ρ
end PM
namespace PM
open PySem
noncomputable def vk:Slot->Slot
 |.fz d=>.fz d
 |_=>.un
noncomputable def ZC (nt:Nat)(idx:List Nat)(ρ:Rho):Rho:=List.replicate nt .un++(idx.map λi=>vk (ρ.getD i .un))++[.own []]
noncomputable def yR (k:Nat)(c:Option (M Bool))(e:M D):M Fl:=match c with
 |none=>zr k e
 |some c=>ifM c (zr k e) nxM
noncomputable def yx (acc:Slot) (nt:Nat)(idx:List Nat)(ρ:Rho):Rho:=List.replicate nt .un++(idx.map λi=>vk (ρ.getD i .un))++[acc]
noncomputable def Zt (c:Option (M Bool))(bm:M Fl):M Fl:=match c with
 |none=>bm
 |some c=>ifM c bm nxM
theorem QA (k:Nat)(c:Option (M Bool))(e:M D):yR k c e=Zt c (zr k e):=by cases c<;>rfl
noncomputable def XT (k:Nat):Res Fl->Option (List D)
 |.ok .nx ρ'=>zn ρ'[k]?
 |_=>none
noncomputable def Z8 (mi:M (List D)) (nt:Nat)(idx:List Nat)(g:GM)(c:Option (M Bool))(e:M D):M D:=λρ=>(mi ρ).bnd λds ρ=>
 (z8 (XT (nt+idx.length) (zY g (yR (nt+idx.length) c e) ds (ZC nt idx ρ))) ρ).bnd λys ρ=>.ok (.lst ys) ρ
noncomputable def zS (f:D->Option (List D))(e:M D):M (List D):=λρ=>(e ρ).bnd λx ρ=>z8 (f x) ρ
end PM
namespace PM
open PySem
noncomputable def Za (own:Bool) (i:Nat)(mi:M (List D)) (nt:Nat)(idx:List Nat)(g:GM)(c:Option (M Bool))(e:M D):M Fl:=λρ=>(mi ρ).bnd λds ρ=>
 (z8 (XT (nt+idx.length) (zY g (yR (nt+idx.length) c e) ds (ZC nt idx ρ))) ρ).bnd λys ρ=>.ok .nx (ρ.set i (if own then .own ys else .fz (.lst ys)))
end PM
namespace PM
open PySem
noncomputable def zN (f:List D->Option D)(as:List (M D)):M D:=λρ=>(za as ρ).bnd λds ρ=>z8 (f ds) ρ
noncomputable def WI (e:M D)(g:GM)(b:M Fl):M Fl:=λρ=>(za [e] ρ).bnd λxs ρ=>(z8 (match xs with | [x]=>yC x | _=>none) ρ).bnd λds ρ=>zY g b ds ρ
noncomputable def isD (x y:D):Option D:=if YA y=true then some (.bl (YA x)) else none
noncomputable def Xj (x y:D):Option D:=if YA y=true then some (.bl (!YA x)) else none
noncomputable def zX (f:D->Option D):List D->Option D
 |[x]=>f x
 |_=>none
noncomputable def WW:List D->Option (List Bool)
 |[]=>some []
 |.bl b::r=>(WW r).map (b :: ·)
 |_=>none
noncomputable def Vg:D->Option D
 |.lst ds=>(WW ds).map λbs=>.bl (bs.all id)
 |_=>none
noncomputable def zl:List Int->List Int
 |[]=>[]
 |a::r=>a::(zl r).filter (· != a)
noncomputable def xJ:D->Option D
 |.tup ds=>(Y3 ds).bind λns=>if ns.length<1000 then some (.int (zl ns).length) else none
 |.lst ds=>(Y3 ds).bind λns=>if ns.length<1000 then some (.int (zl ns).length) else none
 |_=>none
noncomputable def VU (ys:List D)(x:D):Option Nat:=ys.findIdx? λy=>y.eqv x
noncomputable def Y4 (s x:D):Option D:=match s.items? with
 |some ys=>if x.plain && D.plains ys && decide (D.deeps ys<=30) then (VU ys x).map λj=>.int (j:Nat) else none
 |none=>none
noncomputable def Y8 (s x:D):Option D:=match s with
 |.lst ys=>if x.plain && D.plains ys && decide (D.deeps ys<=30) then some (.int ((ys.filter λy=>y.eqv x).length:Nat)) else none
 |_=>none
noncomputable def YF (i:Nat)(e:M D):M Fl:=λρ=>(e ρ).bnd λx ρ=>(z8 (yC x) ρ).bnd λds ρ=>if ds.length<=sizeLine then .ok .nx (ρ.set i (.own ds)) else .bad
noncomputable def WB (f:D->D->Option D) (i:Nat)(e:M D):M D:=λρ=>(z8 (zn ρ[i]?) ρ).bnd λ_ ρ=>(e ρ).bnd λx ρ=>(z8 (zn ρ[i]?) ρ).bnd λds ρ=>z8 (f (.lst ds) x) ρ
noncomputable def Z6 (f:Addr->Option Bool):D->Option D
 |.exc c=>(f c).map .bl
 |_=>none
end PM
namespace PM
open PySem
theorem um:∃ n:Nat,n=1000000000:=⟨_,rfl⟩
noncomputable def Jc:Nat:=Classical.choose um
theorem jF:Jc=1000000000:=Classical.choose_spec um
structure Cls where
 be:Addr
 bm:Addr
 bw:Addr
 tm:Addr
 bt:Addr
noncomputable def Cls.all (A:Cls):List Addr:=[A.bm,A.bw,A.tm,A.bt]
noncomputable def Cls.is (A:Cls)(c x:Addr):Option Bool:=if A.all.contains x then some (x == c) else none
noncomputable def Cls.isVE (A:Cls)(x:Addr):Option Bool:=if A.all.contains x then some true else none
end PM
namespace PM
open PySem
end PM
namespace PM
open PySem
end PM
namespace PM
open PySem PySem.Spec PyProof.Rows L2
noncomputable abbrev St:=L2.St
noncomputable def Yg (a c:Addr):HO:=.ext λh=>∃ o vs,h.get? a=some o/\o.cls=.ref c/\o.data=.fields vs
section
variable (K:PySem.W.Frag)
mutual
noncomputable def Rep (G:Hp):D->V->Prop
 |.non,v=>v=.non
 |.bl b,v=>v=.bl b
 |.int i,v=>v=.int i
 |.str x,v=>v=.str x
 |.tup ds,v=>∃ a vs,v=.ref a/\G a=some (.tup vs)/\zJ G ds vs
 |.lst ds,v=>∃ a vs,v=.ref a/\SqL K G a vs/\zJ G ds vs
 |.exc c,v=>∃ a,v=.ref a/\G a=some (Yg a c)
 |.dct ks ds,v=>∃ a vs,v=.ref a/\ks.length=ds.length/\zJ G ds vs/\G a=some (.dK ((ks.map Sum.inl).zip vs))
 |.dcT ks ds,v=>∃ a o vs,v=.ref a/\ks.length=ds.length/\zJ G ds vs/\G a=some (.frz o (.dT ((ks.map (List.map (Sum.inl:Int->Key))).zip vs)))
noncomputable def zJ (G:Hp):List D->List V->Prop
 |[],vs=>vs=[]
 |d::ds,vs=>∃ v r,vs=v::r/\Rep G d v/\zJ G ds r
end
end
theorem SqT.same {K:PySem.W.Frag}{H H':Hp}{a:Addr}{xs:List V}(e:Same H H')(h:SqT K H a xs):SqT K H' a xs:=by
 rcases h with (h | ⟨o,h⟩) | h
 ·exact .inl (.inl (e _ _ h))
 ·exact .inl (.inr ⟨o,e _ _ h⟩)
 ·exact .inr h
instance sqtCoe {K:PySem.W.Frag}{H:Hp}{a:Addr}{xs:List V}:Coe (H a=some (HO.tup xs)) (SqT K H a xs):=⟨SqT.of⟩
section
variable {K:PySem.W.Frag}{G G' H H':Hp}
mutual
theorem Rep.mono (e:Same G G'):∀ {d:D}{v:V},Rep K G d v->Rep K G' d v
 |.non,_,h=>h
 |.bl _,_,h=>h
 |.int _,_,h=>h
 |.str _,_,h=>h
 |.tup ds,v,h=>by
  unfold Rep at h ⊢
  obtain⟨a,vs,h1,h2,h3⟩:=h
  exact⟨a,vs,h1,e _ _ h2,zJ.mono e h3⟩
 |.lst ds,v,h=>by
  unfold Rep at h ⊢
  obtain⟨a,vs,h1,h2,h3⟩:=h
  exact⟨a,vs,h1,e.seq h2,zJ.mono e h3⟩
 |.exc c,v,h=>by
  unfold Rep at h ⊢
  obtain⟨a,h1,h2⟩:=h
  exact⟨a,h1,e _ _ h2⟩
 |.dct ks ds,v,h=>by
  unfold Rep at h ⊢
  obtain⟨a,vs,h1,h2,h3,h4⟩:=h
  exact⟨a,vs,h1,h2,zJ.mono e h3,e _ _ h4⟩
 |.dcT ks ds,v,h=>by
  unfold Rep at h ⊢
  obtain⟨a,o,vs,h1,h2,h3,h4⟩:=h
  exact⟨a,o,vs,h1,h2,zJ.mono e h3,e _ _ h4⟩
theorem zJ.mono (e:Same G G'):∀ {ds:List D}{vs:List V},zJ K G ds vs->zJ K G' ds vs
 |[],_,h=>h
 |d::ds,vs,h=>by
  unfold zJ at h ⊢
  obtain⟨v,r,h1,h2,h3⟩:=h
  exact⟨v,r,h1,Rep.mono e h2,zJ.mono e h3⟩
end
theorem zJ.nil:zJ K G [] []:=by unfold zJ;rfl
theorem zJ.cons {d:D}{v:V}{ds:List D}{vs:List V}(h:Rep K G d v)(t:zJ K G ds vs):zJ K G (d::ds) (v::vs):=by
 unfold zJ
 exact⟨v,vs,rfl,h,t⟩
theorem zJ.nil_inv {vs:List V}(h:zJ K G [] vs):vs=[]:=by unfold zJ at h;exact h
theorem zJ.cons_inv {d:D}{ds:List D}{vs:List V}(h:zJ K G (d::ds) vs):∃ v r,vs=v::r/\Rep K G d v/\zJ K G ds r:=by unfold zJ at h;exact h
theorem zJ.len:∀ {ds:List D}{vs:List V},zJ K G ds vs->ds.length=vs.length
 |[],_,h=>by rw[h.nil_inv];rfl
 |d::ds,_,h=>by
  obtain⟨v,r,rfl,_,t⟩:=h.cons_inv
  simp[t.len]
theorem zJ.get:∀ {ds:List D}{vs:List V}{i:Nat}{d:D},zJ K G ds vs->ds[i]? = some d->∃ v,vs[i]? = some v/\Rep K G d v
 |[],_,_,_,_,e=>by simp at e
 |d::ds,_,0,_,h,e=>by
  obtain⟨v,r,rfl,h1,t⟩:=h.cons_inv
  simp at e
  subst e
  exact⟨v,rfl,h1⟩
 |d::ds,_,i+1,_,h,e=>by
  obtain⟨v,r,rfl,h1,t⟩:=h.cons_inv
  simp at e
  simpa using t.get e
theorem zJ.app:∀ {ds es:List D}{vs ws:List V},zJ K G ds vs->zJ K G es ws->zJ K G (ds++es) (vs++ws)
 |[],_,_,_,h,k=>by rw[h.nil_inv];exact k
 |d::ds,_,_,_,h,k=>by
  obtain⟨v,r,rfl,h1,t⟩:=h.cons_inv
  exact zJ.cons h1 (t.app k)
theorem zJ.take:∀ {ds:List D}{vs:List V} (n:Nat),zJ K G ds vs->zJ K G (ds.take n) (vs.take n)
 |_,_,0,_=>by simpa using zJ.nil
 |[],_,n+1,h=>by rw[h.nil_inv];simpa using zJ.nil
 |d::ds,_,n+1,h=>by
  obtain⟨v,r,rfl,h1,t⟩:=h.cons_inv
  exact zJ.cons h1 (t.take n)
theorem zJ.drop:∀ {ds:List D}{vs:List V} (n:Nat),zJ K G ds vs->zJ K G (ds.drop n) (vs.drop n)
 |_,_,0,h=>h
 |[],_,n+1,h=>by rw[h.nil_inv];simpa using zJ.nil
 |d::ds,_,n+1,h=>by
  obtain⟨v,r,rfl,h1,t⟩:=h.cons_inv
  exact t.drop n
theorem zJ.erase:∀ {ds:List D}{vs:List V} (n:Nat),zJ K G ds vs->zJ K G (ds.eraseIdx n) (vs.eraseIdx n)
 |[],_,n,h=>by rw[h.nil_inv];simpa using zJ.nil
 |d::ds,_,0,h=>by
  obtain⟨v,r,rfl,h1,t⟩:=h.cons_inv
  exact t
 |d::ds,_,n+1,h=>by
  obtain⟨v,r,rfl,h1,t⟩:=h.cons_inv
  exact zJ.cons h1 (t.erase n)
theorem zJ.rep {ds:List D}{vs:List V}(h:zJ K G ds vs):∀ n:Nat,zJ K G (List.replicate n ds).flatten (List.replicate n vs).flatten
 |0=>by simpa using zJ.nil
 |n+1=>by
  rw[List.replicate_succ,List.replicate_succ,List.flatten_cons,List.flatten_cons]
  exact h.app (zJ.rep h n)
theorem zJ.ofInts (ns:List Int):zJ K G (ns.map D.int) (ns.map V.int):=by
 induction ns with
 |nil=>exact zJ.nil
 |cons n r ih=>exact zJ.cons (by unfold Rep;rfl) ih
noncomputable def NT (o:Option HO):Prop:=o≠none/\∀ xs,o≠some (.tup xs)
theorem NT.lst {o:Option HO}{xs:List V}(h:o=some (.lst xs)):NT o:=by rw[h];exact⟨λz=>(by cases z),λ_ z=>by cases z⟩
theorem NT.dK {o:Option HO}{xs:List (Key×V)}(h:o=some (.dK xs)):NT o:=by rw[h];exact⟨λz=>(by cases z),λ_ z=>by cases z⟩
theorem NT.ins {o:Option HO}{C dx:Addr}{fs:List (Str×V)}(h:o=some (.ins C dx fs)):NT o:=by rw[h];exact⟨λz=>(by cases z),λ_ z=>by cases z⟩
theorem NT.dT {o:Option HO}{xs:List (List Key×V)}(h:o=some (.dT xs)):NT o:=by rw[h];exact⟨λz=>(by cases z),λ_ z=>by cases z⟩
structure Ext (G H G' H':Hp):Prop where
 g:Same G G'
 s:Same G' H'
 n:∀ b,NT (H b)->G b=none->G' b=none
 t:Same H H'
theorem NT.same (h:NT (H b))(s:Same H H'):NT (H' b):=by
 cases q:H b with
 |none=>exact absurd q h.1
 |some o=>rw[s _ _ q,<-q];exact h
theorem Ext.refl (h:Same G H):Ext G H G H:=⟨Same.refl _,h,λ_ _ e=>e,Same.refl _⟩
theorem Ext.trans {G1 H1 G2 H2:Hp}(a:Ext G H G1 H1)(b:Ext G1 H1 G2 H2):Ext G H G2 H2:=
 ⟨a.g.trans b.g,b.s,λc h e=>b.n c (h.same a.t) (a.n c h e),a.t.trans b.t⟩
theorem Same.upd {p:Addr}{o:HO}(h:H p=none):Same H (upd H p o):=λb u e=>by rw[upd_ne (ne_of_none e h)];exact e
theorem Ext.new {p:Addr}{o:HO}(h:Same G H)(hp:H p=none):Ext G H (upd G p o) (upd H p o):=by
 have gp:G p=none:=h.free hp
 refine⟨Same.upd gp,λb u e=>?_,λb hb e=>?_,Same.upd hp⟩
 ·by_cases q:b=p
  ·subst q;rw[upd_same]at e ⊢;exact e
  ·rw[upd_ne q]at e ⊢;exact h _ _ e
 ·rw[upd_ne (λq=>hb.1 (by rw[q];exact hp))];exact e
end
noncomputable def Slot.mut:Slot->Bool
 |.own _=>true
 |.dic _=>true
 |.dicT _=>true
 |.obj _ _=>true
 |.junk _=>true
 |_=>false
noncomputable def uF (G H0:Hp):Hp:=λb=>match H0 b with
 |some (.lst _)=>none
 |_=>G b
theorem vE {G H0:Hp}{b:Addr}{u:HO}(h:uF G H0 b=some u):G b=some u/\∀ ws,H0 b≠some (.lst ws):=by
 unfold uF at h
 split at h
 ·cases h
 ·rename_i n;exact⟨h,λws q=>n ws q⟩
theorem jK {G H0:Hp}{b:Addr}{u:HO}(h:G b=some u)(n:∀ ws,H0 b≠some (.lst ws)):uF G H0 b=some u:=by
 unfold uF
 split
 ·rename_i ws q;exact absurd q (n ws)
 ·exact h
theorem Ud {G G' H0:Hp}(h:Same G G'):Same (uF G H0) (uF G' H0):=λb u q=>jK (h _ _ (vE q).1) (vE q).2
noncomputable def jQ (K:PySem.W.Frag)(H0 G:Hp)(fs:List (Str×Bool×D))(ws:List (Str×V)):Prop:=Paired (λ(p:Str×Bool×D)(q:Str×V)=>q.1=p.1/\Rep K (if p.2.1=true then uF G H0 else G) p.2.2 q.2) fs ws
theorem jQ.mono {K:PySem.W.Frag}{H0 G G':Hp}{fs:List (Str×Bool×D)}{ws:List (Str×V)}(e:Same G G')(h:jQ K H0 G fs ws):jQ K H0 G' fs ws:=Paired.mapP h λp q z=>⟨z.1,by
 by_cases c:p.2.1=true
 ·rw[if_pos c];have:=z.2;rw[if_pos c]at this;exact this.mono (Ud e)
 ·rw[if_neg c];have:=z.2;rw[if_neg c]at this;exact this.mono e⟩
noncomputable def jR (K:PySem.W.Frag)(G:Hp)(kvs:List (Int×D))(ws:List (Key×V)):Prop:=Paired (λ(p:Int×D)(q:Key×V)=>q.1=Sum.inl p.1/\Rep K G p.2 q.2) kvs ws
noncomputable def u2 (K:PySem.W.Frag)(G:Hp)(kvs:List (List Int×D))(ws:List (List Key×V)):Prop:=Paired (λ(p:List Int×D)(q:List Key×V)=>q.1=p.1.map (Sum.inl:Int->Key)/\Rep K G p.2 q.2) kvs ws
noncomputable def InR (K:PySem.W.Frag)(H0 G H:Hp)(ds:List D)(b:Addr):Prop:=∃ vs,H b=some (.lst vs)/\G b=none/\H0 b=none/\zJ K G ds vs
noncomputable def YM (K:PySem.W.Frag)(H0 G H:Hp)(s:Slot)(o:Option (Option V)):Prop:=match s with
 |.un=>True
 |.fz d=>∃ v,o=some (some v)/\Rep K G d v
 |.own ds=>∃ a vs,o=some (some (.ref a))/\H a=some (.lst vs)/\G a=none/\H0 a=none/\zJ K G ds vs
 |.dic kvs=>∃ a ws,o=some (some (.ref a))/\H a=some (.dK ws)/\G a=none/\H0 a=none/\jR K G kvs ws
 |.dicT kvs=>∃ a ws,o=some (some (.ref a))/\H a=some (.dT ws)/\G a=none/\H0 a=none/\u2 K G kvs ws
 |.own2 dss=>∃ (a:Addr)(as:List Addr),o=some (some (.ref a))/\H a=some (.lst (as.map V.ref))/\G a=none/\H0 a=none/\a ∉ as/\as.Nodup/\as.length=dss.length/\∀ (k:Nat)(b:Addr)(ds:List D),as[k]? = some b->dss[k]? = some ds->InR K H0 G H ds b
 |.ownM ms=>∃ (a:Addr)(ts as:List Addr),o=some (some (.ref a))/\H a=some (.lst (ts.map V.ref))/\G a=none/\H0 a=none/\a ∉ as/\as.Nodup/\ts.length=ms.length/\as.length=ms.length ∧
   ∀ (k:Nat)(t b:Addr)(g:Bool) (n:Int)(ds:List D),ts[k]? = some t->as[k]? = some b->ms[k]? = some (g,n,ds)->H t=some (.tup [.bl g,.int n,.ref b])/\InR K H0 G H ds b
 |.obj C fs=>∃ (a dx:Addr)(ws:List (Str×V)),o=some (some (.ref a))/\H a=some (.ins C dx ws)/\G a=none/\H0 a=none/\jQ K H0 G fs ws
 |.junk n=>∃ (a:Addr)(vs:List V),o=some (some (.ref a))/\H a=some (.lst vs)/\G a=none/\H0 a=none/\vs.length=n
theorem jR.mono {K:PySem.W.Frag}{G G':Hp}{kvs:List (Int×D)}{ws:List (Key×V)}(e:Same G G')(h:jR K G kvs ws):jR K G' kvs ws:=Paired.mapP h λ_ _ q=>⟨q.1,q.2.mono e⟩
theorem u2.mono {K:PySem.W.Frag}{G G':Hp}{kvs:List (List Int×D)}{ws:List (List Key×V)}(e:Same G G')(h:u2 K G kvs ws):u2 K G' kvs ws:=Paired.mapP h λ_ _ q=>⟨q.1,q.2.mono e⟩
noncomputable def Slot.foot (H:Hp)(s:Slot)(o:Option (Option V))(b:Addr):Prop:=match s with
 |.own _=>o=some (some (.ref b))
 |.dic _=>o=some (some (.ref b))
 |.dicT _=>o=some (some (.ref b))
 |.own2 _=>o=some (some (.ref b))\/∃ a vs,o=some (some (.ref a))/\H a=some (.lst vs)/\V.ref b ∈ vs
 |.obj _ _=>o=some (some (.ref b))
 |.junk _=>o=some (some (.ref b))
 |.ownM _=>o=some (some (.ref b))\/∃ a vs t ws,o=some (some (.ref a))/\H a=some (.lst vs)/\V.ref t ∈ vs/\H t=some (.tup ws)/\V.ref b ∈ ws
 |_=>False
theorem WJ {H:Hp}{s:Slot}{o:Option (Option V)}{b:Addr}(m:s.mut=true)(h:s.foot H o b):o=some (some (.ref b)):=by
 cases s<;>first | exact h | cases m
theorem w9 {H:Hp}{s:Slot}{o:Option (Option V)}{b:Addr}(m:s.mut=true)(h:o=some (some (.ref b))):s.foot H o b:=by
 cases s<;>first | exact h | cases m
structure Hold (K:PySem.W.Frag)(G0 H0:Hp)(ρ:Rho)(σ:St)(G H:Hp):Prop where
 e:Ext G0 H0 G H
 b:Same H0 H
 sl:∀ (i:Nat)(s:Slot),ρ[i]? = some s->YM K H0 G H s σ[i]?
 ds:∀ (i j:Nat)(si sj:Slot)(a:Addr),ρ[i]? = some si->ρ[j]? = some sj->si.foot H σ[i]? a->sj.foot H σ[j]? a->i=j
 len:ρ.length=σ.length
section
variable {K:PySem.W.Frag}{G0 H0:Hp}{ρ:Rho}{σ σ':St}{G H G' H':Hp}
theorem YM.foot_in {s:Slot}{o:Option (Option V)}{b:Addr}(r:YM K H0 G H s o)(f:s.foot H o b):NT (H b)/\G b=none/\H0 b=none:=by
 cases s with
 |un=>exact f.elim
 |fz d=>exact f.elim
 |own ds=>
  obtain⟨a,vs,e1,e2,e3,e4,_⟩:=r
  have f:o=some (some (.ref b)):=f
  rw[e1]at f
  cases f
  exact⟨NT.lst e2,e3,e4⟩
 |dic ds=>
  obtain⟨a,vs,e1,e2,e3,e4,_⟩:=r
  have f:o=some (some (.ref b)):=f
  rw[e1]at f
  cases f
  exact⟨NT.dK e2,e3,e4⟩
 |dicT ds=>
  obtain⟨a,vs,e1,e2,e3,e4,_⟩:=r
  have f:o=some (some (.ref b)):=f
  rw[e1]at f
  cases f
  exact⟨NT.dT e2,e3,e4⟩
 |own2 dss=>
  obtain⟨a,as,e1,e2,e3,e4,_,_,hl,r⟩:=r
  rcases f with f | ⟨a',vs,f1,f2,f3⟩
  ·rw[e1]at f
   cases f
   exact⟨NT.lst e2,e3,e4⟩
  ·rw[e1]at f1
   cases f1
   rw[e2]at f2
   cases f2
   obtain⟨b',hb,eb⟩:=List.mem_map.mp f3
   cases eb
   obtain⟨k,hk⟩:=List.getElem?_of_mem hb
   have hk':k<dss.length:=by rw[<-hl];exact (List.getElem?_eq_some_iff.mp hk).1
   obtain⟨vs,g1,g2,g3,_⟩:=r k b _ hk (List.getElem?_eq_getElem hk')
   exact⟨NT.lst g1,g2,g3⟩
 |obj C fs=>
  obtain⟨a,dx,ws,e1,e2,e3,e4,_⟩:=r
  have f:o=some (some (.ref b)):=f
  rw[e1]at f
  cases f
  exact⟨NT.ins e2,e3,e4⟩
 |junk n=>
  obtain⟨a,vs,e1,e2,e3,e4,_⟩:=r
  have f:o=some (some (.ref b)):=f
  rw[e1]at f
  cases f
  exact⟨NT.lst e2,e3,e4⟩
 |ownM ms=>
  obtain⟨a,ts,as,e1,e2,e3,e4,_,_,hl1,hl2,r⟩:=r
  rcases f with f | ⟨a',vs,t,ws,f1,f2,f3,f4,f5⟩
  ·rw[e1]at f
   cases f
   exact⟨NT.lst e2,e3,e4⟩
  ·rw[e1]at f1
   cases f1
   rw[e2]at f2
   cases f2
   obtain⟨t',ht,et⟩:=List.mem_map.mp f3
   cases et
   obtain⟨k,hk⟩:=List.getElem?_of_mem ht
   have hk':k<ms.length:=by rw[<-hl1];exact (List.getElem?_eq_some_iff.mp hk).1
   obtain⟨g1,vs,g2,g3,g4,_⟩:=r k t as[k] ms[k].1 ms[k].2.1 ms[k].2.2 hk (List.getElem?_eq_getElem (by omega)) (List.getElem?_eq_getElem hk')
   rw[f4]at g1
   cases g1
   have:b=as[k]:=by simpa using f5
   rw[this]
   exact⟨NT.lst g2,g3,g4⟩
theorem yd {s:Slot}{o:Option (Option V)}{b:Addr}(r:YM K H0 G H s o)(tp:∀ t ws,H t=some (.tup ws)->H' t=some (.tup ws))(hk:∀ b,s.foot H o b->H' b=H b)(f:s.foot H' o b):s.foot H o b:=by
 cases s with
 |un=>exact f
 |fz d=>exact f
 |own ds=>exact f
 |dic ds=>exact f
 |dicT ds=>exact f
 |obj C fs=>exact f
 |junk n=>exact f
 |ownM ms=>
  rcases f with f | ⟨a,vs,t,ws,f1,f2,f3,f4,f5⟩
  ·exact .inl f
  ·have f2:=(hk a (.inl f1)).symm.trans f2
   obtain⟨a',ts,as,e1,e2,e3,e4,_,_,hl1,hl2,r⟩:=r
   rw[e1]at f1
   cases f1
   rw[e2]at f2
   cases f2
   obtain⟨t',ht,et⟩:=List.mem_map.mp f3
   cases et
   obtain⟨k,hk⟩:=List.getElem?_of_mem ht
   have hk':k<ms.length:=by rw[<-hl1];exact (List.getElem?_eq_some_iff.mp hk).1
   obtain⟨g1,_⟩:=r k t as[k] ms[k].1 ms[k].2.1 ms[k].2.2 hk (List.getElem?_eq_getElem (by omega)) (List.getElem?_eq_getElem hk')
   have:=tp _ _ g1
   rw[f4]at this
   cases this
   exact .inr ⟨a,_,t,_,e1,e2,f3,g1,f5⟩
 |own2 dss=>
  rcases f with f | ⟨a,vs,f1,f2,f3⟩
  ·exact .inl f
  ·exact .inr ⟨a,vs,f1,(hk a (.inl f1)).symm.trans f2,f3⟩
theorem YM.keep {s:Slot}{o:Option (Option V)}(r:YM K H0 G H s o)(tp:∀ t ws,H t=some (.tup ws)->H' t=some (.tup ws))(sg:Same G G')(hk:∀ b,s.foot H o b->H' b=H b/\G' b=none):YM K H0 G' H' s o:=by
 cases s with
 |un=>exact trivial
 |fz d=>obtain⟨v,e1,r⟩:=r;exact⟨v,e1,r.mono sg⟩
 |own ds=>
  obtain⟨a,vs,e1,e2,e3,e4,r⟩:=r
  obtain⟨k1,k2⟩:=hk a e1
  exact⟨a,vs,e1,k1.trans e2,k2,e4,r.mono sg⟩
 |dic ds=>
  obtain⟨a,vs,e1,e2,e3,e4,r⟩:=r
  obtain⟨k1,k2⟩:=hk a e1
  exact⟨a,vs,e1,k1.trans e2,k2,e4,r.mono sg⟩
 |dicT ds=>
  obtain⟨a,vs,e1,e2,e3,e4,r⟩:=r
  obtain⟨k1,k2⟩:=hk a e1
  exact⟨a,vs,e1,k1.trans e2,k2,e4,r.mono sg⟩
 |own2 dss=>
  obtain⟨a,as,e1,e2,e3,e4,n1,n2,hl,r⟩:=r
  obtain⟨k1,k2⟩:=hk a (.inl e1)
  refine⟨a,as,e1,k1.trans e2,k2,e4,n1,n2,hl,λk b ds h1 h2=>?_⟩
  obtain⟨vs,g1,g2,g3,g4⟩:=r k b ds h1 h2
  obtain⟨j1,j2⟩:=hk b (.inr ⟨a,_,e1,e2,List.mem_map_of_mem (List.mem_of_getElem? h1)⟩)
  exact⟨vs,j1.trans g1,j2,g3,g4.mono sg⟩
 |obj C fs=>
  obtain⟨a,dx,ws,e1,e2,e3,e4,r⟩:=r
  obtain⟨k1,k2⟩:=hk a e1
  exact⟨a,dx,ws,e1,k1.trans e2,k2,e4,r.mono sg⟩
 |junk n=>
  obtain⟨a,vs,e1,e2,e3,e4,e5⟩:=r
  obtain⟨k1,k2⟩:=hk a e1
  exact⟨a,vs,e1,k1.trans e2,k2,e4,e5⟩
 |ownM ms=>
  obtain⟨a,ts,as,e1,e2,e3,e4,n1,n2,hl1,hl2,r⟩:=r
  obtain⟨k1,k2⟩:=hk a (.inl e1)
  refine⟨a,ts,as,e1,k1.trans e2,k2,e4,n1,n2,hl1,hl2,λk t b g n ds h1 h2 h3=>?_⟩
  obtain⟨g0,vs,g1,g2,g3,g4⟩:=r k t b g n ds h1 h2 h3
  obtain⟨j1,j2⟩:=hk b (.inr ⟨a,_,t,_,e1,e2,List.mem_map_of_mem (List.mem_of_getElem? h1),g0,by simp⟩)
  exact⟨tp _ _ g0,vs,j1.trans g1,j2,g3,g4.mono sg⟩
theorem xC {α:Type}{l:List α}{i j:Nat}{x y:α}(h:(l.set i x)[j]? = some y):(j=i/\i<l.length/\y=x)\/(j≠i/\l[j]? = some y):=by
 by_cases e:j=i
 ·subst e
  rw[List.getElem?_set_self']at h
  cases q:l[j]? with
  |none=>rw[q]at h;simp at h
  |some z=>
   rw[q]at h
   simp at h
   exact .inl ⟨rfl,(List.getElem?_eq_some_iff.mp q).1,h.symm⟩
 ·rw[List.getElem?_set_ne (Ne.symm e)]at h
  exact .inr ⟨e,h⟩
theorem xg {α:Type}{l:List α}{i:Nat}{x:α}(h:i<l.length):(l.set i x)[i]? = some x:=by
 rw[List.getElem?_set_self h]
theorem Hold.grow (h:Hold K G0 H0 ρ σ G H)(x:Ext G H G' H')(hs:Same H H'):Hold K G0 H0 ρ σ G' H':=by
 have kp:∀ (i:Nat)(s:Slot),ρ[i]? = some s->∀ b,s.foot H σ[i]? b->H' b=H b/\G' b=none:=λi s e b f=>by
  obtain⟨g1,g2,g3⟩:=(h.sl i s e).foot_in f
  refine⟨?_,x.n b g1 g2⟩
  cases q:H b with
  |none=>exact absurd q g1.1
  |some o=>exact hs _ _ q
 have tp:∀ t ws,H t=some (.tup ws)->H' t=some (.tup ws):=λ_ _ q=>hs _ _ q
 refine⟨h.e.trans x,h.b.trans hs,λi s e=>(h.sl i s e).keep tp x.g (kp i s e),λi j si sj a e1 e2 f1 f2=>?_,h.len⟩
 exact h.ds i j si sj a e1 e2 (yd (h.sl i si e1) tp (λb f=>(kp i si e1 b f).1) f1) (yd (h.sl j sj e2) tp (λb f=>(kp j sj e2 b f).1) f2)
theorem Hold.put {i:Nat}{s':Slot}(h:Hold K G0 H0 ρ σ G H)(tp:∀ t ws,H t=some (.tup ws)->H' t=some (.tup ws))(x:Ext G0 H0 G' H')(b:Same H0 H')(sg:Same G G')
  (keep:∀ (j:Nat)(t:Slot)(c:Addr),j≠i->ρ[j]? = some t->t.foot H σ[j]? c->H' c=H c/\G' c=none)(hσ:∀ j,j≠i->σ'[j]? = σ[j]?)(hl:σ'.length=σ.length)
  (r:i<ρ.length->YM K H0 G' H' s' σ'[i]?)(f:∀ (c:Addr),s'.foot H' σ'[i]? c->∀ (j:Nat)(t:Slot),j≠i->ρ[j]? = some t->¬ t.foot H σ[j]? c):Hold K G0 H0 (ρ.set i s') σ' G' H':=by
 refine⟨x,b,λj t e=>?_,λj k sj sk a e1 e2 f1 f2=>?_,by rw[List.length_set,hl];exact h.len⟩
 ·rcases xC e with ⟨rfl,hl,rfl⟩ | ⟨ne,e⟩
  ·exact r hl
  ·rw[hσ j ne]
   exact (h.sl j t e).keep tp sg λc fc=>keep j t c ne e fc
 ·rcases xC e1 with ⟨rfl,hl1,rfl⟩ | ⟨n1,q1⟩
  ·rcases xC e2 with ⟨rfl,_,rfl⟩ | ⟨n2,e2⟩
   ·rfl
   ·rw[hσ k n2]at f2
    exact absurd (yd (h.sl k sk e2) tp (λc fc=>(keep k sk c n2 e2 fc).1) f2) (f a f1 k sk n2 e2)
  ·skip
   rw[hσ j n1]at f1
   have f1:=yd (h.sl j sj q1) tp (λc fc=>(keep j sj c n1 q1 fc).1) f1
   rcases xC e2 with ⟨rfl,_,rfl⟩ | ⟨n2,e2⟩
   ·exact absurd f1 (f a f2 j sj n1 q1)
   ·rw[hσ k n2]at f2
    exact h.ds j k sj sk a q1 e2 f1 (yd (h.sl k sk e2) tp (λc fc=>(keep k sk c n2 e2 fc).1) f2)
theorem Hold.setFz {i:Nat}{d:D}{v:V}(h:Hold K G0 H0 ρ σ G H)(r:Rep K G d v):Hold K G0 H0 (ρ.set i (.fz d)) (σ.set i (some v)) G H:=
 h.put (λ_ _ q=>q) h.e h.b (Same.refl _) (λj t c _ e f=>⟨rfl,((h.sl j t e).foot_in f).2.1⟩) (λj n=>List.getElem?_set_ne (Ne.symm n)) (by rw[List.length_set]) (λhl=>⟨v,xg (by rw[<-h.len];exact hl),r⟩) λc f=>f.elim
theorem Hold.unk {i:Nat}{o:Option V}(h:Hold K G0 H0 ρ σ G H):Hold K G0 H0 (ρ.set i .un) (σ.set i o) G H:=
 h.put (λ_ _ q=>q) h.e h.b (Same.refl _) (λj t c _ e f=>⟨rfl,((h.sl j t e).foot_in f).2.1⟩) (λj n=>List.getElem?_set_ne (Ne.symm n)) (by rw[List.length_set]) (λ_=>trivial) λc f=>f.elim
theorem Hold.mutAt {j:Nat}{s:Slot}{a:Addr}(h:Hold K G0 H0 ρ σ G H)(e:ρ[j]? = some s)(m:s.foot H σ[j]? a):H a≠none:=((h.sl j s e).foot_in m).1.1
theorem Hold.setNew {i:Nat}{s:Slot}{p:Addr}{o:HO}(h:Hold K G0 H0 ρ σ G H)(hp:H p=none)
  (r:YM K H0 G (upd H p o) s (some (some (.ref p))))(m:s.mut=true):Hold K G0 H0 (ρ.set i s) (σ.set i (some (.ref p))) G (upd H p o):=by
 have hs:Same H (upd H p o):=Same.upd hp
 refine h.put (λ_ _ q=>hs _ _ q) ⟨h.e.g,λb u e=>hs _ _ (h.e.s _ _ e),h.e.n,h.b.trans hs⟩ (h.b.trans hs) (Same.refl _) (λj t c _ e f=>⟨upd_ne λz=>h.mutAt e f (by rw[z];exact hp),((h.sl j t e).foot_in f).2.1⟩) (λj n=>List.getElem?_set_ne (Ne.symm n)) (by rw[List.length_set])
  (λhl=>by rw[xg (by rw[<-h.len];exact hl)];exact r) λc f j t n e f'=>?_
 ·by_cases hl:i<σ.length
  ·rw[xg hl]at f
   have:=WJ m f
   cases this
   exact h.mutAt e f' hp
  ·rw[List.getElem?_eq_none (by rw[List.length_set];omega)]at f
   have:=WJ m f
   cases this
theorem Hold.setAt {i:Nat}{s s':Slot}{a:Addr}{o:HO}(h:Hold K G0 H0 ρ σ G H)(e:ρ[i]? = some s)(fa:s.foot H σ[i]? a)
  (r:YM K H0 G (upd H a o) s' σ[i]?)(f':∀ c,s'.foot (upd H a o) σ[i]? c->s.foot H σ[i]? c):Hold K G0 H0 (ρ.set i s') σ G (upd H a o):=by
 obtain⟨na,ga,h0⟩:=(h.sl i s e).foot_in fa
 have keep:∀ b u,b≠a->H b=some u->upd H a o b=some u:=λb u n q=>by rw[upd_ne n];exact q
 refine h.put (λt ws q=>keep t _ (λz=>na.2 ws (by rw[<-z];exact q)) q) ⟨h.e.g,λb u q=>keep b u (ne_of_none q ga) (h.e.s _ _ q),h.e.n,λb u q=>keep b u (ne_of_none q h0) (h.b _ _ q)⟩ (λb u q=>keep b u (ne_of_none q h0) (h.b _ _ q)) (Same.refl _)
  (λj t c n q f=>⟨upd_ne λz=>n (h.ds j i t s c q e f (by rw[z];exact fa)),((h.sl j t q).foot_in f).2.1⟩) (λ_ _=>rfl) rfl (λ_=>r) λc fc j t n q f=>n (h.ds j i t s c q e f (f' c fc))
theorem Hold.setMut {i:Nat}{s s':Slot}{a:Addr}{o:HO}(h:Hold K G0 H0 ρ σ G H)(e:ρ[i]? = some s)(m:s.mut=true)(ea:σ[i]? = some (some (.ref a)))(ga:G a=none)(h0:H0 a=none)
  (r:YM K H0 G (upd H a o) s' (some (some (.ref a))))(m':s'.mut=true):Hold K G0 H0 (ρ.set i s') σ G (upd H a o):=
 h.setAt e (w9 m ea) (by rw[ea];exact r) λc fc=>w9 m (WJ m' fc)
theorem Hold.freeze {i:Nat}{s:Slot}{d:D}{a:Addr}{o:HO}(h:Hold K G0 H0 ρ σ G H)(e:ρ[i]? = some s)(m:s.mut=true)(ea:σ[i]? = some (some (.ref a)))(ha:H a=some o)(ga:G a=none)(h0:H0 a=none)
  (r:Rep K (upd G a o) d (.ref a)):Hold K G0 H0 (ρ.set i (.fz d)) σ (upd G a o) H/\Same G (upd G a o):=by
 have hg:Same G (upd G a o):=Same.upd ga
 refine⟨h.put (λ_ _ q=>q) ⟨h.e.g.trans hg,λb u q=>?_,λb hb q=>?_,h.e.t⟩ h.b hg (λj t c n q f=>⟨rfl,?_⟩) (λ_ _=>rfl) rfl (λ_=>⟨_,ea,r⟩) λc f=>f.elim,hg⟩
 ·by_cases z:b=a
  ·subst z;rw[upd_same]at q;rw[ha];exact q
  ·rw[upd_ne z]at q;exact h.e.s _ _ q
 ·rw[upd_ne (λz=>hb.1 (by rw[z];exact h0))];exact h.e.n b hb q
 ·rw[upd_ne λz=>n (h.ds j i t s c q e f (by rw[z];exact w9 m ea))]
  exact ((h.sl j t q).foot_in f).2.1
end
end PM
namespace PM
open PySem PySem.Spec PyProof.Rows L2
noncomputable abbrev TX (β:Type):=St->Hp->(β->Hp->Prop)->Prop
section
variable (K:PySem.W.Frag)(E:XK)
noncomputable def Vh {α β:Type}(rel:Hp->α->β->Prop)(G0 H0:Hp)(σ:St)(G:Hp)(r:Res α)(Q:β->Hp->Prop):Prop:=match r with
 |.ok a ρ'=>∀ b G' H',Same G G'->Hold K G0 H0 ρ' σ G' H'->rel G' a b->Q b H'
 |.exn c ρ'=>∀ G' H',Same G G'->Hold K G0 H0 ρ' σ G' H'->E (.ref c) none H'
 |.bad=>False
noncomputable def RAt {α β:Type}(rel:Hp->α->β->Prop)(t:TX β)(r:Res α)(G0 H0:Hp)(σ:St)(G H:Hp):Prop:=∀ Q,Vh K E rel G0 H0 σ G r Q->t σ H Q
noncomputable def RA {α β:Type}(rel:Hp->α->β->Prop)(t:TX β)(m:M α):Prop:=∀ G0 H0 ρ σ G H,Hold K G0 H0 ρ σ G H->RAt K E rel t (m ρ) G0 H0 σ G H
noncomputable def RE (t:TE)(m:M D):Prop:=RA K E (λG d v=>Rep K G d v) t m
noncomputable def RT (t:TT)(m:M Bool):Prop:=RA K E (λ_ a b=>b=a) t m
noncomputable def RL (t:TA)(m:M (List D)):Prop:=RA K E (λG ds vs=>zJ K G ds vs) t m
noncomputable def zU (G0 H0 G:Hp)(r:Res Fl)(D:Ends):Prop:=match r with
 |.ok .nx ρ'=>∀ σ' G' H',Same G G'->Hold K G0 H0 ρ' σ' G' H'->D.nx σ' H'
 |.ok (.ret d) ρ'=>∀ v σ' G' H',Same G G'->Hold K G0 H0 ρ' σ' G' H'->Rep K G' d v->D.rt v H'
 |.ok .brk ρ'=>∀ σ' G' H',Same G G'->Hold K G0 H0 ρ' σ' G' H'->D.bk σ' H'
 |.ok .cont ρ'=>∀ σ' G' H',Same G G'->Hold K G0 H0 ρ' σ' G' H'->D.ct σ' H'
 |.exn c ρ'=>∀ σ' G' H',Same G G'->Hold K G0 H0 ρ' σ' G' H'->E (.ref c) none H'
 |.bad=>False
noncomputable def RSt (t:TS)(r:Res Fl)(G0 H0:Hp)(σ:St)(G H:Hp):Prop:=∀ D,zU K E G0 H0 G r D->t D σ H
noncomputable def RS (t:TS)(m:M Fl):Prop:=∀ G0 H0 ρ σ G H,Hold K G0 H0 ρ σ G H->RSt K E t (m ρ) G0 H0 σ G H
noncomputable def RG (g:TG)(gm:GM):Prop:=∀ G0 H0 ρ σ G H d v (Q:St->Hp->Prop),Hold K G0 H0 ρ σ G H->Rep K G d v ->
 (∃ ρ',gm d ρ=some ρ'/\∀ σ' G' H',Same G G'->Hold K G0 H0 ρ' σ' G' H'->Q σ' H')->g v σ H Q
noncomputable def OpM (r:R2)(f:D->D->Option D):Prop:=∀ (G H:Hp)(x y:V)(dx dy d:D)(Q:VK),Same G H->Rep K G dx x->Rep K G dy y->f dx dy=some d ->
 (∀ v G' H',Ext G H G' H'->Same H H'->Rep K G' d v->Q v H')->r x y H Q
noncomputable def ClM (r:List V->Hp->VK->Prop)(f:List D->Option D):Prop:=∀ (G H:Hp)(xs:List V)(ds:List D)(d:D)(Q:VK),Same G H->zJ K G ds xs->f ds=some d ->
 (∀ v G' H',Ext G H G' H'->Same H H'->Rep K G' d v->Q v H')->r xs H Q
noncomputable def spM (n:Nat)(F:List D->FR):Sp:=λvs H Q E=>vs.length=n/\∃ G ds,Same G H/\zJ K G ds vs/\(match F ds with
 |.ok d=>∀ v G' H',Ext G H G' H'->Same H H'->Rep K G' d v->Q v H'
 |.exn c=>∀ G' H',Ext G H G' H'->Same H H'->E (.ref c) none H'
 |.bad=>False)
end
section
variable {K:PySem.W.Frag}{E:XK}{G0 H0:Hp}{ρ:Rho}{σ:St}{G H:Hp}
theorem Vh.mono {α β:Type}{rel:Hp->α->β->Prop}{r:Res α}{Q:β->Hp->Prop}{G':Hp}(s:Same G G')(h:Vh K E rel G0 H0 σ G r Q):Vh K E rel G0 H0 σ G' r Q:=by
 cases r with
 |ok a ρ'=>exact λb G2 H2 s2=>h b G2 H2 (s.trans s2)
 |exn c ρ'=>exact λG2 H2 s2=>h G2 H2 (s.trans s2)
 |bad=>exact h
theorem zU.mono {r:Res Fl}{D:Ends}{G':Hp}(s:Same G G')(h:zU K E G0 H0 G r D):zU K E G0 H0 G' r D:=by
 cases r with
 |ok f ρ'=>
  cases f with
  |nx=>exact λσ2 G2 H2 s2=>h σ2 G2 H2 (s.trans s2)
  |ret d=>exact λv σ2 G2 H2 s2=>h v σ2 G2 H2 (s.trans s2)
  |brk=>exact λσ2 G2 H2 s2=>h σ2 G2 H2 (s.trans s2)
  |cont=>exact λσ2 G2 H2 s2=>h σ2 G2 H2 (s.trans s2)
 |exn c ρ'=>exact λσ2 G2 H2 s2=>h σ2 G2 H2 (s.trans s2)
 |bad=>exact h
theorem RAt.bind {α β γ δ:Type}{r1:Hp->α->β->Prop}{r2:Hp->δ->γ->Prop}{r:Res α}{k:α->Rho->Res δ}{t1:TX β}{t2:β->TX γ}(h1:RAt K E r1 t1 r G0 H0 σ G H)
  (h2:∀ a ρ' b G' H',Same G G'->Hold K G0 H0 ρ' σ G' H'->r1 G' a b->RAt K E r2 (t2 b) (k a ρ') G0 H0 σ G' H') :
  RAt K E r2 (λσ H Q=>t1 σ H λb H1=>t2 b σ H1 Q) (r.bnd k) G0 H0 σ G H:=by
 intro Q hQ
 apply h1
 cases r with
 |ok a ρ'=>exact λb G' H' s ho rl=>h2 a ρ' b G' H' s ho rl Q (Vh.mono s hQ)
 |exn c ρ'=>exact hQ
 |bad=>exact hQ
theorem RSt.bind {α β:Type}{r1:Hp->α->β->Prop}{r:Res α}{k:α->Rho->Res Fl}{t1:TX β}{t2:β->TS}(h1:RAt K E r1 t1 r G0 H0 σ G H)
  (h2:∀ a ρ' b G' H',Same G G'->Hold K G0 H0 ρ' σ G' H'->r1 G' a b->RSt K E (t2 b) (k a ρ') G0 H0 σ G' H') :
  RSt K E (λD σ H=>t1 σ H λb H1=>t2 b D σ H1) (r.bnd k) G0 H0 σ G H:=by
 intro D hD
 apply h1
 cases r with
 |ok a ρ'=>exact λb G' H' s ho rl=>h2 a ρ' b G' H' s ho rl D (zU.mono s hD)
 |exn c ρ'=>exact λG' H' s ho=>hD σ G' H' s ho
 |bad=>exact hD
theorem RAt.done {α β:Type}{rel:Hp->α->β->Prop}{a:α}{b:β}(h:Hold K G0 H0 ρ σ G H)(r:rel G a b):RAt K E rel (λ_ H Q=>Q b H) (.ok a ρ) G0 H0 σ G H:=
 λQ hQ=>hQ b G H (Same.refl _) h r
theorem RAt.opt {α β δ:Type}{rel:Hp->δ->β->Prop}{t:TX β}{o:Option α}{k:α->Rho->Res δ}(h:∀ a,o=some a->RAt K E rel t (k a ρ) G0 H0 σ G H):RAt K E rel t ((z8 o ρ).bnd k) G0 H0 σ G H:=by
 cases o with
 |none=>exact λQ hQ=>hQ.elim
 |some a=>exact h a rfl
theorem RAt.opt1 {β α:Type}{rel:Hp->α->β->Prop}{t:TX β}{o:Option α}(h:∀ a,o=some a->RAt K E rel t (.ok a ρ) G0 H0 σ G H):RAt K E rel t (z8 o ρ) G0 H0 σ G H:=by
 cases o with
 |none=>exact λQ hQ=>hQ.elim
 |some a=>exact h a rfl
theorem RSt.opt {α:Type}{t:TS}{o:Option α}{k:α->Rho->Res Fl}(h:∀ a,o=some a->RSt K E t (k a ρ) G0 H0 σ G H):RSt K E t ((z8 o ρ).bnd k) G0 H0 σ G H:=by
 cases o with
 |none=>exact λQ hQ=>hQ.elim
 |some a=>exact h a rfl
theorem qv {o:Option Slot}{d:D}(h:jE o=some d):o=some (.fz d):=by
 cases o with
 |none=>cases h
 |some s=>cases s<;>first | (cases h;rfl) | cases h
theorem Zn {o:Option Slot}{d:List D}(h:zn o=some d):o=some (.own d):=by
 cases o with
 |none=>cases h
 |some s=>cases s<;>first | (cases h;rfl) | cases h
end
section
variable {K:PySem.W.Frag}{E:XK}
theorem j9 {i:Nat}:RE K E (tVar i) (vM i):=by
 intro G0 H0 ρ σ G H ho
 refine RAt.opt1 λd e=>?_
 obtain⟨v,e1,r⟩:=ho.sl i _ (qv e)
 intro Q hQ
 exact⟨v,e1,hQ v G H (Same.refl _) ho r⟩
theorem qM {v:V}{d:D}(r:∀ G,Rep K G d v):RE K E (tC v) (cM d):=λG0 H0 ρ σ G H ho=>RAt.done ho (r G)
theorem W5 {r:R2}{f:D->D->Option D}{ta tb:TE}{ma mb:M D}(hr:OpM K r f)(ha:RE K E ta ma)(hb:RE K E tb mb):RE K E (tOp r ta tb) (op2 f ma mb):=by
 intro G0 H0 ρ σ G H ho
 refine RAt.bind (t2:=λx σ H1 Q=>tb σ H1 λy H2=>r x y H2 Q) (ha G0 H0 ρ σ G H ho) λdx ρ1 x G1 H1 s1 h1 r1=>?_
 refine RAt.bind (t2:=λy σ H2 Q=>r x y H2 Q) (hb G0 H0 ρ1 σ G1 H1 h1) λdy ρ2 y G2 H2 s2 h2 r2=>?_
 refine RAt.opt1 λd e=>?_
 intro Q hQ
 exact hr G2 H2 x y dx dy d Q h2.e.s (r1.mono s2) r2 e λv G' H' x' hs rv=>hQ v G' H' x'.g (h2.grow x' hs) rv
theorem qI:RL K E tNil (za []):=λG0 H0 ρ σ G H ho=>RAt.done ho zJ.nil
theorem uU {ta:TE}{tr:TA}{ma:M D}{mr:List (M D)}(ha:RE K E ta ma)(hr:RL K E tr (za mr)):RL K E (tCons ta tr) (za (ma::mr)):=by
 intro G0 H0 ρ σ G H ho
 refine RAt.bind (t2:=λx σ H1 Q=>tr σ H1 λxs H2=>Q (x::xs) H2) (ha G0 H0 ρ σ G H ho) λdx ρ1 x G1 H1 s1 h1 r1=>?_
 refine RAt.bind (t2:=λxs σ H2 Q=>Q (x::xs) H2) (hr G0 H0 ρ1 σ G1 H1 h1) λds ρ2 xs G2 H2 s2 h2 r2=>?_
 exact RAt.done h2 (zJ.cons (r1.mono s2) r2)
theorem X2:∀ {as:List (M D)}{ρ ρ':Rho}{ds:List D},za as ρ=.ok ds ρ'->ds.length=as.length
 |[],_,_,_,h=>by cases h;rfl
 |a::r,ρ,ρ',ds,h=>by
  unfold za at h
  cases e:a ρ with
  |ok x ρ1=>
   rw[e]at h
   simp only[Res.bnd]at h
   cases e2:za r ρ1 with
   |ok xs ρ2=>
    rw[e2]at h
    cases h
    simp[X2 e2]
   |exn c ρ2=>rw[e2]at h;cases h
   |bad=>rw[e2]at h;cases h
  |exn c ρ1=>rw[e]at h;cases h
  |bad=>rw[e]at h;cases h
theorem zJ.ln {G:Hp}{ds:List D}{vs:List V}(h:zJ K G ds vs):vs.length=ds.length:=h.len.symm
theorem uV {n:Nat}{F:List D->FR}{ta:TA}{as:List (M D)}(ha:RL K E ta (za as))(hn:as.length=n):RE K E (tCall (spM K n F) [] E ta) (zH F as):=by
 intro G0 H0 ρ σ G H ho
 intro Q hQ
 unfold zH at hQ
 refine ha G0 H0 ρ σ G H ho _ ?_
 cases e:za as ρ with
 |ok ds ρ1=>
  rw[e]at hQ
  intro vs G1 H1 s1 h1 r1
  refine⟨by rw[List.append_nil,r1.ln,X2 e];exact hn,G1,ds,h1.e.s,by rw[List.append_nil];exact r1,?_⟩
  have hQ':Vh K E (λG d v=>Rep K G d v) G0 H0 σ G ((F ds).to ρ1) Q:=hQ
  cases q:F ds with
  |ok d=>rw[q]at hQ';exact λv G' H' x hs rv=>hQ' v G' H' (s1.trans x.g) (h1.grow x hs) rv
  |exn c=>rw[q]at hQ';exact λG' H' x hs=>hQ' G' H' (s1.trans x.g) (h1.grow x hs)
  |bad=>rw[q]at hQ';exact hQ'
 |exn c ρ1=>rw[e]at hQ;exact hQ
 |bad=>rw[e]at hQ;exact hQ
theorem VC {r:List V->Hp->VK->Prop}{f:List D->Option D}{ta:TA}{as:List (M D)}(hr:ClM K r f)(ha:RL K E ta (za as)):RE K E (tCB r ta) (zN f as):=by
 intro G0 H0 ρ σ G H ho
 refine RAt.bind (t2:=λvs σ H1 Q=>r vs H1 Q) (ha G0 H0 ρ σ G H ho) λds ρ1 vs G1 H1 s1 h1 r1=>?_
 refine RAt.opt1 λd e=>?_
 intro Q hQ
 exact hr G1 H1 vs ds d Q h1.e.s r1 e λv G' H' x' hs rv=>hQ v G' H' x'.g (h1.grow x' hs) rv
theorem JA {ta:TA}{as:List (M D)}(ha:RL K E ta (za as)):RE K E (tTup ta) (yA as):=by
 intro G0 H0 ρ σ G H ho
 refine RAt.bind (t2:=λxs σ H1 (Q:VK)=>xs.length<=sizeLine/\∀ p,H1 p=none->Q (V.ref p) (upd H1 p (.tup xs))) (ha G0 H0 ρ σ G H ho) λds ρ1 vs G1 H1 s1 h1 r1=>?_
 intro Q hQ
 split at hQ
 ·rename_i hz
  refine⟨by rw[r1.ln];exact hz,λp hp=>?_⟩
  have x:=Ext.new (o:=.tup vs) h1.e.s hp
  refine hQ _ (upd G1 p (.tup vs)) _ x.g (h1.grow x (Same.upd hp)) ?_
  unfold Rep
  exact⟨p,vs,rfl,upd_same,r1.mono x.g⟩
 ·exact hQ.elim
theorem JB {ta:TA}{as:List (M D)}(ha:RL K E ta (za as)):RE K E (tLst ta) (lstM as):=by
 intro G0 H0 ρ σ G H ho
 refine RAt.bind (t2:=λxs σ H1 (Q:VK)=>xs.length<=sizeLine/\∀ p,H1 p=none->Q (V.ref p) (upd H1 p (.lst xs))) (ha G0 H0 ρ σ G H ho) λds ρ1 vs G1 H1 s1 h1 r1=>?_
 intro Q hQ
 split at hQ
 ·rename_i hz
  refine⟨by rw[r1.ln];exact hz,λp hp=>?_⟩
  have x:=Ext.new (o:=.lst vs) h1.e.s hp
  refine hQ _ (upd G1 p (.lst vs)) _ x.g (h1.grow x (Same.upd hp)) ?_
  unfold Rep
  exact⟨p,vs,rfl,SqL.of upd_same,r1.mono x.g⟩
 ·exact hQ.elim
theorem QY {t:TE}{m:M D}(h:RE K E t m):RT K E (tB t) (zK zP m):=by
 intro G0 H0 ρ σ G H ho
 refine RAt.bind (t2:=λx σ H1 Q=>∃ c,x=.bl c/\Q c H1) (h G0 H0 ρ σ G H ho) λd ρ1 v G1 H1 s1 h1 r1=>?_
 refine RAt.opt1 λb e=>?_
 intro Q hQ
 cases d<;>first | cases e | skip
 unfold Rep at r1
 exact⟨_,r1,hQ _ G1 H1 (Same.refl _) h1 rfl⟩
theorem uT {t:TE}{m:M D}(h:RE K E t m):RT K E (tTest t) (zK zP m):=QY h
theorem ju {t u:TT}{a b:M Bool}(ha:RT K E t a)(hb:RT K E u b):RT K E (tAnd t u) (Wb a b):=by
 intro G0 H0 ρ σ G H ho
 refine RAt.bind (t2:=λc σ H1 Q=>if c=true then u σ H1 Q else Q false H1) (ha G0 H0 ρ σ G H ho) λx ρ1 c G1 H1 s1 h1 r1=>?_
 subst r1
 intro Q hQ
 cases c with
 |true=>rw[if_pos rfl]at hQ ⊢;exact hb G0 H0 ρ1 σ G1 H1 h1 Q hQ
 |false=>rw[if_neg (by simp)]at hQ ⊢;exact hQ _ G1 H1 (Same.refl _) h1 rfl
theorem jX {t u:TT}{a b:M Bool}(ha:RT K E t a)(hb:RT K E u b):RT K E (tOr t u) (orM a b):=by
 intro G0 H0 ρ σ G H ho
 refine RAt.bind (t2:=λc σ H1 Q=>if c=true then Q true H1 else u σ H1 Q) (ha G0 H0 ρ σ G H ho) λx ρ1 c G1 H1 s1 h1 r1=>?_
 subst r1
 intro Q hQ
 cases c with
 |true=>rw[if_pos rfl]at hQ ⊢;exact hQ _ G1 H1 (Same.refl _) h1 rfl
 |false=>rw[if_neg (by simp)]at hQ ⊢;exact hb G0 H0 ρ1 σ G1 H1 h1 Q hQ
theorem jt {t:TT}{a:M Bool}(ha:RT K E t a):RT K E (tNot t) (Wp a):=by
 intro G0 H0 ρ σ G H ho
 refine RAt.bind (t2:=λc σ H1 Q=>Q (!c) H1) (ha G0 H0 ρ σ G H ho) λx ρ1 c G1 H1 s1 h1 r1=>?_
 subst r1
 exact RAt.done h1 rfl
theorem JC {t:TT}{ta tb:TE}{c:M Bool}{a b:M D}(hc:RT K E t c)(ha:RE K E ta a)(hb:RE K E tb b):RE K E (tIf t ta tb) (V7 c a b):=by
 intro G0 H0 ρ σ G H ho
 refine RAt.bind (t2:=λc σ H1 Q=>if c=true then ta σ H1 Q else tb σ H1 Q) (hc G0 H0 ρ σ G H ho) λx ρ1 c G1 H1 s1 h1 r1=>?_
 subst r1
 intro Q hQ
 cases c with
 |true=>rw[if_pos rfl]at hQ ⊢;exact ha G0 H0 ρ1 σ G1 H1 h1 Q hQ
 |false=>rw[if_neg (by simp)]at hQ ⊢;exact hb G0 H0 ρ1 σ G1 H1 h1 Q hQ
theorem Qi {ta tb:TE}{a b:M D}(ha:RE K E ta a)(hb:RE K E tb b):RE K E (tAndV ta tb) (uL a b):=by
 intro G0 H0 ρ σ G H ho
 refine RAt.bind (t2:=λx σ H1 Q=>∃ c,x=.bl c/\if c=true then tb σ H1 Q else Q (.bl false) H1) (ha G0 H0 ρ σ G H ho) λd ρ1 v G1 H1 s1 h1 r1=>?_
 refine RAt.opt λk e=>?_
 intro Q hQ
 cases d<;>first | cases e | skip
 unfold Rep at r1
 refine⟨_,r1,?_⟩
 cases k with
 |true=>rw[if_pos rfl]at hQ ⊢;exact hb G0 H0 ρ1 σ G1 H1 h1 Q hQ
 |false=>rw[if_neg (by simp)]at hQ ⊢;exact hQ _ G1 H1 (Same.refl _) h1 (by unfold Rep;rfl)
theorem QZ:RS K E tNext nxM:=λG0 H0 ρ σ G H ho D hD=>hD σ G H (Same.refl _) ho
theorem qG {t u:TS}{a b:M Fl}(ha:RS K E t a)(hb:RS K E u b):RS K E (tSeq t u) (zL a b):=by
 intro G0 H0 ρ σ G H ho D hD
 refine ha G0 H0 ρ σ G H ho _ ?_
 unfold zL at hD
 cases e:a ρ with
 |ok f ρ1=>
  rw[e]at hD
  cases f with
  |nx=>
   have hD':zU K E G0 H0 G (b ρ1) D:=by simpa[Res.bnd,Fl.isNx] using hD
   exact λσ1 G1 H1 s1 h1=>hb G0 H0 ρ1 σ1 G1 H1 h1 D (zU.mono s1 hD')
  |ret d=>exact hD
  |brk=>exact hD
  |cont=>exact hD
 |exn c ρ1=>rw[e]at hD;exact hD
 |bad=>rw[e]at hD;exact hD
theorem Qd {te:TE}{m:M D}(he:RE K E te m):RS K E (tDrop te) (Zq m):=by
 intro G0 H0 ρ σ G H ho
 refine RSt.bind (t2:=λ_ D σ H1=>D.nx σ H1) (he G0 H0 ρ σ G H ho) λd ρ1 v G1 H1 s1 h1 r1=>?_
 exact λD hD=>hD σ G1 H1 (Same.refl _) h1
theorem jw {te:TE}{m:M D}(he:RE K E te m):RS K E (tRet te) (ZW m):=by
 intro G0 H0 ρ σ G H ho
 refine RSt.bind (t2:=λv D σ H1=>D.rt v H1) (he G0 H0 ρ σ G H ho) λd ρ1 v G1 H1 s1 h1 r1=>?_
 exact λD hD=>hD v σ G1 H1 (Same.refl _) h1 r1
theorem jY {t:TT}{u w:TS}{c:M Bool}{a b:M Fl}(hc:RT K E t c)(ha:RS K E u a)(hb:RS K E w b):RS K E (tIfS t u w) (ifM c a b):=by
 intro G0 H0 ρ σ G H ho
 refine RSt.bind (t2:=λb D σ H1=>if b=true then u D σ H1 else w D σ H1) (hc G0 H0 ρ σ G H ho) λx ρ1 k G1 H1 s1 h1 r1=>?_
 subst r1
 intro D hD
 cases k with
 |true=>rw[if_pos rfl]at hD ⊢;exact ha G0 H0 ρ1 σ G1 H1 h1 D hD
 |false=>rw[if_neg (by simp)]at hD ⊢;exact hb G0 H0 ρ1 σ G1 H1 h1 D hD
theorem Qf {i:Nat}:RG K (gName i) (zx i):=λG0 H0 ρ σ G H d v Q ho r ⟨ρ',e,hQ⟩=>by cases e;exact hQ _ G H (Same.refl _) (ho.setFz r)
noncomputable def RGs (K:PySem.W.Frag)(g:TGs)(is:List Nat):Prop:=∀ G0 H0 ρ σ G H ds vs (Q:St->Hp->Prop),Hold K G0 H0 ρ σ G H->zJ K G ds vs ->
 (∃ ρ',XN is ds ρ=some ρ'/\∀ σ' G' H',Same G G'->Hold K G0 H0 ρ' σ' G' H'->Q σ' H')->g vs σ H Q
theorem Qe:RGs K gNil []:=by
 intro G0 H0 ρ σ G H ds vs Q ho r ⟨ρ',e,hQ⟩
 cases ds with
 |nil=>cases e;exact⟨r.nil_inv,hQ σ G H (Same.refl _) ho⟩
 |cons d ds=>cases e
theorem qJ {i:Nat}{is:List Nat}{g:TGs}(h:RGs K g is):RGs K (gCons (gName i) g) (i::is):=by
 intro G0 H0 ρ σ G H ds vs Q ho r ⟨ρ',e,hQ⟩
 cases ds with
 |nil=>cases e
 |cons d ds=>
  obtain⟨v,vr,rfl,r1,r2⟩:=r.cons_inv
  exact⟨v,vr,rfl,h G0 H0 _ _ G H ds vr Q (ho.setFz r1) r2 ⟨ρ',e,hQ⟩⟩
theorem vA:∀ {is:List Nat}{ds:List D}{ρ ρ':Rho},XN is ds ρ=some ρ'->ds.length=is.length
 |[],[],_,_,_=>rfl
 |i::r,d::ds,ρ,ρ',h=>by simp[vA (is:=r) (ds:=ds) h]
 |[],_::_,_,_,h=>by cases h
 |_::_,[],_,_,h=>by cases h
theorem j8 {n:Nat}{is:List Nat}{g:TGs}(h:RGs K g is)(hn:is.length=n):RG K (gTup K n g) (VT is):=by
 intro G0 H0 ρ σ G H d v Q ho r ⟨ρ',e,hQ⟩
 cases d<;>first | (cases e;done) | skip
 rename_i ds
 unfold Rep at r
 obtain⟨a,vs,rfl,hq,rl⟩:=r
 have e':XN is ds ρ=some ρ':=e
 exact⟨a,vs,rfl,SqT.same ho.e.s hq,by rw[rl.ln,vA e'];exact hn,h G0 H0 ρ σ G H ds vs Q ho rl ⟨ρ',e',hQ⟩⟩
theorem jv {i:Nat}{te:TE}{m:M D}(he:RE K E te m):RS K E (tAsg te (gName i)) (ZE i m):=by
 intro G0 H0 ρ σ G H ho
 refine RSt.bind (t2:=λv D σ H1=>D.nx (σ.set i (some v)) H1) (he G0 H0 ρ σ G H ho) λd ρ1 v G1 H1 s1 h1 r1=>?_
 exact λD hD=>hD _ G1 H1 (Same.refl _) (h1.setFz r1)
theorem jx {i:Nat}{ta:TA}{as:List (M D)}(ha:RL K E ta (za as)):RS K E (tAsg (tLst ta) (gName i)) (xP i as):=by
 intro G0 H0 ρ σ G H ho
 refine RSt.bind (t2:=λxs D σ H1=>xs.length<=sizeLine/\∀ p,H1 p=none->D.nx (σ.set i (some (.ref p))) (upd H1 p (.lst xs))) (ha G0 H0 ρ σ G H ho) λds ρ1 vs G1 H1 s1 h1 r1=>?_
 intro D hD
 split at hD
 ·rename_i hz
  refine⟨by rw[r1.ln];exact hz,λp hp=>?_⟩
  refine hD _ G1 _ (Same.refl _) (h1.setNew hp (s:=.own ds) ?_ rfl)
  exact⟨p,vs,rfl,upd_same,h1.e.s.free hp,h1.b.free hp,r1⟩
 ·exact hD.elim
theorem jy {i:Nat}{t:TS}{m:M Fl}(h:RS K E t m):RS K E t (Y6 i m):=by
 intro G0 H0 ρ σ G H ho
 refine RSt.opt λds e=>?_
 obtain⟨a,vs,e1,e2,e3,e4,r⟩:=ho.sl i _ (Zn e)
 obtain⟨h1,s1⟩:=ho.freeze (d:=.lst ds) (Zn e) rfl e1 e2 e3 e4 (by unfold Rep;exact⟨a,vs,rfl,SqL.of upd_same,r.mono (Same.upd e3)⟩)
 exact λD hD=>h G0 H0 _ σ _ H h1 D (zU.mono s1 hD)
theorem Xx {J:It}{g:TG}{tb:TS}{gm:GM}{b:M Fl}{ds:List D}{vs:List V}{G0 H0:Hp}{ρ:Rho}{σ:St}{G H:Hp}{D:Ends}(ho:Hold K G0 H0 ρ σ G H)(hg:RG K g gm)(hb:RS K E tb b)(r:zJ K G ds vs)
  (hgo:∀ G' H' i v,Same G G'->Same G' H'->vs[i]? = some v->J.go i H'/\∀ x H'',J.yld i H' x H''->H''=H'/\x=v)(hst:∀ G' H',Same G G'->Same G' H'->J.stop vs.length H')
  (hD:zU K E G0 H0 G (zY gm b ds ρ) D) :
  ∃ W:Nat->Nat->St->Hp->Prop,(∃ m,W 0 m σ H)/\∀ i m σ H,W i m σ H ->
   (J.stop i H/\D.nx σ H)\/(J.go i H/\∃ N:St->Hp->Prop,(∀ σ' H',N σ' H'->∃ m',m'<m/\W (i+1) m' σ' H')/\∀ x H',J.yld i H x H'->g x σ H' λσ2 H2=>tb { D with nx:=N,ct:=N,bk:=D.nx } σ2 H2):=by
 refine⟨λi m σ H=>m=ds.length - i/\i<=ds.length/\∃ ρ G',Same G G'/\Hold K G0 H0 ρ σ G' H/\zU K E G0 H0 G' (zY gm b (ds.drop i) ρ) D,
  ⟨ds.length,by simp,Nat.zero_le _,ρ,G,Same.refl _,ho,by simpa using hD⟩,?_⟩
 rintro i m σ H ⟨rfl,hi,ρ,G',sg,h,hp⟩
 by_cases hlt:i<ds.length
 ·refine .inr ?_
  have hd:ds[i]? = some ds[i]:=List.getElem?_eq_getElem hlt
  obtain⟨v,hv,rv⟩:=r.get hd
  obtain⟨go,yl⟩:=hgo G' H i v sg h.e.s hv
  rw[List.drop_eq_getElem_cons hlt]at hp
  unfold zY at hp
  refine⟨go,λσ' H'=>∃ ρ2 G2,Same G G2/\Hold K G0 H0 ρ2 σ' G2 H'/\zU K E G0 H0 G2 (zY gm b (ds.drop (i+1)) ρ2) D,λσ' H' ⟨ρ2,G2,s2,h2,p2⟩=>⟨ds.length - (i+1),by omega,rfl,hlt,ρ2,G2,s2,h2,p2⟩,λx H' y=>?_⟩
  obtain⟨rfl,rfl⟩:=yl x H' y
  refine hg G0 H0 ρ σ G' H' ds[i] x _ h (rv.mono sg) ?_
  cases q:gm ds[i] ρ with
  |some ρ1=>
   rw[q]at hp
   refine⟨ρ1,rfl,λσ1 G1 H1 s1 h1=>?_⟩
   refine hb G0 H0 ρ1 σ1 G1 H1 h1 _ ?_
   have hp':zU K E G0 H0 G' ((b ρ1).bnd λf ρ=>yp f ρ (zY gm b (ds.drop (i+1)))) D:=hp
   cases q2:b ρ1 with
   |ok f ρ2=>
    rw[q2]at hp'
    cases f with
    |nx=>exact λσ2 G2 H2 s2 h2=>⟨ρ2,G2,sg.trans (s1.trans s2),h2,zU.mono (s1.trans s2) hp'⟩
    |cont=>exact λσ2 G2 H2 s2 h2=>⟨ρ2,G2,sg.trans (s1.trans s2),h2,zU.mono (s1.trans s2) hp'⟩
    |brk=>exact λσ2 G2 H2 s2 h2=>hp' σ2 G2 H2 (s1.trans s2) h2
    |ret d=>exact λv σ2 G2 H2 s2 h2=>hp' v σ2 G2 H2 (s1.trans s2) h2
   |exn c ρ2=>rw[q2]at hp';exact λσ2 G2 H2 s2 h2=>hp' σ2 G2 H2 (s1.trans s2) h2
   |bad=>rw[q2]at hp';exact hp'
  |none=>rw[q]at hp;exact hp.elim
 ·have e:i=ds.length:=by omega
  subst e
  rw[List.drop_length]at hp
  exact .inl ⟨by rw[r.len];exact hst G' H sg h.e.s,hp σ G' H (Same.refl _) h⟩
theorem Qc {tl:TE}{m:M D}{g:TG}{gm:GM}{tb:TS}{b:M Fl}(hl:RE K E tl m)(hg:RG K g gm)(hb:RS K E tb b):RS K E (tFor (iList K tl) g tb) (XO m ZH gm b):=by
 intro G0 H0 ρ σ G H ho
 refine RSt.bind (t2:=λx D σ H1=>∃ a,x=.ref a/\(∃ xs,SqL K H1 a xs)/\∃ W:Nat->Nat->St->Hp->Prop,(∃ m,W 0 m σ H1)/\∀ i m σ H,W i m σ H ->
  ((Itl K a).stop i H/\D.nx σ H)\/((Itl K a).go i H/\∃ N:St->Hp->Prop,(∀ σ' H',N σ' H'->∃ m',m'<m/\W (i+1) m' σ' H')/\∀ x H',(Itl K a).yld i H x H'->g x σ H' λσ2 H2=>tb { D with nx:=N,ct:=N,bk:=D.nx } σ2 H2)) (hl G0 H0 ρ σ G H ho) λd ρ1 v G1 H1 s1 h1 r1=>?_
 refine RSt.opt λds e=>?_
 intro D hD
 cases d<;>first | (cases e;done) | skip
 cases e
 unfold Rep at r1
 obtain⟨a,vs,rfl,hq,rl⟩:=r1
 refine⟨a,rfl,⟨vs,h1.e.s.seq hq⟩,Xx h1 hg hb rl (λG' H' i v sg sh hv=>?_) (λG' H' sg sh=>⟨vs,sh.seq (sg.seq hq),Nat.le_refl _⟩) hD⟩
 have q:SqL K H' a vs:=sh.seq (sg.seq hq)
 refine⟨⟨vs,v,q,hv⟩,λx H'' ⟨e1,e2⟩=>⟨e1,?_⟩⟩
 have:=e2 vs q
 rw[hv]at this
 cases this
 rfl
theorem Qa {tl:TE}{m:M D}{g:TG}{gm:GM}{tb:TS}{b:M Fl}(hl:RE K E tl m)(hg:RG K g gm)(hb:RS K E tb b):RS K E (tFor (iTup K tl) g tb) (XO m xt gm b):=by
 intro G0 H0 ρ σ G H ho
 refine RSt.bind (t2:=λx D σ H1=>∃ a,x=.ref a/\(∃ xs,SqT K H1 a xs)/\∃ W:Nat->Nat->St->Hp->Prop,(∃ m,W 0 m σ H1)/\∀ i m σ H,W i m σ H ->
  ((Itt K a).stop i H/\D.nx σ H)\/((Itt K a).go i H/\∃ N:St->Hp->Prop,(∀ σ' H',N σ' H'->∃ m',m'<m/\W (i+1) m' σ' H')/\∀ x H',(Itt K a).yld i H x H'->g x σ H' λσ2 H2=>tb { D with nx:=N,ct:=N,bk:=D.nx } σ2 H2)) (hl G0 H0 ρ σ G H ho) λd ρ1 v G1 H1 s1 h1 r1=>?_
 refine RSt.opt λds e=>?_
 intro D hD
 cases d<;>first | (cases e;done) | skip
 cases e
 unfold Rep at r1
 obtain⟨a,vs,rfl,hq,rl⟩:=r1
 refine⟨a,rfl,⟨vs,SqT.same h1.e.s hq⟩,Xx h1 hg hb rl (λG' H' i v sg sh hv=>?_) (λG' H' sg sh=>⟨vs,SqT.same sh (SqT.same sg hq),Nat.le_refl _⟩) hD⟩
 have q:SqT K H' a vs:=SqT.same sh (SqT.same sg hq)
 refine⟨⟨vs,v,q,hv⟩,λx H'' ⟨e1,e2⟩=>⟨e1,?_⟩⟩
 have:=e2 vs q
 rw[hv]at this
 cases this
 rfl
theorem Xf (G:Hp) (n:Nat):zJ K G (yu n) ((List.range n).map λk:Nat=>V.int (k:Int)):=by
 unfold yu
 generalize List.range n=l
 induction l with
 |nil=>exact zJ.nil
 |cons k r ih=>exact zJ.cons (by unfold Rep;rfl) ih
theorem xh {x:D}{ds:List D}(h:yC x=some ds):∃ j:Int,x=.int j/\(-(2 ^ 62)<=j/\j<2 ^ 62)/\ds=yu j.toNat:=by
 cases x with
 |int j=>
  by_cases hj : -(2 ^ 62)<=j/\j<2 ^ 62
  ·have:yC (.int j)=some (yu j.toNat):=by show (if _ then _ else _)=_;rw[if_pos hj]
   rw[this]at h
   exact⟨j,rfl,hj,(Option.some.inj h).symm⟩
  ·have:yC (.int j)=none:=by show (if _ then _ else _)=_;rw[if_neg hj]
   rw[this]at h
   cases h
 |_=>cases h
theorem Qb {te:TE}{m:M D}{g:TG}{gm:GM}{tb:TS}{b:M Fl}(hl:RE K E te m)(hg:RG K g gm)(hb:RS K E tb b):RS K E (tFor (iRng1 (tCons te tNil)) g tb) (WI m gm b):=by
 intro G0 H0 ρ σ G H ho
 refine RSt.bind (t2:=λvs D σ H1=>∃ j:Int,vs=[.int j]/\-(2 ^ 62)<=j/\j<2 ^ 62/\∃ W:Nat->Nat->St->Hp->Prop,(∃ m,W 0 m σ H1)/\∀ i m σ H,W i m σ H ->
  ((Itr 0 j.toNat).stop i H/\D.nx σ H)\/((Itr 0 j.toNat).go i H/\∃ N:St->Hp->Prop,(∀ σ' H',N σ' H'->∃ m',m'<m/\W (i+1) m' σ' H')/\∀ x H',(Itr 0 j.toNat).yld i H x H'->g x σ H' λσ2 H2=>tb { D with nx:=N,ct:=N,bk:=D.nx } σ2 H2)) (uU hl qI G0 H0 ρ σ G H ho) λxs ρ1 vs G1 H1 s1 h1 r1=>?_
 refine RSt.opt λds e=>?_
 intro D hD
 cases xs with
 |nil=>cases e
 |cons x r=>
  cases r with
  |cons _ _=>cases e
  |nil=>
   obtain⟨v,vr,rfl,rv,rr⟩:=r1.cons_inv
   obtain⟨j,rfl,hj,rfl⟩:=xh (show yC x=some ds from e)
   unfold Rep at rv
   subst rv
   rw[rr.nil_inv]
   have el:((List.range j.toNat).map λk:Nat=>V.int (k:Int)).length=j.toNat:=by simp
   refine⟨j,rfl,hj.1,hj.2,Xx h1 hg hb (Xf G1 j.toNat) (λG' H' i v sg sh hv=>?_) (λG' H' sg sh=>by rw[el];exact Nat.le_refl _) hD⟩
   have hi:i<j.toNat:=by rw[<-el];exact (List.getElem?_eq_some_iff.mp hv).1
   refine⟨hi,λx H'' ⟨e1,e2⟩=>⟨e1,?_⟩⟩
   rw[List.getElem?_map,List.getElem?_range hi]at hv
   cases hv
   rw[e2]
   simp
theorem qE {t:TT}{tb:TS}{c:M Bool}{b:M Fl} (n:Nat)(hc:RT K E t c)(hb:RS K E tb b):RS K E (tWhile t tb) (yy c b n):=by
 intro G0 H0 ρ σ G H ho D hD
 refine⟨λm σ H=>∃ ρ G',Same G G'/\Hold K G0 H0 ρ σ G' H/\zU K E G0 H0 G' (yy c b m ρ) D,⟨n,ρ,G,Same.refl _,ho,hD⟩,?_⟩
 rintro m σ H ⟨ρ,G',sg,h,hp⟩
 cases m with
 |zero=>exact hp.elim
 |succ m=>
  unfold yy at hp
  refine hc G0 H0 ρ σ G' H h _ ?_
  cases q:c ρ with
  |ok x ρ1=>
   rw[q]at hp
   intro k G1 H1 s1 h1 rk
   subst rk
   have hp':zU K E G0 H0 G' (if k=true then (b ρ1).bnd λf ρ=>yp f ρ (yy c b m) else .ok .nx ρ1) D:=hp
   cases k with
   |true=>
    rw[if_pos rfl]at hp' ⊢
    refine⟨λσ' H'=>∃ ρ2 G2,Same G G2/\Hold K G0 H0 ρ2 σ' G2 H'/\zU K E G0 H0 G2 (yy c b m ρ2) D,λσ' H' z=>⟨m,Nat.lt_succ_self _,z⟩,hb G0 H0 ρ1 σ G1 H1 h1 _ ?_⟩
    cases q2:b ρ1 with
    |ok f ρ2=>
     rw[q2]at hp'
     cases f with
     |nx=>exact λσ2 G2 H2 s2 h2=>⟨ρ2,G2,sg.trans (s1.trans s2),h2,zU.mono (s1.trans s2) hp'⟩
     |cont=>exact λσ2 G2 H2 s2 h2=>⟨ρ2,G2,sg.trans (s1.trans s2),h2,zU.mono (s1.trans s2) hp'⟩
     |brk=>exact λσ2 G2 H2 s2 h2=>hp' σ2 G2 H2 (s1.trans s2) h2
     |ret d=>exact λv σ2 G2 H2 s2 h2=>hp' v σ2 G2 H2 (s1.trans s2) h2
    |exn c ρ2=>rw[q2]at hp';exact λσ2 G2 H2 s2 h2=>hp' σ2 G2 H2 (s1.trans s2) h2
    |bad=>rw[q2]at hp';exact hp'
   |false=>
    rw[if_neg (by simp)]at hp' ⊢
    exact hp' σ G1 H1 s1 h1
  |exn c ρ1=>rw[q]at hp;exact λG1 H1 s1 h1=>hp σ G1 H1 s1 h1
  |bad=>rw[q]at hp;exact hp
end
end PM
namespace PM
open PySem PySem.Spec PyProof.Rows L2
section
variable {X:Cx}
noncomputable def jd (K:PySem.W.Frag):R2:=λx y H Q=>∃ l b xs zs,x=.ref l/\y=.ref b/\SqL K H l xs/\SqL K H b zs/\xs.length+zs.length<=sizeLine/\∀ p,H p=none->Q (.ref p) (upd H p (.lst (xs++zs)))
theorem Qy:OpR X (binaryOp .Add) (jd X.K):=by
 intro pins s σ H x y v u Q I rx ry h
 obtain⟨l,b,xs,zs,rfl,rfl,hH,hB,hz,q⟩:=h
 cases rx
 cases ry
 obtain⟨its,r,p1,z1⟩:=I.list hH
 obtain⟨its2,r2,p2,z2⟩:=I.list hB
 have hl:=r.length
 have hl2:=r2.length
 obtain⟨⟨cls,dd,data,sl⟩,ho,hc,n,hd⟩:=p1.isList
 obtain⟨⟨cls2,dd2,data2,sl2⟩,ho2,hc2,n2,hd2⟩:=p2.isList
 simp only at hc hd hc2 hd2
 subst hc hd hc2 hd2
 have e:its.toArray++its2.toArray=(its++its2).toArray:=by simp
 refine concat_meets ⟨_,ho,rfl⟩ ⟨_,ho2,rfl⟩ noFill_list_add seq_list_add PySem.F.slot_list_add PySem.F.entry_list_add (PySem.F.args_list_add_2 _ _) (list_addW l b its.toArray its2.toArray n n2 dd dd2 sl sl2 (by simp only[List.size_toArray];omega)) ⟨ho,ho2,?_⟩
 rw[e]
 exact⟨.ref _,_,I.lnew (t':=s.toks) (r.append r2) (by rw[List.length_append];omega),rfl,q _ I.fresh⟩
noncomputable def jZ (K:PySem.W.Frag):R2:=λx y H Q=>∃ l k xs,x=.ref l/\y=.int k/\SqL K H l xs/\-(2 ^ 63)<=k/\k<2 ^ 63/\xs.length * k.toNat<=sizeLine ∧
 ∀ p,H p=none->Q (.ref p) (upd H p (.lst (List.replicate k.toNat xs).flatten))
theorem Qv:OpR X (binaryOp .Mult) (jZ X.K):=by
 intro pins s σ H x y v u Q I rx ry h
 obtain⟨l,k,xs,rfl,rfl,hH,h1,h2,hz,q⟩:=h
 cases rx
 obtain⟨t,rfl⟩:=ry
 obtain⟨its,r,p1,z1⟩:=I.list hH
 have hl:=r.length
 obtain⟨⟨cls,dd,data,sl⟩,ho,hc,n,hd⟩:=p1.isList
 simp only at hc hd
 subst hc hd
 have hsz:its.toArray.size * k.toNat<=sizeLine:=by rw[List.size_toArray,<-hl];exact hz
 have hcap:¬ its.toArray.size * k.toNat > (2 ^ 63 - 1) / 8:=by
  have:(sizeLine:Nat)<=(2 ^ 63 - 1) / 8:=by decide
  omega
 have hfit:¬ (!Builtin.List.listFitsIndex k)=true:=by
  rw[fitsIndex_both h1 h2]
  exact Bool.false_ne_true
 have hlong:¬ Builtin.List.listTooLong (its.toArray.size * k.toNat)=true:=by
  rw[notLongL hsz]
  exact Bool.false_ne_true
 refine wpAny_binaryOp_repeat_ref (T:="list") (U:="int") (by decide) ⟨_,ho,rfl⟩ (λs'=>typeIs_int s' k t) noFill_list_mul F.fills_int_mul F.slot_int_rmul repeat_list F.slot_int_index.lookup
  (call_meets F.slot_int_rmul (typeIs_int s k t) F.entry_int_rmul (F.args_int_rmul_2 _ _) (lm_int_rmul_list_any k t l its.toArray n dd sl)
   ⟨ho,rfl,⟨_,ho,rfl⟩,call_meets F.slot_list_mul ⟨_,ho,rfl⟩ F.entry_list_mul (F.args_list_mul_2 _ _) (lm_list_mul_any l its.toArray n dd sl k t hfit hcap hlong) ⟨ho,?_⟩⟩)
 rw[listMul_foldl_if]
 exact⟨.ref _,_,I.lnew (t':=s.toks) (r.rep k.toNat) (by rw[len_rep,Nat.mul_comm];exact hz),rfl,q _ I.fresh⟩
noncomputable def jc (K:PySem.W.Frag):R2:=λx y H Q=>∃ a b xs ys,x=.ref a/\y=.ref b/\SqT K H a xs/\SqT K H b ys/\xs.length+ys.length<=sizeLine ∧
 (xs=[]->Q (.ref b) H)/\(xs≠[]->ys=[]->Q (.ref a) H)/\(xs≠[]->ys≠[]->∀ p,H p=none->Q (.ref p) (upd H p (.tup (xs++ys))))
theorem Qx:OpR X (binaryOp .Add) (jc X.K):=by
 intro pins s σ H x y v u Q I rx ry h
 obtain⟨a,b,xs,ys,rfl,rfl,ha,hb,hz,q0,q1,q2⟩:=h
 by_cases hx:xs=[]
 ·subst hx
  cases rx
  cases ry
  obtain⟨its,r1,p1,_⟩:=I.tuple ha
  obtain⟨its2,r2,p2,_⟩:=I.tuple hb
  have e0:its=[]:=r1.nil_iff.mpr rfl
  subst e0
  obtain⟨⟨cls,dd,data,sl⟩,ho,hc,n,hd⟩:=p1
  obtain⟨⟨cls2,dd2,data2,sl2⟩,ho2,hc2,n2,hd2⟩:=p2
  simp only at hc hd hc2 hd2
  subst hc hd hc2 hd2
  exact concat_meets ⟨_,ho,rfl⟩ ⟨_,ho2,rfl⟩ noFill_tuple_add seq_tuple_add PySem.F.slot_tuple_add PySem.F.entry_tuple_add (PySem.F.args_tuple_add_2 _ _)
   (tuple_addW0 a b ([]:List Value).toArray its2.toArray n n2 dd dd2 sl sl2 (by simp)) ⟨ho,ho2,.ref b,H,I,rfl,q0 rfl⟩
 ·exact op_catT pins s σ H _ _ v u Q I rx ry ⟨a,b,xs,ys,rfl,rfl,ha,hb,hx,hz,q1 hx,q2 hx⟩
end
section
variable {K:PySem.W.Frag}
theorem zM {G:Hp}{i:Int}{v:V}:Rep K G (.int i) v ↔ v=.int i:=by unfold Rep;exact Iff.rfl
theorem ZN {G:Hp}{i:Bool}{v:V}:Rep K G (.bl i) v ↔ v=.bl i:=by unfold Rep;exact Iff.rfl
theorem zf {G:Hp}{i:Str}{v:V}:Rep K G (.str i) v ↔ v=.str i:=by unfold Rep;exact Iff.rfl
theorem yY {G:Hp}{v:V}:Rep K G .non v ↔ v=.non:=by unfold Rep;exact Iff.rfl
theorem zy {G:Hp}{ds:List D}{v:V}:Rep K G (.tup ds) v ↔ ∃ a vs,v=.ref a/\G a=some (.tup vs)/\zJ K G ds vs:=by conv=>lhs;unfold Rep
theorem zg {G:Hp}{ds:List D}{v:V}:Rep K G (.lst ds) v ↔ ∃ a vs,v=.ref a/\SqL K G a vs/\zJ K G ds vs:=by conv=>lhs;unfold Rep
theorem uX {C:Int->Int->Prop}{g:Int->Int->V}{f:D->D->Option D}(h:∀ dx dy d,f dx dy=some d->∃ i j,dx=.int i/\dy=.int j/\C i j/\∀ G,Rep K G d (g i j)):OpM K (rI C g) f:=by
 intro G H x y dx dy d Q s rx ry e q
 obtain⟨i,j,rfl,rfl,c,r⟩:=h dx dy d e
 exact⟨i,j,zM.mp rx,zM.mp ry,c,q _ G H (Ext.refl s) (Same.refl _) (r G)⟩
theorem Ys {g:Int->Int->V}{f:D->D->Option D}(h:∀ dx dy d,f dx dy=some d->∃ i j,dx=.int i/\dy=.int j/\∀ G,Rep K G d (g i j)):OpM K (rI0 g) f:=by
 intro G H x y dx dy d Q s rx ry e q
 obtain⟨i,j,rfl,rfl,r⟩:=h dx dy d e
 exact⟨i,j,zM.mp rx,zM.mp ry,q _ G H (Ext.refl s) (Same.refl _) (r G)⟩
theorem Qp:OpM K (rI0 λi j=>.int (i - j)) Wf:=Ys λdx dy d e=>by
 cases dx<;>first | (cases e;done) | (cases dy<;>first | (cases e;done) | skip)
 cases e
 exact⟨_,_,rfl,rfl,λG=>zM.mpr rfl⟩
theorem wx:OpM K (rI0 λi j=>.bl (decide (i<j))) ltD:=Ys λdx dy d e=>by
 cases dx<;>first | (cases e;done) | (cases dy<;>first | (cases e;done) | skip)
 cases e
 exact⟨_,_,rfl,rfl,λG=>ZN.mpr rfl⟩
theorem JG:OpM K (rI0 λi j=>.bl (decide (i<=j))) leD:=Ys λdx dy d e=>by
 cases dx<;>first | (cases e;done) | (cases dy<;>first | (cases e;done) | skip)
 cases e
 exact⟨_,_,rfl,rfl,λG=>ZN.mpr rfl⟩
theorem Vx:OpM K (rI0 λi j=>.bl (decide (j<i))) gtD:=Ys λdx dy d e=>by
 cases dx<;>first | (cases e;done) | (cases dy<;>first | (cases e;done) | skip)
 cases e
 exact⟨_,_,rfl,rfl,λG=>ZN.mpr rfl⟩
theorem qQ:OpM K (rI0 λi j=>.bl (decide (j<=i))) geD:=Ys λdx dy d e=>by
 cases dx<;>first | (cases e;done) | (cases dy<;>first | (cases e;done) | skip)
 cases e
 exact⟨_,_,rfl,rfl,λG=>ZN.mpr rfl⟩
theorem qS:OpM K (rI CDiv λi j=>.int (i / j)) Yb:=uX λdx dy d e=>by
 cases dx<;>first | (cases e;done) | (cases dy<;>first | (cases e;done) | skip)
 rename_i a b
 by_cases h:0<b/\b<1073741824
 ·have e':Yb (.int a) (.int b)=some (.int (a / b)):=by show (if _ then _ else _)=_;rw[if_pos h]
  rw[e']at e
  cases e
  exact⟨_,_,rfl,rfl,h,λG=>zM.mpr rfl⟩
 ·have e':Yb (.int a) (.int b)=none:=by show (if _ then _ else _)=_;rw[if_neg h]
  rw[e']at e
  cases e
theorem Qr:OpM K (rI (λ_ j=>0<j) λi j=>.int (i % j)) yU:=uX λdx dy d e=>by
 cases dx<;>first | (cases e;done) | (cases dy<;>first | (cases e;done) | skip)
 rename_i a b
 by_cases h:0<b
 ·have e':yU (.int a) (.int b)=some (.int (a % b)):=by show (if _ then _ else _)=_;rw[if_pos h]
  rw[e']at e
  cases e
  exact⟨_,_,rfl,rfl,h,λG=>zM.mpr rfl⟩
 ·have e':yU (.int a) (.int b)=none:=by show (if _ then _ else _)=_;rw[if_neg h]
  rw[e']at e
  cases e
noncomputable def je (K:PySem.W.Frag):R2:=λx y H Q=>rI0 (λi j=>.int (i+j)) x y H Q\/jd K x y H Q\/jc K x y H Q
theorem Qu:OpM K (je K) zk:=by
 intro G H x y dx dy d Q s rx ry e q
 cases dx<;>first | (cases e;done) | (cases dy<;>first | (cases e;done) | skip)
 ·cases e
  exact .inl ⟨_,_,zM.mp rx,zM.mp ry,q _ G H (Ext.refl s) (Same.refl _) (zM.mpr rfl)⟩
 ·rename_i a b
  obtain⟨p,vs,rfl,h1,r1⟩:=zy.mp rx
  obtain⟨p2,ws,rfl,h2,r2⟩:=zy.mp ry
  by_cases h:a.length+b.length<=sizeLine
  ·have e':zk (.tup a) (.tup b)=some (.tup (a++b)):=by show (if _ then _ else _)=_;rw[if_pos h]
   rw[e']at e
   cases e
   refine .inr (.inr ⟨p,p2,vs,ws,rfl,rfl,SqT.same s h1,SqT.same s h2,by rw[r1.ln,r2.ln];exact h,λz=>?_,λz1 z2=>?_,λz1 z2 n hn=>?_⟩)
   ·subst z
    have:a=[]:=List.length_eq_zero_iff.mp (by rw[r1.len];rfl)
    subst this
    exact q _ G H (Ext.refl s) (Same.refl _) (zy.mpr ⟨p2,ws,rfl,h2,r2⟩)
   ·subst z2
    have:b=[]:=List.length_eq_zero_iff.mp (by rw[r2.len];rfl)
    subst this
    rw[List.append_nil]at q
    exact q _ G H (Ext.refl s) (Same.refl _) (zy.mpr ⟨p,vs,rfl,h1,r1⟩)
   ·have x:=Ext.new (o:=.tup (vs++ws)) s hn
    exact q _ _ _ x (Same.upd hn) (zy.mpr ⟨n,_,rfl,upd_same,(r1.app r2).mono x.g⟩)
  ·have e':zk (.tup a) (.tup b)=none:=by show (if _ then _ else _)=_;rw[if_neg h]
   rw[e']at e
   cases e
 ·rename_i a b
  obtain⟨p,vs,rfl,h1,r1⟩:=zg.mp rx
  obtain⟨p2,ws,rfl,h2,r2⟩:=zg.mp ry
  by_cases h:a.length+b.length<=sizeLine
  ·have e':zk (.lst a) (.lst b)=some (.lst (a++b)):=by show (if _ then _ else _)=_;rw[if_pos h]
   rw[e']at e
   cases e
   refine .inr (.inl ⟨p,p2,vs,ws,rfl,rfl,s.seq h1,s.seq h2,by rw[r1.ln,r2.ln];exact h,λn hn=>?_⟩)
   have x:=Ext.new (o:=.lst (vs++ws)) s hn
   exact q _ _ _ x (Same.upd hn) (zg.mpr ⟨n,_,rfl,SqL.of upd_same,(r1.app r2).mono x.g⟩)
  ·have e':zk (.lst a) (.lst b)=none:=by show (if _ then _ else _)=_;rw[if_neg h]
   rw[e']at e
   cases e
noncomputable def ja (K:PySem.W.Frag):R2:=λx y H Q=>rI CMul (λi j=>.int (i * j)) x y H Q\/jZ K x y H Q
theorem Qq:OpM K (ja K) Ye:=by
 intro G H x y dx dy d Q s rx ry e q
 cases dx<;>first | (cases e;done) | (cases dy<;>first | (cases e;done) | skip)
 ·rename_i a b
  by_cases h:(-(2 ^ 64)<a/\a<2 ^ 64)\/(-(2 ^ 64)<b/\b<2 ^ 64)
  ·have e':Ye (.int a) (.int b)=some (.int (a * b)):=by show (if _ then _ else _)=_;rw[if_pos h]
   rw[e']at e
   cases e
   exact .inl ⟨_,_,zM.mp rx,zM.mp ry,h,q _ G H (Ext.refl s) (Same.refl _) (zM.mpr rfl)⟩
  ·have e':Ye (.int a) (.int b)=none:=by show (if _ then _ else _)=_;rw[if_neg h]
   rw[e']at e
   cases e
 ·rename_i a k
  by_cases h : -(2 ^ 63)<=k/\k<2 ^ 63/\a.length * k.toNat<=sizeLine
  ·have e':Ye (.lst a) (.int k)=some (.lst (List.replicate k.toNat a).flatten):=by show (if _ then _ else _)=_;rw[if_pos h]
   rw[e']at e
   cases e
   obtain⟨p,vs,rfl,h1,r1⟩:=zg.mp rx
   refine .inr ⟨p,k,vs,rfl,zM.mp ry,s.seq h1,h.1,h.2.1,by rw[r1.ln];exact h.2.2,λn hn=>?_⟩
   have x:=Ext.new (o:=.lst (List.replicate k.toNat vs).flatten) s hn
   exact q _ _ _ x (Same.upd hn) (zg.mpr ⟨n,_,rfl,SqL.of upd_same,(r1.rep k.toNat).mono x.g⟩)
  ·have e':Ye (.lst a) (.int k)=none:=by show (if _ then _ else _)=_;rw[if_neg h]
   rw[e']at e
   cases e
theorem uh (n:Nat) (i:Int):Xr n i=ixN n i:=rfl
theorem ux {G:Hp}{ds:List D}{vs:List V}{i:Int}{d:D}(r:zJ K G ds vs)(e:atD ds i=some d):∃ v,atI vs i=some v/\Rep K G d v:=by
 unfold atD at e
 unfold atI
 rw[r.ln]
 rw[uh]at e
 cases q:ixN ds.length i with
 |none=>rw[q]at e;cases e
 |some j=>
  rw[q]at e
  exact r.get (show ds[j]? = some d from e)
theorem JH:OpM K (rIx K) ixD:=by
 intro G H x y dx dy d Q s rx ry e q
 cases dx<;>first | (cases e;done) | (cases dy<;>first | (cases e;done) | skip)
 ·rename_i a i
  obtain⟨p,vs,rfl,h1,r1⟩:=zy.mp rx
  obtain⟨v,ev,rv⟩:=ux r1 (show atD a i=some d from e)
  exact .inr (.inl ⟨p,vs,i,v,rfl,zM.mp ry,SqT.same s h1,ev,q _ G H (Ext.refl s) (Same.refl _) rv⟩)
 ·rename_i a i
  obtain⟨p,vs,rfl,h1,r1⟩:=zg.mp rx
  obtain⟨v,ev,rv⟩:=ux r1 (show atD a i=some d from e)
  exact .inl ⟨p,vs,i,v,rfl,zM.mp ry,s.seq h1,ev,q _ G H (Ext.refl s) (Same.refl _) rv⟩
theorem W7 {G:Hp}{d:D}{v:V}(r:Rep K G d v):decide (v=.non)=YA d:=by
 cases d with
 |non=>rw[yY.mp r];rfl
 |bl b=>rw[ZN.mp r];rfl
 |int b=>rw[zM.mp r];rfl
 |str b=>rw[zf.mp r];rfl
 |tup b=>obtain⟨a,vs,rfl,_⟩:=zy.mp r;rfl
 |lst b=>obtain⟨a,vs,rfl,_⟩:=zg.mp r;rfl
 |exc c=>unfold Rep at r;obtain⟨a,rfl,_⟩:=r;rfl
 |dct ks ds=>unfold Rep at r;obtain⟨a,vs,rfl,_⟩:=r;rfl
 |dcT ks ds=>unfold Rep at r;obtain⟨a,o,vs,rfl,_⟩:=r;rfl
theorem WF {d:D}(h:YA d=true):d=.non:=by cases d<;>first | rfl | cases h
theorem Vw:OpM K (λx y H Q=>y=.non/\Q (.bl (decide (x=.non))) H) isD:=by
 intro G H x y dx dy d Q s rx ry e q
 unfold isD at e
 split at e
 ·rename_i h
  cases e
  have:=WF h
  subst this
  exact⟨yY.mp ry,q _ G H (Ext.refl s) (Same.refl _) (ZN.mpr (by rw[W7 rx]))⟩
 ·cases e
theorem UO:OpM K (λx y H Q=>y=.non/\Q (.bl (!decide (x=.non))) H) Xj:=by
 intro G H x y dx dy d Q s rx ry e q
 unfold Xj at e
 split at e
 ·rename_i h
  cases e
  have:=WF h
  subst this
  exact⟨yY.mp ry,q _ G H (Ext.refl s) (Same.refl _) (ZN.mpr (by rw[W7 rx]))⟩
 ·cases e
theorem Zr:ClM K (λxs H Q=>∃ p ys,xs=[.ref p]/\(SqL K H p ys\/SqT K H p ys)/\Q (.int ys.length) H) (zX yP):=by
 intro G H xs ds d Q s r e q
 cases ds with
 |nil=>cases e
 |cons x t=>
  cases t with
  |cons _ _=>cases e
  |nil=>
   obtain⟨v,vr,rfl,rv,rr⟩:=r.cons_inv
   rw[rr.nil_inv]
   have e':yP x=some d:=e
   cases x<;>first | (cases e';done) | skip
   ·cases e'
    obtain⟨a,vs,rfl,h1,r1⟩:=zy.mp rv
    exact⟨a,vs,rfl,.inr (SqT.same s h1),q _ G H (Ext.refl s) (Same.refl _) (zM.mpr (by rw[r1.ln]))⟩
   ·cases e'
    obtain⟨a,vs,rfl,h1,r1⟩:=zg.mp rv
    exact⟨a,vs,rfl,.inl (s.seq h1),q _ G H (Ext.refl s) (Same.refl _) (zM.mpr (by rw[r1.ln]))⟩
theorem jL:ClM K (λxs H Q=>(∃ i,xs=[.int i]/\Q (.int i) H)\/∃ k,xs=[.bl k]/\Q (.int (if k then 1 else 0)) H) (zX XY):=by
 intro G H xs ds d Q s r e q
 cases ds with
 |nil=>cases e
 |cons x t=>
  cases t with
  |cons _ _=>cases e
  |nil=>
   obtain⟨v,vr,rfl,rv,rr⟩:=r.cons_inv
   rw[rr.nil_inv]
   have e':XY x=some d:=e
   cases x<;>first | (cases e';done) | skip
   ·cases e'
    exact .inr ⟨_,by rw[ZN.mp rv],q _ G H (Ext.refl s) (Same.refl _) (zM.mpr rfl)⟩
   ·cases e'
    exact .inl ⟨_,by rw[zM.mp rv],q _ G H (Ext.refl s) (Same.refl _) (zM.mpr rfl)⟩
theorem Uh:ClM K (λxs H Q=>∃ p ys,xs=[.ref p]/\((SqL K H p ys/\∀ l,H l=none->Q (.ref l) (upd H l (.tup ys)))\/(SqT K H p ys/\Q (.ref p) H))) (zX yT):=by
 intro G H xs ds d Q s r e q
 cases ds with
 |nil=>cases e
 |cons x t=>
  cases t with
  |cons _ _=>cases e
  |nil=>
   obtain⟨v,vr,rfl,rv,rr⟩:=r.cons_inv
   rw[rr.nil_inv]
   have e':yT x=some d:=e
   cases x<;>first | (cases e';done) | skip
   ·cases e'
    obtain⟨a,vs,rfl,h1,r1⟩:=zy.mp rv
    exact⟨a,vs,rfl,.inr ⟨SqT.same s h1,q _ G H (Ext.refl s) (Same.refl _) (zy.mpr ⟨a,vs,rfl,h1,r1⟩)⟩⟩
   ·cases e'
    obtain⟨a,vs,rfl,h1,r1⟩:=zg.mp rv
    refine⟨a,vs,rfl,.inl ⟨s.seq h1,λn hn=>?_⟩⟩
    have x:=Ext.new (o:=.tup vs) s hn
    exact q _ _ _ x (Same.upd hn) (zy.mpr ⟨n,_,rfl,upd_same,r1.mono x.g⟩)
end
end PM
namespace PM
open PySem PySem.Spec PyProof.Rows L2
abbrev Zl:List Value:=[.type "ValueError",.type "Exception",.type "BaseException",.type "object"]
abbrev zo:String:="ValueError.__new__"
theorem yG {K:PySem.W.Frag}{h:Heap}{C:Addr}(X:K.In h)(q:PySem.W.excIn K C Zl zo=true) :
  ∃ bm N nm qn bs hdct sn sub ab col dd k0 k1 k2 k3 k5 mN,h.get? C=some (excClassObj nm qn C N bs bm hdct sn sub ab col dd k0 k1 k2 k3 k5 zo)/\h.Ns N mN/\mN "__init__" = none/\OwnTail h Zl bm ∧
   ∃ dd' cd sl,K.lookup C=some ⟨.type "type",dd',.cls cd,sl⟩/\cd.mro=.ref C::bm:=by
 unfold PySem.W.excIn at q
 split at q
 ·rename_i dd cd sl ho
  split at q
  ·rename_i C' bm k0 k1 k2 k3 n k5 hm hs
   simp only[Bool.and_eq_true,beq_iff_eq,Bool.not_eq_true']at q
   obtain⟨⟨⟨⟨⟨rfl,rfl⟩,hdel⟩,ht⟩,hok⟩,hni⟩:=q
   have hm':=hm
   have ho':=ho
   obtain⟨nm,bs,mro,ns,qn,hd,sn,sub,ab,col,del⟩:=cd
   dsimp only at hm hdel hok hni
   subst hm hdel
   have hsl:sl=#[k0,k1,k2,k3,some (.builtin zo),k5]:=by
    obtain⟨l⟩:=sl
    simp only at hs
    rw[hs]
   subst hsl
   exact⟨bm,ns,nm,qn,bs,hd,sn,sub,ab,col,dd,k0,k1,k2,k3,k5,_,X _ _ ho,.of_isNs (PySem.W.isNs_of_in X hok),PySem.W.nsMap_none_of_in X hok hni,PySem.W.tail_of_in X ht,_,_,_,ho',hm'⟩
  ·cases q
 ·cases q
theorem yr {P:Program}{w:World}{H:Hp}{h:Heap}{a:Addr}{o:HO}(x:ObjOk P w H h a o):∃ ob,h.get? a=some ob:=by
 cases o with
 |lst xs=>obtain⟨_,_,_,_,e⟩:=x;exact⟨_,e⟩
 |tup xs=>obtain⟨_,_,_,ob,e,_⟩:=x;exact⟨_,e⟩
 |dK kvs=>obtain⟨_,_,_,_,o,_,_,e,_⟩:=x;exact⟨_,e⟩
 |dT kvs=>obtain⟨_,_,_,_,o,_,_,e,_⟩:=x;exact⟨_,e⟩
 |set S n=>obtain⟨o,_,_,_,e,_⟩:=x;exact⟨_,e⟩
 |ins C dx fs=>obtain⟨_,_,_,e,_⟩:=x;exact⟨_,e⟩
 |own y=>exact x
 |xd fs=>obtain⟨_,⟨_,_,_,e,_⟩,_⟩:=x;exact⟨_,e⟩
 |rng lo hi=>obtain⟨_,_,_,e⟩:=x;exact⟨_,e⟩
 |frz ob u=>obtain⟨e,_⟩:=x;exact⟨_,e⟩
 |tbl ps=>exact⟨_,show h.get? a=some _ from x⟩
 |met f y=>exact⟨_,show h.get? a=some _ from x⟩
 |ext φ=>obtain⟨_,e,_⟩:=x;exact e
noncomputable def Yd (K:PySem.W.Frag) (cls:Value):Prop:=∃ C o cd,cls=.ref C/\K.lookup C=some o/\o.data=.cls cd/\cd.name = "BadMachine"
structure Flying (K:PySem.W.Frag)(P:Program)(w:World)(stack:List Env)(H H':Hp)(s:Shared) (cls:Value) (e:Value)(s':Shared)(B:Heap)(e0:Addr)(a0:VOk):Prop where
 ev:e=.ref e0
 fl:Heap.FlyingC B stack e0 cls a0 s'.heap
 ctx:Yd K cls->∀ vs,a0.p vs->vs[2]? = some .none
 hok:HOk P w H' B
 os:s'.os=s.os
 gens:AllBare s'.gens
 un:Un (frs stack) [] H H' s.heap s'.heap
 kb:∀ b o,s.heap.get? b=some o->H b=none->b ∉ frs stack->B.get? b=some o
 tb:∀ b o,s.heap.get? b=some o->b ∉ frs stack->∃ o',B.get? b=some o'
noncomputable def CX1 (P:Program)(w:World)(K:PySem.W.Frag):CXT:=λouter H s E e s'=>∃ H' cls B e0 a0,Flying K P w outer H H' s cls e s' B e0 a0/\E cls none H'
theorem yK {env:Env}{outer:List Env}{b:Addr}{L:Addr}(hf:env.frame=some L):b ∈ frs (env::outer) ↔ b=L\/b ∈ frs outer:=by
 unfold frs
 rw[List.filterMap_cons]
 simp[hf]
section
variable {P:Program}{w:World}{K:PySem.W.Frag}{mg:Str->Option Value}{base:Heap}{N:List Str}{qual:Str}{scope:Scope}{f:Addr}{cd:Value}{A:Around}{outer:List Env}{s₀:Shared}{H₀:Hp}{E:XK}
 {pins:List (Addr×Obj)}{σ:St}{H:Hp}{s:Shared}
theorem VS {X:Cx}(I:Inv X pins σ H s):HOk X.prog X.w H (PySem.W.hideAll s.heap (frs X.stack)):=λa o e=>by
 have nofr:∀ b u,H b=some u->b ∉ frs X.stack:=λb u q z=>by
  rw[I.stkFree b z]at q
  cases q
 refine (I.hok a o e).stay (λb u hb q=>PySem.W.hideAll_get _ q ?_) (λb q=>q) λb xs q=>q
 rcases hb with rfl | hb
 ·exact nofr _ _ e
 ·exact nofr _ _ hb
theorem uA {l:List Env}:∀ env ∈ l,∀ a,env.frame=some a->a ∈ frs l:=λenv he a hf=>List.mem_filterMap.mpr ⟨env,he,hf⟩
theorem VO {e:Addr}{cls:Value}{vs:List Value}{h':Heap}(I:Inv (cxOf (CX1 P w K) P w K mg base N qual scope f cd A outer s₀ H₀ E) pins σ H s)(hx:Heap.MadeExcOf s.heap h' e cls vs)(he:E cls none H) :
  (cxOf (CX1 P w K) P w K mg base N qual scope f cd A outer s₀ H₀ E).xe (.ref e) { s with heap:=h' }:=by
 have hL:s₀.heap.objs.size<=(envOfC qual scope s₀.heap.objs.size f cd).locals:=Nat.le_refl _
 have hf:(envOfC qual scope s₀.heap.objs.size f cd).frame=some s₀.heap.objs.size:=rfl
 refine vd (base:=PySem.W.hideAll s.heap (frs (envOfC qual scope s₀.heap.objs.size f cd::outer))) (h:=s.heap) I.ok.frames hf (λb o q=>PySem.W.of_hideAll _ q) (PySem.W.funFrames_hide I.stack uA) hx λh'' x1 x4=>?_
 have base0:∀ b o,s₀.heap.get? b=some o->b≠s₀.heap.objs.size:=λb o q z=>by
  subst z
  exact absurd (Heap.lt_size q) (Nat.lt_irrefl _)
 have kb:∀ b o,s₀.heap.get? b=some o->H₀ b=none->b ∉ frs outer->(PySem.W.hideAll s.heap (frs (envOfC qual scope s₀.heap.objs.size f cd::outer))).get? b=some o:=λb o q n hb=>
  PySem.W.hideAll_get _ (I.base.keep b o q n hb (by intro z;cases z)) λz=>by
   rcases (yK hf).mp z with z | z
   ·exact base0 b o q z
   ·exact hb z
 have tb:∀ b o,s₀.heap.get? b=some o->b ∉ frs outer->∃ o',(PySem.W.hideAll s.heap (frs (envOfC qual scope s₀.heap.objs.size f cd::outer))).get? b=some o':=λb o q hb=>by
  obtain⟨o',q'⟩:=I.base.there b o q (by intro z;cases z)
  exact⟨o',PySem.W.hideAll_get _ q' λz=>by
   rcases (yK hf).mp z with z | z
   ·exact base0 b o q z
   ·exact hb z⟩
 have fr:∀ b o,s₀.heap.get? b=some o->b ∈ frs outer->∃ sl,h''.get? b=some { o with slots:=sl }:=λb o q hb=>by
  obtain⟨sl,q1⟩:=I.base.slot b o q (I.ok.frf b hb) hb (by intro z;cases z)
  have nf:∀ vs,o.data≠.fields vs:=by
   obtain⟨_,o2,q2,nf⟩:=I.ok.funs.mem hb
   have q2':s₀.heap.get? b=some o2:=q2
   rw[q]at q2'
   cases q2'
   exact nf
  obtain⟨sl2,q2⟩:=x4 b _ (hx.keeps b _ q1) nf
  exact⟨sl2,q2⟩
 refine⟨H,cls,_,e,VJ,⟨rfl,x1,λ_ vs h=>h,VS I,I.os,I.bare,⟨λb o q n hb _=>x1.1 b o (kb b o q n hb),λb o q n hb _=>fr b o q hb,λb o q n _=>I.base.free b o q n (by intro z;cases z),λb o q _=>?_,I.base.tups,I.base.frzs,I.base.tbls⟩,kb,tb⟩,he⟩
 by_cases hb:b ∈ frs outer
 ·obtain⟨sl,q'⟩:=fr b o q hb
  exact⟨_,q'⟩
 ·obtain⟨o',q'⟩:=tb b o q hb
  exact⟨o',x1.1 b o' q'⟩
theorem zp:Passes (CX1 P w K) (cxOf (CX1 P w K) P w K mg base N qual scope f cd A outer s₀ H₀ E) E:=by
 intro pins σ H s e s' I hx
 obtain⟨H',cls,B,e0,a0,F,he⟩:=hx
 have hf:(envOfC qual scope s₀.heap.objs.size f cd).frame=some s₀.heap.objs.size:=rfl
 have base0:∀ b o,s₀.heap.get? b=some o->b≠s₀.heap.objs.size:=λb o q z=>by
  subst z
  exact absurd (Heap.lt_size q) (Nat.lt_irrefl _)
 rw[F.ev]
 refine wpAny_leaves_onC I.ok.frames hf F.fl λh'' x1 x4=>?_
 have nofr:∀ b o,s₀.heap.get? b=some o->b ∉ frs outer->b ∉ frs (envOfC qual scope s₀.heap.objs.size f cd::outer):=λb o q hb z=>by
  rcases (yK hf).mp z with z | z
  ·exact base0 b o q z
  ·exact hb z
 have kb:∀ b o,s₀.heap.get? b=some o->H₀ b=none->b ∉ frs outer->B.get? b=some o:=λb o q n hb=>
  F.kb b o (I.base.keep b o q n hb (by intro z;cases z)) (I.base.free b o q n (by intro z;cases z)) (nofr b o q hb)
 have tb:∀ b o,s₀.heap.get? b=some o->b ∉ frs outer->∃ o',B.get? b=some o':=λb o q hb=>by
  obtain⟨o',q'⟩:=I.base.there b o q (by intro z;cases z)
  exact F.tb b o' q' (nofr b o q hb)
 have fr:∀ b o,s₀.heap.get? b=some o->b ∈ frs outer->∃ sl,h''.get? b=some { o with slots:=sl }:=λb o q hb=>by
  obtain⟨sl,q1⟩:=I.base.slot b o q (I.ok.frf b hb) hb (by intro z;cases z)
  have nf:∀ vs,o.data≠.fields vs:=by
   obtain⟨_,o2,q2,nf⟩:=I.ok.funs.mem hb
   have q2':s₀.heap.get? b=some o2:=q2
   rw[q]at q2'
   cases q2'
   exact nf
  obtain⟨sl1,q2⟩:=F.un.slot b _ q1 (I.base.free b o q (I.ok.frf b hb) (by intro z;cases z)) ((yK hf).mpr (.inr hb)) (by intro z;cases z)
  obtain⟨sl2,q3⟩:=x4 b _ q2 nf
  exact⟨sl2,q3⟩
 refine⟨H',cls,B,e0,a0,⟨rfl,x1,F.ctx,F.hok,F.os.trans I.os,F.gens,⟨λb o q n hb _=>x1.1 b o (kb b o q n hb),λb o q n hb _=>fr b o q hb,λb o q n hx=>(let ⟨o',q'⟩:=I.base.there b o q hx;F.un.free b o' q' (I.base.free b o q n hx) hx),λb o q _=>?_,λb xs q=>F.un.tups b xs (I.base.tups b xs q),λb o u q=>F.un.frzs b o u (I.base.frzs b o u q),λb ps q=>by
  obtain⟨m1,e1⟩:=I.base.tbls b ps q
  obtain⟨m2,e2⟩:=F.un.tbls b _ e1
  exact⟨m1++m2,by rw[e2,Array.append_assoc]⟩⟩,kb,tb⟩,he⟩
 by_cases hb:b ∈ frs outer
 ·obtain⟨sl,q'⟩:=fr b o q hb
  exact⟨_,q'⟩
 ·obtain⟨o',q'⟩:=tb b o q hb
  exact⟨o',x1.1 b o' q'⟩
noncomputable def U1 (E:XK)(C:Addr):TS:=λ_ _ H=>E (.ref C) none H
theorem qN {C:Addr}{x:Str}{z:Str}{np cpos pos ap:Pos}{j:Nat}(q:PySem.W.excIn K C Zl zo=true)(hm:mg x=some (.ref C))(hgl:Gl (cxOf (CX1 P w K) P w K mg base N qual scope f cd A outer s₀ H₀ E) x)
  (hd:autoParam ((x == ("__debug__" : Str))=false) aD._auto_1):PS (cxOf (CX1 P w K) P w K mg base N qual scope f cd A outer s₀ H₀ E) (.Raise (some (.Call (.Name x np) [.Constant (.str z) j ap] [] cpos)) none pos) (U1 E C):=by
 intro pins s σ H D I h
 obtain⟨bm,N',nm,qn,bs,hdct,sn,sub,ab,col,dd,k0,k1,k2,k3,k5,mN,hC,hN,hni,T,_⟩:=yG I.kIn q
 refine wpAny_Raise_call_subT (C:=C) (nm:=nm) (q:=qn) (N:=N') (bs:=bs) (bm:=bm) (hdct:=hdct) (sn:=sn) (sub:=sub) (ab:=ab) (col:=col) (dd:=dd) (k0:=k0) (k1:=k1) (k2:=k2) (k3:=k3) (k5:=k5)
  PySem.F.excBase_ValueError (mN:=mN) (T.hasType PySem.F.excBase_ValueError.hasBase) (I.ok.hd rfl) rfl hni (ld_glob I hgl hm ⟨rfl,?_⟩ hd)
 refine Calls.evalArgs_plain (Calls.spliced_cons (Calls.Constant_str (k:=j) (pos:=ap) (Calls.spliced_nil ⟨rfl,(by show 1<=sizeLine;decide),?_⟩)))
 have I1:=I.tok (s.toks+1)
 refine⟨hC,hN,T,λh' e hx=>VO I1 hx h⟩
theorem qH {C:Addr}:RS K E (U1 E C) (yD C):=λG0 H0 ρ σ G H ho D hD=>hD σ G H (Same.refl _) ho
theorem u9 {X:Cx}{M:Model}{A:Around}{E:Value->Shared->Prop}{i:Nat}{x:Str}{pos:Pos}{Q:Unit->Shared->Prop}(I:Inv X pins σ H s)(hN:X.N.Nodup)(hi:X.N[i]? = some x)(hk:X.env.scope.names.lookup x=some .local)
  (h:∀ s',Inv X pins (σ.set i none) H s'->Q () s'):wpAny M A (do bindName X.env x .none;unbindBehindTheSuite X.env x pos) Q E s:=by
 obtain⟨m,hn,hl⟩:=id I.loc
 have hcls:(X.env.scope.kind == .class || (X.env.scope.kind == .module && X.env.locals != X.env.globals))=false:=by rw[I.ok.kind];rfl
 have hiσ:i<σ.length:=by rw[I.len];exact (List.getElem?_eq_some_iff.mp hi).1
 have cne:=I.cne
 refine wpAny_nameGoes_keeps hk hn hcls λh' v hn' hs=>?_
 obtain⟨oL,_,_,hoL,_⟩:=id hn
 have tracked:HOk X.prog X.w H h':=λb ob e=>by
  refine (I.hok b ob e).stay (λc w' hc q=>(hs.2 c ?_).trans q) (λ_ q=>q) λ_ _ q=>q
  rintro rfl
  rcases hc with z | hc
  ·rw[<-z,I.free]at e;cases e
  ·rw[I.free]at hc;cases hc
 refine h _ ⟨I.ok,I.os,I.bare,⟨λb o e n hb hx=>?_,λb o e n hb hx=>?_,I.base.free,λb o e hx=>?_,I.base.tups,I.base.frzs,I.base.tbls⟩,⟨_,hn',λj y v' e1 e2 e3=>?_⟩,λy c e=>?_,I.free,I.freeC,λp hp=>?_,tracked,by simpa using I.len⟩
 ·exact (hs.2 b (Nat.ne_of_lt (Nat.lt_of_lt_of_le (Heap.lt_size e) I.ok.above))).trans (I.base.keep b o e n hb hx)
 ·obtain⟨sl,e1⟩:=I.base.slot b o e n hb hx
  exact⟨sl,(hs.2 b (Nat.ne_of_lt (Nat.lt_of_lt_of_le (Heap.lt_size e) I.ok.above))).trans e1⟩
 ·obtain⟨o',e1⟩:=I.base.there b o e hx
  exact⟨o',(hs.2 b (Nat.ne_of_lt (Nat.lt_of_lt_of_le (Heap.lt_size e) I.ok.above))).trans e1⟩
 ·by_cases hj:j=i
  ·subst hj
   rw[List.getElem?_set_self hiσ]at e2
   cases e2
  ·rw[List.getElem?_set_ne (Ne.symm hj)]at e2
   obtain⟨u',r',q⟩:=hl j y v' e1 e2 e3
   refine⟨u',r',?_⟩
   rcases q with ⟨k,e⟩ | ⟨k,c,e,z⟩
   ·refine .inl ⟨k,?_⟩
    have:y≠x:=λe=>hj (nodup_ix hN e1 (e ▸ hi))
    simp[this,e]
   ·exact .inr ⟨k,c,e,z.sameBut hs (cne y c e)⟩
 ·obtain⟨w',z⟩:=I.cell y c e
  exact⟨w',z.sameBut hs (cne y c e)⟩
 ·obtain⟨e,n,ne,nf,d⟩:=I.pin p hp
  exact⟨(hs.2 p.1 ne).trans e,n,ne,nf,d⟩
theorem yi {M:Model}{A:Around}{E:Value->Shared->Prop}{nm q nm2 q2:Str}{C N C2 N2:Addr}{bs bm bs2 bm2:List Value}{hdct hdct2:Bool}{sn sn2:List Str}{sub sub2:List Value}{ab ab2:Bool}{col col2:Option Bool}{dd dd2:Option Addr}
  {k0 k1 k2 k3 k5 j0 j1 j2 j3 j5:Option Value}{newId newId2:String}{h:Heap}{g:Array GenState}{d:Drawn}{t:Nat}{os:OsState}{e:Addr}{oe:Obj}{Q:Bool->Shared->Prop}
  (hC:h.get? C=some (excClassObj nm q C N bs bm hdct sn sub ab col dd k0 k1 k2 k3 k5 newId))(hC2:h.get? C2=some (excClassObj nm2 q2 C2 N2 bs2 bm2 hdct2 sn2 sub2 ab2 col2 dd2 j0 j1 j2 j3 j5 newId2))
  (he:h.get? e=some oe)(hcls:oe.cls=.ref C)(hbase:bm2.contains (.type "BaseException")=true)(hin:(Value.ref C::bm).contains (.ref C2)=true)
  (hq:Q true ⟨h,g,d,t,os⟩):wpAny M A (excMatches (.ref e) (.ref C2)) Q E ⟨h,g,d,t,os⟩:=by
 have hcB:(Value.ref C2::bm2).contains (.type "BaseException")=true:=by rw[List.contains_cons,hbase,Bool.or_true]
 have f:=tc_notTuple
 unfold excMatches
 repeat (first | (with_reducible refine wpAny_loadPart_at he ?_;rw[hcls]) | with_reducible refine wpAny_loadPart_at hC2 ?_ | (with_reducible refine wpAny_isSubtype_exc hC2 ?_;rw[hcB]) | (with_reducible refine wpAny_isSubtype_exc hC ?_;rw[hin]) | wp_step)
 exact hq
noncomputable abbrev Cx.tr (X:Cx)(pins:List (Addr×Obj))(xe:Value->Shared->Prop):Cx:={ X with xe:=xe,pn:=X.pn++pins }
theorem Inv.tr {X:Cx}{pins':List (Addr×Obj)}{xe:Value->Shared->Prop}(I:Inv X (pins++pins') σ H s):Inv (Cx.tr X pins xe) pins' σ H s:=
 ⟨⟨I.ok.mod,I.ok.kind,I.ok.glob,I.ok.blt,I.ok.above,I.ok.inj,I.ok.has,I.ok.cab,I.ok.hd,I.ok.frames,I.ok.stk,I.ok.exf,I.ok.bs,I.ok.bsz,I.ok.noex,I.ok.exfs,I.ok.funs,I.ok.frf⟩,I.os,I.bare,I.base,I.loc,I.cell,I.free,I.freeC,by
  intro p hp
  refine I.pin p ?_
  have hp':p ∈ (X.pn++pins)++pins':=hp
  rw[List.append_assoc]at hp'
  exact hp',I.hok,I.len⟩
theorem Inv.untr {X:Cx}{pins':List (Addr×Obj)}{xe:Value->Shared->Prop}(I:Inv (Cx.tr X pins xe) pins' σ H s):Inv X (pins++pins') σ H s:=
 ⟨⟨I.ok.mod,I.ok.kind,I.ok.glob,I.ok.blt,I.ok.above,I.ok.inj,I.ok.has,I.ok.cab,I.ok.hd,I.ok.frames,I.ok.stk,I.ok.exf,I.ok.bs,I.ok.bsz,I.ok.noex,I.ok.exfs,I.ok.funs,I.ok.frf⟩,I.os,I.bare,I.base,I.loc,I.cell,I.free,I.freeC,by
  intro p hp
  refine I.pin p ?_
  show p ∈ (X.pn++pins)++pins'
  rw[List.append_assoc]
  exact hp,I.hok,I.len⟩
theorem wZ {CB C:Addr}{cx n y:Str}{iy ie:Nat}{D:Ends}{np py pn hpos apos:Pos}{pins':List (Addr×Obj)}{σ1:St}{H1 H':Hp}{s1 s1':Shared}{e:Value}{B:Heap}{e0:Addr}{a0:VOk}(I1':Inv (cxOf (CX1 P w K) P w K mg base N qual scope f cd A outer s₀ H₀ E) (pins++pins') σ1 H1 s1)
  (qB:PySem.W.excIn K CB Zl zo=true)(hm:mg cx=some (.ref CB))(hgl:Gl (cxOf (CX1 P w K) P w K mg base N qual scope f cd A outer s₀ H₀ E) cx)(F:Flying K P w (envOfC qual scope s₀.heap.objs.size f cd::outer) H1 H' s1 (.ref C) e s1' B e0 a0)
  (qC:PySem.W.excIn K C Zl zo=true)(hmro:PySem.W.mroIn K C (.ref CB)=some true)(hnx:H' e0=none->D.nx (((σ1.set ie (some (.ref e0))).set iy (some (.ref e0))).set ie none) (upd H' e0 (Yg e0 C)))
  (nd:N.Nodup)(hy:N[iy]? = some y)(he:N[ie]? = some n)(ly:scope.names.lookup y=some .local)(le:scope.names.lookup n=some .local)(hd:(cx == ("__debug__" : Str))=false)(hdn:(n == ("__debug__" : Str))=false)
  (hsw:swapsWith (.Name n pn) (some (.Name y py)) apos.line (cxOf (CX1 P w K) P w K mg base N qual scope f cd A outer s₀ H₀ E).env=pure false) :
  wpAny (model P w) (A.deeper (envOfC qual scope s₀.heap.objs.size f cd)) (noteFrame e (envOfC qual scope s₀.heap.objs.size f cd)) (λ_ s₂=>wpAny (model P w) (A.deeper (envOfC qual scope s₀.heap.objs.size f cd)) (setFlight e none) (λ_ s₃=>wpAny (model P w) (A.deeper (envOfC qual scope s₀.heap.objs.size f cd)) (handleBy e (envOfC qual scope s₀.heap.objs.size f cd) [.ExceptHandler (some (.Name cx np)) (some n) [.Assign [.Name y py] (.Name n pn) apos] hpos]) (SP (cxOf (CX1 P w K) P w K mg base N qual scope f cd A outer s₀ H₀ E) pins D) (cxOf (CX1 P w K) P w K mg base N qual scope f cd A outer s₀ H₀ E).xe s₃) (cxOf (CX1 P w K) P w K mg base N qual scope f cd A outer s₀ H₀ E).xe s₂) (cxOf (CX1 P w K) P w K mg base N qual scope f cd A outer s₀ H₀ E).xe s1':=by
 have hf:(envOfC qual scope s₀.heap.objs.size f cd).frame=some s₀.heap.objs.size:=rfl
 rw[F.ev]
 refine wpAny_looks_onC I1'.ok.frames hf F.fl λh4 x4 u4=>?_
 refine wpAny_landsC x4 λh5 x5 u5'=>?_
 have u5:=u4.trans u5'
 -- the state behind the landing
 have un5:∀ h6,B.StaysIn h6->s1'.heap.UpToSlots h6->∀ H'',(∀ b o,s1.heap.get? b=some o->H'' b=H' b)->Un (frs (envOfC qual scope s₀.heap.objs.size f cd::outer)) [] H1 H'' s1.heap h6:=λh6 sB u6 H'' hH=>by
  have fr:∀ b o,s1.heap.get? b=some o->b ∈ frs (envOfC qual scope s₀.heap.objs.size f cd::outer)->∃ sl,h6.get? b=some { o with slots:=sl }:=λb o q hb=>by
   have nf:∀ vs,o.data≠.fields vs:=by
    obtain⟨_,o2,q2,nf⟩:=I1'.stack.mem hb
    rw[q]at q2
    cases q2
    exact nf
   obtain⟨sl,q1⟩:=F.un.slot b o q (I1'.stkFree b hb) hb (by intro z;cases z)
   obtain⟨sl2,q2⟩:=u6 b _ q1 nf
   exact⟨sl2,q2⟩
  have inn:∀ b o,H1 b=some o->∃ ob,s1.heap.get? b=some ob:=λb o q=>by
   exact yr (I1'.hok b o q)
  refine⟨λb o q n hb _=>sB b o (F.kb b o q n hb),λb o q n hb _=>fr b o q hb,λb o q n hx=>by rw[hH b o q];exact F.un.free b o q n hx,λb o q _=>?_,λb xs q=>?_,λb o u q=>?_,λb ps q=>?_⟩
  ·by_cases hb:b ∈ frs (envOfC qual scope s₀.heap.objs.size f cd::outer)
   ·obtain⟨sl,q'⟩:=fr b o q hb
    exact⟨_,q'⟩
   ·obtain⟨o',q'⟩:=F.tb b o q hb
    exact⟨o',sB b o' q'⟩
  ·obtain⟨ob,z⟩:=inn b _ q
   rw[hH b ob z];exact F.un.tups b xs q
  ·obtain⟨ob,z⟩:=inn b _ q
   rw[hH b ob z];exact F.un.frzs b o u q
  ·obtain⟨ob,z⟩:=inn b _ q
   rw[hH b ob z];exact F.un.tbls b ps q
 have new0:s1.heap.get? e0=none:=by
  cases z:s1.heap.get? e0 with
  |none=>rfl
  |some ob=>
   exfalso
   by_cases hb:e0 ∈ frs (envOfC qual scope s₀.heap.objs.size f cd::outer)
   ·obtain⟨_,o2,q2,nf⟩:=x5.frs.mem hb
    obtain⟨oe,ws,qe,_,qd,_⟩:=(zq x5)
    rw[q2]at qe
    cases qe
    exact nf _ qd
   ·obtain⟨o',q'⟩:=F.tb e0 ob z hb
    rw[x5.new]at q'
    cases q'
 have free0:H' e0=none:=by
  cases z:H' e0 with
  |none=>rfl
  |some u=>
   obtain⟨ob,q⟩:=yr (F.hok e0 u z)
   rw[x5.new]at q
   cases q
 have hok6:∀ h6,Heap.FlyingC B (envOfC qual scope s₀.heap.objs.size f cd::outer) e0 (.ref C) a0 h6->HOk P w (upd H' e0 (Yg e0 C)) h6:=λh6 x6 b u q=>by
  by_cases hb:b=e0
  ·subst hb
   rw[upd_same]at q
   cases q
   obtain⟨oe,ws,qe,qc,qd,_⟩:=(zq x6)
   exact⟨⟨oe,ws,qe,qc,qd⟩,⟨oe,qe⟩,λh1 h2 ⟨o,vs,p1,p2,p3⟩ k=>⟨o,vs,k o p1,p2,p3⟩⟩
  ·rw[upd_ne hb]at q
   exact (F.hok b u q).stay (λc v _ r=>x6.1 c v r) (λc r=>by rw[upd_ne (ne_of_none r free0)];exact r) λc xs r=>by rw[upd_ne (ne_of_none r free0)];exact r
 have J:∀ h6 tk,Heap.FlyingC B (envOfC qual scope s₀.heap.objs.size f cd::outer) e0 (.ref C) a0 h6->s1'.heap.UpToSlots h6->Inv (cxOf (CX1 P w K) P w K mg base N qual scope f cd A outer s₀ H₀ E) (pins++pins') σ1 (upd H' e0 (Yg e0 C)) { s1' with heap:=h6,toks:=tk }:=λh6 tk x6 u6=>
  I1'.call' (s':={ s1' with heap:=h6,toks:=tk }) (ch:=[]) F.os (un5 h6 x6.1 u6 _ λb o q=>upd_ne (λz=>by rw[z,new0]at q;cases q)) (hok6 h6 x6) F.gens λb z=>by cases z
 obtain⟨bm,N',nm,qn,bs,hdct,sn,sub,ab,col,dd,k0,k1,k2,k3,k5,mN,hC,_,_,_,dd',cdC,slC,hKC,hmC⟩:=yG (J h5 s1'.toks x5 u5).kIn qC
 obtain⟨bm2,N2,nm2,qn2,bs2,hdct2,sn2,sub2,ab2,col2,dd2,j0,j1,j2,j3,j5,mN2,hC2,_,_,T2,_⟩:=yG (J h5 s1'.toks x5 u5).kIn qB
 have hin:(Value.ref C::bm).contains (.ref CB)=true:=by
  unfold PySem.W.mroIn PySem.W.clsIn at hmro
  have hKC':List.lookup C K=some _:=hKC
  rw[hKC']at hmro
  simp only[Option.bind_some,hmC]at hmro
  simpa using hmro
 obtain⟨oe,ws,qe,qc,qd,_⟩:=(zq x5)
 have J5:=J h5 s1'.toks x5 u5
 refine wpAny_handleBy_cons (codeAny_handlers_test (Calls.Name_function_global J5.ok.kind hgl (Calls.loadGlobal_global (show h5.Ns mainGlobals mg from J5.mod.glob.keeps J5.bk) hm ?_) hd)) (by intro q;cases q)
 refine yi hC hC2 qe qc (T2.hasType PySem.F.excBase_ValueError.hasBase) hin ?_
 refine codeAny_handlers_suite_as ?_
 refine YW x5 λh6 x6 u6=>?_
 have J6:=J h6 s1'.toks x6 (u5.trans u6)
 refine store_ok J6 nd he (.inl le) (v:=.ref e0) rfl (λs7 J7=>?_) (.inr le)
 have hv7:(σ1.set ie (some (.ref e0)))[ie]? = some (some (V.ref e0)):=xg (by rw[I1'.len];exact (List.getElem?_eq_some_iff.mp he).1)
 obtain⟨m7,hn7,hl7⟩:=J7.loc
 obtain⟨u7,r7,l7⟩:=hl7 ie n (.ref e0) he hv7 (.inl le)
 cases r7
 have hm7:m7 n=some (.ref e0):=by
  rcases l7 with ⟨_,z⟩ | ⟨hk,_⟩
  ·exact z
  ·exfalso
   have hk':scope.names.lookup n=some .cell\/scope.names.lookup n=some .free:=hk
   rw[le]at hk'
   rcases hk' with z | z<;>cases z
 refine wpAny_execs_cons (wpAny_Assign_Name (wpAny_Name (wpAny_loadName_local J7.ok.kind le hn7 hm7 ?_) hdn) hsw)
 refine store_ok J7 nd hy (.inl ly) (v:=.ref e0) rfl (λs8 J8=>?_) (.inr ly)
 refine wpAny_execs_nil ?_
 refine u9 J8 nd he le λs9 J9=>?_
 exact⟨_,_,J9.unpinned,hnx free0⟩
theorem UA {CB:Addr}{cx n y:Str}{iy ie:Nat}{D:Ends}{E':XK}{np py pn hpos apos:Pos}(I:Inv (cxOf (CX1 P w K) P w K mg base N qual scope f cd A outer s₀ H₀ E) pins σ H s)
  (qB:PySem.W.excIn K CB Zl zo=true)(hm:mg cx=some (.ref CB))(hgl:Gl (cxOf (CX1 P w K) P w K mg base N qual scope f cd A outer s₀ H₀ E) cx)
  (h2:∀ cls H',E' cls none H'->∃ C,cls=.ref C/\PySem.W.excIn K C Zl zo=true/\PySem.W.mroIn K C (.ref CB)=some true ∧
   ∀ (σ':St) e0,σ'.length=σ.length->H' e0=none->D.nx ((σ'.set iy (some (.ref e0))).set ie none) (upd H' e0 (Yg e0 C)))
  (nd:N.Nodup)(hy:N[iy]? = some y)(he:N[ie]? = some n)(ly:scope.names.lookup y=some .local)(le:scope.names.lookup n=some .local)(hne:iy≠ie)(hd:autoParam ((cx == ("__debug__" : Str))=false) aD._auto_1)(hdn:autoParam ((n == ("__debug__" : Str))=false) aD._auto_1)
  (hsw:autoParam (swapsWith (.Name n pn) (some (.Name y py)) apos.line (cxOf (CX1 P w K) P w K mg base N qual scope f cd A outer s₀ H₀ E).env=pure false) aR._auto_1) :
  Passes (CX1 P w K) (Cx.tr (cxOf (CX1 P w K) P w K mg base N qual scope f cd A outer s₀ H₀ E) pins (λe s₁=>wpAny (model P w) (A.deeper (envOfC qual scope s₀.heap.objs.size f cd)) (noteFrame e (envOfC qual scope s₀.heap.objs.size f cd)) (λ_ s₂=>wpAny (model P w) (A.deeper (envOfC qual scope s₀.heap.objs.size f cd)) (setFlight e none) (λ_ s₃=>wpAny (model P w) (A.deeper (envOfC qual scope s₀.heap.objs.size f cd)) (handleBy e (envOfC qual scope s₀.heap.objs.size f cd) [.ExceptHandler (some (.Name cx np)) (some n) [.Assign [.Name y py] (.Name n pn) apos] hpos]) (SP (cxOf (CX1 P w K) P w K mg base N qual scope f cd A outer s₀ H₀ E) pins D) (cxOf (CX1 P w K) P w K mg base N qual scope f cd A outer s₀ H₀ E).xe s₃) (cxOf (CX1 P w K) P w K mg base N qual scope f cd A outer s₀ H₀ E).xe s₂) (cxOf (CX1 P w K) P w K mg base N qual scope f cd A outer s₀ H₀ E).xe s₁)) E':=by
 have hf:(envOfC qual scope s₀.heap.objs.size f cd).frame=some s₀.heap.objs.size:=rfl
 intro pins' σ1 H1 s1 e s1' I1 hx
 obtain⟨H',cls,B,e0,a0,F,hE⟩:=hx
 obtain⟨C,rfl,qC,hmro,hnx⟩:=h2 cls H' hE
 exact wZ (Inv.untr I1) qB hm hgl F qC hmro (λhn=>hnx (σ1.set ie (some (.ref e0))) e0 (by rw[List.length_set,(Inv.untr I1).len,I.len]) hn) nd hy he ly le hd hdn hsw
theorem jn {CB:Addr}{cx n y:Str}{iy ie:Nat}{body:List Stmt}{D:Ends}{E':XK}{np py pn hpos apos pos:Pos}(I:Inv (cxOf (CX1 P w K) P w K mg base N qual scope f cd A outer s₀ H₀ E) pins σ H s)
  (qB:PySem.W.excIn K CB Zl zo=true)(hm:mg cx=some (.ref CB))(hgl:Gl (cxOf (CX1 P w K) P w K mg base N qual scope f cd A outer s₀ H₀ E) cx)
  (hb:∀ (xe:Value->Shared->Prop),Passes (CX1 P w K) (Cx.tr (cxOf (CX1 P w K) P w K mg base N qual scope f cd A outer s₀ H₀ E) pins xe) E' ->
   ∃ t,PSs (Cx.tr (cxOf (CX1 P w K) P w K mg base N qual scope f cd A outer s₀ H₀ E) pins xe) body t/\t D σ H)
  (h2:∀ cls H',E' cls none H'->∃ C,cls=.ref C/\PySem.W.excIn K C Zl zo=true/\PySem.W.mroIn K C (.ref CB)=some true ∧
   ∀ (σ':St) e0,σ'.length=σ.length->H' e0=none->D.nx ((σ'.set iy (some (.ref e0))).set ie none) (upd H' e0 (Yg e0 C)))
  (nd:N.Nodup)(hy:N[iy]? = some y)(he:N[ie]? = some n)(ly:scope.names.lookup y=some .local)(le:scope.names.lookup n=some .local)(hne:iy≠ie)(hd:autoParam ((cx == ("__debug__" : Str))=false) aD._auto_1)(hdn:autoParam ((n == ("__debug__" : Str))=false) aD._auto_1)
  (hsw:autoParam (swapsWith (.Name n pn) (some (.Name y py)) apos.line (cxOf (CX1 P w K) P w K mg base N qual scope f cd A outer s₀ H₀ E).env=pure false) aR._auto_1) :
  wpAny (model P w) (cxOf (CX1 P w K) P w K mg base N qual scope f cd A outer s₀ H₀ E).A (exec (.Try body [.ExceptHandler (some (.Name cx np)) (some n) [.Assign [.Name y py] (.Name n pn) apos] hpos] [] [] pos) (cxOf (CX1 P w K) P w K mg base N qual scope f cd A outer s₀ H₀ E).env)
   (SP (cxOf (CX1 P w K) P w K mg base N qual scope f cd A outer s₀ H₀ E) pins D) (cxOf (CX1 P w K) P w K mg base N qual scope f cd A outer s₀ H₀ E).xe s:=by
 have hf:(envOfC qual scope s₀.heap.objs.size f cd).frame=some s₀.heap.objs.size:=rfl
 refine wpAny_Try_except ?_
 have I0:Inv (Cx.tr (cxOf (CX1 P w K) P w K mg base N qual scope f cd A outer s₀ H₀ E) pins (λe s₁=>wpAny (model P w) (A.deeper (envOfC qual scope s₀.heap.objs.size f cd)) (noteFrame e (envOfC qual scope s₀.heap.objs.size f cd)) (λ_ s₂=>wpAny (model P w) (A.deeper (envOfC qual scope s₀.heap.objs.size f cd)) (setFlight e none) (λ_ s₃=>wpAny (model P w) (A.deeper (envOfC qual scope s₀.heap.objs.size f cd)) (handleBy e (envOfC qual scope s₀.heap.objs.size f cd) [.ExceptHandler (some (.Name cx np)) (some n) [.Assign [.Name y py] (.Name n pn) apos] hpos]) (SP (cxOf (CX1 P w K) P w K mg base N qual scope f cd A outer s₀ H₀ E) pins D) (cxOf (CX1 P w K) P w K mg base N qual scope f cd A outer s₀ H₀ E).xe s₃) (cxOf (CX1 P w K) P w K mg base N qual scope f cd A outer s₀ H₀ E).xe s₂) (cxOf (CX1 P w K) P w K mg base N qual scope f cd A outer s₀ H₀ E).xe s₁)) [] σ H s:=Inv.tr (pins:=pins) (by rw[List.append_nil];exact I)
 have hps:Passes (CX1 P w K) (Cx.tr (cxOf (CX1 P w K) P w K mg base N qual scope f cd A outer s₀ H₀ E) pins (λe s₁=>wpAny (model P w) (A.deeper (envOfC qual scope s₀.heap.objs.size f cd)) (noteFrame e (envOfC qual scope s₀.heap.objs.size f cd)) (λ_ s₂=>wpAny (model P w) (A.deeper (envOfC qual scope s₀.heap.objs.size f cd)) (setFlight e none) (λ_ s₃=>wpAny (model P w) (A.deeper (envOfC qual scope s₀.heap.objs.size f cd)) (handleBy e (envOfC qual scope s₀.heap.objs.size f cd) [.ExceptHandler (some (.Name cx np)) (some n) [.Assign [.Name y py] (.Name n pn) apos] hpos]) (SP (cxOf (CX1 P w K) P w K mg base N qual scope f cd A outer s₀ H₀ E) pins D) (cxOf (CX1 P w K) P w K mg base N qual scope f cd A outer s₀ H₀ E).xe s₃) (cxOf (CX1 P w K) P w K mg base N qual scope f cd A outer s₀ H₀ E).xe s₂) (cxOf (CX1 P w K) P w K mg base N qual scope f cd A outer s₀ H₀ E).xe s₁)) E':=UA I qB hm hgl h2 nd hy he ly le hne hd hdn hsw
 ·obtain⟨t,ht,h1⟩:=hb _ hps
  refine wpAny_mono (ht [] s σ H D I0 h1) (λfl s' hs=>?_) λe s' x=>x
  -- the body's own end
  cases fl with
  |next=>
   obtain⟨σ',H',I',q⟩:=hs
   have:=Inv.untr I'
   rw[List.append_nil]at this
   exact wpAny_execs_nil ⟨σ',H',this,q⟩
  |brk=>
   obtain⟨σ',H',I',q⟩:=hs
   have:=Inv.untr I'
   rw[List.append_nil]at this
   exact⟨σ',H',this,q⟩
  |cont=>
   obtain⟨σ',H',I',q⟩:=hs
   have:=Inv.untr I'
   rw[List.append_nil]at this
   exact⟨σ',H',this,q⟩
  |ret u=>
   obtain⟨v,σ',H',I',r,q⟩:=hs
   have:=Inv.untr I'
   rw[List.append_nil]at this
   exact⟨v,σ',H',this,r,q⟩
end
end PM
namespace PM
open PySem PySem.Spec PyProof.Rows L2
noncomputable def ME (X:Cx)(E:XK)(e:Expr)(m:M D):Prop:=∃ t,PE X e t/\RE X.K E t m
noncomputable def MT (X:Cx)(E:XK)(e:Expr)(m:M Bool):Prop:=∃ t,PT X e t/\RT X.K E t m
noncomputable def MW (X:Cx)(E:XK)(e:Expr)(m:M Bool):Prop:=∃ t,PW X e t/\RT X.K E t m
noncomputable def MA (X:Cx)(E:XK)(es:List Expr)(ms:List (M D)):Prop:=∃ t,PA X es t/\RL X.K E t (za ms)
noncomputable def MS (X:Cx)(E:XK)(st:Stmt)(m:M Fl):Prop:=∃ t,PS X st t/\RS X.K E t m
noncomputable def MSs (X:Cx)(E:XK)(sts:List Stmt)(m:M Fl):Prop:=∃ t,PSs X sts t/\RS X.K E t m
noncomputable def MG (X:Cx)(tg:Expr)(gm:GM):Prop:=∃ g,PG X tg g/\RG X.K g gm
noncomputable def MGs (X:Cx)(tgs:List Expr)(is:List Nat):Prop:=∃ g,PGs X tgs g/\RGs X.K g is
section
variable {X:Cx}{E:XK}{a b c e:Expr}{es rest:List Expr}{pos p2:Pos}{ma mb mc:M D}{st:Stmt}{sts:List Stmt}
theorem zA (i:Nat){x:Str}(hN:autoParam (X.N[i]? = some x) aR._auto_1)(hv:autoParam (Vis X.env.scope x) aV._auto_1)(hd:autoParam ((x == ("__debug__" : Str))=false) aD._auto_1)
  (hcd:autoParam ((x == ("__classdict__" : Str))=false) aD._auto_1):ME X E (.Name x pos) (vM i):=⟨_,pe_var hN hv hd hcd,j9⟩
theorem zE {i:Int} {j}:ME X E (.Constant (.int i) j pos) (cM (.int i)):=⟨_,pe_int,qM λG=>zM.mpr rfl⟩
theorem uf {i:Bool} {j}:ME X E (.Constant (.bool i) j pos) (cM (.bl i)):=⟨_,pe_bl,qM λG=>ZN.mpr rfl⟩
theorem yf {j}:ME X E (.Constant .none j pos) (cM .non):=⟨_,pe_non,qM λG=>yY.mpr rfl⟩
theorem zb {x:Str} {j}:ME X E (.Constant (.str x) j pos) (cM (.str x)):=⟨_,pe_str,qM λG=>zf.mpr rfl⟩
theorem ue {x:Str}{i:Int}(hg:Gl X x)(hm:∃ t,X.mg x=some (.int i t))(hd:autoParam ((x == ("__debug__" : Str))=false) aD._auto_1):ME X E (.Name x pos) (cM (.int i)):=by
 obtain⟨t,hm⟩:=hm
 exact⟨_,pe_glob (v:=.int i) hg hm ⟨t,rfl⟩ hd,qM λG=>zM.mpr rfl⟩
theorem Qz:OpR X (binaryOp .Add) (je X.K):=op_add.or (Qy.or Qx)
theorem Qw:OpR X (binaryOp .Mult) (ja X.K):=op_mul.or Qv
theorem Xo {op:Operator}{r:R2}{f:D->D->Option D}(ho:OpR X (binaryOp op) r)(hm:OpM X.K r f)(ha:ME X E a ma)(hb:ME X E b mb):ME X E (.BinOp a op b pos) (op2 f ma mb):=by
 obtain⟨ta,pa,ra⟩:=ha
 obtain⟨tb,pb,rb⟩:=hb
 exact⟨_,pe_op ho pa pb,W5 hm ra rb⟩
theorem zw (ha:ME X E a ma)(hb:ME X E b mb):ME X E (.BinOp a .Add b pos) (op2 zk ma mb):=Xo Qz Qu ha hb
theorem qk (ha:ME X E a ma)(hb:ME X E b mb):ME X E (.BinOp a .Sub b pos) (op2 Wf ma mb):=Xo op_sub Qp ha hb
theorem Xn (ha:ME X E a ma)(hb:ME X E b mb):ME X E (.BinOp a .Mult b pos) (op2 Ye ma mb):=Xo Qw Qq ha hb
theorem wR (ha:ME X E a ma)(hb:ME X E b mb):ME X E (.BinOp a .FloorDiv b pos) (op2 Yb ma mb):=Xo op_fdiv qS ha hb
theorem yE (ha:ME X E a ma)(hb:ME X E b mb):ME X E (.BinOp a .Mod b pos) (op2 yU ma mb):=Xo op_mod Qr ha hb
theorem ZG (ha:ME X E a ma)(hb:ME X E b mb)(hs:PlainIx b:=by intro _ _;rfl):ME X E (.Subscript a b pos) (op2 ixD ma mb):=by
 obtain⟨ta,pa,ra⟩:=ha
 obtain⟨tb,pb,rb⟩:=hb
 exact⟨_,pe_ix ix_seq pa pb hs,W5 JH ra rb⟩
theorem zD:MA X E [] []:=⟨_,pa_nil,qI⟩
theorem zB {ms:List (M D)}(ha:ME X E e ma)(hr:MA X E es ms)(hs:autoParam (starEach (e::es) X.env=(false,eval e X.env)::starEach es X.env) aR._auto_1):MA X E (e::es) (ma::ms):=by
 obtain⟨ta,pa,ra⟩:=ha
 obtain⟨tb,pb,rb⟩:=hr
 exact⟨_,pa_cons pa pb hs,uU ra rb⟩
theorem Yx {ms:List (M D)} {x1}(h:MA X E es ms):ME X E (.Tuple es x1 pos) (yA ms):=by
 obtain⟨ta,pa,ra⟩:=h
 exact⟨_,pe_tup pa,JA ra⟩
theorem Yz {ms:List (M D)}(h:MA X E es ms):ME X E (.List es pos) (lstM ms):=by
 obtain⟨ta,pa,ra⟩:=h
 exact⟨_,pe_lst pa,JB ra⟩
theorem Q7 {CX:CXT}{k n:Nat}{f:Addr}{fd:FuncData}{ps:List Str}{F:List D->FR}{x:Str}{p:Pos}{ms:List (M D)}(G:FnOk X.prog X.w X.K X.mg X.base CX k f fd ps (spM X.K n F))(hr:Room k X.A)(hg:Gl X x)(hm:X.mg x=some (.ref f))
  (hk:PySem.W.keepIn X.K (.ref f)=true)(hb:Binds X.K fd ps [])(hx:Passes CX X E)(ha:MA X E (e::es) ms)(hn:autoParam (ms.length=n) aR._auto_1)
  (hdb:autoParam ((x == ("__debug__" : Str))=false) aD._auto_1)(he:autoParam (starEach (e::es) X.env=(false,eval e X.env)::starEach es X.env) aR._auto_1)(hpl:autoParam ((backTo pos (starEach es X.env)).any (·.1)=false) aR._auto_1) :
  ME X E (.Call (.Name x p) (e::es) [] pos) (zH F ms):=by
 obtain⟨ta,pa,ra⟩:=ha
 exact⟨_,pe_call G hr hg hm hk hb .nil hx pa hdb he hpl,uV ra hn⟩
theorem ZF {id:String}{r:List V->Hp->VK->Prop}{f:List D->Option D}{x:Str}{p:Pos}{ms:List (M D)}(hc:CallR X (.builtin id) r)(hf:ClM X.K r f)(hg:Gl X x)(hm:X.mg x=none)(hv:bootBuiltins x=some (.builtin id))(ha:MA X E (e::es) ms)
  (hn:x ≠ "__name__":=by decide)(hdb:autoParam ((x == ("__debug__" : Str))=false) aD._auto_1)(he:autoParam (starEach (e::es) X.env=(false,eval e X.env)::starEach es X.env) aR._auto_1)(hpl:autoParam ((backTo pos (starEach es X.env)).any (·.1)=false) aR._auto_1) :
  ME X E (.Call (.Name x p) (e::es) [] pos) (zN f ms):=by
 obtain⟨ta,pa,ra⟩:=ha
 exact⟨_,pe_callB hc hg hm hv pa hn hdb he hpl,VC hf ra⟩
theorem Zy {T:String}{r:List V->Hp->VK->Prop}{f:List D->Option D}{x:Str}{p:Pos}{ms:List (M D)}(hc:CallR X (.type T) r)(hf:ClM X.K r f)(hg:Gl X x)(hm:X.mg x=none)(hv:bootBuiltins x=some (.type T))(ha:MA X E (e::es) ms)
  (hn:x ≠ "__name__":=by decide)(hdb:autoParam ((x == ("__debug__" : Str))=false) aD._auto_1)(he:autoParam (starEach (e::es) X.env=(false,eval e X.env)::starEach es X.env) aR._auto_1)(hpl:autoParam ((backTo pos (starEach es X.env)).any (·.1)=false) aR._auto_1) :
  ME X E (.Call (.Name x p) (e::es) [] pos) (zN f ms):=by
 obtain⟨ta,pa,ra⟩:=ha
 exact⟨_,pe_callTy hc hg hm hv pa hn hdb he hpl,VC hf ra⟩
theorem YU {op:CmpOp}{r:R2}{f:D->D->Option D}(ho:OpR X (compareOp op) r)(hm:OpM X.K r f)(ha:ME X E a ma)(hb:ME X E b mb)(hk:behindInMarks op b=false):ME X E (.Compare a [op] [b] pos) (op2 f ma mb):=by
 obtain⟨ta,pa,ra⟩:=ha
 obtain⟨tb,pb,rb⟩:=hb
 exact⟨_,pe_cmpR ho pa pb hk,W5 hm ra rb⟩
theorem zv {op:CmpOp}{r:R2}{f:D->D->Option D}(ho:OpR X (compareOp op) r)(hm:OpM X.K r f)(ha:ME X E a ma)(hb:ME X E b mb)(hk:behindInMarks op b=false):MT X E (.Compare a [op] [b] pos) (zK zP (op2 f ma mb)):=by
 obtain⟨ta,pa,ra⟩:=ha
 obtain⟨tb,pb,rb⟩:=hb
 exact⟨_,pt_cmpR ho pa pb hk,uT (W5 hm ra rb)⟩
variable {ta tb:M Bool}
theorem qY (h:MT X E a ta):MT X E (.UnaryOp .Not a pos) (Wp ta):=by
 obtain⟨t,p,r⟩:=h
 exact⟨_,pt_not p,jt r⟩
theorem Q2 (h:MT X E a ta):MW X E (.BoolOp .And [a] pos) ta:=by
 obtain⟨t,p,r⟩:=h
 exact⟨_,pw_and1 p,r⟩
theorem xi (h:MT X E a ta):MW X E (.BoolOp .Or [a] pos) ta:=by
 obtain⟨t,p,r⟩:=h
 exact⟨_,pw_or1 p,r⟩
theorem JO (h:MT X E a ta)(h2:MW X E (.BoolOp .And (b::rest) pos) tb):MW X E (.BoolOp .And (a::b::rest) pos) (Wb ta tb):=by
 obtain⟨t,p,r⟩:=h
 obtain⟨t2,p2,r2⟩:=h2
 exact⟨_,pw_and p p2,ju r r2⟩
theorem xW (h:MT X E a ta)(h2:MW X E (.BoolOp .Or (b::rest) pos) tb):MW X E (.BoolOp .Or (a::b::rest) pos) (orM ta tb):=by
 obtain⟨t,p,r⟩:=h
 obtain⟨t2,p2,r2⟩:=h2
 exact⟨_,pw_or p p2,jX r r2⟩
theorem MW.mt (h:MW X E e ta):MT X E e ta:=by
 obtain⟨t,p,r⟩:=h
 exact⟨_,p.pt,r⟩
theorem JU {op}(h:ME X E a ma):ME X E (.BoolOp op [a] pos) ma:=by
 obtain⟨t,p,r⟩:=h
 exact⟨_,pe_one p,r⟩
theorem JY (h:ME X E a ma)(h2:ME X E (.BoolOp .And (b::rest) pos) mb):ME X E (.BoolOp .And (a::b::rest) pos) (uL ma mb):=by
 obtain⟨t,p,r⟩:=h
 obtain⟨t2,p2,r2⟩:=h2
 exact⟨_,pe_and p p2,Qi r r2⟩
theorem JW (h:MT X E c ta)(ha:ME X E a ma)(hb:ME X E b mb):ME X E (.IfExp c a b pos) (V7 ta ma mb):=by
 obtain⟨t,p,r⟩:=h
 obtain⟨t1,p1,r1⟩:=ha
 obtain⟨t2,p2,r2⟩:=hb
 exact⟨_,pe_ifExp p p1 p2,JC r r1 r2⟩
variable {m m':M Fl}
theorem ZK:MSs X E [] nxM:=⟨_,pss_nil,QZ⟩
theorem zG (h:MS X E st m):MSs X E [st] m:=by
 obtain⟨t,p,r⟩:=h
 exact⟨_,pss_one p,r⟩
theorem zC (h:MS X E st m)(h2:MSs X E sts m'):MSs X E (st::sts) (zL m m'):=by
 obtain⟨t,p,r⟩:=h
 obtain⟨t2,p2,r2⟩:=h2
 exact⟨_,pss_cons p p2,qG r r2⟩
theorem yt (i:Nat)(h:MSs X E sts m):MSs X E sts (Y6 i m):=by
 obtain⟨t,p,r⟩:=h
 exact⟨_,p,jy r⟩
theorem xF (h:ME X E e ma)(hs:autoParam (swapsWith e none pos.line X.env=pure false) aR._auto_1):MS X E (.Expr e pos) (Zq ma):=by
 obtain⟨t,p,r⟩:=h
 exact⟨_,ps_expr p hs,Qd r⟩
theorem ZA (h:ME X E e ma):MS X E (.Return (some e) pos) (ZW ma):=by
 obtain⟨t,p,r⟩:=h
 exact⟨_,ps_ret p,jw r⟩
theorem yX {sa sb:List Stmt}(h:MT X E c ta)(ha:MSs X E sa m)(hb:MSs X E sb m'):MS X E (.If c sa sb pos) (ifM ta m m'):=by
 obtain⟨t,p,r⟩:=h
 obtain⟨t1,p1,r1⟩:=ha
 obtain⟨t2,p2,r2⟩:=hb
 exact⟨_,ps_if p p1 p2,jY r r1 r2⟩
theorem ya (i:Nat){x:Str}(hN:X.N.Nodup)(hi:autoParam (X.N[i]? = some x) aR._auto_1)(hx:autoParam (Loc X.env.scope x) aL._auto_1)(hf:autoParam (X.fn x=true\/X.env.scope.names.lookup x=some .local) aF._auto_1):MG X (.Name x pos) (zx i):=⟨_,pg_name hN hi hx hf,Qf⟩
theorem ub:MGs X [] []:=⟨_,pgs_nil,Qe⟩
theorem Yw (i:Nat){x:Str}{is:List Nat}(hN:X.N.Nodup)(h2:MGs X es is)(hi:autoParam (X.N[i]? = some x) aR._auto_1)(hx:autoParam (Loc X.env.scope x) aL._auto_1)(hf:autoParam (X.fn x=true\/X.env.scope.names.lookup x=some .local) aF._auto_1)
  (hs:autoParam ((assignEach (.Name x pos::es) X.env).map (·.2)=assign (.Name x pos) X.env::(assignEach es X.env).map (·.2)) aR._auto_1):MGs X (.Name x pos::es) (i::is):=by
 obtain⟨g,p,r⟩:=h2
 exact⟨_,pgs_cons (pg_name hN hi hx hf) p hs,qJ r⟩
theorem qj {is:List Nat}{k n:Nat}(hc:X.calm=true)(h:MGs X es is)(hl:is.length=n)(hn:autoParam ((assignEach es X.env).length=n) aR._auto_1)(hst:autoParam ((assignEach es X.env).findIdx? (·.1)=none) aR._auto_1):MG X (.Tuple es k pos) (VT is):=by
 obtain⟨g,p,r⟩:=h
 exact⟨_,pg_tup hc p hn hst,j8 r hl⟩
theorem z9 (i:Nat){x:Str}(hN:X.N.Nodup)(h:ME X E e ma)(hi:autoParam (X.N[i]? = some x) aR._auto_1)(hx:autoParam (Loc X.env.scope x) aL._auto_1)
  (hs:autoParam (swapsWith e (some (.Name x p2)) pos.line X.env=pure false) aR._auto_1)(hf:autoParam (X.fn x=true\/X.env.scope.names.lookup x=some .local) aF._auto_1):MS X E (.Assign [.Name x p2] e pos) (ZE i ma):=by
 obtain⟨t,p,r⟩:=h
 exact⟨_,ps_set hN hi hx p hs hf,jv r⟩
theorem YR (i:Nat){x:Str}{ms:List (M D)}{lp:Pos}(hN:X.N.Nodup)(h:MA X E es ms)(hi:autoParam (X.N[i]? = some x) aR._auto_1)(hx:autoParam (Loc X.env.scope x) aL._auto_1)
  (hs:autoParam (swapsWith (.List es lp) (some (.Name x p2)) pos.line X.env=pure false) aR._auto_1)(hf:autoParam (X.fn x=true\/X.env.scope.names.lookup x=some .local) aF._auto_1):MS X E (.Assign [.Name x p2] (.List es lp) pos) (xP i ms):=by
 obtain⟨t,p,r⟩:=h
 exact⟨_,ps_set hN hi hx (pe_lst p) hs hf,jx r⟩
theorem xE {tg iter:Expr}{gm:GM}{body:List Stmt}(hp:PassesOwn (model X.prog X.w) X.A X.env X.xe)(hc:X.calm=true)(hi:ME X E iter ma)(hg:MG X tg gm)(hb:MSs X E body m)
  (hs:∀ x,foldedSetIterable iter X.env x=pure x:=by intro _;rfl):MS X E (.For tg iter body [] pos) (XO ma ZH gm m):=by
 obtain⟨t,p,r⟩:=hi
 obtain⟨g,pg,rg⟩:=hg
 obtain⟨tb,pb,rb⟩:=hb
 exact⟨_,ps_for hp hc (pi_list p) pg pb hs,Qc r rg rb⟩
theorem Q6 {tg iter:Expr}{gm:GM}{body:List Stmt}(hp:PassesOwn (model X.prog X.w) X.A X.env X.xe)(hc:X.calm=true)(hi:ME X E iter ma)(hg:MG X tg gm)(hb:MSs X E body m)
  (hs:∀ x,foldedSetIterable iter X.env x=pure x:=by intro _;rfl):MS X E (.For tg iter body [] pos) (XO ma xt gm m):=by
 obtain⟨t,p,r⟩:=hi
 obtain⟨g,pg,rg⟩:=hg
 obtain⟨tb,pb,rb⟩:=hb
 exact⟨_,ps_for hp hc (pi_tup p) pg pb hs,Qa r rg rb⟩
theorem wQ {tg:Expr}{gm:GM}{body:List Stmt}{p q:Pos}(hp:PassesOwn (model X.prog X.w) X.A X.env X.xe)(hc:X.calm=true)(hr:X.mg "range" = none)(hi:ME X E e ma)(hg:MG X tg gm)(hb:MSs X E body m)(hgl:autoParam (Gl X "range") aR._auto_1)
  (hst:autoParam (starEach [e] X.env=[(false,eval e X.env)]) aR._auto_1)(hs:∀ x,foldedSetIterable (.Call (.Name "range" p) [e] [] q) X.env x=pure x:=by intro _;rfl):MS X E (.For tg (.Call (.Name "range" p) [e] [] q) body [] pos) (WI ma gm m):=by
 obtain⟨t,p,r⟩:=hi
 obtain⟨g,pg,rg⟩:=hg
 obtain⟨tb,pb,rb⟩:=hb
 exact⟨_,ps_for hp hc (pi_range1 hgl hr (pa_cons p pa_nil hst) hst) pg pb hs,Qb r rg rb⟩
theorem qf {body:List Stmt} (n:Nat)(hp:PassesOwn (model X.prog X.w) X.A X.env X.xe)(hc:MT X E c ta)(hb:MSs X E body m):MS X E (.While c body [] pos) (yy ta m n):=by
 obtain⟨t,p,r⟩:=hc
 obtain⟨tb,pb,rb⟩:=hb
 exact⟨_,ps_while hp p pb,qE n r rb⟩
end
section
variable {P:Program}{w:World}{K:PySem.W.Frag}{mg:Str->Option Value}{base:Heap}
theorem WG {G H:Hp}{ds:List D}{vs:List V}{N:List Str}(s:Same G H)(r:zJ K G ds vs)(hl:vs.length<=N.length):Hold K G H (ZS N.length ds) (L2.start N vs) G H:=by
 have hlen:=r.len
 refine⟨Ext.refl s,Same.refl _,λi sl e=>?_,λi j si sj a e1 e2 m1 m2=>?_,?_⟩
 ·unfold ZS at e
  by_cases hi:i<ds.length
  ·rw[List.getElem?_append_left (by simpa using hi),List.getElem?_map]at e
   cases q:ds[i]? with
   |none=>rw[q]at e;cases e
   |some d=>
    rw[q]at e
    cases e
    obtain⟨v,ev,rv⟩:=r.get q
    refine⟨v,?_,rv⟩
    unfold L2.start
    rw[List.getElem?_append_left (by simpa using (by omega:i<vs.length)),List.getElem?_map,ev]
    rfl
  ·rw[List.getElem?_append_right (by simpa using hi),List.getElem?_replicate]at e
   split at e
   ·cases e;exact trivial
   ·cases e
 ·have nm:∀ {i:Nat}{s:Slot},(ZS N.length ds)[i]? = some s->∀ {o:Option (Option V)}{c:Addr},¬ s.foot H o c:=fun {i s} e {o c} f=>by
   have hm:s ∈ ZS N.length ds:=List.mem_of_getElem? e
   unfold ZS at hm
   rcases List.mem_append.mp hm with h | h
   ·obtain⟨d,_,rfl⟩:=List.mem_map.mp h
    exact f
   ·rw[(List.mem_replicate.mp h).2]at f
    exact f
  exact absurd m1 (nm e1)
 ·unfold ZS L2.start
  simp only[List.length_append,List.length_map,List.length_replicate]
  omega
theorem ZX {x qual:Str}{st:Stmt}{f:Addr}{fd:FuncData}{N ps:List Str}{k n:Nat}{m:M Fl}(F:Fun K x qual st f fd)(S:FnScope N ps (defScope st))(hn:ps.length=n)(hN:n<=N.length)
  (hbody:∀ (cdv:Value)(A:Around)(outer:List Env)(s:Shared)(H:Hp)(E:XK),Room k (A.deeper (envOfC qual (defScope st) s.heap.objs.size f cdv)) ->
   MSs (cxOf (CX1 P w K) P w K mg base N qual (defScope st) f cdv A outer s H E) E (defBody st) m):FnOk P w K mg base (CX1 P w K) (k+1) f fd ps (spM K n (Ze N.length m)):=by
 obtain⟨oc,od,kV,doc,pm,an,cdv,ct,osl,rfl,lk,hcd⟩:=F.ex
 refine fn_of lk hcd S (λvs H Q E h=>by rw[hn];exact h.1) λA outer s H vs Q E hr hsp=>?_
 obtain⟨hl,G,ds,sg,r,hq⟩:=hsp
 obtain⟨t,p,rs⟩:=hbody cdv A outer s H E hr
 refine⟨t,p,rs G H (ZS N.length ds) (L2.start N vs) G H (WG sg r (by omega)) _ ?_⟩
 have hq':(match FR.of (m (ZS N.length ds)) with
  |.ok d=>∀ v G' H',Ext G H G' H'->Same H H'->Rep K G' d v->Q v H'
  |.exn c=>∀ G' H',Ext G H G' H'->Same H H'->E (.ref c) none H'
  |.bad=>False):=hq
 cases e:m (ZS N.length ds) with
 |ok fl ρ'=>
  rw[e]at hq'
  cases fl with
  |nx=>exact λσ' G' H' s1 h1=>hq' .non G' H' h1.e h1.b (yY.mpr rfl)
  |ret d=>exact λv σ' G' H' s1 h1 rv=>hq' v G' H' h1.e h1.b rv
  |brk=>exact hq'.elim
  |cont=>exact hq'.elim
 |exn c ρ'=>rw[e]at hq';exact λσ' G' H' s1 h1=>hq' G' H' h1.e h1.b
 |bad=>rw[e]at hq';exact hq'
theorem wF {N:List Str}{qual:Str}{scope:Scope}{f:Addr}{cd:Value}{A:Around}{outer:List Env}{s₀:Shared}{H₀:Hp}{E:XK} :
  PassesOwn (model P w) (cxOf (CX1 P w K) P w K mg base N qual scope f cd A outer s₀ H₀ E).A (cxOf (CX1 P w K) P w K mg base N qual scope f cd A outer s₀ H₀ E).env (cxOf (CX1 P w K) P w K mg base N qual scope f cd A outer s₀ H₀ E).xe:=λe s' h=>
 wpAny_leaving_again (SameStack.refl _) h
end
end PM
namespace PM
open PySem PySem.Spec PyProof.Rows L2
section
variable {K:PySem.W.Frag}{E:XK}
theorem Hold.own {G0 H0:Hp}{ρ:Rho}{σ:St}{G H:Hp}{i:Nat}{ds:List D}(ho:Hold K G0 H0 ρ σ G H)(e:zn ρ[i]? = some ds) :
  ∃ a vs,σ[i]? = some (some (.ref a))/\H a=some (.lst vs)/\G a=none/\H0 a=none/\zJ K G ds vs:=ho.sl i _ (Zn e)
theorem Qh {i:Nat}:RE K E (tCB (λxs H Q=>∃ p ys,xs=[.ref p]/\(SqL K H p ys\/SqT K H p ys)/\Q (.int ys.length) H) (tCons (tVar i) tNil)) (V5 i):=by
 intro G0 H0 ρ σ G H ho
 refine RAt.opt λds e=>?_
 obtain⟨a,vs,e1,e2,e3,e4,r⟩:=ho.own e
 intro Q hQ
 exact⟨_,e1,a,vs,rfl,.inl (SqL.of e2),hQ _ G H (Same.refl _) ho (zM.mpr (by rw[r.ln]))⟩
noncomputable def jU (K:PySem.W.Frag)(ta:TE):TT:=λσ H Q=>ta σ H λx H1=>∃ k,TruV K x H1 k/\Q k H1
theorem js {ta:TE}{m:M D}(h:RE K E ta m):RT K E (jU K ta) (zK Zs m):=by
 intro G0 H0 ρ σ G H ho
 refine RAt.bind (t2:=λx σ H1 Q=>∃ k,TruV K x H1 k/\Q k H1) (h G0 H0 ρ σ G H ho) λd ρ1 v G1 H1 s1 h1 r1=>?_
 refine RAt.opt1 λb e=>?_
 intro Q hQ
 have fin:=hQ b G1 H1 (Same.refl _) h1 rfl
 cases d<;>first | (cases e;done) | skip
 ·cases e;rw[yY.mp r1];exact⟨_,rfl,fin⟩
 ·cases e;rw[ZN.mp r1];exact⟨_,rfl,fin⟩
 ·cases e;rw[zM.mp r1];exact⟨_,rfl,fin⟩
 ·rename_i ds
  cases e
  obtain⟨a,vs,rfl,hq,rl⟩:=zy.mp r1
  refine⟨_,.inr (.inl ⟨vs,SqT.same h1.e.s hq,rfl⟩),?_⟩
  have:=rl.len
  have e':(!vs.isEmpty) = !ds.isEmpty:=by cases ds<;>cases vs<;>simp_all
  rw[e'];exact fin
 ·rename_i ds
  cases e
  obtain⟨a,vs,rfl,hq,rl⟩:=zg.mp r1
  refine⟨_,.inl ⟨vs,h1.e.s.seq hq,rfl⟩,?_⟩
  have:=rl.len
  have e':(!vs.isEmpty) = !ds.isEmpty:=by cases ds<;>cases vs<;>simp_all
  rw[e'];exact fin
theorem jz {i:Nat}{te:TE}{m:M D}(he:RE K E te m):RS K E (tDrop (tBM K "list" rAppend (tVar i) (tCons te tNil))) (zr i m):=by
 intro G0 H0 ρ σ G H ho
 refine RSt.opt λds0 e0=>?_
 obtain⟨a,vs0,e1,e2,_,_,_⟩:=ho.own e0
 intro D hD
 refine⟨_,e1,.inl ⟨rfl,vs0,SqL.of e2⟩,?_⟩
 have q:RSt K E (λD σ H1=>te σ H1 λy H2=>rAppend (.ref a) [y] H2 λ_ H3=>D.nx σ H3) ((m ρ).bnd λx ρ=>(z8 (zn ρ[i]?) ρ).bnd λds ρ=>if ds.length<sizeLine then .ok .nx (ρ.set i (.own (ds++[x]))) else .bad) G0 H0 σ G H:=by
  refine RSt.bind (t2:=λy D σ H2=>rAppend (.ref a) [y] H2 λ_ H3=>D.nx σ H3) (he G0 H0 ρ σ G H ho) λx ρ1 y G1 H1 s1 h1 r1=>?_
  refine RSt.opt λds e=>?_
  obtain⟨a',vs,f1,f2,f3,f4,r⟩:=h1.own e
  rw[e1]at f1
  cases f1
  intro D hD
  split at hD
  ·rename_i hz
   refine⟨a,vs,y,rfl,rfl,f2,by rw[r.ln];exact hz,hD σ G1 _ (Same.refl _) ?_⟩
   exact h1.setMut (Zn e) rfl e1 f3 f4 (s':=.own (ds++[x])) ⟨a,vs++[y],rfl,upd_same,f3,f4,r.app (zJ.cons r1 zJ.nil)⟩ rfl
  ·exact hD.elim
 exact q D hD
theorem qL {i:Nat}{te:TE}{m:M D}(he:RE K E te m):RE K E (tBM K "list" rPopAt (tVar i) (tCons te tNil)) (wt i m):=by
 intro G0 H0 ρ σ G H ho
 refine RAt.opt λds0 e0=>?_
 obtain⟨a,vs0,e1,e2,_,_,_⟩:=ho.own e0
 intro Q hQ
 refine⟨_,e1,.inl ⟨rfl,vs0,SqL.of e2⟩,?_⟩
 have q:RAt K E (λG d v=>Rep K G d v) (λσ H1 Q=>te σ H1 λy H2=>rPopAt (.ref a) [y] H2 Q) ((m ρ).bnd λx ρ=>(z8 (zn ρ[i]?) ρ).bnd λds ρ=>(z8 (W8 x) ρ).bnd λk ρ=>(z8 (if ds.length<=sizeLine then Xr ds.length k else none) ρ).bnd λj ρ=>
   (z8 (ds[j]?) ρ).bnd λy ρ=>.ok y (ρ.set i (.own (ds.eraseIdx j)))) G0 H0 σ G H:=by
  refine RAt.bind (t2:=λy σ H2 Q=>rPopAt (.ref a) [y] H2 Q) (he G0 H0 ρ σ G H ho) λx ρ1 y G1 H1 s1 h1 r1=>?_
  refine RAt.opt λds e=>?_
  obtain⟨a',vs,f1,f2,f3,f4,r⟩:=h1.own e
  rw[e1]at f1
  cases f1
  refine RAt.opt λk ek=>?_
  refine RAt.opt λj ej=>?_
  refine RAt.opt λd ed=>?_
  intro Q hQ
  cases x<;>first | (cases ek;done) | skip
  cases ek
  obtain⟨v,ev,rv⟩:=r.get ed
  split at ej
  ·rename_i hz
   rw[uh]at ej
   obtain⟨g1,g2,g3,g4⟩:=ixN_seq ej
   have hz63:=line63
   rw[r.len]at g1
   refine⟨a,vs,_,j,v,rfl,by rw[zM.mp r1],f2,by omega,by omega,g1,ev,hQ v G1 _ (Same.refl _) ?_ rv⟩
   exact h1.setMut (Zn e) rfl e1 f3 f4 (s':=.own (ds.eraseIdx j)) ⟨a,vs.eraseIdx j,rfl,upd_same,f3,f4,r.erase j⟩ rfl
  ·cases ej
 exact q Q hQ
end
section
variable {X:Cx}{E:XK}{e v:Expr}{pos p2 p3:Pos}{m mv:M D}
theorem va (i:Nat){x:Str}{p:Pos}(hm:X.mg "len" = none)(hN:autoParam (X.N[i]? = some x) aR._auto_1)(hv:autoParam (Vis X.env.scope x) aV._auto_1)(hg:Gl X "len":=by rfl)
  (he:autoParam (starEach [.Name x p2] X.env=(false,eval (.Name x p2) X.env)::starEach [] X.env) aR._auto_1)(hpl:autoParam ((backTo pos (starEach [] X.env)).any (·.1)=false) aR._auto_1)(hd:autoParam ((x == ("__debug__" : Str))=false) aD._auto_1)
  (hcd:autoParam ((x == ("__classdict__" : Str))=false) aD._auto_1):ME X E (.Call (.Name "len" p) [.Name x p2] [] pos) (V5 i):=
 ⟨_,pe_callB call_len_seq hg hm PySem.boot_len (pa_cons (pe_var hN hv hd hcd) pa_nil he) (by decide) (by decide) he hpl,Qh⟩
theorem Qo {a:Expr}{ta:TE}(ha:PE X a ta)(he:∀ whole,isTrue a X.env whole=(do let v <-whole;standAt a.pos;holding [v] (truthy v)):=by intro _;rfl):PT X a (jU X.K ta):=by
 intro pins s σ H Q I h
 refine isTrue_plain (thn (ha pins s σ H _ I h) λv s1 ⟨x,H1,I1,r1,q1⟩=>?_) (he _)
 exact tru_ok pins s1 σ H1 x v Q I1 r1 q1
theorem WA (h:ME X E e m)(he:∀ whole,isTrue e X.env whole=(do let v <-whole;standAt e.pos;holding [v] (truthy v)):=by intro _;rfl):MT X E e (zK Zs m):=by
 obtain⟨t,p,r⟩:=h
 exact⟨_,Qo p he,js r⟩
theorem YS (i:Nat){x:Str}{ap cp:Pos}(h:ME X E e m)(hN:autoParam (X.N[i]? = some x) aR._auto_1)(hv:autoParam (Vis X.env.scope x) aV._auto_1)(hd:autoParam ((x == ("__debug__" : Str))=false) aD._auto_1)
  (hcd:autoParam ((x == ("__classdict__" : Str))=false) aD._auto_1)(hs0:autoParam (starEach [e] X.env=(false,eval e X.env)::starEach [] X.env) aR._auto_1)(hbase:autoParam (attributeBase (.Name x p2) "append" X.env (eval (.Name x p2) X.env)=eval (.Name x p2) X.env) aR._auto_1)
  (hfew:autoParam (((backTo cp (starEach [e] X.env)).all (λx=>!x.1) && (backToKw cp (keywordEach [] X.env)).all (λx=>x.1.isSome) && decide ([e].length+([]:List Keyword).length+(if ([]:List Keyword).isEmpty then 0 else 1)<30))=true) aR._auto_1)
  (hline:autoParam ((ap.endLine == cp.line)=true) aR._auto_1)(hplain:autoParam ((backTo cp (starEach [] X.env)).any (·.1)=false) aR._auto_1)
  (hs:autoParam (swapsWith (.Call (.Attribute (.Name x p2) "append" ap) [e] [] cp) none pos.line X.env=pure false) aR._auto_1):MS X E (.Expr (.Call (.Attribute (.Name x p2) "append" ap) [e] [] cp) pos) (zr i m):=by
 obtain⟨t,p,r⟩:=h
 exact⟨_,ps_expr (pe_bm PySem.F.plainAttrs_list PySem.F.slot_list_append PySem.F.type_list_append mt_append (pe_var hN hv hd hcd) (pa_cons p pa_nil hs0) hbase hfew hline hs0 hplain) hs,jz r⟩
theorem ql (i:Nat){x:Str}{ap:Pos}(h:ME X E e m)(hN:autoParam (X.N[i]? = some x) aR._auto_1)(hv:autoParam (Vis X.env.scope x) aV._auto_1)(hd:autoParam ((x == ("__debug__" : Str))=false) aD._auto_1)
  (hcd:autoParam ((x == ("__classdict__" : Str))=false) aD._auto_1)(hs0:autoParam (starEach [e] X.env=(false,eval e X.env)::starEach [] X.env) aR._auto_1)(hbase:attributeBase (.Name x p2) "pop" X.env (eval (.Name x p2) X.env)=eval (.Name x p2) X.env:=by rfl)
  (hfew:autoParam (((backTo pos (starEach [e] X.env)).all (λx=>!x.1) && (backToKw pos (keywordEach [] X.env)).all (λx=>x.1.isSome) && decide ([e].length+([]:List Keyword).length+(if ([]:List Keyword).isEmpty then 0 else 1)<30))=true) aR._auto_1)
  (hline:autoParam ((ap.endLine == pos.line)=true) aR._auto_1)(hplain:autoParam ((backTo pos (starEach [] X.env)).any (·.1)=false) aR._auto_1) :
  ME X E (.Call (.Attribute (.Name x p2) "pop" ap) [e] [] pos) (wt i m):=by
 obtain⟨t,p,r⟩:=h
 exact⟨_,pe_bm PySem.F.plainAttrs_list PySem.F.slot_list_pop PySem.F.type_list_pop mt_popAt (pe_var hN hv hd hcd) (pa_cons p pa_nil hs0) hbase hfew hline hs0 hplain,qL r⟩
end
end PM
namespace PM
open PySem PySem.Spec PyProof.Rows L2
mutual
noncomputable def D.py:D->PyData
 |.non=>.none
 |.bl b=>.bool b
 |.int i=>.int i
 |.str x=>.str x
 |.tup a=>.tuple (D.pys a)
 |.lst a=>.list (D.pys a)
 |.exc _=>.none
 |.dct _ _=>.none
 |.dcT _ _=>.none
noncomputable def D.pys:List D->List PyData
 |[]=>[]
 |a::r=>D.py a::D.pys r
end
mutual
theorem yz:∀ {d:D},d.plain=true->d.py.canLay0=true
 |.non,_=>rfl
 |.bl _,_=>rfl
 |.int _,_=>rfl
 |.str x,h=>h
 |.tup a,h=>by
  show PyData.canLayAll0 (D.pys a)=true
  exact yZ h
 |.lst a,h=>by
  show PyData.canLayAll0 (D.pys a)=true
  exact yZ h
 |.exc _,h=>by cases h
 |.dct _ _,h=>by cases h
 |.dcT _ _,h=>by cases h
theorem yZ:∀ {ds:List D},D.plains ds=true->PyData.canLayAll0 (D.pys ds)=true
 |[],_=>rfl
 |a::r,h=>by
  have h':(a.plain && D.plains r)=true:=h
  rw[Bool.and_eq_true]at h'
  show ((D.py a).canLay0 && PyData.canLayAll0 (D.pys r))=true
  rw[yz h'.1,yZ h'.2]
  rfl
end
mutual
theorem wo:∀ {d:D},d.plain=true->d.py.depth=d.deep
 |.non,_=>rfl
 |.bl _,_=>rfl
 |.int _,_=>rfl
 |.str x,h=>rfl
 |.tup a,h=>by
  show PyData.depthAll (D.pys a)+1=D.deeps a+1
  rw[yb h]
 |.lst a,h=>by
  show PyData.depthAll (D.pys a)+1=D.deeps a+1
  rw[yb h]
 |.exc _,h=>by cases h
 |.dct _ _,h=>by cases h
 |.dcT _ _,h=>by cases h
theorem yb:∀ {ds:List D},D.plains ds=true->PyData.depthAll (D.pys ds)=D.deeps ds
 |[],_=>rfl
 |a::r,h=>by
  have h':(a.plain && D.plains r)=true:=h
  rw[Bool.and_eq_true]at h'
  show max (D.py a).depth (PyData.depthAll (D.pys r))=max a.deep (D.deeps r)
  rw[wo h'.1,yb h'.2]
end
mutual
theorem wn:∀ {a b:D},a.plain=true->b.plain=true->PyData.eqv a.py b.py=a.eqv b
 |.tup a,.tup b,h,k=>by
  show PyData.eqvAll (D.pys a) (D.pys b)=D.eqvs a b
  exact vV h k
 |.lst a,.lst b,h,k=>by
  show PyData.eqvAll (D.pys a) (D.pys b)=D.eqvs a b
  exact vV h k
 |.exc _,_,h,_=>by cases h
 |.dct _ _,_,h,_=>by cases h
 |.dcT _ _,_,h,_=>by cases h
 |.non,b,_,k=>by cases b<;>first | rfl | cases k
 |.bl _,b,_,k=>by cases b<;>first | rfl | cases k
 |.int _,b,_,k=>by cases b<;>first | rfl | cases k
 |.str _,b,_,k=>by cases b<;>first | rfl | cases k
 |.tup _,.non,_,_=>rfl
 |.tup _,.bl _,_,_=>rfl
 |.tup _,.int _,_,_=>rfl
 |.tup _,.str _,_,_=>rfl
 |.tup _,.lst _,_,_=>rfl
 |.tup _,.exc _,_,k=>by cases k
 |.tup _,.dct _ _,_,k=>by cases k
 |.tup _,.dcT _ _,_,k=>by cases k
 |.lst _,.non,_,_=>rfl
 |.lst _,.bl _,_,_=>rfl
 |.lst _,.int _,_,_=>rfl
 |.lst _,.str _,_,_=>rfl
 |.lst _,.tup _,_,_=>rfl
 |.lst _,.exc _,_,k=>by cases k
 |.lst _,.dct _ _,_,k=>by cases k
 |.lst _,.dcT _ _,_,k=>by cases k
theorem vV:∀ {a b:List D},D.plains a=true->D.plains b=true->PyData.eqvAll (D.pys a) (D.pys b)=D.eqvs a b
 |[],[],_,_=>rfl
 |[],_::_,_,_=>rfl
 |_::_,[],_,_=>rfl
 |a::r,b::t,h,k=>by
  have h':(a.plain && D.plains r)=true:=h
  have k':(b.plain && D.plains t)=true:=k
  rw[Bool.and_eq_true]at h' k'
  show (PyData.eqv (D.py a) (D.py b) && PyData.eqvAll (D.pys r) (D.pys t))=(a.eqv b && D.eqvs r t)
  rw[wn h'.1 k'.1,vV h'.2 k'.2]
end
section
variable {X:Cx}{pins:List (Addr×Obj)}{σ:St}{H:Hp}{s:Shared}
mutual
theorem yN (I:Inv X pins σ H s):∀ {d:D}{x:V}{v:Value},Rep X.K H d x->RelV x v->d.plain=true->∃ as,Reads s.heap v d.py as
 |.non,x,v,r,rv,_=>by rw[yY.mp r]at rv;cases rv;exact⟨_,.none⟩
 |.bl b,x,v,r,rv,_=>by rw[ZN.mp r]at rv;cases rv;exact⟨_,.bool b⟩
 |.int b,x,v,r,rv,_=>by rw[zM.mp r]at rv;obtain⟨t,rfl⟩:=rv;exact⟨_,.int b t⟩
 |.str b,x,v,r,rv,_=>by rw[zf.mp r]at rv;obtain⟨t,rfl⟩:=rv;exact⟨_,.str b t⟩
 |.tup ds,x,v,r,rv,h=>by
  obtain⟨a,vs,rfl,hq,rl⟩:=zy.mp r
  cases rv
  obtain⟨its,rt,⟨o,ho,hc,n,hd⟩,_⟩:=I.tuple (SqT.of hq)
  obtain⟨as,ra⟩:=ZU I rl rt h
  exact⟨_,.tuple ho hc hd (by simpa using ra)⟩
 |.lst ds,x,v,r,rv,h=>by
  obtain⟨a,vs,rfl,hq,rl⟩:=zg.mp r
  cases rv
  obtain⟨its,rt,pl,_⟩:=I.list hq
  obtain⟨o,ho,hc,n,hd⟩:=pl.isList
  obtain⟨as,ra⟩:=ZU I rl rt h
  exact⟨_,.list ho hc hd (by simpa using ra)⟩
 |.exc _,_,_,_,_,h=>by cases h
 |.dct _ _,_,_,_,_,h=>by cases h
 |.dcT _ _,_,_,_,_,h=>by cases h
theorem ZU (I:Inv X pins σ H s):∀ {ds:List D}{xs:List V}{vs:List Value},zJ X.K H ds xs->Vals xs vs->D.plains ds=true->∃ as,ReadsAll s.heap vs (D.pys ds) as
 |[],xs,vs,r,rv,_=>by
  rw[r.nil_inv]at rv
  cases rv
  exact⟨_,.nil⟩
 |d::ds,xs,vs,r,rv,h=>by
  obtain⟨x,xr,rfl,r1,r2⟩:=r.cons_inv
  have h':(d.plain && D.plains ds)=true:=h
  rw[Bool.and_eq_true]at h'
  cases rv with
  |cons rv1 rv2=>
   obtain⟨as,ra⟩:=yN I r1 rv1 h'.1
   obtain⟨bs,rb⟩:=ZU I r2 rv2 h'.2
   exact⟨_,.cons ra rb⟩
end
end
section
variable {X:Cx}{K:PySem.W.Frag}
theorem xq {A:Around}{k d e:Nat}(hr:Room k A)(h:d<=30):A.units+1+min d e<cLine:=by
 have:=hr.units
 omega
noncomputable def Qn (K:PySem.W.Frag)(neg:Bool):R2:=λx y H Q=>∃ dx dy,Rep K H dx x/\Rep K H dy y/\dx.plain=true/\dy.plain=true/\dx.deep<=30/\Q (.bl (if neg then !dx.eqv dy else dx.eqv dy)) H
theorem Yu {k:Nat}(hr:Room k X.A):OpR X (compareOp .Eq) (Qn X.K false):=by
 intro pins s σ H x y v u Q I rx ry h
 obtain⟨dx,dy,r1,r2,p1,p2,hd,q⟩:=h
 obtain⟨as,ra⟩:=yN I r1 rx p1
 obtain⟨bs,rb⟩:=yN I r2 ry p2
 refine SeqAt.compareEq_reads ra rb (yz p1) (yz p2) ?_ ⟨.bl _,H,I,rfl,?_⟩
 ·rw[wo p1]
  have:=xq (e:=dy.py.depth) hr hd
  omega
 ·rw[wn p1 p2];exact q
theorem y6 {k:Nat}(hr:Room k X.A):OpR X (compareOp .NotEq) (Qn X.K true):=by
 intro pins s σ H x y v u Q I rx ry h
 obtain⟨dx,dy,r1,r2,p1,p2,hd,q⟩:=h
 obtain⟨as,ra⟩:=yN I r1 rx p1
 obtain⟨bs,rb⟩:=yN I r2 ry p2
 refine SeqAt.compareNe_reads ra rb (yz p1) (yz p2) ?_ ⟨.bl _,H,I,rfl,?_⟩
 ·rw[wo p1]
  have:=xq (e:=dy.py.depth) hr hd
  omega
 ·rw[wn p1 p2];exact q
theorem Yt:OpM K (Qn K false) eqD:=by
 intro G H x y dx dy d Q s rx ry e q
 unfold eqD at e
 split at e
 ·rename_i h
  cases e
  simp only[Bool.and_eq_true,decide_eq_true_eq]at h
  exact⟨dx,dy,rx.mono s,ry.mono s,h.1.1,h.1.2,h.2,q _ G H (Ext.refl s) (Same.refl _) (ZN.mpr rfl)⟩
 ·cases e
theorem y0:OpM K (Qn K true) neD:=by
 intro G H x y dx dy d Q s rx ry e q
 unfold neD at e
 split at e
 ·rename_i h
  cases e
  simp only[Bool.and_eq_true,decide_eq_true_eq]at h
  exact⟨dx,dy,rx.mono s,ry.mono s,h.1.1,h.1.2,h.2,q _ G H (Ext.refl s) (Same.refl _) (ZN.mpr rfl)⟩
 ·cases e
noncomputable def Qm (K:PySem.W.Frag)(neg:Bool):R2:=λx y H Q=>∃ dx ys p vs,y=.ref p/\(SqL K H p vs\/SqT K H p vs)/\zJ K H ys vs/\Rep K H dx x/\dx.plain=true/\D.plains ys=true/\D.deeps ys<=30 ∧
 Q (.bl (if neg then !ys.any λy=>y.eqv dx else ys.any λy=>y.eqv dx)) H
theorem Wa {dx:D}(p:dx.plain=true):∀ {ys:List D},D.plains ys=true->((D.pys ys).any λy=>PyData.eqv y dx.py)=ys.any λy=>y.eqv dx
 |[],_=>rfl
 |a::r,h=>by
  have h':(a.plain && D.plains r)=true:=h
  rw[Bool.and_eq_true]at h'
  show (PyData.eqv (D.py a) dx.py || (D.pys r).any λy=>PyData.eqv y dx.py)=(a.eqv dx || r.any λy=>y.eqv dx)
  rw[wn h'.1 p,Wa p h'.2]
theorem JJ {k:Nat}(hr:Room k X.A):OpR X (compareOp .In) (Qm X.K false):=by
 intro pins s σ H x y v u Q I rx ry h
 obtain⟨dx,ys,p,vs,rfl,hq,rl,r1,p1,p2,hd,q⟩:=h
 cases ry
 obtain⟨as,ra⟩:=yN I r1 rx p1
 have hu:X.A.units+1+min (PyData.depthAll (D.pys ys)) dx.py.depth<cLine:=by rw[yb p2];exact xq hr hd
 rcases hq with hq | hq
 ·obtain⟨its,rt,pl,_⟩:=I.list hq
  obtain⟨o,ho,hc,n,hdt⟩:=pl.isList
  obtain⟨bs,rb⟩:=ZU I rl rt p2
  refine SeqAt.in_list_reads (.list ho hc hdt (by simpa using rb)) ra (yZ p2) (yz p1) hu ⟨.bl _,H,I,rfl,?_⟩
  rw[Wa p1 p2];exact q
 ·obtain⟨its,rt,⟨o,ho,hc,n,hdt⟩,_⟩:=I.tuple hq
  obtain⟨bs,rb⟩:=ZU I rl rt p2
  refine SeqAt.in_tuple_reads (.tuple ho hc hdt (by simpa using rb)) ra (yZ p2) (yz p1) hu ⟨.bl _,H,I,rfl,?_⟩
  rw[Wa p1 p2];exact q
theorem UP {k:Nat}(hr:Room k X.A):OpR X (compareOp .NotIn) (Qm X.K true):=by
 intro pins s σ H x y v u Q I rx ry h
 obtain⟨dx,ys,p,vs,rfl,hq,rl,r1,p1,p2,hd,q⟩:=h
 cases ry
 obtain⟨as,ra⟩:=yN I r1 rx p1
 have hu:X.A.units+1+min (PyData.depthAll (D.pys ys)) dx.py.depth<cLine:=by rw[yb p2];exact xq hr hd
 rcases hq with hq | hq
 ·obtain⟨its,rt,pl,_⟩:=I.list hq
  obtain⟨o,ho,hc,n,hdt⟩:=pl.isList
  obtain⟨bs,rb⟩:=ZU I rl rt p2
  refine SeqAt.notIn_list_reads (.list ho hc hdt (by simpa using rb)) ra (yZ p2) (yz p1) hu ⟨.bl _,H,I,rfl,?_⟩
  rw[Wa p1 p2];exact q
 ·obtain⟨its,rt,⟨o,ho,hc,n,hdt⟩,_⟩:=I.tuple hq
  obtain⟨bs,rb⟩:=ZU I rl rt p2
  refine SeqAt.notIn_tuple_reads (.tuple ho hc hdt (by simpa using rb)) ra (yZ p2) (yz p1) hu ⟨.bl _,H,I,rfl,?_⟩
  rw[Wa p1 p2];exact q
theorem W2 {G H:Hp}{dy:D}{y:V}{ys:List D}(s:Same G H)(ry:Rep K G dy y)(e:dy.items? = some ys):∃ p vs,y=.ref p/\(SqL K H p vs\/SqT K H p vs)/\zJ K H ys vs:=by
 cases dy<;>first | (cases e;done) | skip
 ·cases e
  obtain⟨p,vs,rfl,h1,r1⟩:=zy.mp ry
  exact⟨p,vs,rfl,.inr (SqT.same s h1),r1.mono s⟩
 ·cases e
  obtain⟨p,vs,rfl,h1,r1⟩:=zg.mp ry
  exact⟨p,vs,rfl,.inl (s.seq h1),r1.mono s⟩
theorem JI:OpM K (Qm K false) inD:=by
 intro G H x y dx dy d Q s rx ry e q
 unfold inD at e
 cases hi:dy.items? with
 |none=>rw[hi]at e;cases e
 |some ys=>
  rw[hi]at e
  dsimp only at e
  split at e
  ·rename_i h
   cases e
   simp only[Bool.and_eq_true,decide_eq_true_eq]at h
   obtain⟨p,vs,rfl,hq,rl⟩:=W2 s ry hi
   exact⟨dx,ys,p,vs,rfl,hq,rl,rx.mono s,h.1.1,h.1.2,h.2,q _ G H (Ext.refl s) (Same.refl _) (ZN.mpr rfl)⟩
  ·cases e
theorem UN:OpM K (Qm K true) YQ:=by
 intro G H x y dx dy d Q s rx ry e q
 unfold YQ at e
 cases hi:dy.items? with
 |none=>rw[hi]at e;cases e
 |some ys=>
  rw[hi]at e
  dsimp only at e
  split at e
  ·rename_i h
   cases e
   simp only[Bool.and_eq_true,decide_eq_true_eq]at h
   obtain⟨p,vs,rfl,hq,rl⟩:=W2 s ry hi
   exact⟨dx,ys,p,vs,rfl,hq,rl,rx.mono s,h.1.1,h.1.2,h.2,q _ G H (Ext.refl s) (Same.refl _) (ZN.mpr rfl)⟩
  ·cases e
end
end PM
namespace PM
open PySem PySem.Spec PyProof.Rows L2
section
variable {P:Program}{w:World}{K:PySem.W.Frag}{mg:Str->Option Value}{base:Heap}{N:List Str}{qual:Str}{scope:Scope}{f:Addr}{cd:Value}{A:Around}{outer:List Env}{s₀:Shared}{H₀:Hp}{E:XK}
theorem jD {G0 H0:Hp}{ρ:Rho}{σ σ':St}{G H:Hp}{iy ie n:Nat}{e0 c:Addr}(x:Ext G0 H0 G H)(b:Same H0 H)(hn:H e0=none)(hl:σ'.length=n)(hy:iy<n)(hne:iy≠ie) :
  Hold K G0 H0 ((List.replicate n Slot.un).set iy (.fz (.exc c))) ((σ'.set iy (some (.ref e0))).set ie none) (upd G e0 (Yg e0 c)) (upd H e0 (Yg e0 c)):=by
 have xn:=Ext.new (o:=Yg e0 c) x.s hn
 refine⟨x.trans xn,b.trans (Same.upd hn),λj s e=>?_,λj k sj sk a e1 e2 m1 m2=>?_,by simp[hl]⟩
 ·rcases xC e with ⟨rfl,_,rfl⟩ | ⟨ne,e⟩
  ·refine⟨.ref e0,?_,?_⟩
   ·rw[List.getElem?_set_ne (Ne.symm hne)]
    exact xg (by rw[hl];exact hy)
   ·unfold Rep
    exact⟨e0,rfl,upd_same⟩
  ·rw[List.getElem?_replicate]at e
   split at e
   ·cases e;exact trivial
   ·cases e
 ·rcases xC e1 with ⟨rfl,_,rfl⟩ | ⟨_,e1⟩
  ·exact m1.elim
  ·rw[List.getElem?_replicate]at e1
   split at e1
   ·cases e1;exact m1.elim
   ·cases e1
theorem qg {CB:Addr}{cx n y:Str}{iy ie:Nat}{body:List Stmt}{m:M Fl}{np py pn hpos apos pos:Pos}(cs:List Addr)(hcs:∀ c ∈ cs,PySem.W.excIn K c Zl zo=true/\PySem.W.mroIn K c (.ref CB)=some true)
  (qB:PySem.W.excIn K CB Zl zo=true)(hm:mg cx=some (.ref CB))
  (hb:∀ (pins:List (Addr×Obj))(xe:Value->Shared->Prop)(E':XK),Passes (CX1 P w K) (Cx.tr (cxOf (CX1 P w K) P w K mg base N qual scope f cd A outer s₀ H₀ E) pins xe) E' ->
   MSs (Cx.tr (cxOf (CX1 P w K) P w K mg base N qual scope f cd A outer s₀ H₀ E) pins xe) E' body m)
  (nd:N.Nodup)(hy:N[iy]? = some y)(he:N[ie]? = some n)(ly:scope.names.lookup y=some .local)(le:scope.names.lookup n=some .local)(hne:iy≠ie)
  (hgl:autoParam (Gl (cxOf (CX1 P w K) P w K mg base N qual scope f cd A outer s₀ H₀ E) cx) aR._auto_1)(hd:autoParam ((cx == ("__debug__" : Str))=false) aD._auto_1)(hdn:autoParam ((n == ("__debug__" : Str))=false) aD._auto_1)
  (hsw:autoParam (swapsWith (.Name n pn) (some (.Name y py)) apos.line (cxOf (CX1 P w K) P w K mg base N qual scope f cd A outer s₀ H₀ E).env=pure false) aR._auto_1) :
  MS (cxOf (CX1 P w K) P w K mg base N qual scope f cd A outer s₀ H₀ E) E (.Try body [.ExceptHandler (some (.Name cx np)) (some n) [.Assign [.Name y py] (.Name n pn) apos] hpos] [] [] pos) (wB cs iy m):=by
 refine⟨λD σ H=>∃ G0 H0 ρ G,Hold K G0 H0 ρ σ G H/\zU K E G0 H0 G (wB cs iy m ρ) D,?_,λG0 H0 ρ σ G H ho D hD=>⟨G0,H0,ρ,G,ho,hD⟩⟩
 intro pins s σ H D I h
 obtain⟨G0,H0,ρ,G,ho,hD⟩:=h
 refine jn (iy:=iy) (ie:=ie) (E':=λcls _ H'=>∃ c ρ' G',cls=.ref c/\m ρ=.exn c ρ'/\Same G G'/\Ext G0 H0 G' H'/\Same H0 H') I qB hm hgl (λxe hp=>?_) (λcls H' hE=>?_) nd hy he ly le hne hd hdn hsw
 ·obtain⟨t,ps,rs⟩:=hb pins xe _ hp
  refine⟨t,ps,rs G0 H0 ρ σ G H ho D ?_⟩
  unfold wB at hD
  cases q:m ρ with
  |ok fl ρ'=>rw[q]at hD;cases fl<;>exact hD
  |exn c ρ'=>exact λσ' G' H' s1 h1=>⟨c,ρ',G',rfl,rfl,s1,h1.e,h1.b⟩
  |bad=>rw[q]at hD;exact hD
 ·obtain⟨c,ρ',G',rfl,q,sg,ex,sb⟩:=hE
  unfold wB at hD
  rw[q]at hD
  dsimp only at hD
  split at hD
  ·rename_i hc
   obtain⟨q1,q2⟩:=hcs c (by simpa using hc)
   refine⟨c,rfl,q1,q2,λσ' e0 hl hn=>?_⟩
   have hiy:iy<ρ.length:=by rw[ho.len,I.len];exact (List.getElem?_eq_some_iff.mp hy).1
   exact hD _ _ _ (sg.trans (Same.upd (ex.s.free hn))) (jD (ρ:=ρ) (σ:=σ) ex sb hn (by rw[hl,ho.len]) hiy hne)
  ·exact hD.elim
end
structure ItOk (K:PySem.W.Frag)(J:It)(G:Hp)(ds:List D):Prop where
 go:∀ G' H' i d,Same G G'->Same G' H'->ds[i]? = some d->J.go i H'/\∀ x H'',J.yld i H' x H''->∃ G'',Ext G' H' G'' H''/\Same H' H''/\Rep K G'' d x
 stop:∀ G' H',Same G G'->Same G' H'->J.stop ds.length H'
theorem ItOk.of {K:PySem.W.Frag}{J:It}{G:Hp}{ds:List D}{vs:List V}(rl:zJ K G ds vs)(go:∀ G' H' i v,Same G G'->Same G' H'->vs[i]? = some v->J.go i H'/\∀ x H'',J.yld i H' x H''->H''=H'/\x=v)
  (stop:∀ G' H',Same G G'->Same G' H'->J.stop vs.length H'):ItOk K J G ds:=by
 refine⟨λG' H' i d sg sh hd=>?_,λG' H' sg sh=>by rw[rl.len];exact stop G' H' sg sh⟩
 obtain⟨v,hv,rv⟩:=rl.get hd
 obtain⟨g,y⟩:=go G' H' i v sg sh hv
 refine⟨g,λx H'' q=>?_⟩
 obtain⟨rfl,rfl⟩:=y x H'' q
 exact⟨G',Ext.refl sh,Same.refl _,rv.mono sg⟩
noncomputable def RI (K:PySem.W.Frag)(E:XK)(wi:TI)(mi:M (List D)):Prop:=∀ G0 H0 ρ σ G H (R:It->Hp->Prop),Hold K G0 H0 ρ σ G H->(match mi ρ with
 |.ok ds ρ'=>∀ J G' H',Same G G'->Hold K G0 H0 ρ' σ G' H'->ItOk K J G' ds->R J H'
 |.exn c ρ'=>∀ G' H',Same G G'->Hold K G0 H0 ρ' σ G' H'->E (.ref c) none H'
 |.bad=>False)->wi σ H R
noncomputable def MI (X:Cx)(E:XK)(tg iter:Expr)(mi:M (List D)):Prop:=∃ wi,PI X tg iter wi/\RI X.K E wi mi
theorem RI.of {K:PySem.W.Frag}{E:XK}{te:TE}{m:M D}{f:D->Option (List D)}{t2:V->Hp->(It->Hp->Prop)->Prop}(he:RE K E te m)
  (h2:∀ G H d v ds R,Same G H->Rep K G d v->f d=some ds->(∀ J,ItOk K J G ds->R J H)->t2 v H R):RI K E (λσ H R=>te σ H λv H1=>t2 v H1 R) (zS f m):=by
 intro G0 H0 ρ σ G H R ho hR
 unfold zS at hR
 refine he G0 H0 ρ σ G H ho _ ?_
 cases q:m ρ with
 |ok d ρ1=>
  rw[q]at hR
  intro v G1 H1 s1 h1 r1
  simp only[Res.bnd_ok]at hR
  cases q2:f d with
  |some ds=>
   rw[q2]at hR
   exact h2 G1 H1 d v ds R h1.e.s r1 q2 λJ io=>hR J G1 H1 s1 h1 io
  |none=>rw[q2]at hR;exact hR.elim
 |exn c ρ1=>rw[q]at hR;exact hR
 |bad=>rw[q]at hR;exact hR
section
variable {X:Cx}{E:XK}{tg iter e:Expr}{m:M D}
theorem YT (h:ME X E iter m):MI X E tg iter (zS ZH m):=by
 obtain⟨t,p,r⟩:=h
 refine⟨_,pi_list p,RI.of (t2:=λx H1 R=>∃ a,x=.ref a/\(∃ xs,SqL X.K H1 a xs)/\R (Itl X.K a) H1) r λG H d v ds R s rv e hR=>?_⟩
 cases d<;>first | (cases e;done) | skip
 cases e
 obtain⟨a,vs,rfl,hq,rl⟩:=zg.mp rv
 refine⟨a,rfl,⟨vs,s.seq hq⟩,hR (Itl X.K a) (ItOk.of rl (λG' H' i v sg sh hv=>?_) λG' H' sg sh=>⟨vs,sh.seq (sg.seq hq),Nat.le_refl _⟩)⟩
 have q:SqL X.K H' a vs:=sh.seq (sg.seq hq)
 refine⟨⟨vs,v,q,hv⟩,λx H'' ⟨e1,e2⟩=>⟨e1,?_⟩⟩
 have:=e2 vs q
 rw[hv]at this
 exact (Option.some.inj this).symm
theorem qh (h:ME X E iter m):MI X E tg iter (zS xt m):=by
 obtain⟨t,p,r⟩:=h
 refine⟨_,pi_tup p,RI.of (t2:=λx H1 R=>∃ a,x=.ref a/\(∃ xs,SqT X.K H1 a xs)/\R (Itt X.K a) H1) r λG H d v ds R s rv e hR=>?_⟩
 cases d<;>first | (cases e;done) | skip
 cases e
 obtain⟨a,vs,rfl,hq,rl⟩:=zy.mp rv
 refine⟨a,rfl,⟨vs,SqT.same s hq⟩,hR (Itt X.K a) (ItOk.of rl (λG' H' i v sg sh hv=>?_) λG' H' sg sh=>⟨vs,SqT.same sh (SqT.same sg hq),Nat.le_refl _⟩)⟩
 have q:SqT X.K H' a vs:=SqT.same sh (SqT.same sg hq)
 refine⟨⟨vs,v,q,hv⟩,λx H'' ⟨e1,e2⟩=>⟨e1,?_⟩⟩
 have:=e2 vs q
 rw[hv]at this
 exact (Option.some.inj this).symm
theorem qi {p q:Pos}(hr:X.mg "range" = none)(h:ME X E e m)(hgl:autoParam (Gl X "range") aR._auto_1)(hst:autoParam (starEach [e] X.env=[(false,eval e X.env)]) aR._auto_1):MI X E tg (.Call (.Name "range" p) [e] [] q) (zS yC m):=by
 obtain⟨t,p',r⟩:=h
 refine⟨_,pi_range1 hgl hr (pa_cons p' pa_nil hst) hst,RI.of (t2:=λx H1 R=>∃ j:Int,[x]=[V.int j]/\-(2 ^ 62)<=j/\j<2 ^ 62/\R (Itr 0 j.toNat) H1) r λG H d v ds R s rv e hR=>?_⟩
 obtain⟨j,rfl,hj,rfl⟩:=xh e
 rw[zM.mp rv]
 refine⟨j,rfl,hj.1,hj.2,hR (Itr 0 j.toNat) (ItOk.of (Xf G j.toNat) ?_ ?_)⟩
 rotate_left
 ·exact λG' H' sg sh=>by show j.toNat<=_;simp
 intro G' H' i v sg sh hv
 have el:((List.range j.toNat).map λk:Nat=>V.int (k:Int)).length=j.toNat:=by simp
 have hi:i<j.toNat:=by rw[<-el];exact (List.getElem?_eq_some_iff.mp hv).1
 refine⟨hi,λx H'' ⟨e1,e2⟩=>⟨e1,?_⟩⟩
 rw[List.getElem?_map,List.getElem?_range hi]at hv
 cases hv
 rw[e2]
 simp
end
section
variable {prog:Program}{w:World}{A:Around}{R:Result->Shared->Prop}{s:Shared}
theorem Vb {elt target iter:Expr}{ifs:List Expr}{scope:Scope}{pos:Pos}{it acc:Value}{env:Env}(I:Nat->Shared->Prop)
  (turn:∀ n s,I n s->wpAny (model prog w) A (pyNext it) (λr s₁=>match r with
   |none=>R (.ok .next) s₁
   |some v=>wpAny (model prog w) A (letOwnedTupleGo target it v) (λ_ s₁=>wpAny (model prog w) A (assign target env v) (λ_ s₂=>
     wpAny (model prog w) A (forIn ifs true λc r=>if r=true then do let ok <-isTrue c env (eval c env);pure (ForInStep.yield ok) else pure (ForInStep.yield r)) (λok s₃=>
      if ok=true then wpAny (model prog w) A (eval elt env) (λx s₄=>
       wpAny (model prog w) A (call (.builtin "list.append") [acc,x]) (λ_ s₅=>∃ m,m<n/\I m s₅) (notedBy (model prog w) A env λe s'=>R (.error e) s') s₄) (notedBy (model prog w) A env λe s'=>R (.error e) s') s₃
      else ∃ m,m<n/\I m s₃) (notedBy (model prog w) A env λe s'=>R (.error e) s') s₂) (notedBy (model prog w) A env λe s'=>R (.error e) s') s₁) (notedBy (model prog w) A env λe s'=>R (.error e) s') s₁) (notedBy (model prog w) A env λe s'=>R (.error e) s') s)
  (n:Nat)(h:I n s) :
  codeAny (model prog w) A (.compLoop (.ListComp elt [⟨target,iter,ifs,0⟩] scope pos) 0 it acc env) R s:=by
 refine codeAny_loop rfl I (λn s hI=>?_) n h
 show wpAny _ A ((compTurn (.ListComp elt [⟨target,iter,ifs,0⟩] scope pos) 0 it acc env).onRaise (λx=>do noteFrame x env;theTreesLotGoes x)) _ _ s
 refine wpAny_noted ?_
 rw[compTurn_list]
 refine wpAny_bind (wpAny_standAt (wpAny_bind (wpAny_mono (turn n s hI) (λr s₁ h₁=>?_) λ_ _ h'=>h')))
 cases r with
 |none=>exact wpAny_pure h₁
 |some v=>
  refine wpAny_bind (wpAny_mono h₁ (λ_ s₁' h₁'=>?_) λ_ _ h'=>h')
  refine wpAny_bind (wpAny_mono h₁' (λ_ s₂ h₂=>wpAny_bind (wpAny_mono h₂ (λok s₃ h₃=>?_) λ_ _ h'=>h')) λ_ _ h'=>h')
  cases ok with
  |false=>exact wpAny_pure ⟨rfl,h₃⟩
  |true=>
   exact wpAny_bind (wpAny_bind (wpAny_mono h₃ (λx s₄ h₄=>wpAny_bind (wpAny_mono h₄ (λ_ s₅ h₅=>wpAny_pure (wpAny_pure ⟨rfl,h₅⟩)) λ_ _ h'=>h')) λ_ _ h'=>h'))
end
end PM
namespace PM
open PySem PySem.Spec PyProof.Rows L2
theorem Wk {h:Heap}{e c b:Addr}(hb:b≠e):(yJ h e c).get? b=h.get? b:=by
 unfold yJ
 rw[Heap.get?_update_other _ _ (Ne.symm hb),Heap.get?_update_other _ _ (Ne.symm hb),Heap.get?_update_other _ _ (Ne.symm hb)]
theorem vU {h:Heap}{e c:Addr}{cls:Value}{t:Addr}(he:h.get? e=some { cls:=cls,data:=.fields #[.ref t,.none,.none,.none,.bool false,.none] }):∃ oe vs,(yJ h e c).get? e=some oe/\oe.cls=cls/\oe.data=.fields vs/\vs[1]? = some .none:=by
 have hd0:({ cls:=cls,data:=.fields #[.ref t,.none,.none,.none,.bool false,.none] }:Obj).data=.fields #[.ref t,.none,.none,.none,.bool false,.none]:=rfl
 have hd1:=Obj.data_mapFields hd0 (·.setIfInBounds 3 Value.none)
 have he1:=Heap.get?_update_self (Obj.mapFields (·.setIfInBounds 3 Value.none)) he (Obj.isFreed_of_fields hd1)
 have hd2:=Obj.data_mapFields hd1 (·.setIfInBounds 4 (Value.bool true))
 have he2:=Heap.get?_update_self (Obj.mapFields (·.setIfInBounds 4 (Value.bool true))) he1 (Obj.isFreed_of_fields hd2)
 have hd3:=Obj.data_mapFields hd2 (·.setIfInBounds 2 (Value.ref c))
 have he3:=Heap.get?_update_self (Obj.mapFields (·.setIfInBounds 2 (Value.ref c))) he2 (Obj.isFreed_of_fields hd3)
 exact⟨_,_,he3,rfl,hd3,by simp⟩
section
variable {P:Program}{w:World}{K:PySem.W.Frag}{mg:Str->Option Value}{base:Heap}{N:List Str}{qual:Str}{scope:Scope}{f:Addr}{cd:Value}{A:Around}{outer:List Env}{s₀:Shared}{H₀:Hp}{E:XK}
 {pins:List (Addr×Obj)}{σ:St}{H:Hp}{s:Shared}
theorem xZ {A':Around}{e c:Addr}{cls:Value}{vs:List Value}{h':Heap}(I:Inv (cxOf (CX1 P w K) P w K mg base N qual scope f cd A outer s₀ H₀ E) pins σ H s)(hA':A'.frames=some (envOfC qual scope s₀.heap.objs.size f cd::outer))(hx:Heap.MadeExcOf s.heap h' e cls vs)(hn:¬ Yd K cls)(he:E cls none H) :
  notedBy (model P w) A' (envOfC qual scope s₀.heap.objs.size f cd) (cameBackBy (model P w) (cxOf (CX1 P w K) P w K mg base N qual scope f cd A outer s₀ H₀ E).A (envOfC qual scope s₀.heap.objs.size f cd) (cxOf (CX1 P w K) P w K mg base N qual scope f cd A outer s₀ H₀ E).xe) (.ref e) { s with heap:=yJ h' e c }:=by
 have hf:(envOfC qual scope s₀.heap.objs.size f cd).frame=some s₀.heap.objs.size:=rfl
 obtain⟨t,ht,htn,htt⟩:=hx.there
 obtain⟨oe,ws,qe,qc,qd,q1⟩:=vU (c:=c) ht
 have hen:(PySem.W.hideAll s.heap (frs (envOfC qual scope s₀.heap.objs.size f cd::outer))).get? e=none:=by
  cases z:(PySem.W.hideAll s.heap (frs (envOfC qual scope s₀.heap.objs.size f cd::outer))).get? e with
  |none=>rfl
  |some o=>have:=PySem.W.of_hideAll _ z;rw[hx.new]at this;cases this
 have keeps:∀ b o,s.heap.get? b=some o->(yJ h' e c).get? b=some o:=λb o q=>by
  rw[Wk (λz=>by rw[z,hx.new]at q;cases q)]
  exact hx.keeps b o q
 have hl:(yJ h' e c).FunFrames (PySem.W.hideAll s.heap (frs (envOfC qual scope s₀.heap.objs.size f cd::outer))) (envOfC qual scope s₀.heap.objs.size f cd::outer):=(PySem.W.funFrames_hide I.stack uA).of_keeps λb o hb _=>⟨o,keeps b o hb,rfl⟩
 have hkb:(PySem.W.hideAll s.heap (frs (envOfC qual scope s₀.heap.objs.size f cd::outer))).StaysIn (yJ h' e c):=λb o q=>keeps b o (PySem.W.of_hideAll _ q)
 have hfrs:(A.deeper (envOfC qual scope s₀.heap.objs.size f cd)).frames=some (envOfC qual scope s₀.heap.objs.size f cd::outer):=I.ok.frames
 refine Wi (M:=model P w) (A:=A.deeper (envOfC qual scope s₀.heap.objs.size f cd)) (A':=A') (s:={ s with heap:=yJ h' e c }) (Xe:=(cxOf (CX1 P w K) P w K mg base N qual scope f cd A outer s₀ H₀ E).xe) (env:=envOfC qual scope s₀.heap.objs.size f cd) (outer:=outer) (L:=s₀.heap.objs.size) (a0:=QH) (Q:=λ_ s''=>CX1 P w K outer H₀ s₀ E (.ref e) s'') (E:=λe' s''=>CX1 P w K outer H₀ s₀ E e' s'') hfrs hA' hf hl qe hkb hen qd q1 True.intro (λ_ z=>z) ?_
 intro h'' x1 x4
 rw[qc]at x1
 have base0:∀ b o,s₀.heap.get? b=some o->b≠s₀.heap.objs.size:=λb o q z=>by
  subst z
  exact absurd (Heap.lt_size q) (Nat.lt_irrefl _)
 have kb:∀ b o,s₀.heap.get? b=some o->H₀ b=none->b ∉ frs outer->(PySem.W.hideAll s.heap (frs (envOfC qual scope s₀.heap.objs.size f cd::outer))).get? b=some o:=λb o q n hb=>
  PySem.W.hideAll_get _ (I.base.keep b o q n hb (by intro z;cases z)) λz=>by
   rcases (yK hf).mp z with z | z
   ·exact base0 b o q z
   ·exact hb z
 have tb:∀ b o,s₀.heap.get? b=some o->b ∉ frs outer->∃ o',(PySem.W.hideAll s.heap (frs (envOfC qual scope s₀.heap.objs.size f cd::outer))).get? b=some o':=λb o q hb=>by
  obtain⟨o',q'⟩:=I.base.there b o q (by intro z;cases z)
  exact⟨o',PySem.W.hideAll_get _ q' λz=>by
   rcases (yK hf).mp z with z | z
   ·exact base0 b o q z
   ·exact hb z⟩
 have fr:∀ b o,s₀.heap.get? b=some o->b ∈ frs outer->∃ sl,h''.get? b=some { o with slots:=sl }:=λb o q hb=>by
  obtain⟨sl,q1⟩:=I.base.slot b o q (I.ok.frf b hb) hb (by intro z;cases z)
  have nf:∀ vs,o.data≠.fields vs:=by
   obtain⟨_,o2,q2,nf⟩:=I.ok.funs.mem hb
   have q2':s₀.heap.get? b=some o2:=q2
   rw[q]at q2'
   cases q2'
   exact nf
  obtain⟨sl2,q2⟩:=x4 b _ (keeps b _ q1) nf
  exact⟨sl2,q2⟩
 refine⟨H,cls,_,e,QH,⟨rfl,x1,λz=>absurd z hn,VS I,I.os,I.bare,⟨λb o q n hb _=>x1.1 b o (kb b o q n hb),λb o q n hb _=>fr b o q hb,λb o q n _=>I.base.free b o q n (by intro z;cases z),λb o q _=>?_,I.base.tups,I.base.frzs,I.base.tbls⟩,kb,tb⟩,he⟩
 by_cases hb:b ∈ frs outer
 ·obtain⟨sl,q'⟩:=fr b o q hb
  exact⟨_,q'⟩
 ·obtain⟨o',q'⟩:=tb b o q hb
  exact⟨o',x1.1 b o' q'⟩
end
end PM
namespace PM
open PySem PySem.Spec PyProof.Rows L2
section
variable {P:Program}{w:World}{K:PySem.W.Frag}{mg:Str->Option Value}{base:Heap}{N:List Str}{qual:Str}{scope:Scope}{f:Addr}{cd:Value}{A:Around}{outer:List Env}{s₀:Shared}{H₀:Hp}{E:XK}
 {pins:List (Addr×Obj)}{σ:St}{H:Hp}{s:Shared}
theorem QP {CB CR:Addr}{cx cr z:Str}{body:List Stmt}{D:Ends}{E':XK}{np rp cpos ap kp rpos hpos pos:Pos} {j kj}(I:Inv (cxOf (CX1 P w K) P w K mg base N qual scope f cd A outer s₀ H₀ E) pins σ H s)
  (qB:PySem.W.excIn K CB Zl zo=true)(hm:mg cx=some (.ref CB))(hgl:Gl (cxOf (CX1 P w K) P w K mg base N qual scope f cd A outer s₀ H₀ E) cx)
  (qR:PySem.W.excIn K CR Zl zo=true)(hmR:mg cr=some (.ref CR))(hglR:Gl (cxOf (CX1 P w K) P w K mg base N qual scope f cd A outer s₀ H₀ E) cr)(hnR:¬ Yd K (.ref CR))
  (hb:∀ (xe:Value->Shared->Prop),Passes (CX1 P w K) (Cx.tr (cxOf (CX1 P w K) P w K mg base N qual scope f cd A outer s₀ H₀ E) pins xe) E' ->
   ∃ t,PSs (Cx.tr (cxOf (CX1 P w K) P w K mg base N qual scope f cd A outer s₀ H₀ E) pins xe) body t/\t D σ H)
  (h2:∀ cls H',E' cls none H'->∃ C,cls=.ref C/\PySem.W.excIn K C Zl zo=true/\PySem.W.mroIn K C (.ref CB)=some true/\Yd K cls ∧
   ∀ e0,H' e0=none->E (.ref CR) none (upd H' e0 (Yg e0 C)))
  (hd:autoParam ((cx == ("__debug__" : Str))=false) aD._auto_1)(hdR:autoParam ((cr == ("__debug__" : Str))=false) aD._auto_1) :
  wpAny (model P w) (cxOf (CX1 P w K) P w K mg base N qual scope f cd A outer s₀ H₀ E).A (exec (.Try body [.ExceptHandler (some (.Name cx np)) none [.Raise (some (.Call (.Name cr rp) [.Constant (.str z) j ap] [] cpos)) (some (.Constant .none kj kp)) rpos] hpos] [] [] pos) (cxOf (CX1 P w K) P w K mg base N qual scope f cd A outer s₀ H₀ E).env)
   (SP (cxOf (CX1 P w K) P w K mg base N qual scope f cd A outer s₀ H₀ E) pins D) (cxOf (CX1 P w K) P w K mg base N qual scope f cd A outer s₀ H₀ E).xe s:=by
 have hf:(envOfC qual scope s₀.heap.objs.size f cd).frame=some s₀.heap.objs.size:=rfl
 refine wpAny_Try_except ?_
 have I0:Inv (Cx.tr (cxOf (CX1 P w K) P w K mg base N qual scope f cd A outer s₀ H₀ E) pins (λe s₁=>wpAny (model P w) (A.deeper (envOfC qual scope s₀.heap.objs.size f cd)) (noteFrame e (envOfC qual scope s₀.heap.objs.size f cd)) (λ_ s₂=>wpAny (model P w) (A.deeper (envOfC qual scope s₀.heap.objs.size f cd)) (setFlight e none) (λ_ s₃=>wpAny (model P w) (A.deeper (envOfC qual scope s₀.heap.objs.size f cd)) (handleBy e (envOfC qual scope s₀.heap.objs.size f cd) [.ExceptHandler (some (.Name cx np)) none [.Raise (some (.Call (.Name cr rp) [.Constant (.str z) j ap] [] cpos)) (some (.Constant .none kj kp)) rpos] hpos]) (SP (cxOf (CX1 P w K) P w K mg base N qual scope f cd A outer s₀ H₀ E) pins D) (cxOf (CX1 P w K) P w K mg base N qual scope f cd A outer s₀ H₀ E).xe s₃) (cxOf (CX1 P w K) P w K mg base N qual scope f cd A outer s₀ H₀ E).xe s₂) (cxOf (CX1 P w K) P w K mg base N qual scope f cd A outer s₀ H₀ E).xe s₁)) [] σ H s:=Inv.tr (pins:=pins) (by rw[List.append_nil];exact I)
 have hps:Passes (CX1 P w K) (Cx.tr (cxOf (CX1 P w K) P w K mg base N qual scope f cd A outer s₀ H₀ E) pins (λe s₁=>wpAny (model P w) (A.deeper (envOfC qual scope s₀.heap.objs.size f cd)) (noteFrame e (envOfC qual scope s₀.heap.objs.size f cd)) (λ_ s₂=>wpAny (model P w) (A.deeper (envOfC qual scope s₀.heap.objs.size f cd)) (setFlight e none) (λ_ s₃=>wpAny (model P w) (A.deeper (envOfC qual scope s₀.heap.objs.size f cd)) (handleBy e (envOfC qual scope s₀.heap.objs.size f cd) [.ExceptHandler (some (.Name cx np)) none [.Raise (some (.Call (.Name cr rp) [.Constant (.str z) j ap] [] cpos)) (some (.Constant .none kj kp)) rpos] hpos]) (SP (cxOf (CX1 P w K) P w K mg base N qual scope f cd A outer s₀ H₀ E) pins D) (cxOf (CX1 P w K) P w K mg base N qual scope f cd A outer s₀ H₀ E).xe s₃) (cxOf (CX1 P w K) P w K mg base N qual scope f cd A outer s₀ H₀ E).xe s₂) (cxOf (CX1 P w K) P w K mg base N qual scope f cd A outer s₀ H₀ E).xe s₁)) E':=?hps
 ·obtain⟨t,ht,h1⟩:=hb _ hps
  refine wpAny_mono (ht [] s σ H D I0 h1) (λfl s' hs=>?_) λe s' x=>x
  -- the body's own end
  cases fl with
  |next=>
   obtain⟨σ',H',I',q⟩:=hs
   have:=Inv.untr I'
   rw[List.append_nil]at this
   exact wpAny_execs_nil ⟨σ',H',this,q⟩
  |brk=>
   obtain⟨σ',H',I',q⟩:=hs
   have:=Inv.untr I'
   rw[List.append_nil]at this
   exact⟨σ',H',this,q⟩
  |cont=>
   obtain⟨σ',H',I',q⟩:=hs
   have:=Inv.untr I'
   rw[List.append_nil]at this
   exact⟨σ',H',this,q⟩
  |ret u=>
   obtain⟨v,σ',H',I',r,q⟩:=hs
   have:=Inv.untr I'
   rw[List.append_nil]at this
   exact⟨v,σ',H',this,r,q⟩
 case hps=>
  -- an exception of a callee is caught
  intro pins' σ1 H1 s1 e s1' I1 hx
  obtain⟨H',cls,B,e0,a0,F,hE⟩:=hx
  obtain⟨C,rfl,qC,hmro,hnm,hnx⟩:=h2 cls H' hE
  have I1':=(Inv.untr I1)
  rw[F.ev]
  refine wpAny_looks_onC I1.ok.frames hf F.fl λh4 x4 u4=>?_
  refine wpAny_landsC x4 λh5 x5 u5'=>?_
  have u5:=u4.trans u5'
  -- the state behind the landing
  have un5:∀ h6,B.StaysIn h6->s1'.heap.UpToSlots h6->∀ H'',(∀ b o,s1.heap.get? b=some o->H'' b=H' b)->Un (frs (envOfC qual scope s₀.heap.objs.size f cd::outer)) [] H1 H'' s1.heap h6:=λh6 sB u6 H'' hH=>by
   have fr:∀ b o,s1.heap.get? b=some o->b ∈ frs (envOfC qual scope s₀.heap.objs.size f cd::outer)->∃ sl,h6.get? b=some { o with slots:=sl }:=λb o q hb=>by
    have nf:∀ vs,o.data≠.fields vs:=by
     obtain⟨_,o2,q2,nf⟩:=I1'.stack.mem hb
     rw[q]at q2
     cases q2
     exact nf
    obtain⟨sl,q1⟩:=F.un.slot b o q (I1'.stkFree b hb) hb (by intro z;cases z)
    obtain⟨sl2,q2⟩:=u6 b _ q1 nf
    exact⟨sl2,q2⟩
   have inn:∀ b o,H1 b=some o->∃ ob,s1.heap.get? b=some ob:=λb o q=>by
    exact yr (I1'.hok b o q)
   refine⟨λb o q n hb _=>sB b o (F.kb b o q n hb),λb o q n hb _=>fr b o q hb,λb o q n hx=>by rw[hH b o q];exact F.un.free b o q n hx,λb o q _=>?_,λb xs q=>?_,λb o u q=>?_,λb ps q=>?_⟩
   ·by_cases hb:b ∈ frs (envOfC qual scope s₀.heap.objs.size f cd::outer)
    ·obtain⟨sl,q'⟩:=fr b o q hb
     exact⟨_,q'⟩
    ·obtain⟨o',q'⟩:=F.tb b o q hb
     exact⟨o',sB b o' q'⟩
   ·obtain⟨ob,z⟩:=inn b _ q
    rw[hH b ob z];exact F.un.tups b xs q
   ·obtain⟨ob,z⟩:=inn b _ q
    rw[hH b ob z];exact F.un.frzs b o u q
   ·obtain⟨ob,z⟩:=inn b _ q
    rw[hH b ob z];exact F.un.tbls b ps q
  have new0:s1.heap.get? e0=none:=by
   cases z:s1.heap.get? e0 with
   |none=>rfl
   |some ob=>
    exfalso
    by_cases hb:e0 ∈ frs (envOfC qual scope s₀.heap.objs.size f cd::outer)
    ·obtain⟨_,o2,q2,nf⟩:=x5.frs.mem hb
     obtain⟨oe,ws,qe,_,qd,_⟩:=(zq x5)
     rw[q2]at qe
     cases qe
     exact nf _ qd
    ·obtain⟨o',q'⟩:=F.tb e0 ob z hb
     rw[x5.new]at q'
     cases q'
  have free0:H' e0=none:=by
   cases z:H' e0 with
   |none=>rfl
   |some u=>
    obtain⟨ob,q⟩:=yr (F.hok e0 u z)
    rw[x5.new]at q
    cases q
  have hok6:∀ h6,Heap.FlyingC B (envOfC qual scope s₀.heap.objs.size f cd::outer) e0 (.ref C) a0 h6->HOk P w (upd H' e0 (Yg e0 C)) h6:=λh6 x6 b u q=>by
   by_cases hb:b=e0
   ·subst hb
    rw[upd_same]at q
    cases q
    obtain⟨oe,ws,qe,qc,qd,_⟩:=(zq x6)
    exact⟨⟨oe,ws,qe,qc,qd⟩,⟨oe,qe⟩,λh1 h2 ⟨o,vs,p1,p2,p3⟩ k=>⟨o,vs,k o p1,p2,p3⟩⟩
   ·rw[upd_ne hb]at q
    exact (F.hok b u q).stay (λc v _ r=>x6.1 c v r) (λc r=>by rw[upd_ne (ne_of_none r free0)];exact r) λc xs r=>by rw[upd_ne (ne_of_none r free0)];exact r
  have J:∀ h6 tk,Heap.FlyingC B (envOfC qual scope s₀.heap.objs.size f cd::outer) e0 (.ref C) a0 h6->s1'.heap.UpToSlots h6->Inv (cxOf (CX1 P w K) P w K mg base N qual scope f cd A outer s₀ H₀ E) (pins++pins') σ1 (upd H' e0 (Yg e0 C)) { s1' with heap:=h6,toks:=tk }:=λh6 tk x6 u6=>
   I1'.call' (s':={ s1' with heap:=h6,toks:=tk }) (ch:=[]) F.os (un5 h6 x6.1 u6 _ λb o q=>upd_ne (λz=>by rw[z,new0]at q;cases q)) (hok6 h6 x6) F.gens λb z=>by cases z
  obtain⟨bm,N',nm,qn,bs,hdct,sn,sub,ab,col,dd,k0,k1,k2,k3,k5,mN,hC,_,_,_,dd',cdC,slC,hKC,hmC⟩:=yG (J h5 s1'.toks x5 u5).kIn qC
  obtain⟨bm2,N2,nm2,qn2,bs2,hdct2,sn2,sub2,ab2,col2,dd2,j0,j1,j2,j3,j5,mN2,hC2,_,_,T2,_⟩:=yG (J h5 s1'.toks x5 u5).kIn qB
  have hin:(Value.ref C::bm).contains (.ref CB)=true:=by
   unfold PySem.W.mroIn PySem.W.clsIn at hmro
   have hKC':List.lookup C K=some _:=hKC
   rw[hKC']at hmro
   simp only[Option.bind_some,hmC]at hmro
   simpa using hmro
  obtain⟨oe,ws,qe,qc,qd,_⟩:=(zq x5)
  have J5:=J h5 s1'.toks x5 u5
  refine wpAny_handleBy_cons (codeAny_handlers_test (Calls.Name_function_global J5.ok.kind hgl (Calls.loadGlobal_global (show h5.Ns mainGlobals mg from J5.mod.glob.keeps J5.bk) hm ?_) hd)) (by intro q;cases q)
  refine yi hC hC2 qe qc (T2.hasType PySem.F.excBase_ValueError.hasBase) hin ?_
  refine codeAny_handlers_suite ?_
  refine YW x5 λh6 x6 u6=>?_
  have J6:=J h6 s1'.toks x6 (u5.trans u6)
  have hA':((A.deeper (envOfC qual scope s₀.heap.objs.size f cd)).mark (some (.ref e0))).frames=some (envOfC qual scope s₀.heap.objs.size f cd::outer):=I1.ok.frames
  obtain⟨oe6,ws6,qe6,qc6,qd6,p6⟩:=zq x6
  obtain⟨bm3,N3,nm3,qn3,bs3,hdct3,sn3,sub3,ab3,col3,dd3,i0,i1,i2,i3,i5,mN3,hC3,hN3,hni3,T3,_⟩:=yG J6.kIn qR
  refine wpAny_execs_cons (Y7 (C:=CR) (nm:=nm3) (q:=qn3) (N:=N3) (bs:=bs3) (bm:=bm3) (hdct:=hdct3) (sn:=sn3) (sub:=sub3) (ab:=ab3) (col:=col3) (dd:=dd3) (k0:=i0) (k1:=i1) (k2:=i2) (k3:=i3) (k5:=i5) (c:=e0)
   PySem.F.excBase_ValueError (mN:=mN3) (T3.hasType PySem.F.excBase_ValueError.hasBase) rfl rfl hni3 (Calls.Name_function_global J6.ok.kind hglR (Calls.loadGlobal_global (show h6.Ns mainGlobals mg from J6.mod.glob.keeps J6.bk) hmR ⟨rfl,?_⟩) hdR))
  refine Calls.evalArgs_plain (Calls.spliced_cons (Calls.Constant_str (k:=j) (pos:=ap) (Calls.spliced_nil ⟨rfl,(by show 1<=sizeLine;decide),hC3,hN3,T3,oe6,ws6,qe6,qd6,F.ctx hnm ws6 p6,λh' e hx=>?_⟩)))
  exact xZ (J6.tok _) hA' hx hnR (hnx e0 free0)
end
end PM
namespace PM
open PySem PySem.Spec PyProof.Rows L2
noncomputable def X6 (cs:List Addr)(r:Addr)(m:M Fl):M Fl:=λρ=>match m ρ with
 |.exn c _=>if cs.contains c then .exn r (List.replicate ρ.length Slot.un) else .bad
 |r=>r
section
variable {P:Program}{w:World}{K:PySem.W.Frag}{mg:Str->Option Value}{base:Heap}{N:List Str}{qual:Str}{scope:Scope}{f:Addr}{cd:Value}{A:Around}{outer:List Env}{s₀:Shared}{H₀:Hp}{E:XK}
theorem qu {G0 H0:Hp}{σ:St}{G H:Hp}{n:Nat}{e0 c:Addr}(x:Ext G0 H0 G H)(b:Same H0 H)(hn:H e0=none)(hl:σ.length=n):Hold K G0 H0 (List.replicate n Slot.un) σ (upd G e0 (Yg e0 c)) (upd H e0 (Yg e0 c)):=by
 have xn:=Ext.new (o:=Yg e0 c) x.s hn
 refine⟨x.trans xn,b.trans (Same.upd hn),λj s e=>?_,λj k sj sk a e1 e2 m1 m2=>?_,by simp[hl]⟩
 ·rw[List.getElem?_replicate]at e
  split at e
  ·cases e;exact trivial
  ·cases e
 ·rw[List.getElem?_replicate]at e1
  split at e1
  ·cases e1;exact m1.elim
  ·cases e1
theorem Q5 {CB CR:Addr}{cx cr z:Str}{body:List Stmt}{m:M Fl}{np rp cpos ap kp rpos hpos pos:Pos} {j kj}(cs:List Addr)(hcs:∀ c ∈ cs,PySem.W.excIn K c Zl zo=true/\PySem.W.mroIn K c (.ref CB)=some true/\Yd K (.ref c))
  (qB:PySem.W.excIn K CB Zl zo=true)(hm:mg cx=some (.ref CB))(qR:PySem.W.excIn K CR Zl zo=true)(hmR:mg cr=some (.ref CR))(hnR:¬ Yd K (.ref CR))
  (hb:∀ (pins:List (Addr×Obj))(xe:Value->Shared->Prop)(E':XK),Passes (CX1 P w K) (Cx.tr (cxOf (CX1 P w K) P w K mg base N qual scope f cd A outer s₀ H₀ E) pins xe) E'->MSs (Cx.tr (cxOf (CX1 P w K) P w K mg base N qual scope f cd A outer s₀ H₀ E) pins xe) E' body m)
  (hgl:autoParam (Gl (cxOf (CX1 P w K) P w K mg base N qual scope f cd A outer s₀ H₀ E) cx) aR._auto_1)(hglR:autoParam (Gl (cxOf (CX1 P w K) P w K mg base N qual scope f cd A outer s₀ H₀ E) cr) aR._auto_1)(hd:autoParam ((cx == ("__debug__" : Str))=false) aD._auto_1)(hdR:autoParam ((cr == ("__debug__" : Str))=false) aD._auto_1) :
  MS (cxOf (CX1 P w K) P w K mg base N qual scope f cd A outer s₀ H₀ E) E (.Try body [.ExceptHandler (some (.Name cx np)) none [.Raise (some (.Call (.Name cr rp) [.Constant (.str z) j ap] [] cpos)) (some (.Constant .none kj kp)) rpos] hpos] [] [] pos) (X6 cs CR m):=by
 refine⟨λD σ H=>∃ G0 H0 ρ G,Hold K G0 H0 ρ σ G H/\zU K E G0 H0 G (X6 cs CR m ρ) D,?_,λG0 H0 ρ σ G H ho D hD=>⟨G0,H0,ρ,G,ho,hD⟩⟩
 intro pins s σ H D I h
 obtain⟨G0,H0,ρ,G,ho,hD⟩:=h
 refine QP (E':=λcls _ H'=>∃ c ρ' G',cls=.ref c/\m ρ=.exn c ρ'/\Same G G'/\Ext G0 H0 G' H'/\Same H0 H') I qB hm hgl qR hmR hglR hnR (λxe hp=>?_) (λcls H' hE=>?_) hd hdR
 ·obtain⟨t,ps,rs⟩:=hb pins xe _ hp
  refine⟨t,ps,rs G0 H0 ρ σ G H ho D ?_⟩
  unfold X6 at hD
  cases q:m ρ with
  |ok fl ρ'=>rw[q]at hD;cases fl<;>exact hD
  |exn c ρ'=>exact λσ' G' H' s1 h1=>⟨c,ρ',G',rfl,rfl,s1,h1.e,h1.b⟩
  |bad=>rw[q]at hD;exact hD
 ·obtain⟨c,ρ',G',rfl,q,sg,ex,sb⟩:=hE
  unfold X6 at hD
  rw[q]at hD
  dsimp only at hD
  split at hD
  ·rename_i hc
   obtain⟨q1,q2,q3⟩:=hcs c (by simpa using hc)
   refine⟨c,rfl,q1,q2,q3,λe0 hn=>?_⟩
   exact hD _ _ _ (sg.trans (Same.upd (ex.s.free hn))) (qu (σ:=σ) ex sb hn ho.len.symm)
  ·exact hD.elim
end
end PM
namespace PM
open PySem PySem.Spec PyProof.Rows L2
noncomputable def zj (X:Cx)(scope:Scope)(cl:List (Str×Addr))(N':List Str)(C:Addr)(s₀:Shared)(H₀:Hp)(fp:List Addr)(pn:List (Addr×Obj)):Cx:=
 {X with N:=N',s₀:=s₀,H₀:=H₀,env:=compEnvC scope cl C X.env,outer:=X.stack,ex:=fp,fn:=λ_=>false,pn:=pn,xe:=λ_ _=>False }
structure BlkScope (X:Cx)(scope:Scope)(cl:List (Str×Addr)) (nt:Nat)(N':List Str)(idx:List Nat):Prop where
 clos:closureFor scope X.env=pure cl
 kind:scope.kind=.function
 nocell:∀ y ∈ scope.names,y.2≠.cell
 names:∀ y ∈ scope.names,y.2=.local->scope.names.lookup y.1=some .local
 sub:∀ x c,cl.lookup x=some c->X.env.cells.lookup x=some c
 has:∀ x,scope.names.lookup x=some .free->(cl.lookup x).isSome=true
 len:N'.length=nt+idx.length+1
 cap:∀ (j:Nat) i,idx[j]? = some i->∃ x,X.N[i]? = some x/\N'[nt+j]? = some x/\scope.names.lookup x=some .free/\X.env.scope.names.lookup x=some .cell
 acc:∃ x,N'[nt+idx.length]? = some x/\scope.names.lookup x=none
theorem YO {env:Env}:∀ {names:List (Str×NameKind)}{x:Str}{k:NameKind},(∀ y ∈ names,y.2≠.cell) ->
  (names.map λ(n,k)=>if (k == NameKind.free && env.scope.kind == .function && env.kindOf n == some .cell) then (n,NameKind.cell) else (n,k)).lookup x=some k->(k=.cell\/k=.free)->names.lookup x=some .free
 |[],_,_,_,h,_=>by simp at h
 |(n,k0)::r,x,k,hc,h,hk=>by
  have ih:=@YO env r x k (λy hy=>hc y (List.mem_cons_of_mem _ hy))
  have h':List.lookup x ((if (k0 == NameKind.free && env.scope.kind == .function && env.kindOf n == some .cell)=true then (n,NameKind.cell) else (n,k0))::_)=some k:=h
  cases hx:x == n with
  |true=>
   by_cases hcnd:(k0 == NameKind.free && env.scope.kind == .function && env.kindOf n == some .cell)=true
   ·have:k0=.free:=by
     simp only[Bool.and_eq_true,beq_iff_eq]at hcnd
     exact hcnd.1.1
    subst this
    simp[List.lookup_cons,hx]
   ·rw[if_neg hcnd]at h'
    simp only[List.lookup_cons,hx]at h'
    cases h'
    rcases hk with rfl | rfl
    ·exact absurd rfl (hc _ List.mem_cons_self)
    ·simp[List.lookup_cons,hx]
  |false=>
   have:(if (k0 == NameKind.free && env.scope.kind == .function && env.kindOf n == some .cell)=true then (n,NameKind.cell) else (n,k0)).1=n:=by split<;>rfl
   rw[List.lookup_cons]at h'
   rw[this,hx]at h'
   simp only[List.lookup_cons,hx]
   exact ih h' hk
theorem x3 {env:Env}:∀ {names:List (Str×NameKind)}{x:Str},names.lookup x=none ->
  (names.map λ(n,k)=>if (k == NameKind.free && env.scope.kind == .function && env.kindOf n == some .cell) then (n,NameKind.cell) else (n,k)).lookup x=none
 |[],_,_=>rfl
 |(n,k0)::r,x,h=>by
  cases hx:x == n with
  |true=>simp[List.lookup_cons,hx]at h
  |false=>
   simp only[List.lookup_cons,hx]at h
   show List.lookup x ((if (k0 == NameKind.free && env.scope.kind == .function && env.kindOf n == some .cell)=true then (n,NameKind.cell) else (n,k0))::_)=none
   have:(if (k0 == NameKind.free && env.scope.kind == .function && env.kindOf n == some .cell)=true then (n,NameKind.cell) else (n,k0)).1=n:=by split<;>rfl
   rw[List.lookup_cons,this,hx]
   exact x3 h
theorem x8 {env:Env}:∀ {names:List (Str×NameKind)}{x:Str},names.lookup x=some .free ->
  ∃ k,(k=.cell\/k=.free)/\(names.map λ(n,k)=>if (k == NameKind.free && env.scope.kind == .function && env.kindOf n == some .cell) then (n,NameKind.cell) else (n,k)).lookup x=some k
 |[],_,h=>by simp at h
 |(n,k0)::r,x,h=>by
  cases hx:x == n with
  |true=>
   simp only[List.lookup_cons,hx]at h
   cases h
   by_cases hcnd:(NameKind.free == NameKind.free && env.scope.kind == .function && env.kindOf n == some .cell)=true
   ·exact⟨.cell,.inl rfl,by show List.lookup x ((if _ then _ else _)::_)=_;rw[if_pos hcnd];simp[List.lookup_cons,hx]⟩
   ·exact⟨.free,.inr rfl,by show List.lookup x ((if _ then _ else _)::_)=_;rw[if_neg hcnd];simp[List.lookup_cons,hx]⟩
  |false=>
   simp only[List.lookup_cons,hx]at h
   obtain⟨k,hk,e⟩:=x8 (env:=env) h
   refine⟨k,hk,?_⟩
   show List.lookup x ((if (k0 == NameKind.free && env.scope.kind == .function && env.kindOf n == some .cell)=true then (n,NameKind.cell) else (n,k0))::_)=some k
   have:(if (k0 == NameKind.free && env.scope.kind == .function && env.kindOf n == some .cell)=true then (n,NameKind.cell) else (n,k0)).1=n:=by split<;>rfl
   rw[List.lookup_cons,this,hx]
   exact e
section
variable {X:Cx}{pins:List (Addr×Obj)}{σ:St}{H:Hp}{s:Shared}{scope:Scope}{cl:List (Str×Addr)}{nt:Nat}{N':List Str}{idx:List Nat}{fp:List Addr}
noncomputable def ZM (nt:Nat)(idx:List Nat)(σ:St)(p:Addr):St:=List.replicate nt none++(idx.map λi=>σ.getD i none)++[some (.ref p)]
theorem vI {h1:Heap}{tk:Nat}{p:Addr}(B:BlkScope X scope cl nt N' idx)(I:Inv X pins σ H s)(hf:∀ b ∈ fp,FpOk X pins H b)(ho:∀ b ∈ fp,∃ o,s.heap.get? b=some o/\∀ v,o.data≠.cell v)
  (hn:h1.Ns s.heap.objs.size (λ_=>none))(hk:∀ b o,s.heap.get? b=some o->h1.get? b=some o) :
  Inv (zj X scope cl N' s.heap.objs.size s H fp (X.pn++pins)) [] (ZM nt idx σ p) H { s with heap:=h1,toks:=tk }:=by
 have szlt:∀ b o,s.heap.get? b=some o->b≠s.heap.objs.size:=λb o q=>Nat.ne_of_lt (Heap.lt_size q)
 have stk:∀ b ∈ fp,b ∉ frs X.stack:=λb hb z=>by
  obtain⟨_,h2,h3,_⟩:=hf b hb
  rcases List.mem_cons.mp (I.stkSub b z) with q | q
  ·exact h2 q
  ·exact h3 q
 have ok:(zj X scope cl N' s.heap.objs.size s H fp (X.pn++pins)).Ok:=by
  refine⟨I.ok.mod,B.kind,I.ok.glob,I.ok.blt,Nat.le_refl _,λx y c e1 e2=>I.ok.inj x y c (B.sub x c e1) (B.sub y c e2),λx hx=>?_,(λx c e=>by cases e),I.ok.hd,I.ok.frames,.inl rfl,λb hb=>?_,I.bs,Nat.le_trans I.ok.bsz I.sz,λb o e hb=>?_,stk,I.stack,I.stkFree⟩
  ·have hx':(relabel scope X.env).names.lookup x=some .cell\/(relabel scope X.env).names.lookup x=some .free:=hx
   have:scope.names.lookup x=some .free:=by
    rcases hx' with z | z
    ·exact YO B.nocell z (.inl rfl)
    ·exact YO B.nocell z (.inr rfl)
   exact Option.isSome_iff_exists.mp (B.has x this)
  ·obtain⟨o,q,_⟩:=ho b hb
   exact⟨szlt b o q,λx c e=>(hf b hb).2.2.2.2.1 x c (B.sub x c e)⟩
  ·obtain⟨_,_,_,h4,_⟩:=hf b hb
   rcases h4 with z | z
   ·exact I.ok.noex b o e z
   ·have h5:b<X.base.objs.size:=Heap.lt_size e
    exact absurd (Nat.lt_of_lt_of_le h5 (Nat.le_trans I.ok.bsz z)) (Nat.lt_irrefl _)
 refine⟨ok,rfl,I.bare,Un.kept hk,⟨_,hn,λi x v e1 e2 e3=>?_⟩,λx c e=>?_,I.hok.fresh (Nat.le_refl _),λx c e=>I.freeC x c (B.sub x c e),λq hq=>?_,I.hok.kept hk,?_⟩
 ·have e1':N'[i]? = some x:=e1
  have e3':Vis (relabel scope X.env) x:=e3
  by_cases h1:i<nt
  ·exfalso
   unfold ZM at e2
   rw[List.append_assoc,List.getElem?_append_left (by simpa using h1),List.getElem?_replicate]at e2
   split at e2<;>cases e2
  ·by_cases h2:i<nt+idx.length
   ·obtain⟨j,rfl⟩ : ∃ j,i=nt+j:=⟨i - nt,by omega⟩
    have hj:j<idx.length:=by omega
    have ej:idx[j]? = some idx[j]:=List.getElem?_eq_getElem hj
    obtain⟨y,y1,y2,y3,y4⟩:=B.cap j _ ej
    rw[e1']at y2
    cases y2
    have ev:σ[idx[j]]? = some (some v):=by
     unfold ZM at e2
     rw[List.getElem?_append_left (by simp;omega),List.getElem?_append_right (by simp),List.getElem?_map]at e2
     simp only[List.length_replicate,Nat.add_sub_cancel_left,ej,Option.map_some]at e2
     have e2':=Option.some.inj e2
     rw[List.getD_eq_getElem?_getD]at e2'
     cases q:σ[idx[j]]? with
     |none=>rw[q]at e2';cases e2'
     |some o=>rw[q]at e2';exact congrArg some e2'
    obtain⟨m,hm,hl⟩:=I.loc
    obtain⟨u,r,l⟩:=hl _ x v y1 ev (.inr (.inl y4))
    refine⟨u,r,.inr ?_⟩
    have hc:∃ c,X.env.cells.lookup x=some c/\s.heap.IsCell c (some u):=by
     rcases l with ⟨k,_⟩ | ⟨_,c,e,z⟩
     ·have k':X.env.scope.names.lookup x=some .local:=k
      rw[y4]at k'
      cases k'
     ·exact⟨c,e,z⟩
    obtain⟨c,e,z⟩:=hc
    obtain⟨c',e'⟩:=Option.isSome_iff_exists.mp (B.has x y3)
    have:=B.sub x c' e'
    rw[e]at this
    cases this
    obtain⟨k,hk',hlk⟩:=x8 (env:=X.env) y3
    obtain⟨o,ho,hd⟩:=z
    refine⟨?_,c,e',o,hk _ _ ho,hd⟩
    rcases hk' with rfl | rfl
    ·exact .inl hlk
    ·exact .inr hlk
   ·exfalso
    have hil:i<N'.length:=(List.getElem?_eq_some_iff.mp e1').1
    have:i=nt+idx.length:=by rw[B.len]at hil;omega
    subst this
    obtain⟨y,y1,y2⟩:=B.acc
    rw[e1']at y1
    cases y1
    have hno:=x3 (env:=X.env) y2
    have hno':(relabel scope X.env).names.lookup x=none:=hno
    unfold Vis at e3'
    rw[hno']at e3'
    rcases e3' with z | z | z<;>cases z
 ·obtain⟨v,o,ho,hd⟩:=I.cell x c (B.sub x c e)
  exact⟨v,o,hk _ _ ho,hd⟩
 ·have hq0:q ∈ (X.pn++pins)++[]:=hq
  have hq':q ∈ X.pn++pins:=by rw[List.append_nil]at hq0;exact hq0
  obtain⟨p1,p2,p3,p4,p5⟩:=I.pin q hq'
  refine⟨hk _ _ p1,p2,szlt _ _ p1,λz=>?_,p5⟩
  rcases List.mem_cons.mp (I.stkSub q.1 z) with y | y
  ·exact p3 y
  ·exact p4 y
 ·show (ZM nt idx σ p).length=N'.length
  rw[B.len]
  unfold ZM
  simp
  omega
theorem vm {s':Shared}{h'':Heap}{pins':List (Addr×Obj)}{C:Addr}{σ':St}{H':Hp}(I:Inv X pins σ H s)(hf:∀ b ∈ fp,FpOk X pins H b)(J:Inv (zj X scope cl N' C s H fp (X.pn++pins)) pins' σ' H' s')
  (hC:s.heap.objs.size<=C)(hs:Heap.SameBut C s'.heap h'')(hk:HOk X.prog X.w H' h''):Inv X pins σ H' { s' with heap:=h'' }:=by
 have up:∀ b o,b≠C->s'.heap.get? b=some o->h''.get? b=some o:=λb o n q=>(hs.2 b n).trans q
 have ne:∀ b o,s.heap.get? b=some o->b≠C:=λb o q z=>by
  subst z
  exact absurd (Nat.lt_of_lt_of_le (Heap.lt_size q) hC) (Nat.lt_irrefl _)
 have u:=J.base
 refine I.call' (s':={ s' with heap:=h'' }) (ch:=fp) J.os ⟨λb o q n hb hx=>up b o (ne b o q) (u.keep b o q n hb hx),λb o q n hb hx=>?_,u.free,λb o q hx=>?_,u.tups,u.frzs,u.tbls⟩ hk J.bare λb hb=>?_
 ·obtain⟨sl,e⟩:=u.slot b o q n hb hx
  exact⟨sl,up b _ (ne b o q) e⟩
 ·obtain⟨o',e⟩:=u.there b o q hx
  exact⟨o',up b _ (ne b o q) e⟩
 ·obtain⟨h1,h2,h3,h4,h5,h6⟩:=hf b hb
  exact⟨h4,h2,h5,h6⟩
end
end PM
namespace PM
open PySem PySem.Spec PyProof.Rows L2
section
variable {K:PySem.W.Frag}
theorem Ui {H0 H0' G H H':Hp}{s:Slot}{o:Option (Option V)}(h:YM K H0 G H s o):YM K H0' G H' (vk s) o:=by
 cases s with
 |un=>exact trivial
 |fz d=>exact h
 |own d=>exact trivial
 |dic d=>exact trivial
 |own2 d=>exact trivial
 |dicT d=>exact trivial
 |ownM d=>exact trivial
 |obj C d=>exact trivial
 |junk n=>exact trivial
theorem Uj (s:Slot){H:Hp}{o:Option (Option V)}{b:Addr}:¬ (vk s).foot H o b:=by cases s<;>exact λh=>h
theorem VR {G0 H0:Hp}{ρ:Rho}{σ:St}{G H:Hp}{nt:Nat}{idx:List Nat}{p:Addr}{acc:Slot}(hacc:acc=.own []\/acc=.own2 []\/acc=.ownM [])(ho:Hold K G0 H0 ρ σ G H)(hp:H p=none)(hidx:∀ i ∈ idx,i<σ.length) :
  Hold K G H (yx acc nt idx ρ) (ZM nt idx σ p) G (upd H p (.lst [])):=by
 have hg:G p=none:=ho.e.s.free hp
 have cases3:∀ (i:Nat)(s:Slot),(yx acc nt idx ρ)[i]? = some s->(s=.un)\/(∃ j k,i=nt+j/\idx[j]? = some k/\s=vk (ρ.getD k .un)/\(ZM nt idx σ p)[i]? = some (σ.getD k none))\/(i=nt+idx.length/\s=acc/\(ZM nt idx σ p)[i]? = some (some (.ref p))):=λi s e=>by
  unfold yx at e
  by_cases h1:i<nt
  ·rw[List.append_assoc,List.getElem?_append_left (by simpa using h1),List.getElem?_replicate]at e
   split at e<;>first | (cases e;exact .inl rfl) | cases e
  ·by_cases h2:i<nt+idx.length
   ·obtain⟨j,rfl⟩ : ∃ j,i=nt+j:=⟨i - nt,by omega⟩
    have hj:j<idx.length:=by omega
    have ej:idx[j]? = some idx[j]:=List.getElem?_eq_getElem hj
    rw[List.getElem?_append_left (by simp;omega),List.getElem?_append_right (by simp),List.getElem?_map]at e
    simp only[List.length_replicate,Nat.add_sub_cancel_left,ej,Option.map_some]at e
    cases e
    refine .inr (.inl ⟨j,idx[j],rfl,ej,rfl,?_⟩)
    unfold ZM
    rw[List.getElem?_append_left (by simp;omega),List.getElem?_append_right (by simp),List.getElem?_map]
    simp only[List.length_replicate,Nat.add_sub_cancel_left,ej,Option.map_some]
   ·have hi:i<(List.replicate nt Slot.un++(idx.map λi=>vk (ρ.getD i .un))++[acc]).length:=(List.getElem?_eq_some_iff.mp e).1
    have hi':i=nt+idx.length:=by simp at hi;omega
    subst hi'
    rw[List.getElem?_append_right (by simp)]at e
    simp at e
    refine .inr (.inr ⟨rfl,e.symm,?_⟩)
    unfold ZM
    rw[List.getElem?_append_right (by simp)]
    simp
 refine⟨⟨Same.refl _,ho.e.s.trans (Same.upd hp),λ_ _ e=>e,Same.upd hp⟩,Same.upd hp,λi s e=>?_,λi j si sj a e1 e2 m1 m2=>?_,by unfold yx ZM;simp⟩
 ·rcases cases3 i s e with rfl | ⟨j,k,rfl,ek,rfl,es⟩ | ⟨rfl,rfl,es⟩
  ·exact trivial
  ·rw[es]
   have hk:=hidx k (List.mem_of_getElem? ek)
   have hkρ:k<ρ.length:=by rw[ho.len];exact hk
   have q:=ho.sl k ρ[k] (List.getElem?_eq_getElem hkρ)
   have e1:ρ.getD k .un=ρ[k]:=by rw[List.getD_eq_getElem?_getD,List.getElem?_eq_getElem hkρ];rfl
   have e2:σ[k]? = some (σ.getD k none):=by rw[List.getD_eq_getElem?_getD,List.getElem?_eq_getElem hk];rfl
   rw[e1,<-e2]
   exact Ui q
  ·rw[es]
   rcases hacc with rfl | rfl | rfl
   ·exact⟨p,[],rfl,upd_same,hg,hp,zJ.nil⟩
   ·exact⟨p,[],rfl,upd_same,hg,hp,(by simp),List.nodup_nil,rfl,λk b ds h=>by simp at h⟩
   ·exact⟨p,[],[],rfl,upd_same,hg,hp,(by simp),List.nodup_nil,rfl,rfl,λk t b g n ds h=>by simp at h⟩
 ·have only:∀ {i:Nat}{s:Slot},(yx acc nt idx ρ)[i]? = some s->∀ {H':Hp}{o:Option (Option V)}{c:Addr},s.foot H' o c->i=nt+idx.length:=fun {i s} e {H' o c} m=>by
   rcases cases3 i s e with rfl | ⟨j,k,rfl,ek,rfl,es⟩ | ⟨rfl,rfl,es⟩
   ·exact m.elim
   ·exact absurd m (Uj _)
   ·rfl
  rw[only e1 m1,only e2 m2]
end
section
variable {X:Cx}{E:XK}{elt iter tg:Expr}{scope:Scope}{cl:List (Str×Addr)}{nt:Nat}{N':List Str}{idx:List Nat}{pos:Pos}{mi:M (List D)}{gm:GM}{me:M D}
noncomputable def RGk (K:PySem.W.Frag)(g:TG)(gm:GM) (k:Nat):Prop:=∀ G0 H0 ρ σ G H d v (Q:St->Hp->Prop),Hold K G0 H0 ρ σ G H->Rep K G d v ->
 (∃ ρ',gm d ρ=some ρ'/\∀ (σ':St) G' H',Same G G'->Hold K G0 H0 ρ' σ' G' H'->(∀ t,k<=t->σ'[t]? = σ[t]?)->Q σ' H')->g v σ H Q
noncomputable def MGk (X:Cx)(tg:Expr)(gm:GM) (k:Nat):Prop:=∃ g,PG X tg g/\RGk X.K g gm k
theorem Zk (i k:Nat){x:Str}(hik:i<k)(hN:X.N.Nodup)(hi:autoParam (X.N[i]? = some x) aR._auto_1)(hx:autoParam (Loc X.env.scope x) aL._auto_1)(hf:autoParam (X.fn x=true\/X.env.scope.names.lookup x=some .local) aF._auto_1):MGk X (.Name x pos) (zx i) k:=
 ⟨_,pg_name hN hi hx hf,λG0 H0 ρ σ G H d v Q ho r ⟨ρ',e,hQ⟩=>by
  cases e
  exact hQ _ G H (Same.refl _) (ho.setFz r) λt ht=>List.getElem?_set_ne (by omega)⟩
noncomputable def MC (X:Cx)(ifs:List Expr)(c:Option (M Bool)):Prop:=(ifs=[]/\c=none)\/∃ e m,ifs=[e]/\c=some m/\MT X E0 e m
noncomputable def ElR (X:Cx)(elt:Expr)(bm:M Fl) (k:Nat):Prop:=∀ (pins:List (Addr×Obj))(s:Shared)(σ:St)(H G0 H0 G:Hp)(ρ:Rho)(p:Addr)(D:Ends)(E':Value->Shared->Prop),Inv X pins σ H s->Hold X.K G0 H0 ρ σ G H->σ[k]? = some (some (.ref p))->zU X.K E0 G0 H0 G (bm ρ) D->(∀ v s,X.xe v s->E' v s) ->
 wpAny (model X.prog X.w) X.A (eval elt X.env) (λxv s₄=>wpAny (model X.prog X.w) X.A (call (.builtin "list.append") [.ref p,xv]) (λ_ s₅=>∃ H5,Inv X pins σ H5 s₅/\D.nx σ H5) E' s₄) E' s
theorem Jg {k:Nat}(he:ME X E0 elt me):ElR X elt (zr k me) k:=by
 intro pins s9 σ8 H9 G1 H2 G9 ρ9 p D E' I9 h9 k8 p9 hx
 obtain⟨te,pe,re⟩:=he
 unfold zr at p9
 cases eo:zn ρ9[k]? with
 |none=>rw[eo]at p9;exact p9.elim
 |some ys0=>
  rw[eo]at p9
  have p9':zU X.K E0 G1 H2 G9 ((me ρ9).bnd λx ρ=>(z8 (zn ρ[k]?) ρ).bnd λds ρ=>if ds.length<sizeLine then .ok .nx (ρ.set k (.own (ds++[x]))) else .bad) D:=p9
  have step:=re G1 H2 ρ9 σ8 G9 H9 h9 (λxx H10=>∃ dd ρ10 G10,me ρ9=.ok dd ρ10/\Same G9 G10/\Hold X.K G1 H2 ρ10 σ8 G10 H10/\Rep X.K G10 dd xx) (by
   cases qe:me ρ9 with
   |ok dd ρ10=>exact λxx G' H' s1 h1 r1=>⟨dd,ρ10,G',rfl,s1,h1,r1⟩
   |exn cc ρ10=>rw[qe]at p9';exact λG' H' s1 h1=>p9' σ8 G' H' s1 h1
   |bad=>rw[qe]at p9';exact p9')
  refine wpAny_mono (pe _ s9 σ8 H9 _ I9 step) (λxu s10 ⟨xx,H10,I10,r10,dd,ρ10,G10,qe,sg10,h10,rd⟩=>?_) hx
  rw[qe]at p9'
  have p10:zU X.K E0 G1 H2 G9 ((z8 (zn ρ10[k]?) ρ10).bnd λds ρ=>if ds.length<sizeLine then .ok .nx (ρ.set k (.own (ds++[dd]))) else .bad) D:=p9'
  cases eo2:zn ρ10[k]? with
  |none=>rw[eo2]at p10;exact p10.elim
  |some ys=>
   rw[eo2]at p10
   obtain⟨a,ws,a1,a2,a3,a4,a5⟩:=h10.own eo2
   have a1':=a1
   rw[k8]at a1'
   cases a1'
   by_cases hz:ys.length<sizeLine
   ·simp only[zz,Res.bnd_ok,if_pos hz]at p10
    refine wpAny_mono (mt_append (X:=X) _ s10 σ8 H10 (.ref _) [xx] (.ref _) [xu] (λ_ H11=>H11=upd H10 p (.lst (ws++[xx]))) I10 rfl (.cons r10 .nil) ⟨_,ws,xx,rfl,rfl,a2,by rw[a5.ln];exact hz,rfl⟩) (λ_ s11 ⟨_,H11,I11,_,e11⟩=>?_) hx
    subst e11
    exact⟨_,I11,p10 σ8 G10 _ sg10 (h10.setMut (Zn eo2) rfl a1 a3 a4 (s':=.own (ys++[dd])) ⟨_,ws++[xx],rfl,upd_same,a3,a4,a5.app (zJ.cons rd zJ.nil)⟩ rfl)⟩
   ·exfalso
    simp only[zz,Res.bnd_ok,if_neg hz]at p10
    exact p10
inductive LoopI (X XB:Cx)(tn:Nat->Heap->Prop)(fp:List Addr) (len nt:Nat)(σ0:St)(G1 B2:Hp)(M:Nat->Rho->Res Fl)(Dn:Ends) (n:Nat)(s':Shared):Prop where
 |mk (i:Nat)(σ':St)(H':Hp)(ρ':Rho)(G':Hp)(I:Inv XB [] σ' H' s')(st:tn i s'.heap)(fr:∀ b ∈ fp,H' b=none)(e:n=len - i)(hi:i<=len)(k:∀ t,nt<=t->σ'[t]? = σ0[t]?)(sg:Same G1 G')(h:Hold X.K G1 B2 ρ' σ' G' H')(p:zU X.K E0 G1 B2 G' (M i ρ') Dn)
theorem Uf {ifs:List Expr}{c:Option (M Bool)}{use:Option (Value->Sem Unit)}{QQ:Value->Shared->Prop}{pins:List (Addr×Obj)}{s:Shared}{σ:St}{H:Hp}{wi:TI}{cpos:Pos}{R0:Rho->Rho}{B:Hp->Hp}{bm:M Fl}(hcalm:X.calm=true)(Bs:BlkScope X scope cl nt N' idx)(hidx:∀ i ∈ idx,i<X.N.length)
  (hg:∀ C s H fp pn,MGk (zj X scope cl N' C s H fp pn) tg gm nt)(hc:∀ C s H fp pn,MC (zj X scope cl N' C s H fp pn) ifs c)(he:∀ C s H fp pn,ElR (zj X scope cl N' C s H fp pn) elt bm (nt+idx.length))
  (hs:∀ x,foldedSetIterable iter X.env x=pure x)(I:Inv X pins σ H s)(pw:PI X tg iter wi)(G0 H0 G:Hp)(ρ:Rho)(hblk:∀ ρ1 G1 H2 p,Hold X.K G0 H0 ρ1 σ G1 H2->H2 p=none->Hold X.K G1 (B H2) (R0 ρ1) (ZM nt idx σ p) G1 (upd H2 p (.lst [])))
  (hR:wi σ H (λJ H'=>∃ ds ρ1 G1,mi ρ=.ok ds ρ1/\Same G G1/\Hold X.K G0 H0 ρ1 σ G1 H'/\ItOk X.K J G1 ds))
  (some_:∀ ds ρ1,mi ρ=.ok ds ρ1->∃ ρ2,zY gm (Zt c bm) ds (R0 ρ1)=.ok .nx ρ2)
  (fin:∀ ds ρ1 ρ2 σ7 G1 H2 G7 H5 p C s6,mi ρ=.ok ds ρ1->zY gm (Zt c bm) ds (R0 ρ1)=.ok .nx ρ2->Same G G1->Hold X.K G0 H0 ρ1 σ G1 H2->Hold X.K G1 (B H2) ρ2 σ7 G7 H5->(∀ t,nt<=t->σ7[t]? = (ZM nt idx σ p)[t]?)->H2 p=none ->
   Inv X pins σ H5 s6->(∃ m,s6.heap.Ns C m)->H5 C=none->C≠X.env.locals->X.s₀.heap.objs.size<=C->(∀ x cc,X.env.cells.lookup x=some cc->cc≠C)->(∀ q ∈ X.pn++pins,q.1≠C)->compPost (model X.prog X.w) X.A X.xe use QQ (.ref p) C (.ok .next) s6) :
  wpAny (model X.prog X.w) X.A (comprehension (.ListComp elt [⟨tg,iter,ifs,0⟩] scope pos) scope X.env cpos (newList []) false (eval iter X.env) use) QQ X.xe s:=by
 refine wpAny_comprehension_free rfl hs Bs.clos Bs.kind Bs.names ?_
 refine wpAny_mono (pw pins s σ H _ I hR) (λxv s1 h1=>wpAny_mono h1 (λitv s2 h2=>?_) λ_ _ e=>e) λ_ _ e=>e
 obtain⟨it,fp,tn,J,H2,rfl,I2,T,st2,f2,ds,ρ1,G1,emi,sg1,h1,io⟩:=h2
 obtain⟨ρF,hysF⟩:=some_ ds ρ1 emi
 refine wpAny_newObj_type ?_
 have I3:Inv X pins σ (upd H2 s2.heap.objs.size (.lst [])) { s2 with heap:=s2.heap.push { cls:=.type "list",data:=.seq ([]:List Value).toArray } }:=I2.lnew (t':=s2.toks) (its:=[]) (ys:=[]) .nil (Nat.zero_le _)
 have hp:H2 s2.heap.objs.size=none:=I2.fresh
 refine wpAny_newFunctionEnv Bs.nocell (by intro y hy;simp at hy) (λh₁ hns₁ hsb₁=>?_) Bs.kind
 dsimp only at hns₁ hsb₁ ⊢
 generalize hs3:({ s2 with heap:=s2.heap.push { cls:=.type "list",data:=.seq ([]:List Value).toArray } }:Shared)=s3 at I3
 have es3:s3.heap=s2.heap.push { cls:=.type "list",data:=.seq ([]:List Value).toArray }:=by rw[<-hs3]
 generalize hC:(s2.heap.push { cls:=.type "list",dict:=none,data:=.seq ([]:List Value).toArray }).objs.size=C at hns₁ hsb₁ ⊢
 have hC3:C=s3.heap.objs.size:=by rw[es3];exact hC.symm
 have hk:∀ b o,s3.heap.get? b=some o->h₁.get? b=some o:=λb o e=>by
  have hlt:=Heap.lt_size e
  exact hsb₁.extBut b o (by rw[hC3];exact Nat.ne_of_lt hlt) (Heap.get?_push_of_some _ (by rw[es3]at e;exact e))
 have f3:∀ b ∈ fp,FpOk X pins (upd H2 s2.heap.objs.size (.lst [])) b:=λb hb=>by
  obtain⟨g1,g2⟩:=f2 b hb
  refine⟨?_,g2⟩
  obtain⟨o,eo,_⟩:=T.obj _ _ st2 b hb
  rw[upd_ne (Nat.ne_of_lt (Heap.lt_size eo))]
  exact g1
 have st3:tn 0 s3.heap:=T.keep _ _ _ st2 λb hb o e=>by rw[es3];exact Heap.get?_push_of_some _ e
 have st4:tn 0 h₁:=T.keep _ _ _ st3 λb hb o e=>hk b o e
 have IB:=vI (p:=s2.heap.objs.size) (tk:=s3.toks+([]:List (Str×Value)).length) Bs I3 f3 (T.obj _ _ st3) (hC3 ▸ hns₁) hk
 rw[<-hC3]at IB
 have hB0:Hold X.K G1 (B H2) (R0 ρ1) (ZM nt idx σ s2.heap.objs.size) G1 (upd H2 s2.heap.objs.size (.lst [])):=hblk ρ1 G1 H2 _ h1 hp
 -- the end of all turns
 let Dn:Ends:={ nx:=λσ' H'=>∃ ρ'' G'',Same G1 G''/\Hold X.K G1 (B H2) ρ'' σ' G'' H'/\zY gm (Zt c bm) ds (R0 ρ1)=.ok .nx ρ'',rt:=λ_ _=>False }
 have hP0:zU X.K E0 G1 (B H2) G1 (zY gm (Zt c bm) ds (R0 ρ1)) Dn:=by
  rw[hysF]
  exact λσ' G' H' s1 h1=>⟨ρF,G',s1,h1,hysF⟩
 have loop:∀ s4:Shared,s4={ s3 with heap:=h₁,toks:=s3.toks+([]:List (Str×Value)).length } ->
   codeAny (model X.prog X.w) X.A (.compLoop (.ListComp elt [⟨tg,iter,ifs,0⟩] scope pos) 0 (.ref it) (.ref s2.heap.objs.size) (compEnvC scope cl C X.env)) (compPost (model X.prog X.w) X.A X.xe use QQ (.ref s2.heap.objs.size) C) s4:=by
  rintro s4 rfl
  refine Vb (λn s'=>LoopI X (zj X scope cl N' C s3 (upd H2 s2.heap.objs.size (.lst [])) fp (X.pn++pins)) tn fp ds.length nt (ZM nt idx σ s2.heap.objs.size) G1 (B H2) (λi=>zY gm (Zt c bm) (ds.drop i)) Dn n s') ?_ ds.length
   ⟨0,_,_,_,G1,IB,st4,λb hb=>(f3 b hb).1,by simp,Nat.zero_le _,λ_ _=>rfl,Same.refl _,hB0,by simpa using hP0⟩
  rintro n s5 ⟨i,σ5,H5,ρ5,G5,I5,st5,fr5,rfl,hi5,k5,sg5,h5,p5⟩
  have stat:∀ {H':Hp},(∀ b ∈ fp,H' b=none)->∀ b ∈ fp,FpOk (zj X scope cl N' C s3 (upd H2 s2.heap.objs.size (.lst [])) fp (X.pn++pins)) [] H' b:=fun {H'} hn b hb=>by
   obtain⟨g1,g2,g3,g4,g5,g6⟩:=f3 b hb
   obtain⟨o,eo,_⟩:=T.obj _ _ st3 b hb
   refine⟨hn b hb,by rw[show (zj X scope cl N' C s3 (upd H2 s2.heap.objs.size (.lst [])) fp (X.pn++pins)).env.locals=C from rfl,hC3];exact Nat.ne_of_lt (Heap.lt_size eo),I5.ok.exfs b hb,.inl hb,λx cc e=>g5 x cc (Bs.sub x cc e),λq hq=>?_⟩
   have hq0:q ∈ (X.pn++pins)++[]:=hq
   rw[List.append_nil]at hq0
   exact g6 q hq0
  by_cases hlt:i<ds.length
  ·have hd:ds[i]? = some ds[i]:=List.getElem?_eq_getElem hlt
   obtain⟨go,yl⟩:=io.go G5 H5 i _ sg5 h5.e.s hd
   rw[List.drop_eq_getElem_cons hlt]at p5
   unfold zY at p5
   refine wpAny_mono (T.item (zj X scope cl N' C s3 (upd H2 s2.heap.objs.size (.lst [])) fp (X.pn++pins)) rfl rfl rfl hcalm i [] s5 σ5 H5 _ I5 (stat fr5) st5 go) (λr s6 ⟨u,hr,h6⟩=>?_) λ_ _ e=>e
   subst hr
   refine wpAny_mono h6 (λ_ s7 ⟨x,H7,I7,r7,y7,st7,fr7⟩=>?_) λ_ _ e=>e
   obtain⟨G7,ex7,hs7,rv⟩:=yl x H7 y7
   replace sg5:=sg5.trans ex7.g
   replace h5:=h5.grow ex7 hs7
   replace p5:=zU.mono ex7.g p5
   have I7':=I7.pinned (stat fr7) (T.obj _ _ st7)
   obtain⟨g,pg,rg⟩:=hg C s3 (upd H2 s2.heap.objs.size (.lst [])) fp (X.pn++pins)
   -- behind an item: the next turn
   have again:∀ {σ9:St}{H9:Hp}{s9:Shared},Inv (zj X scope cl N' C s3 (upd H2 s2.heap.objs.size (.lst [])) fp (X.pn++pins)) ([]++pinsAt fp s7.heap) σ9 H9 s9->(∀ t,nt<=t->σ9[t]? = (ZM nt idx σ s2.heap.objs.size)[t]?) ->
     (∃ ρ9 G9,Same G1 G9/\Hold X.K G1 (B H2) ρ9 σ9 G9 H9/\zU X.K E0 G1 (B H2) G9 (zY gm (Zt c bm) (ds.drop (i+1)) ρ9) Dn) ->
     ∃ m,m<ds.length - i/\LoopI X (zj X scope cl N' C s3 (upd H2 s2.heap.objs.size (.lst [])) fp (X.pn++pins)) tn fp ds.length nt (ZM nt idx σ s2.heap.objs.size) G1 (B H2) (λi=>zY gm (Zt c bm) (ds.drop i)) Dn m s9:=fun {σ9 H9 s9} I9 k9 ⟨ρ9,G9,sg9,h9,p9⟩=>by
    refine⟨ds.length - (i+1),by omega,i+1,σ9,H9,ρ9,G9,I9.unpinned,T.keep _ _ _ st7 λb hb o e=>(I9.pin (b,o) (List.mem_append_right _ (List.mem_append_right _ (mem_pinsAt hb e)))).1,λb hb=>?_,rfl,hlt,k9,sg9,h9,p9⟩
    obtain⟨o,e,d⟩:=T.obj _ _ st7 b hb
    exact (I9.pin (b,o) (List.mem_append_right _ (List.mem_append_right _ (mem_pinsAt hb e)))).2.1
   cases q:gm ds[i] ρ5 with
   |none=>rw[q]at p5;exact p5.elim
   |some ρ6=>
    rw[q]at p5
    have p6:zU X.K E0 G1 (B H2) G7 ((Zt c bm ρ6).bnd λf ρ=>yp f ρ (zY gm (Zt c bm) (ds.drop (i+1)))) Dn:=p5
    refine wpAny_mono (pg _ s7 σ5 H7 x u (λσ8 H8=>∃ G8,Same G7 G8/\Hold X.K G1 (B H2) ρ6 σ8 G8 H8/\(∀ t,nt<=t->σ8[t]? = σ5[t]?)) I7' r7 (rg G1 (B H2) ρ5 σ5 G7 H7 ds[i] x _ h5 rv ⟨ρ6,q,λσ' G' H' s h e=>⟨G',s,h,e⟩⟩)) (λ_ s8 ⟨σ8,H8,I8,G8,sg8,h8,k8⟩=>?_) (λ_ _ f=>f.elim)
    replace k8:∀ t,nt<=t->σ8[t]? = (ZM nt idx σ s2.heap.objs.size)[t]?:=λt ht=>(k8 t ht).trans (k5 t ht)
    have k8a:σ8[nt+idx.length]? = some (some (.ref s2.heap.objs.size)):=(k8 _ (Nat.le_add_right _ _)).trans (by unfold ZM;rw[List.getElem?_append_right (by simp)];simp)
    -- the element
    have elem:∀ (ρ9:Rho)(G9 H9:Hp)(s9:Shared)(E':Value->Shared->Prop),Inv (zj X scope cl N' C s3 (upd H2 s2.heap.objs.size (.lst [])) fp (X.pn++pins)) ([]++pinsAt fp s7.heap) σ8 H9 s9->Same G1 G9->Hold X.K G1 (B H2) ρ9 σ8 G9 H9 ->
      zU X.K E0 G1 (B H2) G9 ((bm ρ9).bnd λf ρ=>yp f ρ (zY gm (Zt c bm) (ds.drop (i+1)))) Dn ->
      wpAny (model X.prog X.w) X.A (eval elt (compEnvC scope cl C X.env)) (λxv s₄=>wpAny (model X.prog X.w) X.A (call (.builtin "list.append") [.ref s2.heap.objs.size,xv]) (λ_ s₅=>∃ m,m<ds.length - i/\LoopI X (zj X scope cl N' C s3 (upd H2 s2.heap.objs.size (.lst [])) fp (X.pn++pins)) tn fp ds.length nt (ZM nt idx σ s2.heap.objs.size) G1 (B H2) (λi=>zY gm (Zt c bm) (ds.drop i)) Dn m s₅) E' s₄) E' s9:=λρ9 G9 H9 s9 E' I9 sg9 h9 p9=>by
     refine wpAny_mono (he C s3 (upd H2 s2.heap.objs.size (.lst [])) fp (X.pn++pins) _ s9 σ8 H9 G1 (B H2) G9 ρ9 _ { nx:=λσ' H'=>∃ ρ2 G2,bm ρ9=.ok .nx ρ2/\Same G9 G2/\Hold X.K G1 (B H2) ρ2 σ' G2 H',rt:=λ_ _=>False,bk:=λ_ _=>True,ct:=λ_ _=>True } E' I9 h9 k8a ?_ λ_ _ f=>f.elim)
      (λxv s4 h4=>wpAny_mono h4 (λ_ s5 ⟨H5,I5,ρ2,G2,eb,sg2,h2⟩=>again I5 k8 ⟨ρ2,G2,sg9.trans sg2,h2,by rw[eb]at p9;exact zU.mono sg2 p9⟩) λ_ _ e=>e) λ_ _ e=>e
     cases qb:bm ρ9 with
     |ok fl ρ2=>
      rw[qb]at p9
      cases fl with
      |nx=>exact λσ' G' H' s1 h1=>⟨ρ2,G',rfl,s1,h1⟩
      |ret d=>exact p9
      |brk=>exact λ_ _ _ _ _=>trivial
      |cont=>exact λ_ _ _ _ _=>trivial
     |exn cc ρ2=>rw[qb]at p9;exact p9
     |bad=>rw[qb]at p9;exact p9
    rcases hc C s3 (upd H2 s2.heap.objs.size (.lst [])) fp (X.pn++pins) with ⟨rfl,rfl⟩ | ⟨ce,cm,rfl,rfl,tc,pc,rc⟩
    ·refine wpAny_tests_nil ?_
     rw[if_pos rfl]
     exact elem ρ6 G8 H8 s8 _ I8 (sg5.trans sg8) h8 (zU.mono sg8 p6)
    ·refine wpAny_tests_one ?_
     have p6':zU X.K E0 G1 (B H2) G7 ((ifM cm bm nxM ρ6).bnd λf ρ=>yp f ρ (zY gm (Zt (some cm) bm) (ds.drop (i+1)))) Dn:=p6
     unfold ifM at p6'
     have step:=rc G1 (B H2) ρ6 σ8 G8 H8 h8 (λbb H10=>∃ ρ10 G10,cm ρ6=.ok bb ρ10/\Same G8 G10/\Hold X.K G1 (B H2) ρ10 σ8 G10 H10) (by
      cases qe:cm ρ6 with
      |ok dd ρ10=>exact λxx G' H' s1 h1 r1=>⟨ρ10,G',by rw[r1],s1,h1⟩
      |exn cc ρ10=>rw[qe]at p6';exact λG' H' s1 h1=>p6' σ8 G' H' (sg8.trans s1) h1
      |bad=>rw[qe]at p6';exact p6')
     refine wpAny_mono (pc _ s8 σ8 H8 _ I8 step) (λbb s10 ⟨H10,I10,ρ10,G10,qe,sg10,h10⟩=>?_) (λ_ _ f=>f.elim)
     rw[qe]at p6'
     cases bb with
     |true=>
      rw[if_pos rfl]
      exact elem ρ10 G10 H10 s10 _ I10 (sg5.trans (sg8.trans sg10)) h10 (zU.mono (sg8.trans sg10) p6')
     |false=>
      rw[if_neg (by simp)]
      exact again I10 k8 ⟨ρ10,G10,sg5.trans (sg8.trans sg10),h10,zU.mono (sg8.trans sg10) p6'⟩
  ·have ei:i=ds.length:=by omega
   subst ei
   refine wpAny_mono (T.done (zj X scope cl N' C s3 (upd H2 s2.heap.objs.size (.lst [])) fp (X.pn++pins)) rfl rfl rfl hcalm ds.length [] s5 σ5 H5 _ I5 (stat fr5) st5 (io.stop G5 H5 sg5 h5.e.s)) (λr s6 ⟨hr,I6⟩=>?_) λ_ _ e=>e
   subst hr
   obtain⟨m6,hn6,_⟩:=I6.loc
   rw[List.drop_length]at p5
   obtain⟨ρ7,G7,sg7,h7,e7⟩:=p5 σ5 G5 H5 (Same.refl _) h5
   have IX:=vm (h'':=s6.heap) I3 f3 I6 (by rw[hC3];exact Nat.le_refl _) (Heap.SameBut.refl _ _) I6.hok
   have cst:X.s₀.heap.objs.size<=C:=by rw[hC3];exact I3.sz
   refine fin ds ρ1 ρ7 σ5 G1 H2 G7 H5 _ C s6 emi e7 sg1 h1 h7 k5 hp IX ⟨m6,hn6⟩ I6.free ?_ cst (λx cc e z=>?_) (λq hq z=>?_)
   ·rw[hC3];exact Nat.ne_of_gt I3.lt
   ·obtain⟨v,hv⟩:=I3.cell x cc e
    have:=hv.lt
    rw[z,hC3]at this
    exact Nat.lt_irrefl _ this
   ·have:=Heap.lt_size (I3.pin q hq).1
    rw[z,hC3]at this
    exact Nat.lt_irrefl _ this
 exact codeAny_compStart_list (loop _ (by rw[<-hs3])) (T.self _ 0 _ _ _ st4 (loop _ (by rw[<-hs3])))
theorem uv {nt:Nat}{idx:List Nat}{σ σ7:St}{p:Addr}(k7:∀ t,nt<=t->σ7[t]? = (ZM nt idx σ p)[t]?):σ7[nt+idx.length]? = some (some (.ref p)):=
 (k7 _ (Nat.le_add_right _ _)).trans (by unfold ZM;rw[List.getElem?_append_right (by simp)];simp)
theorem WO {ifs:List Expr}{c:Option (M Bool)}{use:Option (Value->Sem Unit)}{QQ:Value->Shared->Prop}{pins:List (Addr×Obj)}{s:Shared}{σ:St}{H:Hp}{wi:TI}{cpos:Pos}(hcalm:X.calm=true)(B:BlkScope X scope cl nt N' idx)(hidx:∀ i ∈ idx,i<X.N.length)
  (hg:∀ C s H fp pn,MGk (zj X scope cl N' C s H fp pn) tg gm nt)(hc:∀ C s H fp pn,MC (zj X scope cl N' C s H fp pn) ifs c)(he:∀ C s H fp pn,ME (zj X scope cl N' C s H fp pn) E0 elt me)
  (hs:∀ x,foldedSetIterable iter X.env x=pure x)(I:Inv X pins σ H s)(pw:PI X tg iter wi)(G0 H0 G:Hp)(ρ:Rho)
  (hR:wi σ H (λJ H'=>∃ ds ρ1 G1,mi ρ=.ok ds ρ1/\Same G G1/\Hold X.K G0 H0 ρ1 σ G1 H'/\ItOk X.K J G1 ds))
  (some_:∀ ds ρ1,mi ρ=.ok ds ρ1->∃ ys,XT (nt+idx.length) (zY gm (yR (nt+idx.length) c me) ds (ZC nt idx ρ1))=some ys)
  (fin:∀ ds ρ1 ys G1 H2 G7 H5 ws p C s6,mi ρ=.ok ds ρ1->XT (nt+idx.length) (zY gm (yR (nt+idx.length) c me) ds (ZC nt idx ρ1))=some ys->Same G G1->Hold X.K G0 H0 ρ1 σ G1 H2->Ext G1 H2 G7 H5->Same H2 H5->H5 p=some (.lst ws)->G7 p=none->H2 p=none->zJ X.K G7 ys ws ->
   Inv X pins σ H5 s6->(∃ m,s6.heap.Ns C m)->H5 C=none->C≠X.env.locals->X.s₀.heap.objs.size<=C->(∀ x cc,X.env.cells.lookup x=some cc->cc≠C)->(∀ q ∈ X.pn++pins,q.1≠C)->compPost (model X.prog X.w) X.A X.xe use QQ (.ref p) C (.ok .next) s6) :
  wpAny (model X.prog X.w) X.A (comprehension (.ListComp elt [⟨tg,iter,ifs,0⟩] scope pos) scope X.env cpos (newList []) false (eval iter X.env) use) QQ X.xe s:=by
 have hb:yR (nt+idx.length) c me=Zt c (zr (nt+idx.length) me):=QA _ _ _
 have hr:∀ ρ1,ZC nt idx ρ1=yx (.own []) nt idx ρ1:=λ_=>rfl
 simp only[hb,hr]at some_ fin
 refine Uf (mi:=mi) (R0:=yx (.own []) nt idx) (B:=λH=>H) hcalm B hidx hg hc (λC s H fp pn=>Jg (he C s H fp pn)) hs I pw G0 H0 G ρ (λρ1 G1 H2 p h hp=>VR (.inl rfl) h hp λi hi=>by rw[I.len];exact hidx i hi) hR (λds ρ1 emi=>?_) λds ρ1 ρ2 σ7 G1 H2 G7 H5 p C s6 emi e2 sg1 h1 h7 k7 hp=>?_
 ·obtain⟨ys,hy⟩:=some_ ds ρ1 emi
  cases q:zY gm (Zt c (zr (nt+idx.length) me)) ds (yx (.own []) nt idx ρ1) with
  |ok fl ρ''=>
   cases fl with
   |nx=>exact⟨ρ'',rfl⟩
   |ret d=>rw[q]at hy;cases hy
   |brk=>rw[q]at hy;cases hy
   |cont=>rw[q]at hy;cases hy
  |exn cc ρ''=>rw[q]at hy;cases hy
  |bad=>rw[q]at hy;cases hy
 ·obtain⟨ys,hy⟩:=some_ ds ρ1 emi
  have eo:zn ρ2[nt+idx.length]? = some ys:=by rw[e2]at hy;exact hy
  obtain⟨a,ws,a1,a2,a3,a4,a5⟩:=h7.own eo
  rw[uv k7]at a1
  cases a1
  exact fin ds ρ1 ys G1 H2 G7 H5 ws p C s6 emi hy sg1 h1 h7.e h7.b a2 a3 hp a5
theorem xH {ifs:List Expr}{c:Option (M Bool)}(hcalm:X.calm=true)(B:BlkScope X scope cl nt N' idx)(hi:MI X E tg iter mi)(hidx:∀ i ∈ idx,i<X.N.length)
  (hg:∀ C s H fp pn,MGk (zj X scope cl N' C s H fp pn) tg gm nt)(hc:∀ C s H fp pn,MC (zj X scope cl N' C s H fp pn) ifs c)(he:∀ C s H fp pn,ME (zj X scope cl N' C s H fp pn) E0 elt me)
  (hs:∀ x,foldedSetIterable iter X.env x=pure x:=by intro _;rfl):ME X E (.ListComp elt [⟨tg,iter,ifs,0⟩] scope pos) (Z8 mi nt idx gm c me):=by
 refine⟨λσ H Q=>∃ G0 H0 ρ G,Hold X.K G0 H0 ρ σ G H/\Vh X.K E (λG d v=>Rep X.K G d v) G0 H0 σ G (Z8 mi nt idx gm c me ρ) Q,?_,λG0 H0 ρ σ G H ho Q hQ=>⟨G0,H0,ρ,G,ho,hQ⟩⟩
 intro pins s σ H Q I h
 obtain⟨G0,H0,ρ,G,ho,hQ⟩:=h
 obtain⟨wi,pw,ri⟩:=hi
 rw[eval_ListComp]
 unfold Z8 at hQ
 have hR:=ri G0 H0 ρ σ G H (λJ H'=>∃ ds ρ1 G1,mi ρ=.ok ds ρ1/\Same G G1/\Hold X.K G0 H0 ρ1 σ G1 H'/\ItOk X.K J G1 ds) ho (by
  cases q:mi ρ with
  |ok ds ρ1=>exact λJ G' H' sg h1 io=>⟨ds,ρ1,G',rfl,sg,h1,io⟩
  |exn cc ρ1=>rw[q]at hQ;exact hQ
  |bad=>rw[q]at hQ;exact hQ)
 refine WO (mi:=mi) hcalm B hidx hg hc he hs I pw G0 H0 G ρ hR (λds ρ1 emi=>?_) λds ρ1 ys G1 H2 G7 H5 ws p C s6 emi eys sg1 h1 ex sh hp g7 h2 rl IX ⟨m,hn⟩ c1 c2 c3 c4 c5=>?_
 ·rw[emi]at hQ
  simp only[Res.bnd_ok]at hQ
  cases q:XT (nt+idx.length) (zY gm (yR (nt+idx.length) c me) ds (ZC nt idx ρ1)) with
  |none=>rw[q]at hQ;exact hQ.elim
  |some ys=>exact⟨ys,rfl⟩
 ·rw[emi]at hQ
  simp only[Res.bnd_ok,eys,zz]at hQ
  refine⟨m,hn,λh' hs'=>?_⟩
  have IY:Inv X pins σ H5 { s6 with heap:=h' }:=IX.turned (it:=C) (t':=s6.toks) (λb o n e=>(hs'.2 b n).trans e) c1 c2 (.inr c3) c4 c5
  have gg:Ext G1 H2 (upd G7 p (.lst ws)) H5:=by
   refine⟨ex.g.trans (Same.upd g7),λb u q=>?_,λb hb q=>?_,ex.t⟩
   ·by_cases z:b=p
    ·subst z;rw[upd_same]at q;rw[hp];exact q
    ·rw[upd_ne z]at q;exact ex.s _ _ q
   ·rw[upd_ne (λz=>hb.1 (by rw[z];exact h2))];exact ex.n b hb q
  exact⟨.ref p,H5,IY,rfl,hQ _ _ H5 (sg1.trans gg.g) (h1.grow gg sh) (zg.mpr ⟨p,ws,rfl,SqL.of upd_same,rl.mono (Same.upd g7)⟩)⟩
theorem Hold.setOwnAt {K:PySem.W.Frag}{G0 H0:Hp}{ρ:Rho}{σ:St}{G H G7 H5:Hp}{i:Nat}{p:Addr}{ys:List D}{ws:List V}(h:Hold K G0 H0 ρ σ G H)(ex:Ext G H G7 H5)(sh:Same H H5)(hp:H5 p=some (.lst ws))(g7:G7 p=none)(h2:H p=none)(rl:zJ K G7 ys ws) :
  Hold K G0 H0 (ρ.set i (.own ys)) (σ.set i (some (.ref p))) G7 H5:=by
 have hh:=h.grow ex sh
 refine hh.put (λ_ _ q=>q) hh.e hh.b (Same.refl _) (λj t c _ e f=>⟨rfl,((hh.sl j t e).foot_in f).2.1⟩) (λj n=>List.getElem?_set_ne (Ne.symm n)) (by rw[List.length_set]) (λhl=>?_) λc f j t n e f'=>?_
 ·rw[xg (by rw[<-h.len];exact hl)]
  exact⟨p,ws,rfl,hp,g7,h.b.free h2,rl⟩
 ·have f:(σ.set i (some (.ref p)))[i]? = some (some (.ref c)):=f
  by_cases hl:i<σ.length
  ·rw[xg hl]at f
   cases f
   refine h.mutAt e (yd (H:=H) (H':=H5) (h.sl j t e) (λ_ _ q=>sh _ _ q) (λb fb=>?_) f') h2
   have:=h.mutAt e fb
   cases q:H b with
   |none=>exact absurd q this
   |some o=>exact sh _ _ q
  ·rw[List.getElem?_eq_none (by rw[List.length_set];omega)]at f
   cases f
theorem ua (own:Bool) (i:Nat){x:Str}{ifs:List Expr}{c:Option (M Bool)}{p2 spos:Pos}(hN:X.N.Nodup)(hcalm:X.calm=true)(B:BlkScope X scope cl nt N' idx)(hi:MI X E tg iter mi)(hidx:∀ i ∈ idx,i<X.N.length)
  (hg:∀ C s H fp pn,MGk (zj X scope cl N' C s H fp pn) tg gm nt)(hc:∀ C s H fp pn,MC (zj X scope cl N' C s H fp pn) ifs c)(he:∀ C s H fp pn,ME (zj X scope cl N' C s H fp pn) E0 elt me)
  (hx:autoParam (X.N[i]? = some x) aR._auto_1)(hl:autoParam (X.env.scope.names.lookup x=some .local) aR._auto_1)
  (hsw:autoParam (swapsWith (.ListComp elt [⟨tg,iter,ifs,0⟩] scope pos) (some (.Name x p2)) spos.line X.env=pure true) aR._auto_1)
  (hs:∀ x,foldedSetIterable iter X.env x=pure x:=by intro _;rfl):MS X E (.Assign [.Name x p2] (.ListComp elt [⟨tg,iter,ifs,0⟩] scope pos) spos) (Za own i mi nt idx gm c me):=by
 refine⟨λD σ H=>∃ G0 H0 ρ G,Hold X.K G0 H0 ρ σ G H/\zU X.K E G0 H0 G (Za own i mi nt idx gm c me ρ) D,?_,λG0 H0 ρ σ G H ho Q hQ=>⟨G0,H0,ρ,G,ho,hQ⟩⟩
 intro pins s σ H D I h
 obtain⟨G0,H0,ρ,G,ho,hD⟩:=h
 obtain⟨wi,pw,ri⟩:=hi
 unfold Za at hD
 rw[exec_Assign_Name_used _ _ _ _ hsw]
 refine wpAny_bind (wpAny_standAt (wpAny_bind ?_))
 show wpAny _ X.A (do let _ <-comprehension (.ListComp elt [⟨tg,iter,ifs,0⟩] scope pos) scope X.env _ (newList []) false (eval iter X.env) (some (assign (.Name x p2) X.env))) _ _ s
 have hR:=ri G0 H0 ρ σ G H (λJ H'=>∃ ds ρ1 G1,mi ρ=.ok ds ρ1/\Same G G1/\Hold X.K G0 H0 ρ1 σ G1 H'/\ItOk X.K J G1 ds) ho (by
  cases q:mi ρ with
  |ok ds ρ1=>exact λJ G' H' sg h1 io=>⟨ds,ρ1,G',rfl,sg,h1,io⟩
  |exn cc ρ1=>rw[q]at hD;exact λG' H' sg h1=>hD σ G' H' sg h1
  |bad=>rw[q]at hD;exact hD)
 refine wpAny_bind (wpAny_mono (WO (mi:=mi) (QQ:=λ_ s'=>SP X pins D .next s') hcalm B hidx hg hc he hs I pw G0 H0 G ρ hR (λds ρ1 emi=>?_) λds ρ1 ys G1 H2 G7 H5 ws p C s6 emi eys sg1 h1 ex sh hp g7 h2 rl IX ⟨m,hn⟩ c1 c2 c3 c4 c5=>?_) (λ_ s' hq=>wpAny_pure (wpAny_pure hq)) λ_ _ e=>e)
 ·rw[emi]at hD
  simp only[Res.bnd_ok]at hD
  cases q:XT (nt+idx.length) (zY gm (yR (nt+idx.length) c me) ds (ZC nt idx ρ1)) with
  |none=>rw[q]at hD;exact hD.elim
  |some ys=>exact⟨ys,rfl⟩
 ·rw[emi]at hD
  simp only[Res.bnd_ok,eys,zz]at hD
  show wpAny (model X.prog X.w) X.A (assign (.Name x p2) X.env (.ref p)) _ _ s6
  refine wpAny_assign_Name (store_ok2 IX hN hx (.inl hl) (v:=.ref p) rfl (λs7 I7 ⟨a,hsb,ha⟩=>?_) (.inr hl))
  have hCa:C≠a:=by
   rintro rfl
   rcases ha with z | z
   ·exact c2 z
   ·exact c4 x C z rfl
  refine⟨m,hn.sameBut hsb hCa,λh' hs'=>?_⟩
  have IY:Inv X pins (σ.set i (some (.ref p))) H5 { s7 with heap:=h' }:=I7.turned (it:=C) (t':=s7.toks) (λb o n e=>(hs'.2 b n).trans e) c1 c2 (.inr c3) c4 c5
  refine⟨_,H5,IY,?_⟩
  cases own with
  |true=>exact hD _ G7 H5 (sg1.trans ex.g) (Hold.setOwnAt h1 ex sh hp g7 h2 rl)
  |false=>
   have gg:Ext G1 H2 (upd G7 p (.lst ws)) H5:=by
    refine⟨ex.g.trans (Same.upd g7),λb u q=>?_,λb hb q=>?_,ex.t⟩
    ·by_cases z:b=p
     ·subst z;rw[upd_same]at q;rw[hp];exact q
     ·rw[upd_ne z]at q;exact ex.s _ _ q
    ·rw[upd_ne (λz=>hb.1 (by rw[z];exact h2))];exact ex.n b hb q
   exact hD _ _ H5 (sg1.trans gg.g) ((h1.grow gg sh).setFz (zg.mpr ⟨p,ws,rfl,SqL.of upd_same,rl.mono (Same.upd g7)⟩))
end
end PM
namespace PM
open PySem PySem.Spec PyProof.Rows L2
section
variable {prog:Program}{w:World}{A:Around}{E:Value->Shared->Prop}{s:Shared}
open HT in
theorem xS {t sl:Addr}{items:Array Value}{vl vu:Value}{lo hi:Option Int}{Q:Value->Shared->Prop}(ht:IsTup s.heap t items)(hs:s.heap.IsSliceOf sl vl vu .none)(pl:IsPart vl lo)(pu:IsPart vu hi)
  (hw:sIx items.size 0 lo=0/\sIx items.size items.size hi=items.size)
  (h:Q (.ref t) s):wpAny (model prog w) A (getItem (.ref t) (.ref sl)) Q E s:=by
 obtain⟨os,hos,hcs,hds⟩:=id hs
 have hTs:s.TypeIs (.ref sl) "slice":=⟨os,hos,hcs⟩
 unfold getItem
 try with_reducible refine wpAny_holding ?_
 first | refine wpAny_bind (wpAny_pure ?_) | skip
 refine wpAny_bind (wpAny_sequenceKey ht.typeIs (by decide) ?_)
 refine wpAny_bind (wpAny_callSpecial?_slot (name:=Str.ofString "__getitem__") ht.typeIs PyProof.Rows.slot_tuple_getitem
  (wpAny_call_entry PyProof.Rows.slot_tuple_getitem ht.typeIs entry_tuple_getitem ?_ (args_tuple_getitem _ _)))
 show wpAny _ _ (Builtin.Tuple.tupleItemsOf (.ref t) >>= _) _ _ s
 refine wpAny_bind (tupleItemsOf_ ht ?_)
 refine wpAny_bind (wpAny_typeOf hTs ?_)
 rw[if_pos (by decide)]
 refine wpAny_bind (sliceApplied_gen hs pl pu ?_)
 have hyes:(((sIx items.size 0 lo:Nat):Int) == 0 && (1:Int) == 1 && (sIx items.size items.size hi - sIx items.size 0 lo) == items.size)=true:=by
  rw[hw.1,hw.2]
  simp
 show wpAny _ _ (if (((sIx items.size 0 lo:Nat):Int) == 0 && (1:Int) == 1 && (sIx items.size items.size hi - sIx items.size 0 lo) == items.size)=true then _ else _) _ _ s
 rw[if_pos hyes]
 have hex:Builtin.Tuple.tupleIsExact (.ref t)=(do return (<-typeOf (.ref t)) == .type "tuple"):=rfl
 rw[hex]
 refine wpAny_bind (wpAny_bind (wpAny_typeOf ht.typeIs (wpAny_pure ?_)))
 rw[if_pos (by decide)]
 refine wpAny_bind (wpAny_rule ?_)
 exact wpAny_pure ⟨_,rfl,wpAny_pure h⟩
end
section
variable {X:Cx}{K:PySem.W.Frag}{E:XK}
noncomputable def Jw (K:PySem.W.Frag):V->Option Int->Option Int->Hp->VK->Prop:=λx lo hi H Q=>∃ a xs,x=.ref a/\SqT K H a xs ∧
 (HT.sIx xs.length 0 lo=0/\HT.sIx xs.length xs.length hi=xs.length->Q (.ref a) H) ∧
 (¬ (HT.sIx xs.length 0 lo=0/\HT.sIx xs.length xs.length hi=xs.length)->∀ p,H p=none->Q (.ref p) (upd H p (.tup (cutV xs lo hi))))
theorem QV:SlR X (Jw X.K):=by
 intro pins s σ H x v vl vu lo hi sl Q I rx hs pl pu h
 obtain⟨a,xs,rfl,hx,q1,q2⟩:=h
 by_cases hw:HT.sIx xs.length 0 lo=0/\HT.sIx xs.length xs.length hi=xs.length
 ·cases rx
  obtain⟨its,r,ht,hz⟩:=I.tuple hx
  have hlen:its.toArray.size=xs.length:=by rw[List.size_toArray];exact r.length.symm
  refine⟨"tuple",_,PyProof.Rows.slot_tuple_getitem.lookup,ht.typeIs,?_⟩
  exact xS ht hs pl pu (by rw[hlen];exact hw) ⟨.ref a,H,I,rfl,q1 hw⟩
 ·exact sl_tup pins s σ H _ v vl vu lo hi sl Q I rx hs pl pu ⟨a,xs,rfl,hx,hw,q2 hw⟩
theorem XS (n d:Nat)(o:Option Int):vF n d o=HT.sIx n d o:=rfl
theorem v1 {G:Hp}{ds:List D}{vs:List V}(r:zJ K G ds vs)(lo hi:Option Int):zJ K G (cut ds lo hi) (cutV vs lo hi):=by
 unfold cut cutV
 rw[XS,XS,r.len]
 exact (r.drop _).take _
noncomputable def Qk (K:PySem.W.Frag):V->Option Int->Option Int->Hp->VK->Prop:=λx lo hi H Q=>rSlL K x lo hi H Q\/Jw K x lo hi H Q
theorem slm {G H:Hp}{x:V}{dx d:D}{lo hi:Option Int}{Q:VK}(s:Same G H)(rx:Rep K G dx x)(e:slD dx lo hi=some d)(q:∀ v G' H',Ext G H G' H'->Same H H'->Rep K G' d v->Q v H'):Qk K x lo hi H Q:=by
 cases dx<;>first | (cases e;done) | skip
 ·cases e
  obtain⟨a,vs,rfl,hq,rl⟩:=zy.mp rx
  refine .inr ⟨a,vs,rfl,SqT.same s hq,λhw=>?_,λ_ p hp=>?_⟩
  ·rename_i ds
   have ec:cut ds lo hi=ds:=by
    unfold cut
    rw[XS,XS,rl.len,hw.1,hw.2,List.drop_zero,Nat.sub_zero,<-rl.len,List.take_length]
   rw[ec]at q
   exact q _ G H (Ext.refl s) (Same.refl _) (zy.mpr ⟨a,vs,rfl,hq,rl⟩)
  ·have x:=Ext.new (o:=.tup (cutV vs lo hi)) s hp
   exact q _ _ _ x (Same.upd hp) (zy.mpr ⟨p,_,rfl,upd_same,(v1 rl lo hi).mono x.g⟩)
 ·cases e
  obtain⟨a,vs,rfl,hq,rl⟩:=zg.mp rx
  refine .inl ⟨a,vs,rfl,s.seq hq,λp hp=>?_⟩
  have x:=Ext.new (o:=.lst (cutV vs lo hi)) s hp
  exact q _ _ _ x (Same.upd hp) (zg.mpr ⟨p,_,rfl,SqL.of upd_same,(v1 rl lo hi).mono x.g⟩)
noncomputable def RO (K:PySem.W.Frag)(E:XK)(t:TO)(m:M (Option Int)):Prop:=RA K E (λ_ a b=>b=a) t m
noncomputable def MO (X:Cx)(E:XK)(e:Option Expr)(p:Option (M D)):Prop:=∃ t,PO X e t/\RO X.K E t (ye p)
theorem Z4:MO X E none none:=⟨_,po_none,λG0 H0 ρ σ G H ho=>RAt.done ho rfl⟩
theorem Z3 {e:Expr}{m:M D}(h:ME X E e m):MO X E (some e) (some m):=by
 obtain⟨t,p,r⟩:=h
 refine⟨_,po_some p,?_⟩
 intro G0 H0 ρ σ G H ho
 refine RAt.bind (t2:=λx σ H1 Q=>∃ i,x=V.int i/\Q (some i) H1) (r G0 H0 ρ σ G H ho) λd ρ1 v G1 H1 s1 h1 r1=>?_
 refine RAt.opt λi e=>?_
 intro Q hQ
 cases d<;>first | (cases e;done) | skip
 cases e
 exact⟨_,zM.mp r1,hQ _ G1 H1 (Same.refl _) h1 rfl⟩
theorem Yy {e:Expr}{lo hi:Option Expr}{m:M D}{ml mh:Option (M D)}{p2 pos:Pos}(h:ME X E e m)(hl:MO X E lo ml)(hh:MO X E hi mh):ME X E (.Subscript e (.Slice lo hi none p2) pos) (ZV m ml mh):=by
 obtain⟨t,p,r⟩:=h
 obtain⟨tl,pl,rl⟩:=hl
 obtain⟨th,ph,rh⟩:=hh
 refine⟨_,pe_slice (sl_list.or QV) p pl ph,?_⟩
 intro G0 H0 ρ σ G H ho
 refine RAt.bind (t2:=λx σ H1 Q=>tl σ H1 λl H2=>th σ H2 λu H3=>Qk X.K x l u H3 Q) (r G0 H0 ρ σ G H ho) λd ρ1 v G1 H1 s1 h1 r1=>?_
 refine RAt.bind (t2:=λl σ H2 Q=>th σ H2 λu H3=>Qk X.K v l u H3 Q) (rl G0 H0 ρ1 σ G1 H1 h1) λl ρ2 l' G2 H2 s2 h2 r2=>?_
 refine RAt.bind (t2:=λu σ H3 Q=>Qk X.K v l' u H3 Q) (rh G0 H0 ρ2 σ G2 H2 h2) λu ρ3 u' G3 H3 s3 h3 r3=>?_
 subst r2
 subst r3
 refine RAt.opt1 λdd ed=>?_
 intro Q hQ
 exact slm h3.e.s (r1.mono (s2.trans s3)) ed λw G' H' x hs rw'=>hQ w G' H' x.g (h3.grow x hs) rw'
end
end PM
namespace PM
open PySem PySem.Spec PyProof.Rows L2 Builtin.Getset_descriptor
section
variable {prog:Program}{w:World}{A:Around}{E:Value->Shared->Prop}{h:Heap}{g:Array GenState}{d:Drawn}{t:Nat}{os:OsState}{a C:Addr}{o:Obj}{K:PySem.W.Frag}
structure ExcCls (K:PySem.W.Frag)(C:Addr):Prop where
 ga:PySem.W.findIn K (.ref C) "__getattribute__" = some (some (.builtin "BaseException.__getattribute__"))
 no:PySem.W.findIn K (.ref C) "__getattr__" = some none
 cl:PySem.W.findIn K (.ref C) "__class__" = some (some (.builtin "object.__class__"))
 ob:PySem.W.mroIn K C (.type "object")=some true
 be:PySem.W.mroIn K C (.type "BaseException")=some true
theorem V6 {M:Model}(hx:h.get? a=some o)(hc:o.cls=.ref C):PySem.W.Looks M h (typeOf (.ref a)) (.ref C):=hc ▸ (PySem.W.Looks.ld hx).andThen .now
theorem Ws {R:Result->Shared->Prop}{tp:Value}(X:K.In h)(Z:ExcCls K C)(hx:h.get? a=some o)(hc:o.cls=.ref C)(hq:R (.ok (.ret (.ref C))) ⟨h,g,d,t,os⟩) :
  codeAny (model prog w) A (.call (.builtin "getset_descriptor.__get__") ⟨[.builtin "object.__class__",.ref a,tp],[]⟩) R ⟨h,g,d,t,os⟩:=by
 have L0:=V6 (M:=model prog w) hx hc
 have L1:=PySem.W.looks_mroIn (M:=model prog w) X Z.ob
 refine codeAny_call_builtin PySem.W.KF.slot_gs.plain PySem.W.KF.entry_gs (PySem.W.KF.slot_gs.check _ _ _ _ _ _ _ _ PySem.W.KF.type_class (PySem.W.KF.args_gs _ _ _) ?_)
 unfold Builtin.«getset_descriptor.__get__» descrGet
 rw[PySem.W.dga_obj]
 refine wpAny_bind (wpAny_pure ?_)
 unfold descrGetter descrCheckInstance descrNameAndClass isInstance
 simp only[PySem.W.KF.owner_class]
 repeat lk
 refine⟨Code.quiet_builtin _ (by decide +kernel),codeAny_builtin PySem.W.KF.entry_class ?_⟩
 unfold Builtin.«object.__class__» shownTypeOf
 repeat lk
 exact hq
theorem Ub {M:Model}{nameV:Value}{Q:Unit->Shared->Prop}(X:K.In h)(Z:ExcCls K C)(hx:h.get? a=some o)(hc:o.cls=.ref C)(hq:Q () ⟨h,g,d,t,os⟩):wpAny M A (checkBuiltinCall "BaseException.__getattribute__" ⟨[.ref a,nameV],[]⟩) Q E ⟨h,g,d,t,os⟩:=by
 have hk:builtinKind "BaseException.__getattribute__" = some .slot:=by decide +kernel
 have hsplit:splitId "BaseException.__getattribute__" = some ("BaseException","__getattribute__"):=by decide +kernel
 have L0:=V6 (M:=M) hx hc
 have L1:=PySem.W.looks_mroIn (M:=M) X Z.be
 have ha:=F.args_bexc_ga (.ref a) nameV
 simp only[checkBuiltinCall,hk,hsplit]
 refine wpAny_bind ?_
 unfold isInstance
 refine wpAny_bind (L0.at (L1.at ?_))
 repeat (first | assumption | wp_step)
theorem Ua {tk:Tok}{Q:Fin->Shared->Prop}(X:K.In h)(Z:ExcCls K C)(hx:h.get? a=some o)(hc:o.cls=.ref C)(hq:Q (.done (.ret (.ref C))) ⟨h,g,d,t,os⟩) :
  wpAny (model prog w) A (Builtin.«object.__getattribute__» ⟨[.ref a,.str "__class__" tk],[]⟩) Q E ⟨h,g,d,t,os⟩:=by
 have hT5:(⟨h,g,d,t,os⟩ : Shared).TypeIs (.builtin "object.__class__") "getset_descriptor":=F.typeOf_object_class
 have f5:=F.typeOf_object_class
 have f6:=F.slot_gs_get.lookup
 have f7:=F.slot_gs_set.lookup
 have L1:=PySem.W.looks_findIn (M:=model prog w) X Z.cl
 repeat (any_goals (first | assumption | (with_reducible refine wpAny_loadPart_at hx ?_;rw[hc]) | with_reducible refine L1.at ?_ | wp_step))
 refine Ws X Z hx hc ?_
 repeat (any_goals (first | assumption | wp_step))
theorem Jf {tk:Tok}{fill expr:Bool}{Q:Value->Shared->Prop}(X:K.In h)(Z:ExcCls K C)(hx:h.get? a=some o)(hc:o.cls=.ref C)(hq:Q (.ref C) ⟨h,g,d,t,os⟩) :
  wpAny (model prog w) A (getAttrBy (.ref a) (.str "__class__" tk) fill expr) Q E ⟨h,g,d,t,os⟩:=by
 have f3:=F.excAttr_ValueError.ga.bind (.ref a)
 have hx0:(expr && onTheHeap (Value.builtin "BaseException.__getattribute__"))=false:=by cases expr<;>rfl
 have hx2:(Value.builtin "BaseException.__getattribute__" == Value.builtin "object.__getattribute__")=false:=by decide +kernel
 have hx1:(onTheHeap (Value.ref C) && Value.builtin "BaseException.__getattribute__" == Value.builtin "object.__getattribute__")=false:=by rw[hx2];rfl
 have L1:=PySem.W.looks_findIn (M:=model prog w) X Z.ga
 have L2:=PySem.W.looks_findIn (M:=model prog w) X Z.no
 repeat (any_goals (first | assumption | (with_reducible refine wpAny_loadPart_at hx ?_;rw[hc]) | with_reducible refine L1.at ?_ | with_reducible refine L2.at ?_ | wp_step))
 refine codeAny_call_builtin F.excAttr_ValueError.ga.plain F.entry_bexc_ga (Ub X Z hx hc (Ua X Z hx hc ?_))
 repeat (any_goals (first | assumption | wp_step))
theorem q9 {Q:Option Value->Shared->Prop}(X:K.In h)(Z:ExcCls K C)(hx:h.get? a=some o)(hc:o.cls=.ref C)(hq:Q (some (.ref C)) ⟨h,g,d,t+1,os⟩):wpAny (model prog w) A (getAttr? (.ref a) "__class__") Q E ⟨h,g,d,t,os⟩:=by
 unfold getAttr? getAttrBy?
 repeat (any_goals (first | assumption | with_reducible apply Jf X Z hx hc | wp_step))
end
end PM
namespace PM
open PySem PySem.Spec PyProof.Rows L2
section
variable {X:Cx}{K:PySem.W.Frag}{E:XK}
theorem qp {a C:Addr}(hcl:(PySem.W.clsIn K C).isSome=true)(Z:ExcCls K C):PySem.W.KitX K (.ref a) (.ref C) (λh=>∃ o vs,h.get? a=some o/\o.cls=.ref C/\o.data=.fields vs) where
 ty:=λM h _ p=>by
  obtain⟨o,vs,h1,h2,_⟩:=p
  exact V6 h1 h2
 it:=λM h Y p=>by
  obtain⟨cd,hc⟩:=Option.isSome_iff_exists.mp hcl
  unfold PySem.W.clsIn at hc
  split at hc
  ·rename_i c' d' cd' sl' ho
   intro A' Q' E' s' k q
   unfold isType loadHead
   exact wpAny_bind (wpAny_loadPart (k _ _ (Y _ _ ho)) (wpAny_pure q))
  ·cases hc
 ne:=λh tp dd its n sl Y htp=>by
  obtain⟨cd,hc⟩:=Option.isSome_iff_exists.mp hcl
  refine Bool.eq_false_iff.mpr λq=>?_
  have e:C=tp:=Value.ref.inj (beq_iff_eq.mp q)
  subst e
  unfold PySem.W.clsIn at hc
  split at hc
  ·rename_i c' d' cd' sl' ho
   have z:=(Y _ _ ho).symm.trans htp
   cases z
  ·cases hc
 ca:=fun {_ _ _ _ _ s} Y p k=>by
  obtain⟨h,g,d,t,os⟩:=s
  obtain⟨o,vs,h1,h2,_⟩:=p
  exact q9 Y Z h1 h2 k
noncomputable def IsD (K:PySem.W.Frag) (c:Value)(b:Bool):D->Prop
 |.non=>PySem.W.kitOne K (.type "NoneType") c=some b
 |.bl _=>PySem.W.kitOne K (.type "bool") c=some b
 |.int _=>PySem.W.kitOne K (.type "int") c=some b
 |.str _=>PySem.W.kitOne K (.type "str") c=some b
 |.tup _=>PySem.W.kitOne K (.type "tuple") c=some b
 |.lst _=>PySem.W.kitOne K (.type "list") c=some b
 |.exc C=>(PySem.W.clsIn K C).isSome=true/\ExcCls K C/\PySem.W.kitOne K (.ref C) c=some b
 |_=>False
inductive TyX (K:PySem.W.Frag)(H:Hp) (c:Value)(b:Bool):V->Prop where
 |ty {x:V}{t:Value}(h:TyOf K H x t)(e:PySem.W.kitOne K t c=some b):TyX K H c b x
 |exc {a C:Addr}(h:H a=some (Yg a C))(hc:(PySem.W.clsIn K C).isSome=true)(Z:ExcCls K C)(e:PySem.W.kitOne K (.ref C) c=some b):TyX K H c b (.ref a)
 |tup {a:Addr}{xs:List V}(h:SqT K H a xs)(e:PySem.W.kitOne K (.type "tuple") c=some b):TyX K H c b (.ref a)
 |lst {a:Addr}{xs:List V}(h:SqL K H a xs)(e:PySem.W.kitOne K (.type "list") c=some b):TyX K H c b (.ref a)
noncomputable def jb (K:PySem.W.Frag) (c:Value):List V->Hp->VK->Prop:=λxs H Q=>∃ x y b,xs=[x,y]/\(∀ u,RelV y u->u=c)/\TyX K H c b x/\Q (.bl b) H
theorem Ul {c:Value}:CallR X (.builtin "isinstance") (jb X.K c):=by
 intro pins s σ H xs us Q I r h
 obtain⟨x,y,b,rfl,hy,hc,q⟩:=h
 cases r with
 |cons rx r=>
  cases r with
  |cons ry r=>
   cases r
   cases hy _ ry
   cases hc with
   |ty ty e=>exact isinst_ok I rx ty e λtk=>⟨.bl b,H,I.tok _,rfl,q⟩
   |exc ea hcl Z e=>
    cases rx
    have hk:=I.hok _ _ ea
    exact PySem.W.kia_one (qp hcl Z) I.kIn hk.1 e (λz=>nomatch z) λtk=>⟨.bl b,H,I.tok _,rfl,q⟩
   |tup hx e=>
    cases rx
    obtain⟨its,r,ht,hz⟩:=I.tuple hx
    obtain⟨o,h1,h2,_⟩:=ht
    exact PySem.W.kia_one PySem.W.kitx_tuple I.kIn ⟨o,h1,h2⟩ e (λz=>nomatch z) λtk=>⟨.bl b,H,I.tok _,rfl,q⟩
   |lst hx e=>
    cases rx
    obtain⟨its,r,⟨o,n,ht,hc,_⟩,hz⟩:=I.list hx
    exact PySem.W.kia_one PySem.W.kitx_list I.kIn ⟨_,ht,hc⟩ e (λz=>nomatch z) λtk=>⟨.bl b,H,I.tok _,rfl,q⟩
theorem qr {G H:Hp}{d:D}{v:V}{c:Value}{b:Bool}(s:Same G H)(r:Rep K G d v)(h:IsD K c b d):TyX K H c b v:=by
 cases d with
 |non=>cases yY.mp r;exact .ty .non h
 |bl x=>cases ZN.mp r;exact .ty (.bl x) h
 |int x=>cases zM.mp r;exact .ty (.int x) h
 |str x=>cases zf.mp r;exact .ty (.str x) h
 |tup ds=>
  obtain⟨a,vs,rfl,hq,_⟩:=zy.mp r
  exact .tup (SqT.same s (SqT.of hq)) h
 |lst ds=>
  obtain⟨a,vs,rfl,hq,_⟩:=zg.mp r
  exact .lst (s.seq hq) h
 |exc C=>
  obtain⟨a,rfl,e⟩:=(show ∃ a,v=.ref a/\G a=some (Yg a C) from by simpa[Rep] using r)
  exact .exc (s a _ e) h.1 h.2.1 h.2.2
 |dct ks vs=>exact h.elim
 |dcT ks vs=>exact h.elim
theorem uc {e ec:Expr}{m:M D}{c:Value}{y:V}{f:D->Option D}{p pos:Pos}(h:ME X E e m)(hc:PE X ec (tC y))(hy:∀ u,RelV y u->u=c)(hf:∀ d r,f d=some r->∃ b,r=.bl b/\IsD X.K c b d)
  (hm:X.mg "isinstance" = none)(hg:Gl X "isinstance":=by rfl)(he:autoParam (starEach [e,ec] X.env=(false,eval e X.env)::starEach [ec] X.env) aR._auto_1)(he2:autoParam (starEach [ec] X.env=[(false,eval ec X.env)]) aR._auto_1):ME X E (.Call (.Name "isinstance" p) [e,ec] [] pos) (op1 f m):=by
 obtain⟨t,pe,re⟩:=h
 have hb:bootBuiltins "isinstance" = some (.builtin "isinstance"):=by with_unfolding_all rfl
 refine⟨_,pe_callB (id:="isinstance") (Ul (c:=c)) hg hm hb (pa_cons pe (pa_cons hc pa_nil he2) he) (by decide) (by decide) he ?_,?_⟩
 ·rw[he2];rfl
 intro G0 H0 ρ σ G H ho
 refine RAt.bind (t2:=λx σ H1 Q=>jb X.K c [x,y] H1 Q) (re G0 H0 ρ σ G H ho) λd ρ1 v G1 H1 s1 h1 r1=>?_
 refine RAt.opt1 λr e=>?_
 obtain⟨b,rfl,hd⟩:=hf d r e
 intro Q hQ
 exact⟨v,y,b,rfl,hy,qr h1.e.s r1 hd,hQ _ G1 H1 (Same.refl _) h1 (ZN.mpr rfl)⟩
end
end PM
namespace PM
open PySem PySem.Spec PyProof.Rows L2
section
variable {X:Cx}{K:PySem.W.Frag}{E:XK}
theorem uP:∀ {bs:List Bool}{its:List Value},Vals (bs.map V.bl) its->its=bs.map Value.bool
 |[],_,.nil=>rfl
 |b::bs,_,.cons r rs=>by rw[List.map_cons,<-uP rs];cases r;rfl
theorem Vt (bs:List Bool):((List.range bs.length).all λi=>(bs[i]?).getD true)=bs.all id:=by
 rw[Bool.eq_iff_iff]
 simp only[List.all_eq_true,List.mem_range,id]
 constructor
 ·intro h b hb
  obtain⟨i,hi,e⟩:=List.mem_iff_getElem.mp hb
  have:=h i hi
  rw[List.getElem?_eq_getElem hi,Option.getD_some,e]at this
  exact this
 ·intro h i hi
  rw[List.getElem?_eq_getElem hi,Option.getD_some]
  exact h _ (List.getElem_mem hi)
noncomputable def Jy (K:PySem.W.Frag):List V->Hp->VK->Prop:=λxs H Q=>∃ (a:Addr)(bs:List Bool),xs=[.ref a]/\SqL K H a (bs.map V.bl)/\Q (.bl (bs.all id)) H
theorem Um (hc:X.calm=true):CallR X (.builtin "all") (Jy X.K):=by
 intro pins s σ H xs us Q I r h
 obtain⟨a,bs,rfl,hq,q⟩:=h
 obtain⟨u,rfl,rx⟩:=vals1 r
 cases rx
 obtain⟨its,r',pl,hz⟩:=I.list hq
 cases uP r'
 have hl:=pl.isList
 have hlt:a<s.heap.objs.size:=by
  obtain⟨o,e,_⟩:=hl
  exact Heap.lt_size e
 refine call_all_walk (wpAny_pyIter_list hl ?_)
 refine⟨_,[s.heap.objs.size,a],[s.heap.objs.size],_,_,_,λi=>(bs[i]?).getD true,rfl,Walks.list (A:=X.A.in1) (I.ok.hd hc) _ a (Nat.ne_of_lt hlt) _,⟨⟨_,Heap.get?_push_size _ rfl,rfl,rfl⟩,hl.push _⟩,?_,?_⟩
 ·intro i v s' Q' E' hP hQ
  rw[List.getElem?_toArray,List.getElem?_map]at hP
  cases z:bs[i]? with
  |none=>rw[z]at hP;cases hP
  |some b=>
   rw[z]at hP
   cases hP
   simp only[z,Option.getD_some]at hQ
   exact wpAny_truthy_bool hQ
 ·intro h' tk hk
  rw[List.size_toArray,List.length_map,Vt]
  exact⟨.bl _,H,I.kept λb o e=>hk b o (λz=>by rw[List.mem_singleton.mp z]at e;exact Nat.lt_irrefl _ (Heap.lt_size e)) (Heap.get?_push_of_some _ e),rfl,q⟩
theorem vH:∀ {ds:List D}{bs:List Bool},WW ds=some bs->ds=bs.map D.bl
 |[],_,e=>by cases e;rfl
 |d::r,bs,e=>by
  cases d<;>first | (cases e;done) | skip
  obtain⟨cs,e1,rfl⟩:=Option.map_eq_some_iff.mp e
  rw[vH e1]
  rfl
theorem v7 {G:Hp}:∀ {bs:List Bool}{vs:List V},zJ K G (bs.map D.bl) vs->vs=bs.map V.bl
 |[],vs,r=>r.nil_inv
 |b::bs,vs,r=>by
  obtain⟨v,vr,rfl,rv,rr⟩:=r.cons_inv
  rw[v7 rr,ZN.mp rv]
  rfl
theorem jM:ClM K (Jy K) (zX Vg):=by
 intro G H xs ds d Q s r e q
 cases ds with
 |nil=>cases e
 |cons x t=>
  cases t with
  |cons _ _=>cases e
  |nil=>
   obtain⟨v,vr,rfl,rv,rr⟩:=r.cons_inv
   rw[rr.nil_inv]
   have e':Vg x=some d:=e
   cases x<;>first | (cases e';done) | skip
   obtain⟨bs,e1,rfl⟩:=Option.map_eq_some_iff.mp e'
   obtain⟨a,vs,rfl,hq,rl⟩:=zg.mp rv
   rw[vH e1]at rl
   rw[v7 rl]at hq
   exact⟨a,bs,rfl,s.seq hq,q _ G H (Ext.refl s) (Same.refl _) (ZN.mpr rfl)⟩
end
end PM
namespace PM
open PySem PySem.Spec PyProof.Rows L2
noncomputable def Fk (P:Program)(w:World)(K:PySem.W.Frag)(mg:Str->Option Value)(base:Heap) (k:Nat) (x:Str)(ps:List Str) (n:Nat)(F:List D->FR):Prop:=
 ∃ f fd,FnOk P w K mg base (CX1 P w K) k f fd ps (spM K n F)/\mg x=some (.ref f)/\PySem.W.keepIn K (.ref f)=true/\Binds K fd ps []
section
variable {X:Cx}{E:XK}{e o:Expr}{es:List Expr}{pos p2:Pos}{ma mb:M D}
theorem zR {k n:Nat}{ps:List Str}{F:List D->FR}{x:Str}{p:Pos}{ms:List (M D)}(G:Fk X.prog X.w X.K X.mg X.base k x ps n F)(hr:Room k X.A)(hx:Passes (CX1 X.prog X.w X.K) X E)(ha:MA X E (e::es) ms)(hn:autoParam (ms.length=n) aR._auto_1)
  (hg:autoParam (Gl X x) aR._auto_1)(hdb:autoParam ((x == ("__debug__" : Str))=false) aD._auto_1)(he:autoParam (starEach (e::es) X.env=(false,eval e X.env)::starEach es X.env) aR._auto_1)(hpl:autoParam ((backTo pos (starEach es X.env)).any (·.1)=false) aR._auto_1) :
  ME X E (.Call (.Name x p) (e::es) [] pos) (zH F ms):=by
 obtain⟨f,fd,G,hm,hk,hb⟩:=G
 exact Q7 G hr hg hm hk hb hx ha hn hdb he hpl
theorem ww:Passes (CX1 X.prog X.w X.K) X E0:=λ_ _ _ _ _ _ _ h=>by
 obtain⟨_,_,_,_,_,_,h⟩:=h
 exact h.elim
theorem ud {p:Pos}{ms:List (M D)}(hm:X.mg "int" = none)(ha:MA X E (e::es) ms)(hg:Gl X "int":=by rfl)(he:autoParam (starEach (e::es) X.env=(false,eval e X.env)::starEach es X.env) aR._auto_1)(hpl:autoParam ((backTo pos (starEach es X.env)).any (·.1)=false) aR._auto_1) :
  ME X E (.Call (.Name "int" p) (e::es) [] pos) (zN (zX XY) ms):=Zy call_int1 jL hg hm (by with_unfolding_all rfl) ha (by decide) (by decide) he hpl
theorem Xm {p:Pos}{ms:List (M D)}(hm:X.mg "tuple" = none)(ha:MA X E (e::es) ms)(hg:autoParam (Gl X "tuple") aR._auto_1)(he:autoParam (starEach (e::es) X.env=(false,eval e X.env)::starEach es X.env) aR._auto_1)(hpl:autoParam ((backTo pos (starEach es X.env)).any (·.1)=false) aR._auto_1) :
  ME X E (.Call (.Name "tuple" p) (e::es) [] pos) (zN (zX yT) ms):=Zy call_tuple_of Uh hg hm (by with_unfolding_all rfl) ha (by decide) (by decide) he hpl
theorem JZ {p:Pos}{ms:List (M D)}(hm:X.mg "all" = none)(ha:MA X E (e::es) ms)(hc:autoParam (X.calm=true) aR._auto_1)(hg:Gl X "all":=by rfl)(he:autoParam (starEach (e::es) X.env=(false,eval e X.env)::starEach es X.env) aR._auto_1)(hpl:autoParam ((backTo pos (starEach es X.env)).any (·.1)=false) aR._auto_1) :
  ME X E (.Call (.Name "all" p) (e::es) [] pos) (zN (zX Vg) ms):=ZF (Um hc) jM hg hm (by with_unfolding_all rfl) ha (by decide) (by decide) he hpl
end
section
variable {P:Program}{w:World}{K:PySem.W.Frag}{mg:Str->Option Value}{base:Heap}{N:List Str}{qual:Str}{scope:Scope}{f:Addr}{cd:Value}{A:Around}{outer:List Env}{s₀:Shared}{H₀:Hp}{E:XK}
theorem Z2 {C:Addr}{x:Str}{z:Str}{np cpos pos ap:Pos}{j:Nat}(q:PySem.W.excIn K C Zl zo=true)(hm:mg x=some (.ref C))(hgl:autoParam (Gl (cxOf (CX1 P w K) P w K mg base N qual scope f cd A outer s₀ H₀ E) x) aR._auto_1)
  (hd:autoParam ((x == ("__debug__" : Str))=false) aD._auto_1):MS (cxOf (CX1 P w K) P w K mg base N qual scope f cd A outer s₀ H₀ E) E (.Raise (some (.Call (.Name x np) [.Constant (.str z) j ap] [] cpos)) none pos) (yD C):=⟨_,qN q hm hgl hd,qH⟩
end
section
variable {X:Cx}{E:XK}{e:Expr}{pos p p3:Pos}{m:M D}
theorem XH {C:Addr}{x:Str}{f:Addr->Option Bool}(hm:X.mg "isinstance" = none)(hc:X.mg x=some (.ref C))(hf:∀ a b,f a=some b->(PySem.W.clsIn X.K a).isSome=true/\ExcCls X.K a/\PySem.W.kitOne X.K (.ref a) (.ref C)=some b)(h:ME X E e m)(hg:Gl X "isinstance":=by rfl)(hg2:autoParam (Gl X x) aR._auto_1)(hd:autoParam ((x == ("__debug__" : Str))=false) aD._auto_1)
  (he:autoParam (starEach [e,.Name x p3] X.env=(false,eval e X.env)::starEach [.Name x p3] X.env) aR._auto_1)(he2:autoParam (starEach [.Name x p3] X.env=[(false,eval (.Name x p3) X.env)]) aR._auto_1):ME X E (.Call (.Name "isinstance" p) [e,.Name x p3] [] pos) (op1 (Z6 f) m):=
 uc (c:=.ref C) (y:=.ref C) h (pe_glob (v:=.ref C) hg2 hc rfl hd) (λu r=>r) (λd r hr=>by
  cases d with
  |exc a=>
   obtain⟨b,e1,rfl⟩:=Option.map_eq_some_iff.mp hr
   exact⟨b,rfl,hf a b e1⟩
  |_=>cases hr) hm hg he he2
theorem V3 {x:Str}{T:String}{f:Addr->Option Bool}(hm:X.mg "isinstance" = none)(hc:X.mg x=none)(hv:bootBuiltins x=some (.type T))(hf:∀ a b,f a=some b->(PySem.W.clsIn X.K a).isSome=true/\ExcCls X.K a/\PySem.W.kitOne X.K (.ref a) (.type T)=some b)(h:ME X E e m)(hg:Gl X "isinstance":=by rfl)(hg2:autoParam (Gl X x) aR._auto_1)(hn:x ≠ "__name__":=by decide)(hd:autoParam ((x == ("__debug__" : Str))=false) aD._auto_1)
  (he:autoParam (starEach [e,.Name x p3] X.env=(false,eval e X.env)::starEach [.Name x p3] X.env) aR._auto_1)(he2:autoParam (starEach [.Name x p3] X.env=[(false,eval (.Name x p3) X.env)]) aR._auto_1):ME X E (.Call (.Name "isinstance" p) [e,.Name x p3] [] pos) (op1 (Z6 f) m):=
 uc (c:=.type T) (y:=.ty T) h (pe_bltn (v:=.ty T) hg2 hc hv rfl hn hd) (λu r=>r) (λd r hr=>by
  cases d with
  |exc a=>
   obtain⟨b,e1,rfl⟩:=Option.map_eq_some_iff.mp hr
   exact⟨b,rfl,hf a b e1⟩
  |_=>cases hr) hm hg he he2
end
end PM
namespace PM
open PySem PySem.Spec PyProof.Rows L2
noncomputable def PEC (X:Cx)(e:Expr)(t:TE):Prop:=∀ (pins:List (Addr×Obj))(s:Shared)(σ:St)(H:Hp)(Q:VK),Inv X pins σ H s->t σ H Q->wpC (model X.prog X.w) X.A (eval e X.env) (EP X pins σ Q) X.xe s
noncomputable def PSC (X:Cx)(st:Stmt)(t:TS):Prop:=∀ (pins:List (Addr×Obj))(s:Shared)(σ:St)(H:Hp)(D:Ends),Inv X pins σ H s->t D σ H->wpC (model X.prog X.w) X.A (exec st X.env) (SP X pins D) X.xe s
noncomputable def kF (X:Cx)(st:List Stmt)(t:TS):Prop:=∀ (pins:List (Addr×Obj))(s:Shared)(σ:St)(H:Hp)(D:Ends),Inv X pins σ H s->t D σ H->wpC (model X.prog X.w) X.A (execs st X.env) (SP X pins D) X.xe s
noncomputable def MEC (X:Cx)(E:XK)(e:Expr)(m:M D):Prop:=∃ t,PEC X e t/\RE X.K E t m
noncomputable def MSC (X:Cx)(E:XK)(st:Stmt)(m:M Fl):Prop:=∃ t,PSC X st t/\RS X.K E t m
noncomputable def QL (X:Cx)(E:XK)(sts:List Stmt)(m:M Fl):Prop:=∃ t,kF X sts t/\RS X.K E t m
section
variable {X:Cx}{E:XK}{st:Stmt}{rest:List Stmt}{m u:M Fl}
theorem Xk (h:MS X E st m):MSC X E st m:=let ⟨t,p,r⟩:=h;⟨t,λpins s σ H D I q=>zt (p pins s σ H D I q),r⟩
theorem wP (h:MSs X E rest m):QL X E rest m:=let ⟨t,p,r⟩:=h;⟨t,λpins s σ H D I q=>zt (p pins s σ H D I q),r⟩
theorem ZR (h1:MSC X E st m)(h2:QL X E rest u):QL X E (st::rest) (zL m u):=by
 obtain⟨t1,p1,r1⟩:=h1
 obtain⟨t2,p2,r2⟩:=h2
 refine⟨tSeq t1 t2,?_,qG r1 r2⟩
 intro pins s σ H D I h
 refine yw (ze (p1 pins s σ H { D with nx:=t2 D } I h) (λf s1 q=>?_) λ_ _ z=>z)
 cases f with
 |next=>
  obtain⟨σ1,H1,I1,q1⟩:=q
  exact p2 pins s1 σ1 H1 D I1 q1
 |ret v=>exact q
 |brk=>exact q
 |cont=>exact q
theorem qZ (h:MSC X E st m):QL X E [st] m:=by
 obtain⟨t,p,r⟩:=h
 refine⟨t,?_,r⟩
 intro pins s σ H D I h
 refine yw (ze (p pins s σ H D I h) (λf s1 q=>?_) λ_ _ z=>z)
 cases f with
 |next=>exact zt (wpAny_execs_nil q)
 |ret v=>exact q
 |brk=>exact q
 |cont=>exact q
end
structure FnOkC (P:Program)(w:World)(K:PySem.W.Frag)(mg:Str->Option Value)(base:Heap)(CX:CXT) (k:Nat)(f:Addr)(fd:FuncData)(ps:List Str)(sp:Sp):Prop where
 len:∀ vs H Q E,sp vs H Q E->vs.length=ps.length
 run:∀ (A:Around)(outer:List Env)(s:Shared)(H:Hp)(args:Args)(us:List Value)(vs:List V)(Q:VK)(E:XK),Room k A->Env0 P w K mg base A outer s H->BindsTo s fd args (ps.zip us)->Vals vs us->sp vs H Q E ->
  ZI (model P w) A (.call (.ref f) args) (CR CX outer P w H s Q E) s
section
variable {X:Cx}{CX:CXT}{k:Nat}{f:Addr}{fd:FuncData}{ps:List Str}{sp:Sp}{E:XK}{x:Str}{p pos:Pos}{e:Expr}{es:List Expr}{t:TA}
theorem QX {pins:List (Addr×Obj)}{σ:St}{H:Hp}{s:Shared}{Q:VK}{us:List Value}{vs:List V}(F:FnOkC X.prog X.w X.K X.mg X.base CX k f fd ps sp)(hr:Room k X.A)(hb:Binds X.K fd ps [])(hx:Passes CX X E)
  (I:Inv X pins σ H s)(r:Vals vs us)(h:sp vs H Q E):wpC (model X.prog X.w) X.A (call (.ref f) us) (EP X pins σ Q) X.xe s:=by
 have hl:us.length=ps.length:=by rw[<-r.length];exact F.len _ _ _ _ h
 have b:=hb s us I.kIn (by rw[List.append_nil];exact hl)
 rw[List.append_nil]at b
 refine xp (Zu (F.run X.A X.stack s H ⟨us,[]⟩ us vs Q E hr I.env0 b r h) λr s' hq=>?_)
 cases r with
 |error e=>exact hx pins σ H s e s' I hq
 |ok fl=>
  cases fl with
  |ret u=>exact I.after hq
  |next=>exact False.elim hq
  |brk=>exact False.elim hq
  |cont=>exact False.elim hq
theorem qO (F:FnOkC X.prog X.w X.K X.mg X.base CX k f fd ps sp)(hr:Room k X.A)(hg:Gl X x)(hm:X.mg x=some (.ref f))(hk:PySem.W.keepIn X.K (.ref f)=true)(hb:Binds X.K fd ps [])(hx:Passes CX X E)
  (ha:PA X (e::es) t)(hdb:(x == ("__debug__" : Str))=false)(he:starEach (e::es) X.env=(false,eval e X.env)::starEach es X.env)(hpl:(backTo pos (starEach es X.env)).any (·.1)=false) :
  PEC X (.Call (.Name x p) (e::es) [] pos) (tCall sp [] E t):=by
 intro pins s σ H Q I h
 refine vD (K:=X.K) hk (ld_glob I hg hm ⟨rfl,thn (ha pos pins s σ H _ I h) λus s1 ⟨vs,H1,I1,r,q⟩=>⟨I1.kIn,?_⟩⟩ hdb) he hpl
 have q':sp (vs++[]) H1 Q E:=q
 rw[List.append_nil]at q'
 exact QX F hr hb hx I1 r q'
end
theorem Jd {CX:CXT}{P:Program}{w:World}{K:PySem.W.Frag}{mg:Str->Option Value}{base:Heap}{k:Nat}{f:Addr}{name qual:Str}{params:Arguments}{body:List Stmt}{scope:Scope}{dV kV doc pm cdv ct oc:Value}{an od:Option Addr}
  {osl:Array (Option Value)}{N ps:List Str}{sp:Sp}(lk:K.lookup f=some ⟨oc,od,.func (PySem.W.fnOf name qual params body scope dV kV doc pm an cdv ct),osl⟩)(hcd:PySem.W.codeIn K cdv qual=true)(S:FnScope N ps scope)
  (len:∀ vs H Q E,sp vs H Q E->vs.length=ps.length)
  (hbody:∀ (A:Around)(outer:List Env)(s:Shared)(H:Hp)(vs:List V)(Q:VK)(E:XK),Room k (A.deeper (envOfC qual scope s.heap.objs.size f cdv))->sp vs H Q E ->
   ∃ t,kF (cxOf CX P w K mg base N qual scope f cdv A outer s H E) body t/\t { nx:=λ_ H'=>Q .non H',rt:=Q } (L2.start N vs) H) :
  FnOkC P w K mg base CX (k+1) f (PySem.W.fnOf name qual params body scope dV kV doc pm an cdv ct) ps sp:=by
 refine⟨len,λA outer s H args us vs Q E hr e0 hb r hsp=>?_⟩
 have KX:K.In s.heap:=e0.mod.kin.keeps λb o e=>(e0.bs b o e).1
 have kinds:∀ y ∈ ps.zip us,scope.names.lookup y.1=some .local\/(scope.names.lookup y.1=some .cell/\((cellsFrom (s.heap.objs.size+1) scope.names []).lookup y.1).isSome=true):=λ⟨n,v⟩ hy=>
  (S.par n (List.of_mem_zip hy).1).imp id λq=>⟨q,PySem.W.cellsFrom_some _ _ _ (.inl q)⟩
 refine QD hr.depth (KX _ _ lk) rfl S.co S.gen rfl (PySem.W.codeRec_of KX hcd) (hb _ _ _ _ (wpAny_newFunctionEnv_cells S.kind kinds λenv he s1 x=>?_))
 subst he
 refine⟨(e0.mod.nolimit.keeps λb o e=>(e0.bs b o e).1).keeps x.toInCall.keep,uJ ?_⟩
 obtain⟨t,ht,hq⟩:=hbody A outer s H vs Q E (hr.deeper _) hsp
 refine ze (ht [] s1 (L2.start N vs) H _ (inv_start S hr.hd e0 (len _ _ _ _ hsp) r x) hq) (λfl s' hs=>?_) λe s' hs=>hs
 cases fl with
 |ret u=>
  obtain⟨v,σ',H',J,rv,q⟩:=hs
  exact⟨v,H',J.os,J.bare,J.base,J.hok,rv,q⟩
 |next=>
  obtain⟨σ',H',J,q⟩:=hs
  exact⟨V.non,H',J.os,J.bare,J.base,J.hok,rfl,q⟩
 |brk=>obtain⟨_,_,_,q⟩:=hs;exact False.elim q
 |cont=>obtain⟨_,_,_,q⟩:=hs;exact False.elim q
noncomputable def FkC (P:Program)(w:World)(K:PySem.W.Frag)(mg:Str->Option Value)(base:Heap) (k:Nat) (x:Str)(ps:List Str) (n:Nat)(F:List D->FR):Prop:=
 ∃ f fd,FnOkC P w K mg base (CX1 P w K) k f fd ps (spM K n F)/\mg x=some (.ref f)/\PySem.W.keepIn K (.ref f)=true/\Binds K fd ps []
section
variable {P:Program}{w:World}{K:PySem.W.Frag}{mg:Str->Option Value}{base:Heap}
theorem XZ {x qual:Str}{st:Stmt}{f:Addr}{fd:FuncData}{N ps:List Str}{k n:Nat}{m:M Fl}(F:Fun K x qual st f fd)(S:FnScope N ps (defScope st))(hn:ps.length=n)(hN:n<=N.length)
  (hbody:∀ (cdv:Value)(A:Around)(outer:List Env)(s:Shared)(H:Hp)(E:XK),Room k (A.deeper (envOfC qual (defScope st) s.heap.objs.size f cdv)) ->
   QL (cxOf (CX1 P w K) P w K mg base N qual (defScope st) f cdv A outer s H E) E (defBody st) m):FnOkC P w K mg base (CX1 P w K) (k+1) f fd ps (spM K n (Ze N.length m)):=by
 obtain⟨oc,od,kV,doc,pm,an,cdv,ct,osl,rfl,lk,hcd⟩:=F.ex
 refine Jd lk hcd S (λvs H Q E h=>by rw[hn];exact h.1) λA outer s H vs Q E hr hsp=>?_
 obtain⟨hl,G,ds,sg,r,hq⟩:=hsp
 obtain⟨t,p,rs⟩:=hbody cdv A outer s H E hr
 refine⟨t,p,rs G H (ZS N.length ds) (L2.start N vs) G H (WG sg r (by omega)) _ ?_⟩
 have hq':(match FR.of (m (ZS N.length ds)) with
  |.ok d=>∀ v G' H',Ext G H G' H'->Same H H'->Rep K G' d v->Q v H'
  |.exn c=>∀ G' H',Ext G H G' H'->Same H H'->E (.ref c) none H'
  |.bad=>False):=hq
 cases e:m (ZS N.length ds) with
 |ok fl ρ'=>
  rw[e]at hq'
  cases fl with
  |nx=>exact λσ' G' H' s1 h1=>hq' .non G' H' h1.e h1.b (yY.mpr rfl)
  |ret d=>exact λv σ' G' H' s1 h1 rv=>hq' v G' H' h1.e h1.b rv
  |brk=>exact hq'.elim
  |cont=>exact hq'.elim
 |exn c ρ'=>rw[e]at hq';exact λσ' G' H' s1 h1=>hq' G' H' h1.e h1.b
 |bad=>rw[e]at hq';exact hq'
end
section
variable {X:Cx}{E:XK}{e:Expr}{es:List Expr}{pos:Pos}
theorem XG {k n:Nat}{ps:List Str}{F:List D->FR}{x:Str}{p:Pos}{ms:List (M D)}(G:FkC X.prog X.w X.K X.mg X.base k x ps n F)(hr:Room k X.A)(hx:Passes (CX1 X.prog X.w X.K) X E)(ha:MA X E (e::es) ms)(hn:autoParam (ms.length=n) aR._auto_1)
  (hg:autoParam (Gl X x) aR._auto_1)(hdb:autoParam ((x == ("__debug__" : Str))=false) aD._auto_1)(he:autoParam (starEach (e::es) X.env=(false,eval e X.env)::starEach es X.env) aR._auto_1)(hpl:autoParam ((backTo pos (starEach es X.env)).any (·.1)=false) aR._auto_1) :
  MEC X E (.Call (.Name x p) (e::es) [] pos) (zH F ms):=by
 obtain⟨f,fd,G,hm,hk,hb⟩:=G
 obtain⟨t,p1,r1⟩:=ha
 exact⟨_,qO G hr hg hm hk hb hx p1 hdb he hpl,uV r1 hn⟩
end
end PM
namespace PM
open PySem PySem.Spec PyProof.Rows L2
section
variable {K:PySem.W.Frag}{E:XK}{G:Hp}
end
section
variable {X:Cx}{E:XK}{e f v:Expr}{sts:List Stmt}{pos p2 p3:Pos}{m mv mk mx:M D}{mf:M Fl}
end
end PM
namespace PM
open PySem PySem.Spec PyProof.Rows L2 PySem.SeqAt MeetsSeq MeetsSeq2
open AutoSeq1 (wpAny_loadPart')
theorem qK {h:Heap}{d:PyData}:∀ {xs:List PyData}{vs:List Value}{as:List Addr},PyData.canLayAll0 xs=true->ReadsAll h vs xs as->∀ (i:Nat) (v:Value),vs[i]? = some v->∃ x,xs[i]? = some x/\PyData.eqv (readOf h v) d=PyData.eqv x d:=by
 intro xs vs as hc r i v hv
 have:=readsAll_map xs vs as hc r
 refine⟨readOf h v,?_,rfl⟩
 rw[<-this,List.getElem?_map,hv]
 rfl
theorem uW {dx:D}(p:dx.plain=true):∀ {ys:List D},D.plains ys=true->∀ (i:Nat)(x:PyData),(D.pys ys)[i]? = some x->∃ y,ys[i]? = some y/\PyData.eqv x dx.py=y.eqv dx
 |[],_,i,x,e=>by cases i<;>cases e
 |a::r,h,i,x,e=>by
  have h':(a.plain && D.plains r)=true:=h
  rw[Bool.and_eq_true]at h'
  cases i with
  |zero=>cases e;exact⟨a,rfl,wn h'.1 p⟩
  |succ i=>exact uW p h'.2 i x e
section
variable {X:Cx}{K:PySem.W.Frag}{E:XK}
inductive RIdx (K:PySem.W.Frag)(Sq:PySem.W.Frag->Hp->Addr->List V->Prop)(x:V)(vs:List V)(H:Hp)(Q:VK):Prop where
 |mk (p:Addr)(y:V)(ws:List V)(ys:List D)(dx:D) (j:Nat)(e1:x=.ref p)(e2:vs=[y])(hq:Sq K H p ws)(rl:zJ K H ys ws)(r1:Rep K H dx y)(p1:dx.plain=true)(p2:D.plains ys=true)(hd:D.deeps ys<=30)(hj:VU ys dx=some j)(q:Q (.int (j:Nat)) H)
noncomputable abbrev kG (K:PySem.W.Frag)(Sq:PySem.W.Frag->Hp->Addr->List V->Prop):V->List V->Hp->VK->Prop:=λx vs H Q=>RIdx K Sq x vs H Q
theorem uu {pins:List (Addr×Obj)}{s:Shared}{σ:St}{H:Hp}{ys:List D}{ws:List V}{its:List Value}{dx:D}{y:V}{u:Value}{k:Nat}(hr:Room k X.A)(I:Inv X pins σ H s)(rl:zJ X.K H ys ws)(rt:Vals ws its)(r1:Rep X.K H dx y)(ru:RelV y u)
  (p1:dx.plain=true)(p2:D.plains ys=true)(hd:D.deeps ys<=30):(∀ z,z ∈ its.toArray->EqAt X.A.in1 s z u (PyData.eqv (readOf s.heap z) dx.py))/\(∀ (i:Nat) (v:Value),its[i]? = some v->∃ d,ys[i]? = some d/\PyData.eqv (readOf s.heap v) dx.py=d.eqv dx)/\ys.length=its.length:=by
 obtain⟨as,ra⟩:=yN I r1 ru p1
 obtain⟨bs,rb⟩:=ZU I rl rt p2
 have hu:X.A.units+1+min (PyData.depthAll (D.pys ys)) dx.py.depth<cLine:=by rw[yb p2];exact xq hr hd
 refine⟨items_eqAt (by simpa using rb) ra (yZ p2) (yz p1) hu,λi v hv=>?_,?_⟩
 ·obtain⟨x,hx,e⟩:=qK (d:=dx.py) (yZ p2) rb i v hv
  obtain⟨d,hd,e2⟩:=uW p1 p2 i x hx
  exact⟨d,hd,e.trans e2⟩
 ·rw[rl.len,rt.length]
theorem UQ {k:Nat}(hr:Room k X.A):MtR X "list.index" (kG X.K SqL):=by
 intro pins s σ H x vs v us Q I rx rv h
 obtain⟨p,y,ws,ys,dx,j,rfl,rfl,hq,rl,r1,p1,p2,hd,hj,q⟩:=h
 cases rx
 obtain⟨u,rfl,ru⟩:=vals1 rv
 obtain⟨its,rt,pl,hz⟩:=I.list hq
 obtain⟨⟨cls,dd,data,sl⟩,ho,hc,n,hdt⟩:=pl.isList
 simp only at hc hdt
 subst hc hdt
 obtain⟨h1,h2,h3⟩:=uu hr I rl rt r1 ru p1 p2 hd
 obtain⟨hjl,hjt,hjn⟩:=List.findIdx?_eq_some_iff_getElem.mp hj
 have hji:j<its.length:=by omega
 have hz':=rt.length
 have hsl:(sizeLine:Nat)=16777216:=by decide
 refine call_meets PySem.F.slot_list_index ⟨_,ho,rfl⟩ PySem.F.entry_list_index (PySem.F.args_list_index_2 _ _) (list_indexAt p its.toArray n dd sl u (λz=>PyData.eqv (readOf s.heap z) dx.py) j (by simpa using hji) (by omega) ?_ ?_) ⟨ho,h1,⟨.int j,H,I.tok _,⟨_,rfl⟩,q⟩⟩
 ·obtain⟨d,hd,e⟩:=h2 j its[j] (List.getElem?_eq_getElem hji)
  rw[List.getElem?_eq_getElem hjl]at hd
  cases hd
  simpa using e.trans hjt
 ·intro m hm hlt
  have hm':m<its.length:=by simpa using hm
  obtain⟨d,hd,e⟩:=h2 m its[m] (List.getElem?_eq_getElem hm')
  rw[List.getElem?_eq_getElem (by omega)]at hd
  cases hd
  have:=hjn m hlt
  simp only[Bool.not_eq_true]at this
  simpa using e.trans this
inductive RCnt (K:PySem.W.Frag)(x:V)(vs:List V)(H:Hp)(Q:VK):Prop where
 |mk (p:Addr)(y:V)(ws:List V)(ys:List D)(dx:D)(e1:x=.ref p)(e2:vs=[y])(hq:SqL K H p ws)(rl:zJ K H ys ws)(r1:Rep K H dx y)(p1:dx.plain=true)(p2:D.plains ys=true)(hd:D.deeps ys<=30)(q:Q (.int ((ys.filter λy=>y.eqv dx).length:Nat)) H)
noncomputable abbrev kH (K:PySem.W.Frag):V->List V->Hp->VK->Prop:=λx vs H Q=>RCnt K x vs H Q
theorem VZ {α β:Type}{e:α->Bool}{f:β->Bool}:∀ {l:List α}{k:List β},k.length=l.length->(∀ (i:Nat)(a:α),l[i]? = some a->∃ b,k[i]? = some b/\e a=f b)->l.countP e=(k.filter f).length
 |[],[],_,_=>rfl
 |a::l,b::k,hl,h=>by
  obtain⟨b',hb,e1⟩:=h 0 a rfl
  cases hb
  have ih:=VZ (l:=l) (k:=k) (by simpa using hl) λi a' ha=>h (i+1) a' (by simpa using ha)
  rw[List.countP_cons,List.filter_cons,ih,e1]
  split<;>simp[*]
 |[],_::_,hl,_=>by simp at hl
 |_::_,[],hl,_=>by simp at hl
theorem UR {k:Nat}(hr:Room k X.A):MtR X "list.count" (kH X.K):=by
 intro pins s σ H x vs v us Q I rx rv h
 obtain⟨p,y,ws,ys,dx,rfl,rfl,hq,rl,r1,p1,p2,hd,q⟩:=h
 cases rx
 obtain⟨u,rfl,ru⟩:=vals1 rv
 obtain⟨its,rt,pl,hz⟩:=I.list hq
 obtain⟨⟨cls,dd,data,sl⟩,ho,hc,n,hdt⟩:=pl.isList
 simp only at hc hdt
 subst hc hdt
 obtain⟨h1,h2,h3⟩:=uu hr I rl rt r1 ru p1 p2 hd
 refine call_meets PySem.F.slot_list_count ⟨_,ho,rfl⟩ PySem.F.entry_list_count (PySem.F.args_list_count_2 _ _) (list_countAt p its.toArray n dd sl u (λz=>PyData.eqv (readOf s.heap z) dx.py)) ⟨ho,h1,?_⟩
 rw[show its.toArray.toList.countP (λz=>PyData.eqv (readOf s.heap z) dx.py)=(ys.filter λy=>y.eqv dx).length from VZ h3 h2]
 exact⟨.int _,H,I.tok _,⟨_,rfl⟩,q⟩
theorem VB {i:Nat}{r:V->List V->Hp->VK->Prop}{te:TE}{b:M D}{f:D->D->Option D}(hb:RE K E te b)
  (hf:∀ (G H:Hp)(p:Addr)(vs:List V)(y:V)(ds:List D)(dy d:D)(Q:VK),Same G H->SqL K H p vs->zJ K H ds vs->Rep K G dy y->f (.lst ds) dy=some d->(∀ v,Rep K G d v->Q v H)->r (.ref p) [y] H Q):RE K E (tBM K "list" r (tVar i) (tCons te tNil)) (WB f i b):=by
 intro G0 H0 ρ σ G H ho
 refine RAt.opt λds e=>?_
 obtain⟨a,vs,e1,e2,e3,e4,rr⟩:=ho.sl i _ (Zn e)
 intro Q hQ
 refine⟨.ref a,e1,.inl ⟨rfl,_,SqL.of e2⟩,?_⟩
 refine RAt.bind (r2:=λG d v=>Rep K G d v) (t2:=λy σ H2 Q=>r (.ref a) [y] H2 Q) (hb G0 H0 ρ σ G H ho) (λdy ρ2 y G2 H2 s2 h2 r2=>?_) Q hQ
 refine RAt.opt λds' e'=>?_
 refine RAt.opt1 λd ed=>?_
 obtain⟨a',vs',f1,f2,f3,f4,rr'⟩:=h2.sl i _ (Zn e')
 rw[e1]at f1
 cases f1
 intro Q hQ
 exact hf G2 H2 a vs' y ds' dy d Q h2.e.s (SqL.of f2) (rr'.mono h2.e.s) r2 ed λv rv=>hQ v G2 H2 (Same.refl _) h2 rv
theorem UZ {s x d:D}{ys:List D}(hs:s.items? = some ys)(e:Y4 s x=some d):∃ j,x.plain=true/\D.plains ys=true/\D.deeps ys<=30/\VU ys x=some j/\d=.int (j:Nat):=by
 unfold Y4 at e
 rw[hs]at e
 dsimp only at e
 split at e
 ·rename_i h
  simp only[Bool.and_eq_true,decide_eq_true_eq]at h
  obtain⟨j,e1,rfl⟩:=Option.map_eq_some_iff.mp e
  exact⟨j,h.1.1,h.1.2,h.2,e1,rfl⟩
 ·cases e
theorem Ue {ys:List D}{x d:D}(e:Y8 (.lst ys) x=some d):x.plain=true/\D.plains ys=true/\D.deeps ys<=30/\d=.int ((ys.filter λy=>y.eqv x).length:Nat):=by
 unfold Y8 at e
 dsimp only at e
 split at e
 ·rename_i h
  simp only[Bool.and_eq_true,decide_eq_true_eq]at h
  cases e
  exact⟨h.1.1,h.1.2,h.2,rfl⟩
 ·cases e
end
section
variable {X:Cx}{E:XK}{o e:Expr}{ap pos p2:Pos}{a b:M D}
theorem UU {k:Nat}(hr:Room k X.A) (i:Nat){x:Str}(hb:ME X E e b)(hN:autoParam (X.N[i]? = some x) aR._auto_1)(hv:autoParam (Vis X.env.scope x) aV._auto_1)(hd:autoParam ((x == ("__debug__" : Str))=false) aD._auto_1)
  (hcd:autoParam ((x == ("__classdict__" : Str))=false) aD._auto_1)(hs0:autoParam (starEach [e] X.env=(false,eval e X.env)::starEach [] X.env) aR._auto_1)(hbase:attributeBase (.Name x p2) "index" X.env (eval (.Name x p2) X.env)=eval (.Name x p2) X.env:=by rfl)
  (hfew:autoParam (((backTo pos (starEach [e] X.env)).all (λx=>!x.1) && (backToKw pos (keywordEach [] X.env)).all (λx=>x.1.isSome) && decide ([e].length+([]:List Keyword).length+(if ([]:List Keyword).isEmpty then 0 else 1)<30))=true) aR._auto_1)
  (hline:autoParam ((ap.endLine == pos.line)=true) aR._auto_1)(hplain:autoParam ((backTo pos (starEach [] X.env)).any (·.1)=false) aR._auto_1):ME X E (.Call (.Attribute (.Name x p2) "index" ap) [e] [] pos) (WB Y4 i b):=by
 obtain⟨tb,pb,rb⟩:=hb
 refine⟨_,pe_bm PySem.F.plainAttrs_list PySem.F.slot_list_index PySem.F.type_list_index (UQ hr) (pe_var hN hv hd hcd) (pa_cons pb pa_nil hs0) hbase hfew hline hs0 hplain,VB rb λG H p vs y ds dy d Q s hq rl ry ed q=>?_⟩
 obtain⟨j,p1,p2,p3,p4,rfl⟩:=UZ (ys:=_) rfl ed
 exact⟨p,y,vs,_,dy,j,rfl,rfl,hq,rl,ry.mono s,p1,p2,p3,p4,q _ (zM.mpr rfl)⟩
theorem UV {k:Nat}(hr:Room k X.A) (i:Nat){x:Str}(hb:ME X E e b)(hN:autoParam (X.N[i]? = some x) aR._auto_1)(hv:autoParam (Vis X.env.scope x) aV._auto_1)(hd:autoParam ((x == ("__debug__" : Str))=false) aD._auto_1)
  (hcd:autoParam ((x == ("__classdict__" : Str))=false) aD._auto_1)(hs0:autoParam (starEach [e] X.env=(false,eval e X.env)::starEach [] X.env) aR._auto_1)(hbase:attributeBase (.Name x p2) "count" X.env (eval (.Name x p2) X.env)=eval (.Name x p2) X.env:=by rfl)
  (hfew:autoParam (((backTo pos (starEach [e] X.env)).all (λx=>!x.1) && (backToKw pos (keywordEach [] X.env)).all (λx=>x.1.isSome) && decide ([e].length+([]:List Keyword).length+(if ([]:List Keyword).isEmpty then 0 else 1)<30))=true) aR._auto_1)
  (hline:autoParam ((ap.endLine == pos.line)=true) aR._auto_1)(hplain:autoParam ((backTo pos (starEach [] X.env)).any (·.1)=false) aR._auto_1):ME X E (.Call (.Attribute (.Name x p2) "count" ap) [e] [] pos) (WB Y8 i b):=by
 obtain⟨tb,pb,rb⟩:=hb
 refine⟨_,pe_bm PySem.F.plainAttrs_list PySem.F.slot_list_count PySem.F.type_list_count (UR hr) (pe_var hN hv hd hcd) (pa_cons pb pa_nil hs0) hbase hfew hline hs0 hplain,VB rb λG H p vs y ds dy d Q s hq rl ry ed q=>?_⟩
 obtain⟨p1,p2,p3,rfl⟩:=Ue ed
 exact⟨p,y,vs,ds,dy,rfl,rfl,hq,rl,ry.mono s,p1,p2,p3,q _ (zM.mpr rfl)⟩
end
end PM
namespace PM
open PySem PySem.Spec PyProof.Rows L2
noncomputable def YL:D->D->Option D
 |.str a,.str b=>if a.length+b.length<=sizeLine then some (.str (a++b)) else none
 |_,_=>none
noncomputable def Wr:D->Option D
 |.str a=>if a.length<=sizeLine then some (.int (a.length:Nat)) else none
 |_=>none
noncomputable def inS:D->D->Option D
 |.str a,.str b=>some (.bl (!(Builtin.Str.occurrences b a 0 b.length 1).isEmpty))
 |_,_=>none
noncomputable def Xa:D->Option D
 |.int i=>if i.natAbs.log2<1920 then some (.str (toString i)) else none
 |_=>none
noncomputable def ixS:D->D->Option D
 |.str a,.int i=>if a.length<=sizeLine then ((Xr a.cps.toList.length i).bind λj=>a.cps.toList[j]?).map λc=>.str ⟨#[c]⟩ else none
 |_,_=>none
noncomputable def xc:List D->Option (List Str)
 |[]=>some []
 |.str x::r=>(xc r).map (x :: ·)
 |_=>none
noncomputable def yh:D->D->Option D
 |.str x,.lst ds=>match xc ds with
  |some ys=>if (ys.map (·.length)).sum+ys.length * x.length<=16777216 then some (.str (Txt.join x ys)) else none
  |none=>none
 |_,_=>none
noncomputable def Zi:D->D->Option D
 |.str x,.str y=>if (y.length == 0)=false/\x.length<=sizeLine/\(Builtin.Str.partsBetween x (Builtin.Str.occurrences x y 0 x.length (x.length+1)) y.length).length<=sizeLine/\(Txt.split x y).length<=sizeLine then some (.lst ((Txt.split x y).map .str)) else none
 |_,_=>none
section
variable {X:Cx}{K:PySem.W.Frag}{E:XK}
theorem qT:OpM K (λx y H Q=>∃ i j,x=.str i/\y=.str j/\i.length+j.length<=sizeLine/\Q (.str (i++j)) H) YL:=by
 intro G H x y dx dy d Q s rx ry e q
 cases dx<;>first | (cases e;done) | (cases dy<;>first | (cases e;done) | skip)
 rename_i a b
 have e':(if a.length+b.length<=sizeLine then some (D.str (a++b)) else none)=some d:=e
 split at e'
 ·rename_i hz
  cases e'
  exact⟨a,b,zf.mp rx,zf.mp ry,hz,q _ G H (Ext.refl s) (Same.refl _) (zf.mpr rfl)⟩
 ·cases e'
theorem XI {a b:Expr}{ma mb:M D}{pos:Pos}(ha:ME X E a ma)(hb:ME X E b mb):ME X E (.BinOp a .Add b pos) (op2 YL ma mb):=Xo op_add_str qT ha hb
theorem Qt:OpM K (λx y H Q=>∃ i j,x=.str i/\y=.str j/\Q (.bl (!(Builtin.Str.occurrences j i 0 j.length 1).isEmpty)) H) inS:=by
 intro G H x y dx dy d Q s rx ry e q
 cases dx<;>first | (cases e;done) | (cases dy<;>first | (cases e;done) | skip)
 cases e
 exact⟨_,_,zf.mp rx,zf.mp ry,q _ G H (Ext.refl s) (Same.refl _) (ZN.mpr rfl)⟩
theorem JX {a b:Expr}{ma mb:M D}{pos:Pos}(ha:ME X E a ma)(hb:ME X E b mb)(hk:autoParam (behindInMarks .In b=false) aR._auto_1):ME X E (.Compare a [.In] [b] pos) (op2 inS ma mb):=YU op_in_str Qt ha hb hk
theorem Vc:ClM K (λxs H Q=>∃ z,xs=[.str z]/\z.length<=sizeLine/\Q (.int z.length) H) (zX Wr):=by
 intro G H xs ds d Q s r e q
 cases ds with
 |nil=>cases e
 |cons x t=>
  cases t with
  |cons _ _=>cases e
  |nil=>
   obtain⟨v,vr,rfl,rv,rr⟩:=r.cons_inv
   rw[rr.nil_inv]
   have e':Wr x=some d:=e
   cases x<;>first | (cases e';done) | skip
   rename_i a
   have e':(if a.length<=sizeLine then some (D.int (a.length:Nat)) else none)=some d:=e
   split at e'
   ·rename_i hz
    cases e'
    exact⟨a,by rw[zf.mp rv],hz,q _ G H (Ext.refl s) (Same.refl _) (zM.mpr rfl)⟩
   ·cases e'
theorem XV:ClM K (λxs H Q=>∃ i,xs=[.int i]/\i.natAbs.log2<1920/\Q (.str (toString i)) H) (zX Xa):=by
 intro G H xs ds d Q s r e q
 cases ds with
 |nil=>cases e
 |cons x t=>
  cases t with
  |cons _ _=>cases e
  |nil=>
   obtain⟨v,vr,rfl,rv,rr⟩:=r.cons_inv
   rw[rr.nil_inv]
   have e':Xa x=some d:=e
   cases x<;>first | (cases e';done) | skip
   rename_i a
   have e':(if a.natAbs.log2<1920 then some (D.str (toString a)) else none)=some d:=e
   split at e'
   ·rename_i hz
    cases e'
    exact⟨a,by rw[zM.mp rv],hz,q _ G H (Ext.refl s) (Same.refl _) (zf.mpr rfl)⟩
   ·cases e'
theorem Qs:OpM K rIxS ixS:=by
 intro G H x y dx dy d Q s rx ry e q
 cases dx<;>first | (cases e;done) | (cases dy<;>first | (cases e;done) | skip)
 rename_i a i
 have e':(if a.length<=sizeLine then ((Xr a.cps.toList.length i).bind λj=>a.cps.toList[j]?).map λc=>D.str ⟨#[c]⟩ else none)=some d:=e
 split at e'
 ·rename_i hz
  obtain⟨c,hc,rfl⟩:=Option.map_eq_some_iff.mp e'
  exact⟨a,i,c,zf.mp rx,zM.mp ry,hz,hc,q _ G H (Ext.refl s) (Same.refl _) (zf.mpr rfl)⟩
 ·cases e'
theorem JV {a b:Expr}{ma mb:M D}{pos:Pos}(ha:ME X E a ma)(hb:ME X E b mb)(hs:PlainIx b:=by intro _ _;rfl):ME X E (.Subscript a b pos) (op2 ixS ma mb):=by
 obtain⟨ta,pa,ra⟩:=ha
 obtain⟨tb,pb,rb⟩:=hb
 exact⟨_,pe_ix ix_str pa pb hs,W5 Qs ra rb⟩
end
end PM
namespace PM
open PySem PySem.Spec PyProof.Rows L2
open PySem.Builtin PySem.Builtin.Str
noncomputable def Jt:D->Option Str
 |.str x=>some x
 |_=>none
noncomputable def Zc (f:D->D->Option D)(a b:M D):M D:=λρ=>(a ρ).bnd λx ρ=>(z8 (Jt x) ρ).bnd λ_ ρ=>(b ρ).bnd λy ρ=>z8 (f x y) ρ
section
variable {prog:Program}{w:World}{A:Around}{E:Value->Shared->Prop}{s:Shared}{x y:Str}{t u:Tok}{Q:Value->Shared->Prop}
theorem UE (hy:(y.length == 0)=false)(hsz:x.length<=sizeLine)(hsz2:(partsBetween x (occurrences x y 0 x.length (x.length+1)) y.length).length<=sizeLine)
  (hq:∀ (l:List (Str×Tok)) k,l.map (·.1)=Txt.split x y->Q (.ref s.heap.objs.size) { s with heap:=s.heap.push { cls:=.type "list",data:=.seq (strValues l).toArray },toks:=k }) :
  wpAny (model prog w) A (call (.builtin "str.split") [.str x t,.str y u]) Q E s:=by
 cases h1:(decide (x.length<y.length) || decide (strKind x<strKind y))
 ·cases hf:(occurrences x y 0 x.length (x.length+1)).isEmpty
  ·refine call_meets PySem.F.slot_str_split (typeIs_str _ _ _) PySem.F.entry_str_split (PySem.F.args_str_split_2 _ _) (meets_str_split_sep x y t u h1 hy hf hsz hsz2) ?_
   have:=hq (numbered s.toks (partsBetween x (occurrences x y 0 x.length (x.length+1)) y.length)) (s.toks+(partsBetween x (occurrences x y 0 x.length (x.length+1)) y.length).length)
    ((numbered_texts _ _).trans ((if_neg (ne_true_of_eq_false h1)).trans (if_neg (ne_true_of_eq_false hf))).symm)
   rw[<-strsFrom_eq]at this
   exact this
  ·exact call_meets PySem.F.slot_str_split (typeIs_str _ _ _) PySem.F.entry_str_split (PySem.F.args_str_split_2 _ _) (meets_str_split_not_found x y t u h1 hy hf) (hq [(x,t)] s.toks ((if_neg (ne_true_of_eq_false h1)).trans (if_pos hf)).symm)
 ·exact call_meets PySem.F.slot_str_split (typeIs_str _ _ _) PySem.F.entry_str_split (PySem.F.args_str_split_2 _ _) (meets_str_split_cannot_occur x y t u h1) (hq [(x,t)] s.toks (if_pos h1).symm)
end
theorem u8:∀ {ys:List Str}{us:List Value},Vals (ys.map V.str) us->StrsAre us ys:=by
 intro ys
 induction ys with
 |nil=>intro us r;rw[List.map_nil]at r;cases r;exact .nil
 |cons n ns ih=>
  intro us r
  rw[List.map_cons]at r
  cases r with
  |cons r1 r2=>
   obtain⟨t,e⟩:=r1
   subst e
   exact .cons n t (ih r2)
theorem Wz:∀ l:List (Str×Tok),Vals ((l.map (·.1)).map V.str) (strValues l)
 |[]=>.nil
 |p::r=>.cons ⟨p.2,rfl⟩ (Wz r)
section
variable {X:Cx}{K:PySem.W.Frag}{E:XK}
theorem Vn {G:Hp}:∀ {ds:List D}{vs:List V}{ys:List Str},xc ds=some ys->zJ K G ds vs->vs=ys.map V.str:=by
 intro ds
 induction ds with
 |nil=>intro vs ys e r;cases e;rw[r.nil_inv];rfl
 |cons d ds ih=>
  intro vs ys e r
  obtain⟨v,vr,rfl,rv,rr⟩:=r.cons_inv
  cases d<;>first | (cases e;done) | skip
  obtain⟨zs,ez,rfl⟩:=Option.map_eq_some_iff.mp e
  rw[zf.mp rv,ih ez rr]
  rfl
theorem W3 {G:Hp}:∀ ys:List Str,zJ K G (ys.map .str) (ys.map V.str)
 |[]=>zJ.nil
 |y::r=>zJ.cons (zf.mpr rfl) (W3 r)
noncomputable def Jx (K:PySem.W.Frag):V->List V->Hp->VK->Prop:=λx vs H Q=>∃ z p ys,x=.str z/\vs=[.ref p]/\SqL K H p (ys.map V.str)/\(ys.map (·.length)).sum+ys.length * z.length<=16777216/\Q (.str (Txt.join z ys)) H
theorem Q3:MtR X "str.join" (Jx X.K):=by
 intro pins s σ H x vs v us Q I rx rv h
 obtain⟨z,p,ys,rfl,rfl,hq,hz,q⟩:=h
 obtain⟨t,rfl⟩:=rx
 obtain⟨u,rfl,ru⟩:=vals1 rv
 cases ru
 obtain⟨its,r,pl,_⟩:=I.list hq
 exact join_list pl.isList (u8 r) hz λt' k=>⟨.str _,H,I.tok _,⟨_,rfl⟩,q⟩
noncomputable def JD:V->List V->Hp->VK->Prop:=λx vs H Q=>∃ z y,x=.str z/\vs=[.str y]/\(y.length == 0)=false/\z.length<=sizeLine/\(partsBetween z (occurrences z y 0 z.length (z.length+1)) y.length).length<=sizeLine/\(Txt.split z y).length<=sizeLine ∧
 ∀ l,H l=none->Q (.ref l) (upd H l (.lst ((Txt.split z y).map V.str)))
theorem qX:MtR X "str.split" JD:=by
 intro pins s σ H x vs v us Q I rx rv h
 obtain⟨z,y,rfl,rfl,hy,h1,h2,h3,q⟩:=h
 obtain⟨t,rfl⟩:=rx
 obtain⟨u,rfl,t',rfl⟩:=vals1 rv
 refine UE hy h1 h2 λl k e=>?_
 refine⟨.ref s.heap.objs.size,_,I.laid (t':=k) (λb o e=>Heap.get?_push_of_some _ e) (Nat.le_refl _) (show ObjOk X.prog X.w _ _ _ (.lst ((Txt.split z y).map V.str)) from ⟨by rw[List.length_map];exact h3,strValues l,_,by rw[<-e];exact Wz l,Heap.get?_push_size _ rfl⟩),rfl,q _ (I.hok.fresh (Nat.le_refl _))⟩
theorem VA {r:V->List V->Hp->VK->Prop}{to te:TE}{a b:M D}{f:D->D->Option D}(ha:RE K E to a)(hb:RE K E te b)
  (hf:∀ (G H:Hp) (z:Str)(y:V)(dy d:D)(Q:VK),Same G H->Rep K G dy y->f (.str z) dy=some d->(∀ v G' H',Ext G H G' H'->Same H H'->Rep K G' d v->Q v H')->r (.str z) [y] H Q):RE K E (tBM K "str" r to (tCons te tNil)) (Zc f a b):=by
 intro G0 H0 ρ σ G H ho
 refine RAt.bind (t2:=λx σ H1 Q=>tyV K "str" x H1/\te σ H1 λy H2=>r x [y] H2 Q) (ha G0 H0 ρ σ G H ho) λdx ρ1 x G1 H1 s1 h1 r1=>?_
 refine RAt.opt λds e=>?_
 intro Q hQ
 cases dx<;>first | (cases e;done) | skip
 rename_i z
 have r1':x=.str z:=zf.mp r1
 subst r1'
 refine⟨rfl,?_⟩
 refine RAt.bind (r2:=λG d v=>Rep K G d v) (t2:=λy σ H2 Q=>r (.str z) [y] H2 Q) (hb G0 H0 ρ1 σ G1 H1 h1) (λdy ρ2 y G2 H2 s2 h2 r2=>?_) Q hQ
 refine RAt.opt1 λd e=>?_
 intro Q hQ
 exact hf G2 H2 z y dy d Q h2.e.s r2 e λw G' H' x hs rw'=>hQ w G' H' x.g (h2.grow x hs) rw'
end
section
variable {X:Cx}{E:XK}{o e:Expr}{ap pos:Pos}{a b:M D}
theorem xG (ha:ME X E o a)(hb:ME X E e b)(hs0:autoParam (starEach [e] X.env=(false,eval e X.env)::starEach [] X.env) aR._auto_1)(hbase:attributeBase o "join" X.env (eval o X.env)=eval o X.env:=by rfl)
  (hfew:autoParam (((backTo pos (starEach [e] X.env)).all (λx=>!x.1) && (backToKw pos (keywordEach [] X.env)).all (λx=>x.1.isSome) && decide ([e].length+([]:List Keyword).length+(if ([]:List Keyword).isEmpty then 0 else 1)<30))=true) aR._auto_1)
  (hline:autoParam ((ap.endLine == pos.line)=true) aR._auto_1)(hplain:autoParam ((backTo pos (starEach [] X.env)).any (·.1)=false) aR._auto_1):ME X E (.Call (.Attribute o "join" ap) [e] [] pos) (Zc yh a b):=by
 obtain⟨ta,pa,ra⟩:=ha
 obtain⟨tb,pb,rb⟩:=hb
 refine⟨_,pe_bm PySem.F.plainAttrs_str PySem.F.slot_str_join PySem.F.type_str_join Q3 pa (pa_cons pb pa_nil hs0) hbase hfew hline hs0 hplain,VA ra rb λG H z y dy d Q s ry ed q=>?_⟩
 cases dy<;>first | (cases ed;done) | skip
 rename_i ds
 obtain⟨p,vs,rfl,hq,rl⟩:=zg.mp ry
 have ed':(match xc ds with | some ys=>if (ys.map (·.length)).sum+ys.length * z.length<=16777216 then some (D.str (Txt.join z ys)) else none | none=>none)=some d:=ed
 cases ez:xc ds with
 |none=>rw[ez]at ed';cases ed'
 |some ys=>
  rw[ez]at ed'
  dsimp only at ed'
  split at ed'
  ·rename_i hz
   cases ed'
   exact⟨z,p,ys,rfl,rfl,by rw[<-Vn ez rl];exact s.seq hq,hz,q _ G H (Ext.refl s) (Same.refl _) (zf.mpr rfl)⟩
  ·cases ed'
theorem YG (ha:ME X E o a)(hb:ME X E e b)(hs0:autoParam (starEach [e] X.env=(false,eval e X.env)::starEach [] X.env) aR._auto_1)(hbase:attributeBase o "split" X.env (eval o X.env)=eval o X.env:=by rfl)
  (hfew:autoParam (((backTo pos (starEach [e] X.env)).all (λx=>!x.1) && (backToKw pos (keywordEach [] X.env)).all (λx=>x.1.isSome) && decide ([e].length+([]:List Keyword).length+(if ([]:List Keyword).isEmpty then 0 else 1)<30))=true) aR._auto_1)
  (hline:autoParam ((ap.endLine == pos.line)=true) aR._auto_1)(hplain:autoParam ((backTo pos (starEach [] X.env)).any (·.1)=false) aR._auto_1):ME X E (.Call (.Attribute o "split" ap) [e] [] pos) (Zc Zi a b):=by
 obtain⟨ta,pa,ra⟩:=ha
 obtain⟨tb,pb,rb⟩:=hb
 refine⟨_,pe_bm PySem.F.plainAttrs_str PySem.F.slot_str_split PySem.F.type_str_split qX pa (pa_cons pb pa_nil hs0) hbase hfew hline hs0 hplain,VA ra rb λG H z y dy d Q s ry ed q=>?_⟩
 cases dy<;>first | (cases ed;done) | skip
 rename_i y'
 have ry':=zf.mp ry
 subst ry'
 have ed':(if (y'.length == 0)=false/\z.length<=sizeLine/\(partsBetween z (occurrences z y' 0 z.length (z.length+1)) y'.length).length<=sizeLine/\(Txt.split z y').length<=sizeLine then some (D.lst ((Txt.split z y').map .str)) else none)=some d:=ed
 split at ed'
 ·rename_i hz
  cases ed'
  refine⟨z,y',rfl,rfl,hz.1,hz.2.1,hz.2.2.1,hz.2.2.2,λl hl=>?_⟩
  have x:=Ext.new (o:=.lst ((Txt.split z y').map V.str)) s hl
  exact q _ _ _ x (Same.upd hl) (zg.mpr ⟨l,_,rfl,SqL.of upd_same,W3 _⟩)
 ·cases ed'
end
end PM
namespace PM
open PySem PySem.Spec PyProof.Rows L2
open PySem.Builtin PySem.Builtin.Str
noncomputable def slS (d:D)(lo hi:Option Int):Option D:=match d with
 |.str x=>if x.length<=sizeLine then some (.str (Txt.slice x lo hi)) else none
 |_=>none
noncomputable def z5 (a:M D)(lo hi:Option (M D)):M D:=λρ=>(a ρ).bnd λx ρ=>(ye lo ρ).bnd λl ρ=>(ye hi ρ).bnd λh ρ=>z8 (slS x l h) ρ
section
variable {X:Cx}{K:PySem.W.Frag}{E:XK}
noncomputable def Qj:V->Option Int->Option Int->Hp->VK->Prop:=λx lo hi H Q=>∃ z,x=.str z/\z.length<=sizeLine/\Q (.str (Txt.slice z lo hi)) H
theorem jr:SlR X Qj:=by
 intro pins s σ H x v vl vu lo hi sl Q I rx hs pl pu h
 obtain⟨z,rfl,hz,q⟩:=h
 obtain⟨t,rfl⟩:=rx
 obtain⟨os,hos,hcs,hds⟩:=hs
 refine⟨"str",_,PySem.F.slot_str_getitem.lookup,typeIs_str _ _ _,?_⟩
 have fin:∀ (t':Tok) (k:Nat),EP X pins σ Q (.str (Txt.slice z lo hi) t') { s with toks:=k }:=λt' k=>⟨.str _,H,I.tok _,⟨_,rfl⟩,q⟩
 cases pl with
 |none=>
  cases pu with
  |none=>exact wpAny_getItem_str_slice (l:=none) (u:=none) (st:=none) ⟨os,hos,hcs,hds⟩ rfl (post_val_or_str ⟨Nat.le_trans (Txt.slice_le z _ _) hz,fin⟩)
  |int j uj=>exact wpAny_getItem_str_slice (l:=none) (u:=some (j,uj)) (st:=none) ⟨os,hos,hcs,hds⟩ rfl (post_val_or_str ⟨Nat.le_trans (Txt.slice_le z _ _) hz,fin⟩)
 |int i ui=>
  cases pu with
  |none=>exact wpAny_getItem_str_slice (l:=some (i,ui)) (u:=none) (st:=none) ⟨os,hos,hcs,hds⟩ rfl (post_val_or_str ⟨Nat.le_trans (Txt.slice_le z _ _) hz,fin⟩)
  |int j uj=>exact wpAny_getItem_str_slice (l:=some (i,ui)) (u:=some (j,uj)) (st:=none) ⟨os,hos,hcs,hds⟩ rfl (post_val_or_str ⟨Nat.le_trans (Txt.slice_le z _ _) hz,fin⟩)
theorem yc {e:Expr}{lo hi:Option Expr}{m:M D}{ml mh:Option (M D)}{p2 pos:Pos}(h:ME X E e m)(hl:MO X E lo ml)(hh:MO X E hi mh):ME X E (.Subscript e (.Slice lo hi none p2) pos) (z5 m ml mh):=by
 obtain⟨t,p,r⟩:=h
 obtain⟨tl,pl,rl⟩:=hl
 obtain⟨th,ph,rh⟩:=hh
 refine⟨_,pe_slice jr p pl ph,?_⟩
 intro G0 H0 ρ σ G H ho
 refine RAt.bind (t2:=λx σ H1 Q=>tl σ H1 λl H2=>th σ H2 λu H3=>Qj x l u H3 Q) (r G0 H0 ρ σ G H ho) λd ρ1 v G1 H1 s1 h1 r1=>?_
 refine RAt.bind (t2:=λl σ H2 Q=>th σ H2 λu H3=>Qj v l u H3 Q) (rl G0 H0 ρ1 σ G1 H1 h1) λl ρ2 l' G2 H2 s2 h2 r2=>?_
 refine RAt.bind (t2:=λu σ H3 Q=>Qj v l' u H3 Q) (rh G0 H0 ρ2 σ G2 H2 h2) λu ρ3 u' G3 H3 s3 h3 r3=>?_
 subst r2
 subst r3
 refine RAt.opt1 λdd ed=>?_
 intro Q hQ
 cases d<;>first | (cases ed;done) | skip
 rename_i z
 have ed':(if z.length<=sizeLine then some (D.str (Txt.slice z l' u')) else none)=some dd:=ed
 split at ed'
 ·rename_i hz
  cases ed'
  exact⟨z,zf.mp r1,hz,hQ _ G3 H3 (Same.refl _) h3 (zf.mpr rfl)⟩
 ·cases ed'
noncomputable def vf:D->Option D
 |.str x=>if x.length<=640 then (PySem.intText? x).map .int else none
 |_=>none
theorem vG:CallR X (.type "int") (λxs H Q=>∃ z n,xs=[.str z]/\z.length<=640/\PySem.intText? z=some n/\Q (.int n) H):=by
 intro pins s σ H xs us Q I r h
 obtain⟨z,n,rfl,hl,hn,q⟩:=h
 obtain⟨u,rfl,t,rfl⟩:=vals1 r
 exact PySem.W.KIN.call_text hn hl ⟨.int n,H,I.tok _,⟨_,rfl⟩,q⟩
theorem Vd:ClM K (λxs H Q=>∃ z n,xs=[.str z]/\z.length<=640/\PySem.intText? z=some n/\Q (.int n) H) (zX vf):=by
 intro G H xs ds d Q s r e q
 cases ds with
 |nil=>cases e
 |cons x t=>
  cases t with
  |cons _ _=>cases e
  |nil=>
   obtain⟨v,vr,rfl,rv,rr⟩:=r.cons_inv
   rw[rr.nil_inv]
   have e':vf x=some d:=e
   cases x<;>first | (cases e';done) | skip
   rename_i a
   have e':(if a.length<=640 then (PySem.intText? a).map D.int else none)=some d:=e
   split at e'
   ·rename_i hz
    obtain⟨n,hn,rfl⟩:=Option.map_eq_some_iff.mp e'
    exact⟨a,n,by rw[zf.mp rv],hz,hn,q _ G H (Ext.refl s) (Same.refl _) (zM.mpr rfl)⟩
   ·cases e'
end
end PM
namespace PM
open PySem PySem.Spec PyProof.Rows L2
section
variable {M:Model}{A:Around}{E:Value->Shared->Prop}{s:Shared}{env:Env}
theorem jI {T:String}{x:Str}{np pos:Pos}{e:Expr}{es:List Expr}{Q:Value->Shared->Prop}
  (h:wpAny M A (eval (.Name x np) env) (λu s₁=>u=.type T/\wpAny M A (spliced (backTo pos (starEach (e::es) env))) (λvs s₂=>wpC M A (call (.type T) vs) Q E s₂) E s₁) E s)
  (he:starEach (e::es) env=(false,eval e env)::starEach es env)(hpl:(backTo pos (starEach es env)).any (·.1)=false):wpC M A (eval (.Call (.Name x np) (e::es) [] pos) env) Q E s:=by
 rw[arm_eval_Call_Name']
 refine zF (wpAny_mono h (λu s₁ z=>?_) λ_ _ z=>z)
 obtain⟨rfl,z⟩:=z
 rw[he]at z ⊢
 unfold callWith
 refine z7 (yL (ze (zt (Calls.evalArgs_plain (f:=.type T) (Q:=λa s₂=>wpC M A (call (.type T) a.pos a.kw) Q E s₂) z)) (λa s₂ z2=>zF (wpAny_standAt ?_)) λ_ _ z=>z))
 have hp:((backTo pos ((false,eval e env)::starEach es env)).any (·.1))=false:=by
  show (false || (backTo pos (starEach es env)).any (·.1))=false
  rw[hpl];rfl
 simp only[hp,List.any_nil,Bool.or_false]
 refine zF (wpAny_pure ?_)
 exact z7 (ze z2 (λr s₃ hr=>zt (wpAny_bind (wpAny_holding (wpAny_point (wpAny_pure hr))))) λ_ _ z=>z)
end
noncomputable def xA (r:Addr)(m:M D):M Fl:=λρ=>match m ρ with
 |.ok (.str z) ρ1=>if (decide (z.length<=640) && z.cps.toList.all (λc=>decide (c<128)))=true then (match PySem.intText? z with | some n=>.ok (.ret (.int n)) ρ1 | none=>.exn r ρ1) else .bad
 |_=>.bad
section
variable {P:Program}{w:World}{K:PySem.W.Frag}{mg:Str->Option Value}{base:Heap}{N:List Str}{qual:Str}{scope:Scope}{f:Addr}{cd:Value}{A:Around}{outer:List Env}{s₀:Shared}{H₀:Hp}{E:XK}
 {pins:List (Addr×Obj)}{σ:St}{H:Hp}{s:Shared}
theorem QB {CR:Addr}{cr z:Str}{Q:Flow->Shared->Prop}{e:Addr}{h':Heap}{tk:Nat}{vs:List Value}{np rp cpos ap kp rpos hpos:Pos} {j kj}(I:Inv (cxOf (CX1 P w K) P w K mg base N qual scope f cd A outer s₀ H₀ E) pins σ H s)
  (hx:Heap.MadeExc s.heap h' e "ValueError" vs)(hm:mg "ValueError" = none)(hgl:Gl (cxOf (CX1 P w K) P w K mg base N qual scope f cd A outer s₀ H₀ E) "ValueError")
  (qR:PySem.W.excIn K CR Zl zo=true)(hmR:mg cr=some (.ref CR))(hglR:Gl (cxOf (CX1 P w K) P w K mg base N qual scope f cd A outer s₀ H₀ E) cr)(hnR:¬ Yd K (.ref CR))(hE:E (.ref CR) none H)(hdR:(cr == ("__debug__" : Str))=false) :
  wpAny (model P w) (A.deeper (envOfC qual scope s₀.heap.objs.size f cd)) (noteFrame (.ref e) (envOfC qual scope s₀.heap.objs.size f cd)) (λ_ s₂=>wpAny (model P w) (A.deeper (envOfC qual scope s₀.heap.objs.size f cd)) (setFlight (.ref e) none) (λ_ s₃=>wpAny (model P w) (A.deeper (envOfC qual scope s₀.heap.objs.size f cd)) (handleBy (.ref e) (envOfC qual scope s₀.heap.objs.size f cd) [.ExceptHandler (some (.Name "ValueError" np)) none [.Raise (some (.Call (.Name cr rp) [.Constant (.str z) j ap] [] cpos)) (some (.Constant .none kj kp)) rpos] hpos]) Q (cxOf (CX1 P w K) P w K mg base N qual scope f cd A outer s₀ H₀ E).xe s₃) (cxOf (CX1 P w K) P w K mg base N qual scope f cd A outer s₀ H₀ E).xe s₂) (cxOf (CX1 P w K) P w K mg base N qual scope f cd A outer s₀ H₀ E).xe { s with heap:=h',toks:=tk }:=by
 have hf:(envOfC qual scope s₀.heap.objs.size f cd).frame=some s₀.heap.objs.size:=rfl
 have Im:=I.tok tk
 obtain⟨t,ht,htn,htt⟩:=hx.there
 have hen:(PySem.W.hideAll s.heap (frs (envOfC qual scope s₀.heap.objs.size f cd::outer))).get? e=none:=by
  cases q:(PySem.W.hideAll s.heap (frs (envOfC qual scope s₀.heap.objs.size f cd::outer))).get? e with
  |none=>rfl
  |some o=>have:=PySem.W.of_hideAll _ q;rw[hx.new]at this;cases this
 have hl:h'.FunFrames (PySem.W.hideAll s.heap (frs (envOfC qual scope s₀.heap.objs.size f cd::outer))) (envOfC qual scope s₀.heap.objs.size f cd::outer):=(PySem.W.funFrames_hide I.stack uA).of_keeps λb o hb _=>⟨o,hx.keeps b o hb,rfl⟩
 have hkb:(PySem.W.hideAll s.heap (frs (envOfC qual scope s₀.heap.objs.size f cd::outer))).StaysIn h':=λb o q=>hx.keeps b o (PySem.W.of_hideAll _ q)
 have hfrs:(A.deeper (envOfC qual scope s₀.heap.objs.size f cd)).frames=some (envOfC qual scope s₀.heap.objs.size f cd::outer):=I.ok.frames
 refine noteFrame_firstC (ok:=VJ) hfrs hl hf ht hkb hen rfl rfl rfl λh4 hN=>?_
 obtain⟨n1,n2,n3,n4⟩:=hN
 refine wpAny_landsC (l:=envOfC qual scope s₀.heap.objs.size f cd::outer) (fl:=rawInt s₀.heap.objs.size) ⟨n1,hen,n2,n3⟩ λh5 x5 u5'=>?_
 have u5:h'.UpToSlots h5:=Heap.UpToSlots.trans n4 u5'
 have J:∀ h6,Heap.FlyingC (PySem.W.hideAll s.heap (frs (envOfC qual scope s₀.heap.objs.size f cd::outer))) (envOfC qual scope s₀.heap.objs.size f cd::outer) e (.type "ValueError") VJ h6->h'.UpToSlots h6->Inv (cxOf (CX1 P w K) P w K mg base N qual scope f cd A outer s₀ H₀ E) pins σ H { s with heap:=h6,toks:=tk }:=λh6 x6 u6=>by
  have fr:∀ b o,s.heap.get? b=some o->b ∈ frs (envOfC qual scope s₀.heap.objs.size f cd::outer)->∃ sl,h6.get? b=some { o with slots:=sl }:=λb o q hb=>by
   have nf:∀ vs,o.data≠.fields vs:=by
    obtain⟨_,o2,q2,nf⟩:=I.stack.mem hb
    rw[q]at q2
    cases q2
    exact nf
   exact u6 b _ (hx.keeps b o q) nf
  have kp:∀ b o,s.heap.get? b=some o->b ∉ frs (envOfC qual scope s₀.heap.objs.size f cd::outer)->h6.get? b=some o:=λb o q hb=>x6.1 b o (PySem.W.hideAll_get _ q hb)
  refine Im.call' (s':={ s with heap:=h6,toks:=tk }) (ch:=[]) rfl ⟨λb o q n hb _=>kp b o q hb,λb o q n hb _=>fr b o q hb,λb o q n _=>n,λb o q _=>?_,λb xs q=>q,λb o u q=>q,λb ps q=>⟨#[],by rw[Array.append_empty];exact q⟩⟩ (λb u q=>?_) Im.bare λb z=>by cases z
  ·by_cases hb:b ∈ frs (envOfC qual scope s₀.heap.objs.size f cd::outer)
   ·obtain⟨sl,q'⟩:=fr b o q hb
    exact⟨_,q'⟩
   ·exact⟨o,kp b o q hb⟩
  ·refine (Im.hok b u q).stay (λc v hc r=>kp c v r λz=>?_) (λc r=>r) λc xs r=>r
   have:=Im.stkFree c z
   rcases hc with rfl | hc
   ·rw[q]at this;cases this
   ·rw[hc]at this;cases this
 obtain⟨oe,ws,qe,qc,qd,_⟩:=zq x5
 have J5:=J h5 x5 u5
 refine wpAny_handleBy_builtin (X:="ValueError") (T:="ValueError") (b:=true) PySem.F.isExc_ValueError ?_ PySem.F.self_ValueError ?_
 ·rw[isSubtype_type];kernel_rfl
 obtain⟨mb,hb1,hb2⟩:=J5.mod.blt
 refine Calls.Name_function_global J5.ok.kind hgl (Calls.loadGlobal_builtin (show h5.Ns mainGlobals mg from J5.mod.glob.keeps J5.bk) hm (show h5.Ns builtinsNs mb from hb1.keeps J5.bk) (v:=.type "ValueError") ((hb2 "ValueError" (by decide)).trans rfl) ⟨rfl,⟨oe,qe,qc⟩,?_⟩) (by decide)
 refine YW x5 λh6 x6 u6=>?_
 have J6:=J h6 x6 (u5.trans u6)
 have hA':((A.deeper (envOfC qual scope s₀.heap.objs.size f cd)).mark (some (.ref e))).frames=some (envOfC qual scope s₀.heap.objs.size f cd::outer):=I.ok.frames
 obtain⟨oe6,ws6,qe6,qc6,qd6,p6⟩:=zq x6
 obtain⟨bm3,N3,nm3,qn3,bs3,hdct3,sn3,sub3,ab3,col3,dd3,i0,i1,i2,i3,i5,mN3,hC3,hN3,hni3,T3,_⟩:=yG J6.kIn qR
 refine wpAny_execs_cons (Y7 (C:=CR) (nm:=nm3) (q:=qn3) (N:=N3) (bs:=bs3) (bm:=bm3) (hdct:=hdct3) (sn:=sn3) (sub:=sub3) (ab:=ab3) (col:=col3) (dd:=dd3) (k0:=i0) (k1:=i1) (k2:=i2) (k3:=i3) (k5:=i5) (c:=e)
  PySem.F.excBase_ValueError (mN:=mN3) (T3.hasType PySem.F.excBase_ValueError.hasBase) rfl rfl hni3 (Calls.Name_function_global J6.ok.kind hglR (Calls.loadGlobal_global (show h6.Ns mainGlobals mg from J6.mod.glob.keeps J6.bk) hmR ⟨rfl,?_⟩) hdR))
 refine Calls.evalArgs_plain (Calls.spliced_cons (Calls.Constant_str (k:=j) (pos:=ap) (Calls.spliced_nil ⟨rfl,(by show 1<=sizeLine;decide),hC3,hN3,T3,oe6,ws6,qe6,qd6,p6,λh7 e7 hx7=>?_⟩)))
 exact xZ (J6.tok _) hA' hx7 hnR hE
theorem V2 {CR:Addr}{cr z:Str}{e:Expr}{m:M D}{ip ic ir np rp cpos ap kp rpos hpos pos:Pos} {j kj}(hmV:mg "ValueError" = none)(hmI:mg "int" = none)(qR:PySem.W.excIn K CR Zl zo=true)(hmR:mg cr=some (.ref CR))(hnR:¬ Yd K (.ref CR))
  (hb:∀ (pins:List (Addr×Obj))(xe:Value->Shared->Prop)(E':XK),Passes (CX1 P w K) (Cx.tr (cxOf (CX1 P w K) P w K mg base N qual scope f cd A outer s₀ H₀ E) pins xe) E'->MA (Cx.tr (cxOf (CX1 P w K) P w K mg base N qual scope f cd A outer s₀ H₀ E) pins xe) E' [e] [m])
  (hgl:Gl (cxOf (CX1 P w K) P w K mg base N qual scope f cd A outer s₀ H₀ E) "ValueError":=by rfl)(hgi:Gl (cxOf (CX1 P w K) P w K mg base N qual scope f cd A outer s₀ H₀ E) "int":=by rfl)(hglR:autoParam (Gl (cxOf (CX1 P w K) P w K mg base N qual scope f cd A outer s₀ H₀ E) cr) aR._auto_1)(hdR:autoParam ((cr == ("__debug__" : Str))=false) aD._auto_1)
  (he:autoParam (starEach [e] (envOfC qual scope s₀.heap.objs.size f cd)=(false,eval e (envOfC qual scope s₀.heap.objs.size f cd))::starEach [] (envOfC qual scope s₀.heap.objs.size f cd)) aR._auto_1) :
  MSC (cxOf (CX1 P w K) P w K mg base N qual scope f cd A outer s₀ H₀ E) E (.Try [.Return (some (.Call (.Name "int" ip) [e] [] ic)) ir] [.ExceptHandler (some (.Name "ValueError" np)) none [.Raise (some (.Call (.Name cr rp) [.Constant (.str z) j ap] [] cpos)) (some (.Constant .none kj kp)) rpos] hpos] [] [] pos) (xA CR m):=by
 refine⟨λD σ H=>∃ G0 H0 ρ G,Hold K G0 H0 ρ σ G H/\zU K E G0 H0 G (xA CR m ρ) D,?_,λG0 H0 ρ σ G H ho D hD=>⟨G0,H0,ρ,G,ho,hD⟩⟩
 intro pins s σ H D I h
 obtain⟨G0,H0,ρ,G,ho,hD⟩:=h
 refine Jn ?_
 generalize hXe:(λe₁ s₁=>wpAny (model P w) (A.deeper (envOfC qual scope s₀.heap.objs.size f cd)) (noteFrame e₁ (envOfC qual scope s₀.heap.objs.size f cd)) (λ_ s₂=>wpAny (model P w) (A.deeper (envOfC qual scope s₀.heap.objs.size f cd)) (setFlight e₁ none) (λ_ s₃=>wpAny (model P w) (A.deeper (envOfC qual scope s₀.heap.objs.size f cd)) (handleBy e₁ (envOfC qual scope s₀.heap.objs.size f cd) [.ExceptHandler (some (.Name "ValueError" np)) none [.Raise (some (.Call (.Name cr rp) [.Constant (.str z) j ap] [] cpos)) (some (.Constant .none kj kp)) rpos] hpos]) (SP (cxOf (CX1 P w K) P w K mg base N qual scope f cd A outer s₀ H₀ E) pins D) (cxOf (CX1 P w K) P w K mg base N qual scope f cd A outer s₀ H₀ E).xe s₃) (cxOf (CX1 P w K) P w K mg base N qual scope f cd A outer s₀ H₀ E).xe s₂) (cxOf (CX1 P w K) P w K mg base N qual scope f cd A outer s₀ H₀ E).xe s₁)=Xe
 have I0:Inv (Cx.tr (cxOf (CX1 P w K) P w K mg base N qual scope f cd A outer s₀ H₀ E) pins Xe) [] σ H s:=Inv.tr (pins:=pins) (by rw[List.append_nil];exact I)
 have hps:Passes (CX1 P w K) (Cx.tr (cxOf (CX1 P w K) P w K mg base N qual scope f cd A outer s₀ H₀ E) pins Xe) (λ_ _ _=>False):=by
  intro pins' σ1 H1 s1 e s1' I1 hx
  obtain⟨_,_,_,_,_,_,hE⟩:=hx
  exact hE.elim
 obtain⟨ta,pa,ra⟩:=hb pins Xe _ hps
 have step:=ra G0 H0 ρ σ G H ho (λvs H1=>∃ z,vs=[.str z]/\z.length<=640/\(∀ c ∈ z.cps.toList,c<128)/\(∀ n,PySem.intText? z=some n->D.rt (.int n) H1)/\(PySem.intText? z=none->E (.ref CR) none H1)) (by
  unfold xA at hD
  show Vh K _ (λG ds vs=>zJ K G ds vs) G0 H0 σ G ((m ρ).bnd λx ρ=>.ok [x] ρ) _
  cases q:m ρ with
  |ok d ρ1=>
   rw[q]at hD
   cases d<;>first | exact hD.elim | skip
   rename_i z
   dsimp only at hD
   split at hD
   ·rename_i hz
    rw[Bool.and_eq_true,decide_eq_true_eq,List.all_eq_true]at hz
    intro vs G1 H1 s1 h1 r1
    obtain⟨v,vr,rfl,rv,rr⟩:=r1.cons_inv
    rw[rr.nil_inv]
    refine⟨z,by rw[zf.mp rv],hz.1,λc hc=>of_decide_eq_true (hz.2 c hc),λn hn=>?_,λhn=>?_⟩
    ·rw[hn]at hD
     exact hD _ σ _ _ s1 h1 (zM.mpr rfl)
    ·rw[hn]at hD
     exact hD σ _ _ s1 h1
   ·exact hD.elim
  |exn c ρ1=>rw[q]at hD;exact hD.elim
  |bad=>rw[q]at hD;exact hD.elim)
 refine yw (Qg (jI (T:="int") (ld_blt I hgi hmI rfl ⟨rfl,?_⟩) he rfl))
 refine wpAny_mono (pa ic [] s σ H _ I0 step) (λus s1 ⟨vs,H1,I1,r1,q1⟩=>?_) λe s' x=>by have x':Xe e s':=x;rw[<-hXe]at x';exact x'
 obtain⟨z1,rfl,hl,ha,q1,q2⟩:=q1
 obtain⟨u,rfl,t,rfl⟩:=vals1 r1
 have I2:=Inv.untr I1
 rw[List.append_nil]at I2
 cases hz:PySem.intText? z1 with
 |some n=>exact zt (PySem.W.KIN.call_text hz hl ⟨.int n,σ,H1,I2.tok _,⟨_,rfl⟩,q1 n hz⟩)
 |none=>exact QC hl ha hz (I1.ok.hd rfl) λh1 e tk vs mx=>QB I2 mx hmV hgl qR hmR hglR hnR (q2 hz) hdR
end
end PM
namespace PM
open PySem PySem.Spec PyProof.Rows L2
theorem xa {h h' B B':Heap}:∀ {l:List Env},h.FunFrames B l->(∀ b,B.get? b=none->B'.get? b=none)->(∀ b ∈ frs l,h'.get? b=h.get? b)->h'.FunFrames B' l
 |[],_,_,_=>trivial
 |env::rest,hl,hb,hh=>by
  obtain⟨k,⟨L,o,hf,h1,h2,h3⟩,hr⟩:=hl
  exact⟨k,⟨L,o,hf,hb L h1,(hh L ((yK hf).mpr (.inl rfl))).trans h2,h3⟩,xa hr hb λb z=>hh b ((yK hf).mpr (.inr z))⟩
section
variable {P:Program}{w:World}{K:PySem.W.Frag}{mg:Str->Option Value}{base:Heap}{N:List Str}{qual:Str}{scope:Scope}{f:Addr}{cd:Value}{A:Around}{outer:List Env}{s₀:Shared}{H₀:Hp}{E:XK}
 {pins:List (Addr×Obj)}{σ:St}{H H':Hp}{s s':Shared}
theorem VF {cenv:Env}{cls e acc:Value}{B:Heap}{e0:Addr}{a0:VOk}{use:Option (Value->Sem Unit)}{QQ:Value->Shared->Prop}(I:Inv (cxOf (CX1 P w K) P w K mg base N qual scope f cd A outer s₀ H₀ E) pins σ H s)
  (F:Flying K P w (envOfC qual scope s₀.heap.objs.size f cd::outer) H H' s cls e s' B e0 a0)(he:E cls none H')(hcf:cenv.frame=some s₀.heap.objs.size)(hn:∃ m,s.heap.Ns cenv.locals m)(hC0:H cenv.locals=none)
  (hCs:cenv.locals ∉ frs (envOfC qual scope s₀.heap.objs.size f cd::outer))(hCz:s₀.heap.objs.size<=cenv.locals) :
  notedBy (model P w) (cxOf (CX1 P w K) P w K mg base N qual scope f cd A outer s₀ H₀ E).A cenv (λx s''=>xM (model P w) (cxOf (CX1 P w K) P w K mg base N qual scope f cd A outer s₀ H₀ E).A (cxOf (CX1 P w K) P w K mg base N qual scope f cd A outer s₀ H₀ E).xe use QQ acc cenv (.error x) s'') e s':=by
 have hf:(envOfC qual scope s₀.heap.objs.size f cd).frame=some s₀.heap.objs.size:=rfl
 have hen:noteFrame (.ref e0) cenv=noteFrame (.ref e0) (envOfC qual scope s₀.heap.objs.size f cd):=by
  have hfo:PySem.frameOf cenv=PySem.frameOf (envOfC qual scope s₀.heap.objs.size f cd):=by
   unfold PySem.frameOf
   rw[hcf,hf]
  unfold noteFrame
  rw[hcf,hf,hfo]
 unfold notedBy
 rw[F.ev,hen]
 refine wpAny_looks_onC I.ok.frames hf F.fl λh4 x4 u4=>?_
 obtain⟨m,o,es,ep,ho,r⟩:=hn
 have BC:B.get? cenv.locals=some o:=F.kb _ o ho hC0 hCs
 have nB:∀ b,B.get? b=none->b≠cenv.locals:=λb z q=>by rw[q,BC]at z;cases z
 suffices hgo:∃ m,h4.Ns cenv.locals m/\∀ h',Heap.SameBut cenv.locals h4 h'->wpAny (model P w) (A.deeper (envOfC qual scope s₀.heap.objs.size f cd)) (passOn "comprehension.variables-let-go" (.ref e0) cenv:Sem Value) (λ_ _=>False) (cxOf (CX1 P w K) P w K mg base N qual scope f cd A outer s₀ H₀ E).xe { s' with heap:=h' } by
  cases use<;>exact hgo
 refine⟨m,⟨o,es,ep,x4.1 _ o BC,r⟩,λh5 hs5=>?_⟩
 have hide:∀ b,B.get? b=none->(PySem.W.hideAll B [cenv.locals]).get? b=none:=λb z=>by
  cases q:(PySem.W.hideAll B [cenv.locals]).get? b with
  |none=>rfl
  |some o=>have:=PySem.W.of_hideAll _ q;rw[z]at this;cases this
 obtain⟨oe,vs,T,oT,ts,te,tc,td,t1,tn,tT,tg,tgd,t3⟩:=x4.way
 have x5:Heap.HeldC (PySem.W.hideAll B [cenv.locals]) (envOfC qual scope s₀.heap.objs.size f cd::outer) e0 cls a0 s₀.heap.objs.size h5:=by
  refine⟨λb q hb=>?_,hide _ x4.new,xa x4.frs hide λb hb=>hs5.2 b λz=>hCs (z ▸ hb),.mk oe vs T oT ts ((hs5.2 _ (nB _ x4.new)).trans te) tc td t1 (hide _ tn) tT ((hs5.2 _ (nB _ tn)).trans tg) tgd t3⟩
  have ne:b≠cenv.locals:=λz=>by
   rw[z,PySem.W.hideAll_none [cenv.locals] (h:=B) (b:=cenv.locals) (List.mem_cons_self ..)]at hb
   cases hb
  exact (hs5.2 b ne).trans (x4.1 b q (PySem.W.of_hideAll _ hb))
 unfold PySem.passOn
 have te5:h5.get? e0=some oe:=(hs5.2 _ (nB _ x4.new)).trans te
 refine wpAny_bind (wpAny_field te5 td t1 ?_)
 rw[if_neg (by simp)]
 rw[hcf]
 refine wpAny_bind (wpAny_flightC (some s₀.heap.objs.size) x5.st x5.frs x5.way λh6 k=>wpAny_throw ?_)
 show wpAny (model P w) (A.deeper (envOfC qual scope s₀.heap.objs.size f cd)) (leaving (envOfC qual scope s₀.heap.objs.size f cd) (.ref e0)) _ _ _
 unfold leaving
 refine wpAny_bind (wpAny_noteFrame_againC hf k.way ?_)
 refine wpAny_landsC (l:=envOfC qual scope s₀.heap.objs.size f cd::outer) (fl:=rawInt s₀.heap.objs.size) ⟨k.st,x5.new,k.frs,k.way⟩ λh7 x7 u7=>?_
 have base0:∀ b o,s₀.heap.get? b=some o->b≠s₀.heap.objs.size:=λb o q z=>by
  subst z
  exact absurd (Heap.lt_size q) (Nat.lt_irrefl _)
 have baseC:∀ b o,s₀.heap.get? b=some o->b≠cenv.locals:=λb o q z=>absurd (Nat.lt_of_lt_of_le (Heap.lt_size q) (z ▸ hCz)) (Nat.lt_irrefl _)
 have nofr:∀ b o,s₀.heap.get? b=some o->b ∉ frs outer->b ∉ frs (envOfC qual scope s₀.heap.objs.size f cd::outer):=λb o q hb z=>by
  rcases (yK hf).mp z with z | z
  ·exact base0 b o q z
  ·exact hb z
 have hid:∀ b o,b≠cenv.locals->B.get? b=some o->(PySem.W.hideAll B [cenv.locals]).get? b=some o:=λb o n q=>PySem.W.hideAll_get _ q λz=>n (List.mem_singleton.mp z)
 have kb:∀ b o,s₀.heap.get? b=some o->H₀ b=none->b ∉ frs outer->(PySem.W.hideAll B [cenv.locals]).get? b=some o:=λb o q n hb=>
  hid b o (baseC b o q) (F.kb b o (I.base.keep b o q n hb (by intro z;cases z)) (I.base.free b o q n (by intro z;cases z)) (nofr b o q hb))
 have tb:∀ b o,s₀.heap.get? b=some o->b ∉ frs outer->∃ o',(PySem.W.hideAll B [cenv.locals]).get? b=some o':=λb o q hb=>by
  obtain⟨o',q'⟩:=I.base.there b o q (by intro z;cases z)
  obtain⟨o2,q2⟩:=F.tb b o' q' (nofr b o q hb)
  exact⟨o2,hid b o2 (baseC b o q) q2⟩
 have fr:∀ b o,s₀.heap.get? b=some o->b ∈ frs outer->∃ sl,h7.get? b=some { o with slots:=sl }:=λb o q hb=>by
  obtain⟨sl,q1⟩:=I.base.slot b o q (I.ok.frf b hb) hb (by intro z;cases z)
  have nf:∀ vs,o.data≠.fields vs:=by
   obtain⟨_,o2,q2,nf⟩:=I.ok.funs.mem hb
   have q2':s₀.heap.get? b=some o2:=q2
   rw[q]at q2'
   cases q2'
   exact nf
  obtain⟨sl1,q2⟩:=F.un.slot b _ q1 (I.base.free b o q (I.ok.frf b hb) (by intro z;cases z)) ((yK hf).mpr (.inr hb)) (by intro z;cases z)
  obtain⟨sl2,q3⟩:=u4 b _ q2 nf
  obtain⟨sl3,q4⟩:=(k.up.trans u7) b _ ((hs5.2 b (baseC b o q)).trans q3) nf
  exact⟨sl3,q4⟩
 have HC:H' cenv.locals=none:=F.un.free _ o ho hC0 (by intro z;cases z)
 have hok:HOk P w H' (PySem.W.hideAll B [cenv.locals]):=λa u q=>by
  refine (F.hok a u q).stay (λb v hb r=>hid b v (λz=>?_) r) (λb r=>r) λb xs r=>r
  rw[z]at hb
  rcases hb with rfl | hb
  ·rw[HC]at q;cases q
  ·rw[HC]at hb;cases hb
 obtain⟨f1,f2,⟨_,_,f3⟩,f4⟩:=x7
 refine⟨H',cls,_,e0,a0,⟨rfl,⟨f1,f2,f3,f4⟩,F.ctx,hok,F.os.trans I.os,F.gens,⟨λb o q n hb _=>f1 b o (kb b o q n hb),λb o q n hb _=>fr b o q hb,λb o q n hx=>(let ⟨o',q'⟩:=I.base.there b o q hx;F.un.free b o' q' (I.base.free b o q n hx) hx),λb o q _=>?_,λb xs q=>F.un.tups b xs (I.base.tups b xs q),λb o u q=>F.un.frzs b o u (I.base.frzs b o u q),λb ps q=>by
  obtain⟨m1,e1⟩:=I.base.tbls b ps q
  obtain⟨m2,e2⟩:=F.un.tbls b _ e1
  exact⟨m1++m2,by rw[e2,Array.append_assoc]⟩⟩,kb,tb⟩,he⟩
 by_cases hb:b ∈ frs outer
 ·obtain⟨sl,q'⟩:=fr b o q hb
  exact⟨_,q'⟩
 ·obtain⟨o',q'⟩:=tb b o q hb
  exact⟨o',f1 b o' q'⟩
end
end PM
namespace PM
open PySem PySem.Spec PyProof.Rows L2
noncomputable def ZQ (i:Nat)(mi:M (List D)) (nt:Nat)(idx:List Nat)(g:GM)(e:M D):M Fl:=λρ=>(mi ρ).bnd λds ρ1=>match zY g (zr (nt+idx.length) e) ds (ZC nt idx ρ1) with
 |.ok .nx ρ2=>(z8 (zn ρ2[nt+idx.length]?) ρ1).bnd λys ρ=>.ok .nx (ρ.set i (.fz (.lst ys)))
 |.exn c _=>.exn c ρ1
 |_=>.bad
noncomputable def QK (X:Cx)(E:XK):Prop:=∀ (pins:List (Addr×Obj))(σ:St)(H H':Hp)(s s':Shared)(cenv:Env) (cls e acc:Value)(B:Heap)(e0:Addr)(a0:VOk)(use:Option (Value->Sem Unit))(QQ:Value->Shared->Prop),Inv X pins σ H s->Flying X.K X.prog X.w X.stack H H' s cls e s' B e0 a0->E cls none H' ->
 cenv.frame=X.env.frame->(∃ m,s.heap.Ns cenv.locals m)->H cenv.locals=none->cenv.locals ∉ frs X.stack->X.s₀.heap.objs.size<=cenv.locals ->
 notedBy (model X.prog X.w) X.A cenv (λx s''=>xM (model X.prog X.w) X.A X.xe use QQ acc cenv (.error x) s'') e s'
theorem Vv {P:Program}{w:World}{K:PySem.W.Frag}{mg:Str->Option Value}{base:Heap}{N:List Str}{qual:Str}{scope:Scope}{f:Addr}{cd:Value}{A:Around}{outer:List Env}{s₀:Shared}{H₀:Hp}{E:XK} :
  QK (cxOf (CX1 P w K) P w K mg base N qual scope f cd A outer s₀ H₀ E) E:=λ_ _ _ _ _ _ _ _ _ _ _ _ _ _ _ I F he h1 h2 h3 h4 h5=>VF I F he h1 h2 h3 h4 h5
section
variable {X:Cx}{E:XK}{elt iter tg:Expr}{scope:Scope}{cl:List (Str×Addr)}{nt:Nat}{N':List Str}{idx:List Nat}{pos:Pos}{mi:M (List D)}{gm:GM}{me:M D}
inductive LoopX (X XB:Cx)(EX:XK)(tn:Nat->Heap->Prop)(fp:List Addr) (len nt:Nat)(σ0:St)(G1 B2:Hp)(M:Nat->Rho->Res Fl)(Dn:Ends) (n:Nat)(s':Shared):Prop where
 |mk (i:Nat)(σ':St)(H':Hp)(ρ':Rho)(G':Hp)(I:Inv XB [] σ' H' s')(st:tn i s'.heap)(fr:∀ b ∈ fp,H' b=none)(e:n=len - i)(hi:i<=len)(k:∀ t,nt<=t->σ'[t]? = σ0[t]?)(sg:Same G1 G')(h:Hold X.K G1 B2 ρ' σ' G' H')(p:zU X.K EX G1 B2 G' (M i ρ') Dn)
theorem uG {use:Option (Value->Sem Unit)}{QQ:Value->Shared->Prop}{pins:List (Addr×Obj)}{s:Shared}{σ:St}{H:Hp}{wi:TI}{cpos:Pos}(hcalm:X.calm=true)(hpc:QK X E)(Bs:BlkScope X scope cl nt N' idx)(hidx:∀ i ∈ idx,i<X.N.length)
  (hg:∀ C s H fp pn,MGk (zj X scope cl N' C s H fp pn) tg gm nt)(he:∀ C s H fp pn xe E',Passes (CX1 X.prog X.w X.K) (Cx.tr (zj X scope cl N' C s H fp pn) [] xe) E'->MEC (Cx.tr (zj X scope cl N' C s H fp pn) [] xe) E' elt me)
  (hs:∀ x,foldedSetIterable iter X.env x=pure x)(I:Inv X pins σ H s)(pw:PI X tg iter wi)(G0 H0 G:Hp)(ρ:Rho)
  (hR:wi σ H (λJ H'=>∃ ds ρ1 G1,mi ρ=.ok ds ρ1/\Same G G1/\Hold X.K G0 H0 ρ1 σ G1 H'/\ItOk X.K J G1 ds))
  (some_:∀ ds ρ1,mi ρ=.ok ds ρ1->(∃ ρ2,zY gm (zr (nt+idx.length) me) ds (ZC nt idx ρ1)=.ok .nx ρ2)\/∃ c ρ2,zY gm (zr (nt+idx.length) me) ds (ZC nt idx ρ1)=.exn c ρ2)
  (exc:∀ ds ρ1 c ρ2 G1 H2 G' H',mi ρ=.ok ds ρ1->zY gm (zr (nt+idx.length) me) ds (ZC nt idx ρ1)=.exn c ρ2->Same G G1->Hold X.K G0 H0 ρ1 σ G1 H2->Ext G1 H2 G' H'->Same H2 H'->E (.ref c) none H')
  (fin:∀ ds ρ1 ρ2 σ7 G1 H2 G7 H5 p C s6,mi ρ=.ok ds ρ1->zY gm (zr (nt+idx.length) me) ds (ZC nt idx ρ1)=.ok .nx ρ2->Same G G1->Hold X.K G0 H0 ρ1 σ G1 H2->Hold X.K G1 H2 ρ2 σ7 G7 H5->(∀ t,nt<=t->σ7[t]? = (ZM nt idx σ p)[t]?)->H2 p=none ->
   Inv X pins σ H5 s6->(∃ m,s6.heap.Ns C m)->H5 C=none->C≠X.env.locals->X.s₀.heap.objs.size<=C->(∀ x cc,X.env.cells.lookup x=some cc->cc≠C)->(∀ q ∈ X.pn++pins,q.1≠C)->xM (model X.prog X.w) X.A X.xe use QQ (.ref p) (compEnvC scope cl C X.env) (.ok .next) s6) :
  wpC (model X.prog X.w) X.A (comprehension (.ListComp elt [⟨tg,iter,[],0⟩] scope pos) scope X.env cpos (newList []) false (eval iter X.env) use) QQ X.xe s:=by
 refine WN rfl hs Bs.clos Bs.kind Bs.names ?_
 refine wpAny_mono (pw pins s σ H _ I hR) (λxv s1 h1=>wpAny_mono h1 (λitv s2 h2=>?_) λ_ _ e=>e) λ_ _ e=>e
 obtain⟨it,fp,tn,J,H2,rfl,I2,T,st2,f2,ds,ρ1,G1,emi,sg1,h1,io⟩:=h2
 refine wpAny_newObj_type ?_
 have I3:Inv X pins σ (upd H2 s2.heap.objs.size (.lst [])) { s2 with heap:=s2.heap.push { cls:=.type "list",data:=.seq ([]:List Value).toArray } }:=I2.lnew (t':=s2.toks) (its:=[]) (ys:=[]) .nil (Nat.zero_le _)
 have hp:H2 s2.heap.objs.size=none:=I2.fresh
 refine wpAny_newFunctionEnv Bs.nocell (by intro y hy;simp at hy) (λh₁ hns₁ hsb₁=>?_) Bs.kind
 dsimp only at hns₁ hsb₁ ⊢
 generalize hs3:({ s2 with heap:=s2.heap.push { cls:=.type "list",data:=.seq ([]:List Value).toArray } }:Shared)=s3 at I3
 have es3:s3.heap=s2.heap.push { cls:=.type "list",data:=.seq ([]:List Value).toArray }:=by rw[<-hs3]
 generalize hC:(s2.heap.push { cls:=.type "list",dict:=none,data:=.seq ([]:List Value).toArray }).objs.size=C at hns₁ hsb₁ ⊢
 have hC3:C=s3.heap.objs.size:=by rw[es3];exact hC.symm
 have hk:∀ b o,s3.heap.get? b=some o->h₁.get? b=some o:=λb o e=>by
  have hlt:=Heap.lt_size e
  exact hsb₁.extBut b o (by rw[hC3];exact Nat.ne_of_lt hlt) (Heap.get?_push_of_some _ (by rw[es3]at e;exact e))
 have f3:∀ b ∈ fp,FpOk X pins (upd H2 s2.heap.objs.size (.lst [])) b:=λb hb=>by
  obtain⟨g1,g2⟩:=f2 b hb
  refine⟨?_,g2⟩
  obtain⟨o,eo,_⟩:=T.obj _ _ st2 b hb
  rw[upd_ne (Nat.ne_of_lt (Heap.lt_size eo))]
  exact g1
 have st3:tn 0 s3.heap:=T.keep _ _ _ st2 λb hb o e=>by rw[es3];exact Heap.get?_push_of_some _ e
 have st4:tn 0 h₁:=T.keep _ _ _ st3 λb hb o e=>hk b o e
 have IB:=vI (p:=s2.heap.objs.size) (tk:=s3.toks+([]:List (Str×Value)).length) Bs I3 f3 (T.obj _ _ st3) (hC3 ▸ hns₁) hk
 rw[<-hC3]at IB
 have hB0:Hold X.K G1 H2 (ZC nt idx ρ1) (ZM nt idx σ s2.heap.objs.size) G1 (upd H2 s2.heap.objs.size (.lst [])):=VR (.inl rfl) h1 hp λi hi=>by rw[I.len];exact hidx i hi
 have cst:X.s₀.heap.objs.size<=C:=by rw[hC3];exact I3.sz
 have cfr:C ∉ frs X.stack:=λz=>by
  obtain⟨_,o,q,_⟩:=I3.stack.mem z
  exact absurd (Heap.lt_size q) (by rw[hC3];exact Nat.lt_irrefl _)
 -- the end of all turns,and an exception's
 let Dn:Ends:={ nx:=λσ' H'=>∃ ρ'' G'',Same G1 G''/\Hold X.K G1 H2 ρ'' σ' G'' H'/\zY gm (zr (nt+idx.length) me) ds (ZC nt idx ρ1)=.ok .nx ρ'',rt:=λ_ _=>False }
 let EX:XK:=λcls _ H'=>∃ c ρ2 G',cls=.ref c/\zY gm (zr (nt+idx.length) me) ds (ZC nt idx ρ1)=.exn c ρ2/\Ext G1 H2 G' H'/\Same H2 H'
 have hP0:zU X.K EX G1 H2 G1 (zY gm (zr (nt+idx.length) me) ds (ZC nt idx ρ1)) Dn:=by
  rcases some_ ds ρ1 emi with ⟨ρF,e⟩ | ⟨c,ρF,e⟩
  ·rw[e];exact λσ' G' H' s1 h1=>⟨ρF,G',s1,h1,e⟩
  ·rw[e];exact λσ' G' H' s1 h1=>⟨c,ρF,G',rfl,e,h1.e,h1.b⟩
 let XE:Value->Shared->Prop:=notedBy (model X.prog X.w) X.A (compEnvC scope cl C X.env) λx s'=>xM (model X.prog X.w) X.A X.xe use QQ (.ref s2.heap.objs.size) (compEnvC scope cl C X.env) (.error x) s'
 have hps:Passes (CX1 X.prog X.w X.K) (Cx.tr (zj X scope cl N' C s3 (upd H2 s2.heap.objs.size (.lst [])) fp (X.pn++pins)) [] XE) EX:=by
  intro pins' σ5 H5 s5 e s6 I5 hx
  obtain⟨H',cls,B,e0,a0,F,c,ρ2,G',rfl,eq,ex,sm⟩:=hx
  have J5:=Inv.untr I5
  have IX:=vm (h'':=s5.heap) I3 f3 J5 (by rw[hC3];exact Nat.le_refl _) (Heap.SameBut.refl _ _) J5.hok
  obtain⟨m5,hn5,_⟩:=J5.loc
  exact hpc pins σ H5 H' s5 s6 (compEnvC scope cl C X.env) _ e _ B e0 a0 use QQ IX F (exc ds ρ1 c ρ2 G1 H2 G' H' emi eq sg1 h1 ex sm) rfl ⟨m5,hn5⟩ J5.free cfr cst
 obtain⟨te,pe,re⟩:=he C s3 (upd H2 s2.heap.objs.size (.lst [])) fp (X.pn++pins) XE EX hps
 have loop:∀ s4:Shared,s4={ s3 with heap:=h₁,toks:=s3.toks+([]:List (Str×Value)).length } ->
   ZI (model X.prog X.w) X.A (.compLoop (.ListComp elt [⟨tg,iter,[],0⟩] scope pos) 0 (.ref it) (.ref s2.heap.objs.size) (compEnvC scope cl C X.env)) (xM (model X.prog X.w) X.A X.xe use QQ (.ref s2.heap.objs.size) (compEnvC scope cl C X.env)) s4:=by
  rintro s4 rfl
  refine Ug (λn s'=>LoopX X (zj X scope cl N' C s3 (upd H2 s2.heap.objs.size (.lst [])) fp (X.pn++pins)) EX tn fp ds.length nt (ZM nt idx σ s2.heap.objs.size) G1 H2 (λi=>zY gm (zr (nt+idx.length) me) (ds.drop i)) Dn n s') ?_ ds.length
   ⟨0,_,_,_,G1,IB,st4,λb hb=>(f3 b hb).1,by simp,Nat.zero_le _,λ_ _=>rfl,Same.refl _,hB0,by simpa using hP0⟩
  rintro n s5 ⟨i,σ5,H5,ρ5,G5,I5,st5,fr5,rfl,hi5,k5,sg5,h5,p5⟩
  have stat:∀ {H':Hp},(∀ b ∈ fp,H' b=none)->∀ b ∈ fp,FpOk (zj X scope cl N' C s3 (upd H2 s2.heap.objs.size (.lst [])) fp (X.pn++pins)) [] H' b:=fun {H'} hn b hb=>by
   obtain⟨g1,g2,g3,g4,g5,g6⟩:=f3 b hb
   obtain⟨o,eo,_⟩:=T.obj _ _ st3 b hb
   refine⟨hn b hb,by rw[show (zj X scope cl N' C s3 (upd H2 s2.heap.objs.size (.lst [])) fp (X.pn++pins)).env.locals=C from rfl,hC3];exact Nat.ne_of_lt (Heap.lt_size eo),I5.ok.exfs b hb,.inl hb,λx cc e=>g5 x cc (Bs.sub x cc e),λq hq=>?_⟩
   have hq0:q ∈ (X.pn++pins)++[]:=hq
   rw[List.append_nil]at hq0
   exact g6 q hq0
  by_cases hlt:i<ds.length
  ·have hd:ds[i]? = some ds[i]:=List.getElem?_eq_getElem hlt
   obtain⟨go,yl⟩:=io.go G5 H5 i _ sg5 h5.e.s hd
   rw[List.drop_eq_getElem_cons hlt]at p5
   unfold zY at p5
   refine wpAny_mono (T.item (zj X scope cl N' C s3 (upd H2 s2.heap.objs.size (.lst [])) fp (X.pn++pins)) rfl rfl rfl hcalm i [] s5 σ5 H5 _ I5 (stat fr5) st5 go) (λr s6 ⟨u,hr,h6⟩=>?_) λ_ _ e=>e
   subst hr
   refine wpAny_mono h6 (λ_ s7 ⟨x,H7,I7,r7,y7,st7,fr7⟩=>?_) λ_ _ e=>e
   obtain⟨G7,ex7,hs7,rv⟩:=yl x H7 y7
   replace sg5:=sg5.trans ex7.g
   replace h5:=h5.grow ex7 hs7
   replace p5:=zU.mono ex7.g p5
   have I7':=I7.pinned (stat fr7) (T.obj _ _ st7)
   obtain⟨g,pg,rg⟩:=hg C s3 (upd H2 s2.heap.objs.size (.lst [])) fp (X.pn++pins)
   -- behind an item: the next turn
   have again:∀ {σ9:St}{H9:Hp}{s9:Shared},Inv (zj X scope cl N' C s3 (upd H2 s2.heap.objs.size (.lst [])) fp (X.pn++pins)) ([]++pinsAt fp s7.heap) σ9 H9 s9->(∀ t,nt<=t->σ9[t]? = (ZM nt idx σ s2.heap.objs.size)[t]?) ->
     (∃ ρ9 G9,Same G1 G9/\Hold X.K G1 H2 ρ9 σ9 G9 H9/\zU X.K EX G1 H2 G9 (zY gm (zr (nt+idx.length) me) (ds.drop (i+1)) ρ9) Dn) ->
     ∃ m,m<ds.length - i/\LoopX X (zj X scope cl N' C s3 (upd H2 s2.heap.objs.size (.lst [])) fp (X.pn++pins)) EX tn fp ds.length nt (ZM nt idx σ s2.heap.objs.size) G1 H2 (λi=>zY gm (zr (nt+idx.length) me) (ds.drop i)) Dn m s9:=fun {σ9 H9 s9} I9 k9 ⟨ρ9,G9,sg9,h9,p9⟩=>by
    refine⟨ds.length - (i+1),by omega,i+1,σ9,H9,ρ9,G9,I9.unpinned,T.keep _ _ _ st7 λb hb o e=>(I9.pin (b,o) (List.mem_append_right _ (List.mem_append_right _ (mem_pinsAt hb e)))).1,λb hb=>?_,rfl,hlt,k9,sg9,h9,p9⟩
    obtain⟨o,e,d⟩:=T.obj _ _ st7 b hb
    exact (I9.pin (b,o) (List.mem_append_right _ (List.mem_append_right _ (mem_pinsAt hb e)))).2.1
   cases q:gm ds[i] ρ5 with
   |none=>rw[q]at p5;exact p5.elim
   |some ρ6=>
    rw[q]at p5
    have p6:zU X.K EX G1 H2 G7 ((zr (nt+idx.length) me ρ6).bnd λf ρ=>yp f ρ (zY gm (zr (nt+idx.length) me) (ds.drop (i+1)))) Dn:=p5
    refine wpAny_mono (pg _ s7 σ5 H7 x u (λσ8 H8=>∃ G8,Same G7 G8/\Hold X.K G1 H2 ρ6 σ8 G8 H8/\(∀ t,nt<=t->σ8[t]? = σ5[t]?)) I7' r7 (rg G1 H2 ρ5 σ5 G7 H7 ds[i] x _ h5 rv ⟨ρ6,q,λσ' G' H' s h e=>⟨G',s,h,e⟩⟩)) (λ_ s8 ⟨σ8,H8,I8,G8,sg8,h8,k8⟩=>?_) (λ_ _ f=>f.elim)
    replace k8:∀ t,nt<=t->σ8[t]? = (ZM nt idx σ s2.heap.objs.size)[t]?:=λt ht=>(k8 t ht).trans (k5 t ht)
    have k8a:σ8[nt+idx.length]? = some (some (.ref s2.heap.objs.size)):=(k8 _ (Nat.le_add_right _ _)).trans (by unfold ZM;rw[List.getElem?_append_right (by simp)];simp)
    replace p6:=zU.mono sg8 p6
    -- the element
    unfold zr at p6
    cases eo:zn ρ6[nt+idx.length]? with
    |none=>rw[eo]at p6;exact p6.elim
    |some ys0=>
     rw[eo]at p6
     have p9':zU X.K EX G1 H2 G8 (((me ρ6).bnd λx ρ=>(z8 (zn ρ[nt+idx.length]?) ρ).bnd λds ρ=>if ds.length<sizeLine then .ok .nx (ρ.set (nt+idx.length) (.own (ds++[x]))) else .bad).bnd λf ρ=>yp f ρ (zY gm (zr (nt+idx.length) me) (ds.drop (i+1)))) Dn:=p6
     have step:=re G1 H2 ρ6 σ8 G8 H8 h8 (λxx H10=>∃ dd ρ10 G10,me ρ6=.ok dd ρ10/\Same G8 G10/\Hold X.K G1 H2 ρ10 σ8 G10 H10/\Rep X.K G10 dd xx) (by
      cases qe:me ρ6 with
      |ok dd ρ10=>exact λxx G' H' s1 h1 r1=>⟨dd,ρ10,G',rfl,s1,h1,r1⟩
      |exn cc ρ10=>rw[qe]at p9';exact λG' H' s1 h1=>p9' σ8 G' H' s1 h1
      |bad=>rw[qe]at p9';exact p9')
     refine ze (pe _ s8 σ8 H8 _ (Inv.tr (pins:=[]) I8) step) (λxu s10 ⟨xx,H10,I10',r10,dd,ρ10,G10,qe,sg10,h10,rd⟩=>?_) λ_ _ z=>z
     have I10:=Inv.untr I10'
     rw[qe]at p9'
     have p10:zU X.K EX G1 H2 G8 (((z8 (zn ρ10[nt+idx.length]?) ρ10).bnd λds ρ=>if ds.length<sizeLine then .ok .nx (ρ.set (nt+idx.length) (.own (ds++[dd]))) else .bad).bnd λf ρ=>yp f ρ (zY gm (zr (nt+idx.length) me) (ds.drop (i+1)))) Dn:=p9'
     cases eo2:zn ρ10[nt+idx.length]? with
     |none=>rw[eo2]at p10;exact p10.elim
     |some ys=>
      rw[eo2]at p10
      obtain⟨a,ws,a1,a2,a3,a4,a5⟩:=h10.own eo2
      have a1':=a1
      rw[k8a]at a1'
      cases a1'
      by_cases hz:ys.length<sizeLine
      ·simp only[zz,Res.bnd_ok,if_pos hz]at p10
       refine wpAny_mono (mt_append (X:=zj X scope cl N' C s3 (upd H2 s2.heap.objs.size (.lst [])) fp (X.pn++pins)) _ s10 σ8 H10 (.ref _) [xx] (.ref _) [xu] (λ_ H11=>H11=upd H10 s2.heap.objs.size (.lst (ws++[xx]))) I10 rfl (.cons r10 .nil) ⟨_,ws,xx,rfl,rfl,a2,by rw[a5.ln];exact hz,rfl⟩) (λ_ s11 ⟨_,H11,I11,_,e11⟩=>?_) λ_ _ f=>f.elim
       subst e11
       refine again I11 k8 ⟨_,G10,sg5.trans (sg8.trans sg10),h10.setMut (Zn eo2) rfl a1 a3 a4 (s':=.own (ys++[dd])) ⟨_,ws++[xx],rfl,upd_same,a3,a4,a5.app (zJ.cons rd zJ.nil)⟩ rfl,zU.mono sg10 p10⟩
      ·exfalso
       simp only[zz,Res.bnd_ok,if_neg hz]at p10
       exact p10
  ·have ei:i=ds.length:=by omega
   subst ei
   refine wpAny_mono (T.done (zj X scope cl N' C s3 (upd H2 s2.heap.objs.size (.lst [])) fp (X.pn++pins)) rfl rfl rfl hcalm ds.length [] s5 σ5 H5 _ I5 (stat fr5) st5 (io.stop G5 H5 sg5 h5.e.s)) (λr s6 ⟨hr,I6⟩=>?_) λ_ _ e=>e
   subst hr
   obtain⟨m6,hn6,_⟩:=I6.loc
   rw[List.drop_length]at p5
   obtain⟨ρ7,G7,sg7,h7,e7⟩:=p5 σ5 G5 H5 (Same.refl _) h5
   have IX:=vm (h'':=s6.heap) I3 f3 I6 (by rw[hC3];exact Nat.le_refl _) (Heap.SameBut.refl _ _) I6.hok
   refine fin ds ρ1 ρ7 σ5 G1 H2 G7 H5 _ C s6 emi e7 sg1 h1 h7 k5 hp IX ⟨m6,hn6⟩ I6.free ?_ cst (λx cc e z=>?_) (λq hq z=>?_)
   ·rw[hC3];exact Nat.ne_of_gt I3.lt
   ·obtain⟨v,hv⟩:=I3.cell x cc e
    have:=hv.lt
    rw[z,hC3]at this
    exact Nat.lt_irrefl _ this
   ·have:=Heap.lt_size (I3.pin q hq).1
    rw[z,hC3]at this
    exact Nat.lt_irrefl _ this
 exact uH (loop _ (by rw[<-hs3])) (T.self _ 0 _ _ _ st4 (loop _ (by rw[<-hs3])))
theorem Xl (i:Nat){x:Str}{p2 spos:Pos}(hN:X.N.Nodup)(hcalm:X.calm=true)(hpc:QK X E)(B:BlkScope X scope cl nt N' idx)(hi:MI X E tg iter mi)(hidx:∀ i ∈ idx,i<X.N.length)
  (hg:∀ C s H fp pn,MGk (zj X scope cl N' C s H fp pn) tg gm nt)(he:∀ C s H fp pn xe E',Passes (CX1 X.prog X.w X.K) (Cx.tr (zj X scope cl N' C s H fp pn) [] xe) E'->MEC (Cx.tr (zj X scope cl N' C s H fp pn) [] xe) E' elt me)
  (hx:autoParam (X.N[i]? = some x) aR._auto_1)(hl:autoParam (X.env.scope.names.lookup x=some .local) aR._auto_1)
  (hsw:autoParam (swapsWith (.ListComp elt [⟨tg,iter,[],0⟩] scope pos) (some (.Name x p2)) spos.line X.env=pure true) aR._auto_1)
  (hs:∀ x,foldedSetIterable iter X.env x=pure x:=by intro _;rfl):MSC X E (.Assign [.Name x p2] (.ListComp elt [⟨tg,iter,[],0⟩] scope pos) spos) (ZQ i mi nt idx gm me):=by
 refine⟨λD σ H=>∃ G0 H0 ρ G,Hold X.K G0 H0 ρ σ G H/\zU X.K E G0 H0 G (ZQ i mi nt idx gm me ρ) D,?_,λG0 H0 ρ σ G H ho Q hQ=>⟨G0,H0,ρ,G,ho,hQ⟩⟩
 intro pins s σ H D I h
 obtain⟨G0,H0,ρ,G,ho,hD⟩:=h
 obtain⟨wi,pw,ri⟩:=hi
 unfold ZQ at hD
 rw[exec_Assign_Name_used _ _ _ _ hsw]
 refine zF (wpAny_standAt (z7 ?_))
 show wpC _ X.A (do let _ <-comprehension (.ListComp elt [⟨tg,iter,[],0⟩] scope pos) scope X.env _ (newList []) false (eval iter X.env) (some (assign (.Name x p2) X.env))) _ _ s
 have hR:=ri G0 H0 ρ σ G H (λJ H'=>∃ ds ρ1 G1,mi ρ=.ok ds ρ1/\Same G G1/\Hold X.K G0 H0 ρ1 σ G1 H'/\ItOk X.K J G1 ds) ho (by
  cases q:mi ρ with
  |ok ds ρ1=>exact λJ G' H' sg h1 io=>⟨ds,ρ1,G',rfl,sg,h1,io⟩
  |exn cc ρ1=>rw[q]at hD;exact λG' H' sg h1=>hD σ G' H' sg h1
  |bad=>rw[q]at hD;exact hD)
 refine z7 (ze (uG (mi:=mi) (E:=E) (QQ:=λ_ s'=>SP X pins D .next s') hcalm hpc B hidx hg he hs I pw G0 H0 G ρ hR (λds ρ1 emi=>?_) (λds ρ1 c ρ2 G1 H2 G' H' emi e sg1 h1 ex sm=>?_) λds ρ1 ρ2 σ7 G1 H2 G7 H5 p C s6 emi e2 sg1 h1 h7 k7 hp IX ⟨m,hn⟩ c1 c2 c3 c4 c5=>?_) (λ_ s' hq=>ZZ (ZZ hq)) λ_ _ e=>e)
 ·rw[emi]at hD
  simp only[Res.bnd_ok]at hD
  cases q:zY gm (zr (nt+idx.length) me) ds (ZC nt idx ρ1) with
  |ok fl ρ2=>
   cases fl with
   |nx=>exact .inl ⟨ρ2,rfl⟩
   |ret d=>rw[q]at hD;exact hD.elim
   |brk=>rw[q]at hD;exact hD.elim
   |cont=>rw[q]at hD;exact hD.elim
  |exn c ρ2=>exact .inr ⟨c,ρ2,rfl⟩
  |bad=>rw[q]at hD;exact hD.elim
 ·rw[emi]at hD
  simp only[Res.bnd_ok,e]at hD
  exact hD σ G' H' (sg1.trans ex.g) (h1.grow ex sm)
 ·rw[emi]at hD
  simp only[Res.bnd_ok,e2]at hD
  cases eo:zn ρ2[nt+idx.length]? with
  |none=>rw[eo]at hD;exact hD.elim
  |some ys=>
   rw[eo]at hD
   simp only[zz,Res.bnd_ok]at hD
   obtain⟨a,ws,a1,h2,g7,a4,rl⟩:=h7.own eo
   rw[uv k7]at a1
   cases a1
   have ex:=h7.e
   have sh:=h7.b
   show wpAny (model X.prog X.w) X.A (assign (.Name x p2) X.env (.ref p)) _ _ s6
   refine wpAny_assign_Name (store_ok2 IX hN hx (.inl hl) (v:=.ref p) rfl (λs7 I7 ⟨a,hsb,ha⟩=>?_) (.inr hl))
   have hCa:C≠a:=by
    rintro rfl
    rcases ha with z | z
    ·exact c2 z
    ·exact c4 x C z rfl
   refine⟨m,hn.sameBut hsb hCa,λh' hs'=>?_⟩
   have IY:Inv X pins (σ.set i (some (.ref p))) H5 { s7 with heap:=h' }:=I7.turned (it:=C) (t':=s7.toks) (λb o n e=>(hs'.2 b n).trans e) c1 c2 (.inr c3) c4 c5
   refine⟨_,H5,IY,?_⟩
   have gg:Ext G1 H2 (upd G7 p (.lst ws)) H5:=by
    refine⟨ex.g.trans (Same.upd g7),λb u q=>?_,λb hb q=>?_,ex.t⟩
    ·by_cases z:b=p
     ·subst z;rw[upd_same]at q;rw[h2];exact q
     ·rw[upd_ne z]at q;exact ex.s _ _ q
    ·rw[upd_ne (λz=>hb.1 (by rw[z];exact hp))];exact ex.n b hb q
   exact hD _ _ H5 (sg1.trans gg.g) ((h1.grow gg sh).setFz (zg.mpr ⟨p,ws,rfl,SqL.of upd_same,rl.mono (Same.upd g7)⟩))
end
end PM
namespace PM
open PySem PySem.Spec PyProof.Rows L2
section
variable {M:Model}{A:Around}{E:Value->Shared->Prop}{s:Shared}{env:Env}
theorem ifC {test:Expr}{body orelse:List Stmt}{pos:Pos}{Q:Flow->Shared->Prop}(h:wpC M A (isTrue test env (eval test env)) (λb s₂=>if b=true then wpC M A (execs body env) Q E s₂ else wpC M A (execs orelse env) Q E s₂) E s) :
  wpC M A (exec (.If test body orelse pos) env) Q E s:=λΓ p hi hk=>by
 simp only[exec_If,Sem.wp_bind',Sem.wp_cmd_standAt]
 refine Sem.wp_mono M Γ _ (λb q s₂ z=>?_) (λ_ _ _ z=>z) _ _ (h Γ _ hi hk)
 cases b<;>exact z Γ q hi hk
theorem orC {x:Expr}{rest:List Expr}{pos:Pos}{whole:Sem Value}{Q:Bool->Shared->Prop}(h:wpC M A (isTrue x env (eval x env)) (λc s'=>if c=true then Q true s' else wpC M A (isTrue (.BoolOp .Or rest pos) env whole) Q E s') E s) :
  wpC M A (isTrue (.BoolOp .Or (x::rest) pos) env whole) Q E s:=by
 show wpC M A (do
  match BoolOp.Or,<-isTrue x env (eval x env) with
  |.And,false=>pure false
  |.Or,true=>pure true
  |_,_=>allTrue .Or rest env) Q E s
 refine z7 (ze h (λc s' z=>?_) λ_ _ z=>z)
 cases c with
 |false=>exact z
 |true=>exact ZZ z
theorem kL {l r:Expr}{op:CmpOp}{pos:Pos}{whole:Sem Value}{Q:Bool->Shared->Prop}(h:wpC M A (eval l env) (λa s₁=>wpAny M A (eval r env) (λb s₂=>wpAny M A (compareOp op a b) (λc s₃=>wpAny M A (truthy c) Q E s₃) E s₂) E s₁) E s)
  (hm:behindInMarks op r=false):wpC M A (isTrue (.Compare l [op] [r] pos) env whole) Q E s:=λΓ p hi hk=>by
 simp only[isTrue_Compare1,markedBehindIn_of_false hm,Sem.wp_bind',Sem.wp_holding,Sem.wp_cmd_standAt,Sem.wp_operate]
 exact Sem.wp_mono M Γ _ (λa p₁ s₁ z1=>Sem.wp_mono M Γ _ (λb _ s₂ z2=>Sem.wp_mono M Γ _ (λc p₃ s₃ z3=>z3 Γ p₃ hi) (λ_ _ _ z=>z) _ _ (z2 Γ _ hi)) (λ_ _ _ z=>z) _ _ (z1 Γ p₁ hi)) (λ_ _ _ z=>z) _ _ (h Γ p hi hk)
theorem jN {x:Str}{p2:Pos}{value:Expr}{pos:Pos}{Q:Flow->Shared->Prop}(h:wpC M A (eval value env) (λv s₁=>wpAny M A (storeName env x v) (λ_=>Q .next) E s₁) E s)
  (hs:swapsWith value (some (.Name x p2)) pos.line env=pure false):wpC M A (exec (.Assign [.Name x p2] value pos) env) Q E s:=λΓ p hi hk=>by
 simp only[exec_Assign_Name env x p2 value pos hs,Sem.wp_bind',Sem.wp_cmd_standAt,Sem.wp_bindName,Sem.wp_pure']
 exact Sem.wp_mono M Γ _ (λv _ s₁ z=>z Γ _ hi) (λ_ _ _ z=>z) _ _ (h Γ _ hi hk)
end
noncomputable def PTC (X:Cx)(e:Expr)(t:TT):Prop:=∀ (whole:Sem Value)(pins:List (Addr×Obj))(s:Shared)(σ:St)(H:Hp)(Q:Bool->Hp->Prop),Inv X pins σ H s->t σ H Q->wpC (model X.prog X.w) X.A (isTrue e X.env whole) (TP X pins σ Q) X.xe s
noncomputable def MTC (X:Cx)(E:XK)(e:Expr)(m:M Bool):Prop:=∃ t,PTC X e t/\RT X.K E t m
section
variable {X:Cx}{E:XK}{a b e:Expr}{ma mb:M D}{ta tb:M Bool}{pos p2:Pos}{sts sts':List Stmt}{m m':M Fl}
theorem Q4 {op:CmpOp}{r:R2}{f:D->D->Option D}(ho:OpR X (compareOp op) r)(hm:OpM X.K r f)(ha:MEC X E a ma)(hb:ME X E b mb)(hk:behindInMarks op b=false):MTC X E (.Compare a [op] [b] pos) (zK zP (op2 f ma mb)):=by
 obtain⟨t1,p1,r1⟩:=ha
 obtain⟨t2,p2,r2⟩:=hb
 refine⟨tTest (tOp r t1 t2),?_,uT (W5 hm r1 r2)⟩
 intro wh pins s σ H Q I h
 refine kL (ze (p1 pins s σ H _ I h) (λv s1 ⟨x,H1,I1,q1,z1⟩=>thn (p2 pins s1 σ H1 _ I1 z1) λu s2 ⟨y,H2,I2,q2,z2⟩=>thn (ho pins s2 σ H2 x y v u _ I2 q1 q2 z2) λc s3 ⟨z,H3,I3,q3,k,e,z3⟩=>?_) λ_ _ z=>z) hk
 subst e
 cases q3
 exact wpAny_truthy_bool ⟨H3,I3,z3⟩
theorem JP {q:Pos}(ha:MT X E a ta)(hb:MTC X E b tb):MTC X E (.BoolOp .Or [a,b] q) (orM ta tb):=by
 obtain⟨t1,p1,r1⟩:=ha
 obtain⟨t2,p2,r2⟩:=hb
 refine⟨tOr t1 t2,?_,jX r1 r2⟩
 intro wh pins s σ H Q I h
 refine orC (ze (zt (p1 pins s σ H _ I h)) (λc s1 ⟨H1,I1,q1⟩=>?_) λ_ _ z=>z)
 cases c with
 |true=>exact⟨H1,I1,q1⟩
 |false=>
  refine orC (ze (p2 _ pins s1 σ H1 Q I1 q1) (λc s2 z=>?_) λ_ _ z=>z)
  cases c with
  |true=>exact z
  |false=>exact zt (isTrue_or_nil z)
theorem JQ (hc:MTC X E e ta)(h1:MSs X E sts m)(h2:MSs X E sts' m'):MSC X E (.If e sts sts' pos) (ifM ta m m'):=by
 obtain⟨t,p,r⟩:=hc
 obtain⟨t1,p1,r1⟩:=h1
 obtain⟨t2,p2,r2⟩:=h2
 refine⟨tIfS t t1 t2,?_,jY r r1 r2⟩
 intro pins s σ H D I h
 refine ifC (ze (p _ pins s σ H _ I h) (λc s1 ⟨H1,I1,q1⟩=>?_) λ_ _ z=>z)
 cases c with
 |true=>exact zt (p1 pins s1 σ H1 D I1 q1)
 |false=>exact zt (p2 pins s1 σ H1 D I1 q1)
end
section
variable {P:Program}{w:World}{K:PySem.W.Frag}{mg:Str->Option Value}{base:Heap}{N:List Str}{qual:Str}{scope:Scope}{f:Addr}{cd:Value}{A:Around}{outer:List Env}{s₀:Shared}{H₀:Hp}{E:XK}
end
end PM
namespace PM
open PySem PySem.Spec PySem.Calls PyProof.Rows PySem.W
noncomputable abbrev G0:PySem.Ctx:=⟨.builtin "claim.caller" {},none,none,[],none⟩
theorem QR {prog:Program}{w:World}{name:Str}{vs:List Value}{f:Value}{mg:Str->Option Value}{s:Shared}{R:Result->Shared->Prop}(hg:s.heap.Ns mainGlobals mg)(hf:mg name=some f)
  (h:ZI (model prog w) callerA (.call f ⟨vs,[]⟩) R s)(hret:∀ fl s',R (.ok fl) s'->∃ v,fl=.ret v)(p:Pos) :
  Sem.wp (model prog w) G0 (callStub name vs).cur (Sem.finPost (model prog w) G0 R) (λe _ s'=>R (.error e) s') p s:=by
 show Sem.wp (model prog w) G0 (nsGet mainNs name >>= _) _ _ p s
 rw[Sem.wp_bind']
 refine Sem.wp_mono _ _ _ (λa q s' z=>?_) (λ_ _ _ z=>z) p s (wpAny_nsGet (Q:=λv s'=>v=some f/\s'=s) (E:=λe s'=>R (.error e) s') hg ⟨hf,rfl⟩ G0 p caller_in)
 obtain⟨rfl,rfl⟩:=z
 dsimp only
 rw[Sem.wp_bind']
 show Sem.wp (model prog w) G0 (runValue _) _ _ q s'
 rw[Sem.wp_runValue]
 refine wpCode_mono (λr s1 hr=>?_) (h _ q rfl (caller_in.enter _ none q (by intro x;cases x)) ⟨{},q,List.mem_cons_self ..⟩)
 cases r with
 |error e=>exact hr
 |ok fl=>obtain⟨v,rfl⟩:=hret fl s1 hr;exact hr
noncomputable abbrev u1 (q:Program)(loose:List Str)(XP:(Str->Option Value)->Heap->Prop)(YP:World->Heap->Prop)(r:RowW)(d:DefRec)(kwd:List (Str×Expr)):Prop:=
 ∀ (w:World)(s₀ s₁:Shared)(mg mb:Str->Option Value),Ground q loose r.records XP w s₀ mg mb s₁.heap->YP w s₁.heap->∀ (a:Addr)(o:Obj) (pm cd doc dV kV:Value),s₁.heap.get? a=some o ->
  o.data=.func { docDef d.name d.params d.body d.scope pm cd doc with defaults:=dV,kwdefaults:=kV }->s₁.heap.CodeRec cd d.name->Dflts mg s₁.heap d.params kwd dV kV->mg d.name=some (.ref a)->s₁.gens=#[] ->
  ∀ (args:List WData)(vals:List Value)(as:List Addr),r.claim.pre args=true->WData.layableAll args=true->ReadsAllW r.records (classAt s₀.heap) s₁.heap vals args as->WellAll w.params s₁.heap vals args->(∀ a ∈ as,(a == sysModules)=false) ->
   ZI (model r.prog w) callerA (.call (.ref a) ⟨vals,[]⟩) (λres s'=>GoodWG r.claim (classAt s₀.heap) (ExcName.means s₀.heap) args s₁ res s') s₁
theorem kC {c:ClaimW}{name:Str}{w:World}{s:Shared}{free:Addr->Prop}{gens:Prop}{kept:Heap->Prop}(hz:s.asleep)(hgens:s.gens=#[])
  (go:∀ args,c.pre args=true->WData.layableAll args=true->∀ ord:List DictEntry->List DictEntry,(∀ l,(ord l).Perm l)->∃ vs s₁,layAllW c.records (classAt s.heap) w.params ord args s=some (vs,s₁) ∧
   ∃ mg f,s₁.heap.Ns mainGlobals mg/\mg name=some f/\ZI (model c.prog w) callerA (.call f ⟨vs,[]⟩) (λr s'=>c.Ends s args vs s₁ r s'/\s'.os=s.os/\AllBare s'.gens/\kept s'.heap) s₁) :
  c.CallFrom (callStub name) w free gens kept s:=λargs hpre hlay ord hord=>by
 obtain⟨vs,s₁,hlaid,mg,f,hg,hf,hc⟩:=go args hpre hlay ord hord
 have rest:=layAllW_rest _ _ _ hlaid
 have h0:=QR (R:=λr s'=>(c.Ends s args vs s₁ r s'/\s'.os=s.os/\kept s'.heap)/\leftWithCleanup s'.gens=false) hg hf (Zu hc λr s' z=>⟨⟨z.1,z.2.1,z.2.2.2⟩,leftWithCleanup_false_of_bare z.2.2.1⟩) (λfl s' z=>by
  rcases z.1.1 with ⟨v,e,_⟩ | ⟨_,_,_,e,_⟩
  ·exact⟨v,by injection e⟩
  ·cases e) default
 obtain⟨n,r,s2,s',hs,hrun,hfo,hends,hos,hkp⟩:=wp_halts_full (M:=model c.prog w) (c:=.builtin "claim.caller" {}) (R:=λr s'=>c.Ends s args vs s₁ r s'/\s'.os=s.os/\kept s'.heap) (Shared.asleep_of_life rest.2.2.2 hz) h0
 obtain⟨eh,_,_,eo,_⟩:=Shared.forget_eq hfo
 have hends:=hends.congr eh
 rw[<-eo]at hos
 rw[<-eh]at hkp
 have life:s'.heap.life=s.heap.life:=(runN_life _ _ _ hrun).trans rest.2.2.2
 refine⟨vs,s₁,hlaid,n,_,s',hs,?_,λ_ i x hx=>by rw[hgens]at hx;simp at hx,hkp,by rw[life],Shared.rest_eq hos⟩
 rcases hends with ⟨v,rfl,d1,d2,d3,d4,d5⟩ | ⟨e,ob,cls,rfl,d1,d2,d3,d4,d5⟩
 ·exact .inl ⟨v,rfl,d1,d2,d3,λb o y _=>d4 b o y,d5⟩
 ·exact .inr ⟨e,ob,cls,rfl,d1,d2,d3,d4,λb o y _=>d5 b o y⟩
end PM
namespace PM.H
open PySem PySem.Spec PySem.Calls PyProof.Rows PySem.W PM
theorem PySem.W.holds_open {r:OpenRow}{q:Program}{loose:List Str}{Xt:Shared->Bool}{XP:(Str->Option Value)->Heap->Prop}{α:Type}{Yf:Shared->α}{Ya:World->α}{YP:World->Heap->Prop}{d:DefRec}{kwd:List (Str×Expr)}{N:Nat}
  (left:LeftO r.prog q loose Xt Yf Ya N)(hY:∀ w s,Yf s=Ya w->YP w s.heap)(hYk:∀ w h h',YP w h->(∀ b o,h.get? b=some o->h'.get? b=some o)->YP w h')
  (hX:∀ s,Xt s=true->XP (s.heap.nsMap mainGlobals) s.heap)(hXk:∀ mg h h',XP mg h->(∀ b o,h.get? b=some o->h'.get? b=some o)->XP mg h')
  (hdef:defOf q r.name=some (d,kwd))(hp:r.prog.theDef r.name=some (d.params,d.body,d.scope))(hk:kwWritten? d.params.kwonlyargs d.params.kw_defaults=some kwd)(hRf:∀ s,Xt s=true->RecFacts r.records s.heap)(hwr:(!r.writes || r.records.isEmpty)=true)
  (k1:r.wellSaid=true)(ok:(chainsOk q && opensWell r.prog && (frees r.toRowW && r.within.isEmpty))=true)(hb:r.prog.bare)(hw:r.toRowW.promised)(call:u1 q loose XP YP r.toRowW d kwd):r.Holds:=by
 simp only[Bool.and_eq_true]at ok
 obtain⟨⟨hch,o1⟩,k5,k6⟩:=ok
 obtain⟨hsame,hu,ha,hap,hm⟩:=frees_parts k5
 have top:=λw=>left.behind (XP:=λmg h=>XP mg h/\RecFacts r.records h) (λs hs=>⟨hX s hs,hRf s hs⟩) hch w
 refine⟨k1,hw,⟨hb,o1,by show r.toRowW.makers.map _=[];rw[hm];rfl⟩,hw.witness,λw=>⟨(top w).1,λs' hs'=>?_⟩⟩
 obtain⟨s₀,hf,hg0,s,hT,hz,hgens,hg,GG,y⟩:=(top w).2 s' hs'
 have B:Ground q loose [] XP w s (s.heap.nsMap mainGlobals) (s.heap.nsMap builtinsNs) s.heap:=⟨GG.T,GG.B,GG.D,GG.TE,GG.TD,GG.W,GG.X.1,GG.cls,GG.has,GG.apart,GG.once,GG.K⟩
 have none':s.gens=#[]:=Array.eq_empty_of_size_eq_zero (beq_iff_eq.mp hgens)
 have Gr:Ground q loose r.records XP w s _ _ s.heap:=GG.X.2.ground B
 refine⟨s₀,hf,hg0,s,hT,λn hn=>?_,GG.X.2.1,GG.X.2.2.1,kC (c:=r.toRowW.claim) hz none' λargs hpre hlay ord hord=>?_⟩
 ·obtain rfl:n=r.name:=by split at hn<;>simp_all
  exact pinned_of_view hg B hdef hp hk
 obtain⟨⟨vs,s₁⟩,hlaid⟩:=Option.isSome_iff_exists.mp (layAllW_isSome (P:=w.params) (ord:=ord) Gr.has args r.toRowW.args s (pre_splitW hpre).1)
 have keeps:=layAllW_keeps _ _ _ hlaid
 have rest:=layAllW_rest _ _ _ hlaid
 obtain⟨as,hrd,hin,hold⟩:=reads_layAllW hord _ _ _ hlaid hlay s₁.heap (λ_ _ e=>e)
 have L:Laid r.records w s s₁ args vs as:=⟨⟨ord,hord,hlaid⟩,hrd,hin,hold,keeps,rest.1.trans none',rest.2.2.1⟩
 have G₁:=Gr.keeps hXk keeps
 obtain⟨a,o,pm,cd,doc,dV,kV,h1,h2,h3,h4,h5⟩:=G₁.fn hdef
 refine⟨vs,s₁,hlaid,_,.ref a,G₁.T.g,h1,Zu (call w s s₁ _ _ G₁ (hYk _ _ _ (hY w s y) keeps) a o pm cd doc dV kV h2 h3 h4 h5 (defOf_name hdef ▸ h1) L.gens args vs as hpre hlay L.reads L.well (L.low Gr.low)) λres s2 g=>?_⟩
 have z:=g.laid (c:=r.toRowW.claim) hsame (List.isEmpty_iff.mp k6) (ident_freeW hu ha hap) L
 exact⟨z.1,z.2.1,z.2.2,λq=>⟨namesKept_of hT hg r.keeps keeps g.2.1.old,noTable hwr q⟩⟩
end PM.H
namespace PM
open PySem PySem.Spec PySem.Calls PyProof.Rows PySem.W L2 Att
theorem UX {P:Program}{w:World}{K:PySem.W.Frag}{mg mb:Str->Option Value}{CX:CXT}{k:Nat}{fa a:Addr}{fd:FuncData}{x:Str}{sp:Sp}{s₁:Shared}{vs:List Value}{ns:List Int}
  (KX:K.In s₁.heap)(hns:s₁.heap.Ns mainGlobals mg)(hb:s₁.heap.Ns builtinsNs mb)(hbb:∀ x:Str,x ≠ "__name__"->mb x=bootBuiltins x)(hlim:s₁.heap.NoLimit)(hg:s₁.gens=#[])
  (ha:s₁.heap.get? a=some { cls:=.type "list",data:=.seq vs.toArray })(hi:IntsAre vs ns)(hl:ns.length<=sizeLine)(hr:Room k callerA)
  (F:∀ base:Heap,K.In base->base.Ns mainGlobals mg->FnOkC P w K mg base CX k fa fd [x] sp)(hbind:∀ (s:Shared) (u:Value),BindsTo s fd ⟨[u],[]⟩ [(x,u)])
  (hsp:∀ H:Hp,Only H->SqL K H a (ns.map V.int)->sp [.ref a] H (λv _=>v=.bl true) λ_ _ _=>False)
  (hCX:∀ H e s',CX [] H s₁ (λ_ _ _=>False) e s'->False) :
  ZI (model P w) callerA (.call (.ref fa) ⟨[.ref a],[]⟩) (λr s'=>r=.ok (.ret (.bool true))/\OldK s₁.heap s'.heap/\s'.os=s₁.os/\AllBare s'.gens) s₁:=by
 have rv:=Y9 hi
 have lenV:=hi.length
 -- from an abstract heap in which nothing but the script may be tracked
 have core:∀ H:Hp,Only H->SqL K H a (ns.map V.int)->HOk P w H s₁.heap->(∀ b,H b≠none->b=a)->(H a≠none->K.lookup a=none) ->
   ZI (model P w) callerA (.call (.ref fa) ⟨[.ref a],[]⟩) (λr s'=>r=.ok (.ret (.bool true))/\OldK s₁.heap s'.heap/\s'.os=s₁.os/\AllBare s'.gens) s₁:=by
  intro H hO hS hok hA hK
  have base_of:∀ {b:Addr}{o:Obj},s₁.heap.get? b=some o->H b=none->(hidT s₁.heap H).get? b=some o:=λe n=>hidT_get e n
  have noA:∀ {b:Addr}{o:Obj}{es:Array DictEntry}{ep:Nat},s₁.heap.get? b=some o->o.data=.dict es ep->H b=none:=fun {b o es ep} e d=>by
   cases q:H b with
   |none=>rfl
   |some u=>
    have e':b=a:=hA b (by rw[q];simp)
    subst e'
    rw[ha]at e;cases e
    have d':Data.seq vs.toArray _=Data.dict es ep:=d
    cases d'
  have nsK:∀ {b:Addr}{m:Str->Option Value},s₁.heap.Ns b m->(hidT s₁.heap H).Ns b m:=fun {b m} ⟨o,es,ep,e,d,r⟩=>⟨o,es,ep,base_of e (noA e d),d,r⟩
  have hKb:K.In (hidT s₁.heap H):=λb o e=>base_of (KX b o e) (by
   cases q:H b with
   |none=>rfl
   |some u=>
    have e':b=a:=hA b (by rw[q];simp)
    subst e'
    rw[hK (by rw[q];simp)]at e;cases e)
  have hM:Mod K mg (hidT s₁.heap H):=⟨hKb,nsK hns,⟨mb,nsK hb,hbb⟩,let ⟨mc,h1,h2⟩:=hlim;⟨mc,nsK h1,h2⟩⟩
  have e0:Env0 P w K mg (hidT s₁.heap H) callerA [] s₁ H:=⟨rfl,hM,λb o e=>of_hidT e,Nat.le_of_eq (hidT_size _ _),trivial,λb hb=>absurd (show b ∈ ([]:List Addr) from hb) (by simp),hok,.of_eq hg⟩
  refine Zu ((F _ hKb (nsK hns)).run callerA [] s₁ H ⟨[.ref a],[]⟩ [.ref a] [.ref a] _ _ hr e0 (hbind s₁ (.ref a)) (.cons rfl .nil) (hsp H hO hS)) λr s' h=>?_
  cases r with
  |error e=>exact (hCX H e s' h).elim
  |ok fl=>
   cases fl with
   |next=>exact False.elim h
   |brk=>exact False.elim h
   |cont=>exact False.elim h
   |ret u=>
    obtain⟨v,H',os,bare,un,hok',r',q⟩:=h
    have q':v=.bl true:=q
    subst q'
    obtain rfl:u=Value.bool true:=r'
    refine⟨rfl,OldK.of_keep λb o e=>?_,os,bare⟩
    cases q:H b with
    |none=>exact un.keep b o e q (by intro z;exact absurd (show b ∈ ([]:List Addr) from z) (by simp)) (by simp)
    |some u=>
     rcases hO b with z | ⟨ob,xs,z⟩
     ·rw[q]at z;cases z
     ·have z2:=un.frzs b ob _ z
      obtain⟨e1,_⟩:=hok b _ z
      obtain⟨e2,_⟩:=hok' b _ z2
      rw[e]at e1;cases e1
      exact e2
 cases hk:K.lookup a with
 |some o=>
  -- the script is one of the module's own objects
  have e:=KX a o hk
  rw[ha]at e
  cases e
  refine core (λ_=>none) (λ_=>.inl rfl) (.inr ⟨_,vs.toArray,_,hk,rfl,rfl,rfl,by rw[List.size_toArray,lenV];exact hl,by simpa using rv⟩) (λb u z=>by have z':(none:Option HO)=some u:=z;cases z') (λb z=>absurd rfl z) λz=>absurd rfl z
 |none=>
  refine core (λb=>if b=a then some (.frz { cls:=.type "list",data:=.seq vs.toArray } (.lst (ns.map V.int))) else none) (λb=>?_) (.inl (.inr ⟨{ cls:=.type "list",data:=.seq vs.toArray },if_pos rfl⟩)) (λb u z=>?_) (λb z=>?_) λ_=>hk
  ·by_cases hb:b=a
   ·exact .inr ⟨_,_,if_pos hb⟩
   ·exact .inl (if_neg hb)
  ·by_cases hb:b=a
   ·have z':=(if_pos hb).symm.trans z
    cases z'
    subst hb
    exact⟨ha,by rw[List.length_map];exact hl,vs,_,rv,ha⟩
   ·have z':=(if_neg hb).symm.trans z
    cases z'
  ·by_cases hb:b=a
   ·exact hb
   ·exact absurd (if_neg hb) z
theorem vn {l:OpenLaw}{n:Nat}{q:Program}{loose:List Str}{XP:(Str->Option Value)->Heap->Prop}{YP:World->Heap->Prop}{d:DefRec}
  (hn:l.most=some n)(hdf:d.params.defaults=[])
  (call:∀ (w:World)(s₀ s₁:Shared)(mg mb:Str->Option Value)(fa:Addr)(o:Obj) (pm cd doc:Value)(a:Addr)(vs:List Value)(ns:List Int),
   Ground q loose [] XP w s₀ mg mb s₁.heap->YP w s₁.heap ->
   s₁.heap.get? fa=some o->o.data=.func (docDef d.name d.params d.body d.scope pm cd doc)->s₁.heap.CodeRec cd d.name->mg d.name=some (.ref fa) ->
   s₁.heap.get? a=some { cls:=.type "list",data:=.seq vs.toArray }->IntsAre vs ns->ns.length<=n->s₁.gens=#[] ->
   ZI (model l.prog w) callerA (.call (.ref fa) ⟨[.ref a],[]⟩) (λr s'=>r=.ok (.ret (.bool true))/\OldK s₁.heap s'.heap/\s'.os=s₁.os/\AllBare s'.gens) s₁) :
  u1 q loose XP YP l.row.toRowW d []:=by
 intro w s₀ s₁ mg mb G Y fa o pm cd doc dV kV ho hd hcd hD hmg hg args vals as hpre hlay hrd hwl hlo
 obtain rfl:dV=.none:=Dflts.none hD hdf
 obtain rfl:kV=.none:=Dflts.noKw hD
 obtain⟨a,vs,ns,rfl,rfl,hobj,hints,hlen⟩:=script_of hn hpre hwl
 refine (Zu (call w s₀ s₁ mg mb fa o pm cd doc a vs ns G Y ho (fd_plain hd) hcd hmg hobj hints hlen hg) λr s' hq=>?_)
 obtain⟨rfl,h2,h3,h4⟩:=hq
 exact⟨.inl ⟨.bool true,.bool true,[],rfl,λ_=>rfl,.bool true,post_true l _,λ_=>⟨List.Pairwise.nil,λ_ hm=>(nomatch hm)⟩⟩,h2,h3,h4⟩
theorem Uv {l:PySem.W.OpenLaw}{n k:Nat}{q:Program}{loose:List Str}{XP:(Str->Option Value)->Heap->Prop}{YP:World->Heap->Prop}{d:DefRec}{K:Params->PySem.W.Frag}{CX:World->CXT}{sp:World->Sp}{x:Str}
  (hn:l.most=some n)(hn2:n<=sizeLine)(hdf:d.params.defaults=[])(hr:Room k callerA)
  (hY:∀ (w:World)(h:Heap),YP w h->(K w.params).In h)
  (F:∀ (w:World)(mg:Str->Option Value)(fa:Addr)(h:Heap),(K w.params).In h->h.Ns mainGlobals mg->mg d.name=some (.ref fa) ->
   ∃ fd:FuncData,(∀ (s:Shared) (u:Value),BindsTo s fd ⟨[u],[]⟩ [(x,u)]) ∧
    ∀ base:Heap,(K w.params).In base->base.Ns mainGlobals mg->FnOkC l.prog w (K w.params) mg base (CX w) k fa fd [x] (sp w))
  (hsp:∀ (w:World)(H:Hp)(a:Addr)(ns:List Int),ns.length<=n->Only H->SqL (K w.params) H a (ns.map V.int)->sp w [.ref a] H (λv _=>v=.bl true) λ_ _ _=>False)
  (hCX:∀ (w:World)(H:Hp)(s:Shared) (e:Value)(s':Shared),CX w [] H s (λ_ _ _=>False) e s'->False) :
  u1 q loose XP YP l.row.toRowW d []:=by
 refine vn hn hdf λw s₀ s₁ mg mb fa o pm cd doc a vs ns G Y ho hd hcd hmg hobj hints hlen hg=>?_
 have KX:=hY w _ Y
 obtain⟨fd,hb,hF⟩:=F w mg fa _ KX G.T.g hmg
 exact UX KX G.T.g G.T.b G.T.builtins G.T.nolimit hg hobj hints (Nat.le_trans hlen hn2) hr hF hb (λH hO hS=>hsp w H a ns hlen hO hS) λH e s'=>hCX w H s₁ e s'
end PM
namespace PM
open PySem PySem.Spec PyProof.Rows L2
noncomputable def yM (cs:List Addr) (ix iy ie:Nat)(F:List D->FR)(as:List (M D)):M Fl:=λρ=>match za as ρ with
 |.ok ds ρ1=>(match F ds with
  |.ok d=>.ok .nx (ρ1.set ix (.fz d))
  |.exn c=>if cs.contains c=true then .ok .nx (((ρ1.set ie .un).set iy (.fz (.exc c))).set ie .un) else .bad
  |.bad=>.bad)
 |_=>.bad
section
variable {P:Program}{w:World}{K:PySem.W.Frag}{mg:Str->Option Value}{base:Heap}{N:List Str}{qual:Str}{scope:Scope}{f:Addr}{cd:Value}{A:Around}{outer:List Env}{s₀:Shared}{H₀:Hp}{E:XK}
theorem VM (ix iy ie:Nat){k q:Nat}{ps:List Str}{F:List D->FR}{CB:Addr}{cx n y x g:Str}{e:Expr}{es:List Expr}{ms:List (M D)}{np py pn hpos apos pos px pa pc pg:Pos}(cs:List Addr)(hcs:∀ c ∈ cs,PySem.W.excIn K c Zl zo=true/\PySem.W.mroIn K c (.ref CB)=some true)
  (qB:PySem.W.excIn K CB Zl zo=true)(hm:mg cx=some (.ref CB))(G:FkC P w K mg base k g ps q F)(hr:Room k (A.deeper (envOfC qual scope s₀.heap.objs.size f cd)))
  (hb:∀ (pins:List (Addr×Obj))(xe:Value->Shared->Prop)(E':XK),Passes (CX1 P w K) (Cx.tr (cxOf (CX1 P w K) P w K mg base N qual scope f cd A outer s₀ H₀ E) pins xe) E'->MA (Cx.tr (cxOf (CX1 P w K) P w K mg base N qual scope f cd A outer s₀ H₀ E) pins xe) E' (e::es) ms)
  (nd:N.Nodup)(hx:N[ix]? = some x)(hy:N[iy]? = some y)(he:N[ie]? = some n)(lx:scope.names.lookup x=some .local)(ly:scope.names.lookup y=some .local)(le:scope.names.lookup n=some .local)(hq:autoParam (ms.length=q) aR._auto_1)
  (hgl:autoParam (Gl (cxOf (CX1 P w K) P w K mg base N qual scope f cd A outer s₀ H₀ E) cx) aR._auto_1)(hgg:autoParam (Gl (cxOf (CX1 P w K) P w K mg base N qual scope f cd A outer s₀ H₀ E) g) aR._auto_1)(hd:autoParam ((cx == ("__debug__" : Str))=false) aD._auto_1)(hdn:autoParam ((n == ("__debug__" : Str))=false) aD._auto_1)(hdg:autoParam ((g == ("__debug__" : Str))=false) aD._auto_1)
  (hsw:autoParam (swapsWith (.Name n pn) (some (.Name y py)) apos.line (cxOf (CX1 P w K) P w K mg base N qual scope f cd A outer s₀ H₀ E).env=pure false) aR._auto_1)
  (hsx:autoParam (swapsWith (.Call (.Name g pg) (e::es) [] pc) (some (.Name x px)) pa.line (cxOf (CX1 P w K) P w K mg base N qual scope f cd A outer s₀ H₀ E).env=pure false) aR._auto_1)
  (hse:autoParam (starEach (e::es) (envOfC qual scope s₀.heap.objs.size f cd)=(false,eval e (envOfC qual scope s₀.heap.objs.size f cd))::starEach es (envOfC qual scope s₀.heap.objs.size f cd)) aR._auto_1)(hpl:autoParam ((backTo pc (starEach es (envOfC qual scope s₀.heap.objs.size f cd))).any (·.1)=false) aR._auto_1) :
  MSC (cxOf (CX1 P w K) P w K mg base N qual scope f cd A outer s₀ H₀ E) E (.Try [.Assign [.Name x px] (.Call (.Name g pg) (e::es) [] pc) pa] [.ExceptHandler (some (.Name cx np)) (some n) [.Assign [.Name y py] (.Name n pn) apos] hpos] [] [] pos) (yM cs ix iy ie F ms):=by
 refine⟨λD σ H=>∃ G0 H0 ρ G,Hold K G0 H0 ρ σ G H/\zU K E G0 H0 G (yM cs ix iy ie F ms ρ) D,?_,λG0 H0 ρ σ G H ho D hD=>⟨G0,H0,ρ,G,ho,hD⟩⟩
 intro pins s σ H D I h
 obtain⟨G0,H0,ρ,GG,ho,hD⟩:=h
 obtain⟨fa,fd,Fo,hmf,hkf,hbf⟩:=G
 refine Jn ?_
 generalize hXe:(λe₁ s₁=>wpAny (model P w) (A.deeper (envOfC qual scope s₀.heap.objs.size f cd)) (noteFrame e₁ (envOfC qual scope s₀.heap.objs.size f cd)) (λ_ s₂=>wpAny (model P w) (A.deeper (envOfC qual scope s₀.heap.objs.size f cd)) (setFlight e₁ none) (λ_ s₃=>wpAny (model P w) (A.deeper (envOfC qual scope s₀.heap.objs.size f cd)) (handleBy e₁ (envOfC qual scope s₀.heap.objs.size f cd) [.ExceptHandler (some (.Name cx np)) (some n) [.Assign [.Name y py] (.Name n pn) apos] hpos]) (SP (cxOf (CX1 P w K) P w K mg base N qual scope f cd A outer s₀ H₀ E) pins D) (cxOf (CX1 P w K) P w K mg base N qual scope f cd A outer s₀ H₀ E).xe s₃) (cxOf (CX1 P w K) P w K mg base N qual scope f cd A outer s₀ H₀ E).xe s₂) (cxOf (CX1 P w K) P w K mg base N qual scope f cd A outer s₀ H₀ E).xe s₁)=Xe
 show wpC (model P w) (A.deeper (envOfC qual scope s₀.heap.objs.size f cd)) (execs _ (envOfC qual scope s₀.heap.objs.size f cd)) _ (λe₁ s₁=>wpAny (model P w) (A.deeper (envOfC qual scope s₀.heap.objs.size f cd)) (noteFrame e₁ (envOfC qual scope s₀.heap.objs.size f cd)) (λ_ s₂=>wpAny (model P w) (A.deeper (envOfC qual scope s₀.heap.objs.size f cd)) (setFlight e₁ none) (λ_ s₃=>wpAny (model P w) (A.deeper (envOfC qual scope s₀.heap.objs.size f cd)) (handleBy e₁ (envOfC qual scope s₀.heap.objs.size f cd) [.ExceptHandler (some (.Name cx np)) (some n) [.Assign [.Name y py] (.Name n pn) apos] hpos]) (SP (cxOf (CX1 P w K) P w K mg base N qual scope f cd A outer s₀ H₀ E) pins D) (cxOf (CX1 P w K) P w K mg base N qual scope f cd A outer s₀ H₀ E).xe s₃) (cxOf (CX1 P w K) P w K mg base N qual scope f cd A outer s₀ H₀ E).xe s₂) (cxOf (CX1 P w K) P w K mg base N qual scope f cd A outer s₀ H₀ E).xe s₁) s
 rw[hXe]
 have I0:Inv (Cx.tr (cxOf (CX1 P w K) P w K mg base N qual scope f cd A outer s₀ H₀ E) pins Xe) [] σ H s:=Inv.tr (pins:=pins) (by rw[List.append_nil];exact I)
 have hps:Passes (CX1 P w K) (Cx.tr (cxOf (CX1 P w K) P w K mg base N qual scope f cd A outer s₀ H₀ E) pins Xe) (λ_ _ _=>False):=by
  intro pins' σ1 H1 s1 e s1' I1 hx
  obtain⟨_,_,_,_,_,_,hE⟩:=hx
  exact hE.elim
 obtain⟨ta,pa',ra⟩:=hb pins Xe _ hps
 have step:=ra G0 H0 ρ σ GG H ho (λvs H1=>∃ ds ρ1 G1,za ms ρ=.ok ds ρ1/\Same GG G1/\Hold K G0 H0 ρ1 σ G1 H1/\zJ K G1 ds vs) (by
  unfold yM at hD
  cases qa:za ms ρ with
  |ok ds ρ1=>exact λvs G1 H1 s1 h1 r1=>⟨ds,ρ1,G1,rfl,s1,h1,r1⟩
  |exn c ρ1=>rw[qa]at hD;exact hD.elim
  |bad=>rw[qa]at hD;exact hD)
 refine yw (jN (vD (K:=K) hkf (ld_glob I hgg hmf ⟨rfl,?_⟩ hdg) hse hpl) hsx)
 refine wpAny_mono (pa' pc [] s σ H _ I0 step) (λus s1 ⟨vs,H1,I1,r1,ds,ρ1,G1,qa,sg,h1,rl⟩=>⟨I1.kIn,?_⟩) λ_ _ z=>z
 have I2:=Inv.untr I1
 rw[List.append_nil]at I2
 unfold yM at hD
 rw[qa]at hD
 dsimp only at hD
 have hlen:vs.length=q:=by rw[rl.ln,X2 qa];exact hq
 have sp0:spM K q F vs H1 (λv H'=>∃ d G',F ds=.ok d/\Ext G1 H1 G' H'/\Same H1 H'/\Rep K G' d v) (λcls _ H'=>∃ c G',cls=.ref c/\F ds=.exn c/\Ext G1 H1 G' H'/\Same H1 H'):=by
  refine⟨hlen,G1,ds,h1.e.s,rl,?_⟩
  cases qF:F ds with
  |ok d=>exact λv G' H' x s r=>⟨d,G',rfl,x,s,r⟩
  |exn c=>exact λG' H' x s=>⟨c,G',rfl,rfl,x,s⟩
  |bad=>rw[qF]at hD;exact hD
 have hl:us.length=ps.length:=by rw[<-r1.length];exact Fo.len _ _ _ _ sp0
 have b:=hbf s1 us I2.kIn (by rw[List.append_nil];exact hl)
 rw[List.append_nil]at b
 refine xp (Zu (Fo.run (A.deeper (envOfC qual scope s₀.heap.objs.size f cd)) (envOfC qual scope s₀.heap.objs.size f cd::outer) s1 H1 ⟨us,[]⟩ us vs _ _ hr I2.env0 b r1 sp0) λr s' hc=>?_)
 cases r with
 |error ev=>
  obtain⟨H',cls,B,e0,a0,Fl0,c,G',rfl,qF,ex,sm⟩:=hc
  rw[qF]at hD
  dsimp only at hD
  split at hD
  ·rename_i hcc
   obtain⟨q1,q2⟩:=hcs c (by simpa using hcc)
   show Xe ev s'
   rw[<-hXe]
   refine wZ (C:=c) (pins':=[]) (iy:=iy) (ie:=ie) (by rw[List.append_nil];exact I2) qB hm hgl Fl0 q1 q2 (λhn=>?_) nd hy he ly le hd hdn hsw
   have xn:=Ext.new (o:=Yg e0 c) ex.s hn
   have h2:=((h1.grow ex sm).grow xn (Same.upd hn))
   refine hD _ _ _ (sg.trans (ex.g.trans xn.g)) (((h2.unk (i:=ie)).setFz (i:=iy) ?_).unk (i:=ie))
   unfold Rep
   exact⟨e0,rfl,upd_same⟩
  ·exact hD.elim
 |ok fl=>
  cases fl with
  |ret u=>
   obtain⟨v,H',I3,rv,d,G',qF,ex,sm,rp⟩:=I2.after hc
   rw[qF]at hD
   dsimp only at hD
   refine store_ok I3 nd hx (.inl lx) rv (λs2 I4=>?_) (.inr lx)
   exact zt (wpAny_execs_nil ⟨_,H',I4,hD _ _ _ (sg.trans ex.g) ((h1.grow ex sm).setFz rp)⟩)
  |next=>exact False.elim hc
  |brk=>exact False.elim hc
  |cont=>exact False.elim hc
end
end PM
namespace PM
open PySem PySem.Spec PyProof.Rows L2
noncomputable def WT:D->Option (List D)
 |.str x=>some (x.cps.toList.map λc=>.str ⟨#[c]⟩)
 |_=>none
noncomputable def Its (x:Str):It:=⟨λi _=>i<x.cps.size,λi H v H'=>H'=H/\∃ c,x.cps[i]? = some c/\v=.str ⟨#[c]⟩,λi _=>i=x.cps.size⟩
theorem Wx {P:Program}{w:World}{K:PySem.W.Frag}{tg:Expr}(it:Addr) (x:Str)(t:Tok) (ty:String)(hn:["enumerate","zip","dict_itemiterator","dict_reverseitemiterator","odict_iterator","itertools.zip_longest","itertools.pairwise"].contains ty=false)
  (W:∀ A':Around,A'.handled=none->Walks P w A' it [it] [it] x.cps.size (SignAt x) (λi h=>h.IsStrIter it ty x t i))(hself:∀ (A:Around) (i:Nat)(s:Shared)(Q:Value->Shared->Prop)(E:Value->Shared->Prop),s.heap.IsStrIter it ty x t i->Q (.ref it) s->wpAny (model P w) A (pyIter (.ref it)) Q E s) :
  Turn P w K tg (Its x) [it] it (λi h=>h.IsStrIter it ty x t i) where
 mem:=by simp
 obj:=λi h st b hb=>by
  have e:b=it:=by simpa using hb
  subst e
  obtain⟨o,e,c,d⟩:=st
  exact⟨o,e,λv z=>by rw[d]at z;cases z⟩
 keep:=λi h h' st k=>let ⟨o,ho,r⟩:=st;⟨o,k it (by simp) o ho,r⟩
 item:=by
  intro X hP hw hK hc i pins s σ H E I hf st hg
  subst hP hw hK
  obtain⟨f0,f1,f2,f3,f4,f5⟩:=hf it (by simp)
  refine (W X.A (I.ok.hd hc)).item i s _ _ hg st λv h' tk hv st' kk=>?_
  obtain⟨c,u,hx,rfl⟩:=hv
  have I1:Inv X pins σ H { s with heap:=h',toks:=tk }:=I.turned (λb o hb e=>kk b o (by simpa using hb) e) f0 f1 f3 f4 f5
  obtain⟨o,e,cc,d⟩:=id st'
  exact⟨_,rfl,go_of (s:={ s with heap:=h',toks:=tk }) e cc d hn ⟨.str ⟨#[c]⟩,H,I1,⟨u,rfl⟩,⟨rfl,c,hx,rfl⟩,st',λb hb=>(hf b hb).1⟩⟩
 done:=by
  intro X hP hw hK hc i pins s σ H E I hf st hg
  subst hP hw hK
  obtain⟨f0,f1,f2,f3,f4,f5⟩:=hf it (by simp)
  have hg':i=x.cps.size:=hg
  subst hg'
  exact (W X.A (I.ok.hd hc)).done s _ _ st λh' tk eb=>⟨rfl,I.turned (t':=tk) (λb o hb e=>eb b o (by simpa using hb) e) f0 f1 f3 f4 f5⟩
 self:=λA i s Q E st h=>hself A i s Q E st h
section
variable {X:Cx}{E:XK}{tg iter:Expr}{m:M D}
noncomputable def kJ (tl:TE):TI:=λσ H R=>tl σ H λv H1=>∃ x,v=.str x/\R (Its x) H1
theorem JF {l:Expr}{tl:TE}(hl:PE X l tl):PI X tg l (kJ tl):=by
 intro pins s σ H R I h
 refine thn (hl pins s σ H _ I h) λv s1 ⟨x,H1,I1,r1,q1⟩=>?_
 obtain⟨x,rfl,q⟩:=q1
 obtain⟨t,rfl⟩:=r1
 have fin:∀ (o:Obj)(tn:Nat->Heap->Prop),Turn X.prog X.w X.K tg (Its x) [s1.heap.objs.size] s1.heap.objs.size tn->tn 0 (s1.heap.push o)->PIE X pins σ tg R (.ref s1.heap.objs.size) { s1 with heap:=s1.heap.push o }:=λo tn T st=>by
  refine⟨s1.heap.objs.size,[s1.heap.objs.size],_,_,H1,rfl,I1.kept (t':=s1.toks) λb o e=>Heap.get?_push_of_some _ e,T,st,λb hb=>?_,q⟩
  have e:b=s1.heap.objs.size:=by simpa using hb
  subst e
  exact I1.fpOk (Nat.le_refl _) (I1.hok.fresh (Nat.le_refl _))
 cases ha:x.cps.all (· < 128)
 ·exact wpAny_pyIter_wide ha (fin _ _ (Wx _ x t "str_iterator" (by decide) (λA' hA=>Walks.strWide hA _ x t) λ_ _ _ _ _ st h=>wpAny_pyIter_striter_wide st h) ⟨_,Heap.get?_push_size _ rfl,rfl,rfl⟩)
 ·exact wpAny_pyIter_ascii ha (fin _ _ (Wx _ x t "str_ascii_iterator" (by decide) (λA' hA=>Walks.strAscii hA _ x t) λ_ _ _ _ _ st h=>wpAny_pyIter_striter_ascii st h) ⟨_,Heap.get?_push_size _ rfl,rfl,rfl⟩)
theorem JT (h:ME X E iter m):MI X E tg iter (zS WT m):=by
 obtain⟨t,p,r⟩:=h
 refine⟨_,JF p,RI.of (t2:=λv H1 R=>∃ x,v=.str x/\R (Its x) H1) r λG H d v ds R s rv e hR=>?_⟩
 cases d<;>first | (cases e;done) | skip
 cases e
 rename_i x
 refine⟨x,zf.mp rv,hR (Its x) (ItOk.of (vs:=x.cps.toList.map λc=>V.str ⟨#[c]⟩) ?_ (λG' H' i v sg sh hv=>?_) λG' H' sg sh=>by rw[List.length_map];exact Array.length_toList)⟩
 ·have:∀ l:List Nat,zJ X.K G (l.map λc=>D.str ⟨#[c]⟩) (l.map λc=>V.str ⟨#[c]⟩):=λl=>by
   induction l with
   |nil=>exact zJ.nil
   |cons a l ih=>exact zJ.cons (zf.mpr rfl) ih
  exact this _
 ·rw[List.getElem?_map]at hv
  obtain⟨c,hc,rfl⟩:=Option.map_eq_some_iff.mp hv
  have hc':x.cps[i]? = some c:=by simpa using hc
  refine⟨(Array.getElem?_eq_some_iff.mp hc').1,λy H'' ⟨e1,c',h1,h2⟩=>⟨e1,?_⟩⟩
  rw[hc']at h1
  cases h1
  exact h2
end
end PM
namespace PM
open PySem PySem.Spec PyProof.Rows L2
section
variable {X:Cx}{K:PySem.W.Frag}{E:XK}
theorem VX {G H:Hp}{p:Addr}{o:HO}(h:Same G H)(hp:H p=none):Ext G H G (upd H p o):=
 ⟨Same.refl _,λb u e=>Same.upd hp _ _ (h _ _ e),λ_ _ e=>e,Same.upd hp⟩
noncomputable def Js (ta:TA):TE:=λσ H Q=>ta σ H λvs H1=>∃ j:Int,vs=[.int j]/\-(2 ^ 62)<=j/\j<2 ^ 62/\∀ p,H1 p=none->Q (.ref p) (upd H1 p (.rng 0 j))
theorem qP {a:Expr}{ta:TA}{p pos:Pos}(hg:Gl X "range")(hm:X.mg "range" = none)(ha:PA X [a] ta)(hs:starEach [a] X.env=[(false,eval a X.env)]):PE X (.Call (.Name "range" p) [a] [] pos) (Js ta):=by
 intro pins s σ H Q I h
 refine Call_ (ld_blt I hg hm boot_range (PyProof.Rows.callWith_type1 (thn (ha pos pins s σ H _ I h) λus s1 ⟨vs,H1,I1,r1,q1⟩=>?_) hs rfl))
 obtain⟨j,e,_,_,q⟩:=q1
 subst e
 obtain⟨u,rfl,t,rfl⟩:=vals1 r1
 refine call_range_1 ?_
 exact⟨.ref s1.heap.objs.size,_,I1.laid (o:=.rng 0 j) (λb o e=>Heap.get?_push_of_some _ e) (Nat.le_refl _) ⟨_,_,_,Heap.get?_push_size _ rfl⟩,rfl,q _ (I1.hok.fresh (Nat.le_refl _))⟩
noncomputable def vp (n:Nat):List V:=(List.range n).map λk:Nat=>V.int (k:Int)
theorem Y9 {acc:Array Value}{n:Nat}(h:ItemsOf (λi v=>∃ t,v=.int (0+i * 1) t) acc n):Vals (vp n) acc.toList:=by
 obtain⟨h1,h2⟩:=h
 have:∀ (l:List Value) (m:Nat),l.length=n - m->m<=n->(∀ (j:Nat) (v:Value),l[j]? = some v->∃ t,v=Value.int ((m+j:Nat):Int) t)->Vals ((List.range' m (n - m)).map λk:Nat=>V.int (k:Int)) l:=by
  intro l
  induction l with
  |nil=>
   intro m hl hm _
   have:n - m=0:=by simpa using hl.symm
   rw[this]
   exact .nil
  |cons v r ih=>
   intro m hl hm hv
   have e:n - m=(n - (m+1))+1:=by simp at hl;omega
   rw[e,List.range'_succ]
   obtain⟨t,rfl⟩:=hv 0 v rfl
   refine .cons ⟨t,rfl⟩ (ih (m+1) (by simp at hl;omega) (by simp at hl;omega) λj v hj=>?_)
   obtain⟨t,e⟩:=hv (j+1) v (by simpa using hj)
   exact⟨t,by rw[e];congr 1;omega⟩
 have:=this acc.toList 0 (by simpa using h1) (Nat.zero_le _) λj v hj=>by
  obtain⟨t,e⟩:=h2 j v (by simpa using hj)
  exact⟨t,by rw[e];congr 1;omega⟩
 rw[Nat.sub_zero,<-List.range_eq_range']at this
 exact this
noncomputable def wl:List V->Hp->VK->Prop:=λxs H Q=>∃ (r:Addr) (j:Int),xs=[.ref r]/\H r=some (.rng 0 j)/\-(2 ^ 62)<=j/\j<2 ^ 62/\j.toNat<=sizeLine/\∀ p,H p=none->Q (.ref p) (upd H p (.lst (vp j.toNat)))
theorem Wu (hc:X.calm=true):CallR X (.type "list") wl:=by
 intro pins s σ H xs us Q I r h
 obtain⟨ra,j,rfl,hr,h1,h2,hz,q⟩:=h
 obtain⟨u,rfl,rx⟩:=vals1 r
 cases rx
 obtain⟨t,u,v,hg⟩:=(show ObjOk X.prog X.w H s.heap ra (.rng 0 j) from I.hok ra _ hr)
 have hn:Builtin.Range.rangeSize 0 j 1=j.toNat:=by rw[rangeSize_one];split<;>omega
 refine call_list_range (I.ok.hd hc) hg (small_one (by omega) (by omega) h1 h2) hn (by rw[<-show (sizeLine:Nat)=2 ^ 24 from rfl];exact hz) λh' tk acc' c' hk hS hacc=>?_
 exact⟨.ref s.heap.objs.size,_,I.laid (o:=.lst (vp j.toNat)) hk (Nat.le_refl _) ⟨by unfold vp;simpa using hz,acc'.toList,c',Y9 hacc,hS⟩,rfl,q _ (I.hok.fresh (Nat.le_refl _))⟩
theorem Vs (G:Hp) (n:Nat):zJ K G (yu n) (vp n):=Xf G n
theorem vy {i:Nat}{te:TE}{m:M D}(he:RE K E te m):RS K E (tAsg (tCB wl (tCons (Js (tCons te tNil)) tNil)) (gName i)) (YF i m):=by
 intro G0 H0 ρ σ G H ho
 refine RSt.bind (t2:=λv D σ H1=>∃ j:Int,[v]=[V.int j]/\-(2 ^ 62)<=j/\j<2 ^ 62/\∀ p,H1 p=none->wl [.ref p] (upd H1 p (.rng 0 j)) λx H2=>D.nx (σ.set i (some x)) H2) (he G0 H0 ρ σ G H ho) λd ρ1 v G1 H1 s1 h1 r1=>?_
 refine RSt.opt λds e=>?_
 intro D hD
 split at hD
 ·rename_i hz
  obtain⟨j,rfl,hj,rfl⟩:=xh e
  cases zM.mp r1
  refine⟨j,rfl,hj.1,hj.2,λp hp=>⟨p,j,rfl,upd_same,hj.1,hj.2,by simpa[yu] using hz,λq hq=>?_⟩⟩
  have h2:=h1.grow (VX (o:=.rng 0 j) h1.e.s hp) (Same.upd hp)
  exact hD _ G1 _ (Same.refl _) (h2.setNew hq (s:=.own (yu j.toNat)) ⟨q,_,rfl,upd_same,h2.e.s.free hq,h2.b.free hq,Vs G1 _⟩ rfl)
 ·exact hD.elim
theorem VL {e:Expr}{m:M D}{x:Str}{p p3 p2 pos cp cp2:Pos} (i:Nat)(hN:X.N.Nodup)(hl:X.mg "list" = none)(hr:X.mg "range" = none)(h:ME X E e m)(hc:autoParam (X.calm=true) aR._auto_1)(hi:autoParam (X.N[i]? = some x) aR._auto_1)(hx:autoParam (Loc X.env.scope x) aL._auto_1)
  (hgl:autoParam (Gl X "list") aR._auto_1)(hgr:autoParam (Gl X "range") aR._auto_1)(hst:autoParam (starEach [e] X.env=[(false,eval e X.env)]) aR._auto_1)(hst2:autoParam (starEach [.Call (.Name "range" p3) [e] [] cp2] X.env=[(false,eval (.Call (.Name "range" p3) [e] [] cp2) X.env)]) aR._auto_1)
  (hs:autoParam (swapsWith (.Call (.Name "list" p) [.Call (.Name "range" p3) [e] [] cp2] [] cp) (some (.Name x p2)) pos.line X.env=pure false) aR._auto_1)(hf:autoParam (X.fn x=true\/X.env.scope.names.lookup x=some .local) aF._auto_1) :
  MS X E (.Assign [.Name x p2] (.Call (.Name "list" p) [.Call (.Name "range" p3) [e] [] cp2] [] cp) pos) (YF i m):=by
 obtain⟨t,pe,re⟩:=h
 exact⟨_,ps_set hN hi hx (pe_callTy (Wu hc) hgl hl (by with_unfolding_all rfl) (pa_cons (qP hgr hr (pa_cons pe pa_nil hst) hst) pa_nil hst2) (by decide) (by decide) hst2 (by rfl)) hs hf,vy re⟩
end
end PM
namespace PM
open PySem PySem.Spec PyProof.Rows L2
noncomputable def vj (names:List (Str×NameKind))(cells:List (Str×Addr))(acc:List (Str×Addr)):List (Str×Addr):=match names with
 |[]=>acc
 |(n,k)::r=>if k == .free then vj r cells ((n,(cells.lookup n).getD 0)::acc) else vj r cells acc
theorem xN {x:Str}:∀ (names:List (Str×NameKind)) (n:Nat)(acc:List (Str×Addr)),((x,NameKind.cell) ∈ names\/(acc.lookup x).isSome=true)->((cellsFrom n names acc).lookup x).isSome=true
 |[],_,acc,h=>by
  rcases h with h | h
  ·simp at h
  ·exact h
 |(m,k)::r,n,acc,h=>by
  unfold cellsFrom
  split
  ·rename_i hk
   refine xN r _ _ ?_
   rcases h with h | h
   ·rcases List.mem_cons.mp h with e | h
    ·cases e;exact .inr (by simp[List.lookup_cons])
    ·exact .inl h
   ·refine .inr ?_
    rw[List.lookup_cons]
    split
    ·rfl
    ·exact h
  ·rename_i hk
   refine xN r _ _ ?_
   rcases h with h | h
   ·rcases List.mem_cons.mp h with e | h
    ·cases e;simp at hk
    ·exact .inl h
   ·exact .inr h
theorem WQ {env:Env}:∀ (names:List (Str×NameKind))(acc:List (Str×Addr)),(∀ y ∈ names,y.2=.free->(env.cells.lookup y.1).isSome=true) ->
  (forIn (m:=Sem) names acc λ(p:Str×NameKind)(r:List (Str×Addr))=>(match p with | (name,kind)=>if (kind == NameKind.free)=true then do let c <-cellOf env name;pure (ForInStep.yield ((name,c)::r)) else pure (ForInStep.yield r):Sem (ForInStep (List (Str×Addr)))))=pure (vj names env.cells acc)
 |[],acc,_=>rfl
 |(n,k)::r,acc,h=>by
  rw[List.forIn_cons]
  have ih:=λa=>WQ (env:=env) r a λy hy=>h y (List.mem_cons_of_mem _ hy)
  unfold vj
  by_cases hk:(k == NameKind.free)=true
  ·have hk':k=.free:=by simpa using hk
   obtain⟨c,hc⟩:=Option.isSome_iff_exists.mp (h (n,k) List.mem_cons_self hk')
   simp only at hc
   simp only[hk,if_true,cellOf,hc,Option.getD_some]
   exact ih _
  ·simp only[hk,if_false,Bool.false_eq_true]
   exact ih _
theorem WR {cells:List (Str×Addr)}:∀ (names:List (Str×NameKind))(acc:List (Str×Addr))(p:Str×Addr),p ∈ vj names cells acc->p ∈ acc\/((p.1,NameKind.free) ∈ names/\p.2=(cells.lookup p.1).getD 0)
 |[],acc,p,h=>.inl h
 |(n,k)::r,acc,p,h=>by
  unfold vj at h
  split at h
  ·rename_i hk
   have hk':k=.free:=by simpa using hk
   rcases WR r _ p h with h | h
   ·rcases List.mem_cons.mp h with rfl | h
    ·exact .inr ⟨by rw[hk'];exact List.mem_cons_self,rfl⟩
    ·exact .inl h
   ·exact .inr ⟨List.mem_cons_of_mem _ h.1,h.2⟩
  ·rcases WR r _ p h with h | h
   ·exact .inl h
   ·exact .inr ⟨List.mem_cons_of_mem _ h.1,h.2⟩
theorem WS {cells:List (Str×Addr)}{x:Str}:∀ (names:List (Str×NameKind))(acc:List (Str×Addr)),((x,NameKind.free) ∈ names\/(acc.lookup x).isSome=true)->((vj names cells acc).lookup x).isSome=true
 |[],acc,h=>by
  rcases h with h | h
  ·simp at h
  ·exact h
 |(n,k)::r,acc,h=>by
  unfold vj
  split
  ·refine WS r _ ?_
   rcases h with h | h
   ·rcases List.mem_cons.mp h with e | h
    ·cases e;exact .inr (by simp[List.lookup_cons])
    ·exact .inl h
   ·refine .inr ?_
    rw[List.lookup_cons]
    split
    ·rfl
    ·exact h
  ·rename_i hk
   refine WS r _ ?_
   rcases h with h | h
   ·rcases List.mem_cons.mp h with e | h
    ·cases e;simp at hk
    ·exact .inl h
   ·exact .inr h
theorem xj {α:Type}{x:Str}{a:α}:∀ {l:List (Str×α)},l.lookup x=some a->(x,a) ∈ l
 |[],h=>by simp at h
 |(n,b)::r,h=>by
  rw[List.lookup_cons]at h
  split at h
  ·rename_i e
   cases h
   rw[eq_of_beq e]
   exact List.mem_cons_self
  ·exact List.mem_cons_of_mem _ (xj h)
theorem yj {X:Cx}{scope osc:Scope}{L:Addr}{nt:Nat}{N N':List Str}{idx:List Nat}(hsc:X.env.scope=osc)(hcl:X.env.cells=cellsFrom (L+1) osc.names [])(hN:X.N=N)(kind:scope.kind=.function)
  (nocell:∀ y ∈ scope.names,y.2≠.cell)(names:∀ y ∈ scope.names,y.2=.local->scope.names.lookup y.1=some .local)(hf:∀ y ∈ scope.names,y.2=.free->(y.1,NameKind.cell) ∈ osc.names)
  (len:N'.length=nt+idx.length+1)(cap:∀ j<idx.length,∃ x ∈ N,idx[j]?.bind (λi=>N[i]?)=some x/\N'[nt+j]? = some x/\scope.names.lookup x=some .free/\osc.names.lookup x=some .cell)
  (acc:∃ x ∈ N',N'[nt+idx.length]? = some x/\scope.names.lookup x=none):BlkScope X scope (vj scope.names X.env.cells []) nt N' idx where
 clos:=by
  have:=WQ (env:=X.env) scope.names [] λy hy hk=>by rw[hcl];exact xN _ _ _ (.inl (hf y hy hk))
  exact Eq.trans (b:=(_ >>= λcs=>pure cs)) rfl (congrArg (λ(t:Sem (List (Str×Addr)))=>t >>= λcs=>pure cs) this)
 kind:=kind
 nocell:=nocell
 names:=names
 sub:=λx c h=>by
  rcases WR _ _ _ (xj h) with q | ⟨q1,q2⟩
  ·simp at q
  ·have hs:(X.env.cells.lookup x).isSome=true:=by rw[hcl];exact xN _ _ _ (.inl (hf _ q1 rfl))
   obtain⟨d,hd⟩:=Option.isSome_iff_exists.mp hs
   simp only at q2
   rw[hd]at q2 ⊢
   rw[q2]
   rfl
 has:=λx h=>WS _ _ (.inl (xj h))
 len:=len
 cap:=λj i h=>by
  have hj:=(List.getElem?_eq_some_iff.mp h).1
  obtain⟨x,_,h1,h2,h3,h4⟩:=cap j hj
  rw[h]at h1
  exact⟨x,by rw[hN];exact h1,h2,h3,by rw[hsc];exact h4⟩
 acc:=let ⟨x,_,h1,h2⟩:=acc;⟨x,h1,h2⟩
end PM
namespace PM
open PySem PySem.Spec PyProof.Rows L2
structure ErrT (K:PySem.W.Frag)(mg:Str->Option Value)(A:Cls):Prop where
 c_BoxError:mg "BoxError" = some (.ref A.be)
 c_BadMachine:mg "BadMachine" = some (.ref A.bm)
 c_BadWord:mg "BadWord" = some (.ref A.bw)
 c_TooMany:mg "TooMany" = some (.ref A.tm)
 c_BadText:mg "BadText" = some (.ref A.bt)
 e_BoxError:PySem.W.excIn K A.be Zl zo=true
 e_BadMachine:PySem.W.excIn K A.bm Zl zo=true
 e_BadWord:PySem.W.excIn K A.bw Zl zo=true
 e_TooMany:PySem.W.excIn K A.tm Zl zo=true
 e_BadText:PySem.W.excIn K A.bt Zl zo=true
 caught:∀ c ∈ A.all,PySem.W.excIn K c Zl zo=true/\PySem.W.mroIn K c (.ref A.be)=some true
 i_BadMachine:∀ a b,A.is A.bm a=some b->(PySem.W.clsIn K a).isSome=true/\ExcCls K a/\PySem.W.kitOne K (.ref a) (.ref A.bm)=some b
 i_BadWord:∀ a b,A.is A.bw a=some b->(PySem.W.clsIn K a).isSome=true/\ExcCls K a/\PySem.W.kitOne K (.ref a) (.ref A.bw)=some b
 i_TooMany:∀ a b,A.is A.tm a=some b->(PySem.W.clsIn K a).isSome=true/\ExcCls K a/\PySem.W.kitOne K (.ref a) (.ref A.tm)=some b
 i_BadText:∀ a b,A.is A.bt a=some b->(PySem.W.clsIn K a).isSome=true/\ExcCls K a/\PySem.W.kitOne K (.ref a) (.ref A.bt)=some b
 i_VE:∀ a b,A.isVE a=some b->(PySem.W.clsIn K a).isSome=true/\ExcCls K a/\PySem.W.kitOne K (.ref a) (.type "ValueError")=some b
end PM
namespace PM
open PySem PySem.Spec PyProof.Rows L2
section
variable {prog:Program}{w:World}{A:Around}{E:Value->Shared->Prop}{s:Shared}
noncomputable abbrev Yv (led:Bool):Obj:={ cls:=.type "set",dict:=none,data:=.set #[] 0 (.fresh 0 0 led) }
structure SeqWalk (prog:Program)(w:World) (T:String)(l:Addr)(items:Array Value)(io:Obj)(St:Addr->Nat->Heap->Prop):Prop where
 nset:isSubtype (.type T) (.type "set")=pure false
 nfro:isSubtype (.type T) (.type "frozenset")=pure false
 ndic:(Value.type T == Value.type "dict")=false
 iter:∀ (A:Around)(E:Value->Shared->Prop)(s:Shared)(Q:Value->Shared->Prop),(∃ o n,s.heap.get? l=some o/\o.cls=.type T/\o.data=.seq items n)->Q (.ref s.heap.objs.size) { s with heap:=s.heap.push io }->wpAny (model prog w) A (pyIter (.ref l)) Q E s
 walk:∀ (A:Around)(I:Addr),A.handled=none->l≠I->Walks prog w A I [I,l] [I] items.size (λi v=>items[i]? = some v) (St I)
 zero:∀ (h:Heap),(∃ o n,h.get? l=some o/\o.cls=.type T/\o.data=.seq items n)->St h.objs.size 0 (h.push io)
theorem vT {l:Addr}{items:Array Value}:SeqWalk prog w "list" l items { cls:=.type "list_iterator",data:=.fields #[.ref l,.int 0 0] } (λI i h=>h.IsListIter I l i/\h.IsList l items) where
 nset:=F.sub_list_set
 nfro:=F.sub_list_frozenset
 ndic:=by decide
 iter:=λA E s Q ⟨o,n,h1,h2,h3⟩ q=>wpAny_pyIter_list ⟨o,h1,h2,n,h3⟩ q
 walk:=λA I hh hne=>Walks.list hh I l hne items
 zero:=λh ⟨o,n,h1,h2,h3⟩=>⟨⟨_,Heap.get?_push_size _ rfl,rfl,rfl⟩,Heap.IsList.push (show h.IsList l items from ⟨o,h1,h2,n,h3⟩) _⟩
theorem Wh {l:Addr}{items:Array Value}:SeqWalk prog w "tuple" l items { cls:=.type "tuple_iterator",data:=.fields #[.ref l,.int 0 0] } (λI i h=>h.IsTupleIter I l i/\h.IsTuple l items) where
 nset:=by rw[isSubtype_type];kernel_rfl
 nfro:=by rw[isSubtype_type];kernel_rfl
 ndic:=by decide
 iter:=λA E s Q ⟨o,n,h1,h2,h3⟩ q=>wpAny_pyIter_tuple ⟨o,h1,h2,n,h3⟩ q
 walk:=λA I hh hne=>Walks.tuple hh I l hne items
 zero:=λh ⟨o,n,h1,h2,h3⟩=>⟨⟨_,Heap.get?_push_size _ rfl,rfl,rfl⟩,⟨o,Heap.get?_push_of_some _ h1,h2,n,h3⟩⟩
end
end PM
namespace PM
open PySem PySem.Spec PyProof.Rows L2
noncomputable def Ris (l:List Nat):Prop:=l.Pairwise (· < ·)
structure TabOk (led:Bool)(t:SetTable):Prop where
 led:t.led=led
 dum:t.dummies=#[]
 ris:Ris t.place.toList
theorem Vr {l:List Nat}(h:Ris l){i j a b:Nat}(hij:i<j)(ha:l[i]? = some a)(hb:l[j]? = some b):a<b:=by
 obtain⟨hi,rfl⟩:=List.getElem?_eq_some_iff.mp ha
 obtain⟨hj,rfl⟩:=List.getElem?_eq_some_iff.mp hb
 exact List.pairwise_iff_getElem.mp h i j hi hj hij
theorem vg {xs:Array Nat}{j:Nat}(hr:Ris xs.toList):∀ (f lo hi:Nat),hi - lo<=f->lo<=hi->hi<=xs.size->(∀ i a,xs.toList[i]? = some a->i<lo->a<j)->(∀ i a,xs.toList[i]? = some a->hi<=i->j<=a) ->
  SetTable.below.go xs j f lo hi<=xs.size/\(∀ i a,xs.toList[i]? = some a->i<SetTable.below.go xs j f lo hi->a<j)/\∀ i a,xs.toList[i]? = some a->SetTable.below.go xs j f lo hi<=i->j<=a
 |0,lo,hi,h1,h2,h3,h4,h5=>by
  unfold SetTable.below.go
  exact⟨by omega,h4,λi a ha hi'=>h5 i a ha (by omega)⟩
 |f+1,lo,hi,h1,h2,h3,h4,h5=>by
  unfold SetTable.below.go
  by_cases hlt:lo<hi
  ·rw[if_pos hlt]
   have hm:(lo+hi) / 2<xs.size:=by omega
   have hg:xs.toList[(lo+hi) / 2]? = some xs[(lo+hi) / 2]:=by simp[hm]
   have hgd:xs.getD ((lo+hi) / 2) j=xs[(lo+hi) / 2]:=by simp[Array.getD,hm]
   simp only[hgd]
   by_cases hc:xs[(lo+hi) / 2]<j
   ·rw[if_pos hc]
    refine vg hr f _ _ (by omega) (by omega) h3 (λi a ha hi'=>?_) h5
    by_cases e:i=(lo+hi) / 2
    ·subst e;rw[hg]at ha;cases ha;exact hc
    ·exact Nat.lt_trans (Vr hr (by omega) ha hg) hc
   ·rw[if_neg hc]
    refine vg hr f _ _ (by omega) (by omega) (by omega) h4 λi a ha hi'=>?_
    by_cases e:i=(lo+hi) / 2
    ·subst e;rw[hg]at ha;cases ha;omega
    ·have:=Vr hr (show (lo+hi) / 2<i by omega) hg ha
     omega
  ·rw[if_neg hlt]
   exact⟨by omega,h4,λi a ha hi'=>h5 i a ha (by omega)⟩
theorem WX {xs:Array Nat}{j:Nat}(hr:Ris xs.toList):SetTable.below xs j<=xs.size/\(∀ i a,xs.toList[i]? = some a->i<SetTable.below xs j->a<j)/\∀ i a,xs.toList[i]? = some a->SetTable.below xs j<=i->j<=a:=
 vg hr _ _ _ (by omega) (Nat.zero_le _) (Nat.le_refl _) (λi a _ h=>absurd h (Nat.not_lt_zero _)) λi a ha h=>absurd (List.getElem?_eq_some_iff.mp ha).1 (by simpa using h)
theorem W9 (j:Nat):SetTable.has #[] j=false:=by simp[SetTable.has]
theorem UF {t:SetTable}{led:Bool}(ok:TabOk led t){j:Nat}(h:t.slot j=.empty):j ∉ t.place.toList:=λhm=>by
 obtain⟨k,hk⟩:=List.mem_iff_getElem?.mp hm
 obtain⟨h1,h2,h3⟩:=WX (j:=j) ok.ris
 have hkl:=(List.getElem?_eq_some_iff.mp hk).1
 have hb:SetTable.below t.place j<=k:=Nat.le_of_not_lt λq=>absurd (h2 k j hk q) (Nat.lt_irrefl _)
 have e:SetTable.below t.place j=k:=by
  refine Nat.le_antisymm hb (Nat.le_of_not_lt λq=>?_)
  have hs:SetTable.below t.place j<t.place.toList.length:=by omega
  have g:=h3 _ _ (List.getElem?_eq_getElem hs) (Nat.le_refl _)
  have:=Vr ok.ris q (List.getElem?_eq_getElem hs) hk
  omega
 unfold SetTable.slot at h
 have hk':t.place[SetTable.below t.place j]? = some j:=by rw[e];simpa using hk
 simp[hk']at h
theorem vS {t:SetTable}{led:Bool}(ok:TabOk led t) (j:Nat):t.slot j≠.dummy:=by
 unfold SetTable.slot
 rw[ok.dum,W9]
 simp only
 split
 ·simp
 ·simp
theorem Up (t:SetTable)(p:SetTable.Probe):(t.advance p).dummy=p.dummy:=by
 unfold SetTable.advance
 split<;>rfl
theorem wq {t:SetTable}{led:Bool}(ok:TabOk led t){h:Int}:∀ (f:Nat)(p:SetTable.Probe),p.dummy=none->∀ m,SetTable.probe.go t (λ_=>h+1) h f p=some m->∃ j,m=.empty j none/\t.slot j=.empty
 |0,p,_,m,e=>by simp[SetTable.probe.go]at e
 |f+1,p,hp,m,e=>by
  unfold SetTable.probe.go at e
  cases q:t.slot p.j with
  |empty=>
   rw[q]at e
   simp only[hp,Option.some.injEq]at e
   exact⟨p.j,e.symm,q⟩
  |dummy=>exact absurd q (vS ok _)
  |live i=>
   rw[q]at e
   have hne:(h+1 == h)=false:=by simp;omega
   simp only[hne,Bool.false_eq_true,if_false]at e
   exact wq ok f (t.advance p) (by rw[Up,hp]) m e
theorem UG (n:Nat):Ris (Array.range n).toList:=by
 rw[Array.toList_range]
 exact List.pairwise_lt_range
theorem YN {t:SetTable}{led:Bool}(h:t.led=led) (n:Nat):TabOk led (t.standIn n):=⟨h,rfl,UG n⟩
theorem JE {t:SetTable}{led:Bool}(ok:TabOk led t){j:Nat}(h:t.slot j=.empty):TabOk led (t.put j).1:=by
 refine⟨ok.led,?_,?_⟩
 ·show (if SetTable.has t.dummies j=true then _ else t.dummies)=#[]
  rw[ok.dum,W9]
  rfl
 ·show Ris (SetTable.insertAt t.place (SetTable.below t.place j) j).toList
  obtain⟨h1,h2,h3⟩:=WX (j:=j) ok.ris
  have hn:=UF ok h
  have e:(SetTable.insertAt t.place (SetTable.below t.place j) j).toList=t.place.toList.take (SetTable.below t.place j)++j::t.place.toList.drop (SetTable.below t.place j):=by
   unfold SetTable.insertAt
   simp
   rw[List.take_of_length_le (by simp)]
  rw[e]
  refine List.pairwise_append.mpr ⟨ok.ris.sublist (List.take_sublist _ _),List.pairwise_cons.mpr ⟨λa ha=>?_,ok.ris.sublist (List.drop_sublist _ _)⟩,λa ha b hb=>?_⟩
  ·obtain⟨i,hi⟩:=List.mem_iff_getElem?.mp ha
   rw[List.getElem?_drop]at hi
   have:=h3 _ a hi (Nat.le_add_right _ _)
   have:a≠j:=λq=>hn (q ▸ List.mem_of_getElem? hi)
   omega
  ·obtain⟨i,hi⟩:=List.mem_iff_getElem?.mp ha
   rw[List.getElem?_take]at hi
   split at hi
   ·rename_i hlt
    have haj:=h2 i a hi hlt
    rcases List.mem_cons.mp hb with rfl | hb
    ·exact haj
    ·obtain⟨k,hk⟩:=List.mem_iff_getElem?.mp hb
     rw[List.getElem?_drop]at hk
     have:=h3 _ b hk (Nat.le_add_right _ _)
     omega
   ·cases hi
theorem UW {t:SetTable}{led:Bool}(ok:TabOk led t)(es:Array (Int×Value)) (h:Int) (x:Value):TabOk led (layNew t es h x).2.1:=by
 unfold layNew
 cases q:t.freeSlot h with
 |none=>exact YN ok.led _
 |some p=>
  obtain⟨sl,wd⟩:=p
  have hs:t.slot sl=.empty:=by
   unfold SetTable.freeSlot at q
   cases r:t.probe (λ_=>h+1) h (t.probeStart h) with
   |none=>rw[r]at q;cases q
   |some m=>
    obtain⟨j,rfl,hj⟩:=wq ok _ _ rfl m r
    rw[r]at q
    simp at q
    rw[<-q.1]
    exact hj
  have pk:=JE ok hs
  dsimp only
  unfold SetTable.orStandIn
  split
  ·exact pk
  ·exact YN pk.led _
theorem vz {α:Type}(f:Nat->Option α):∀ (l:List Nat),Ris l->Ris ((l.filterMap λj=>(f j).map (j,·)).map (·.1))/\∀ a ∈ (l.filterMap λj=>(f j).map (j,·)).map (·.1),a ∈ l
 |[],_=>⟨List.Pairwise.nil,λa h=>by simp at h⟩
 |b::r,h=>by
  obtain⟨h1,h2⟩:=List.pairwise_cons.mp h
  obtain⟨i1,i2⟩:=vz f r h2
  rw[List.filterMap_cons]
  cases f b with
  |none=>exact⟨i1,λa ha=>List.mem_cons_of_mem _ (i2 a ha)⟩
  |some x=>exact⟨List.pairwise_cons.mpr ⟨λa ha=>h1 a (i2 a ha),i1⟩,λa ha=>by
    rcases List.mem_cons.mp ha with rfl | ha
    ·exact List.mem_cons_self
    ·exact List.mem_cons_of_mem _ (i2 a ha)⟩
theorem v9 {t:SetTable}{led:Bool}(ok:TabOk led t)(es:Array (Int×Value)) (n:Nat):TabOk led (relayAll t es n).2.1:=by
 unfold relayAll
 cases q:t.relaid (es.map (·.1)) n with
 |none=>exact YN ok.led _
 |some p=>
  obtain⟨t',order⟩:=p
  dsimp only
  split
  ·unfold SetTable.relaid SetTable.laid at q
   cases r:SetTable.layClean (SetTable.sizeAbove n - 1) (es.map (·.1)) with
   |none=>rw[r]at q;cases q
   |some owner=>
    rw[r]at q
    simp only[Option.bind_eq_bind,Option.bind_some,Option.pure_def,Option.some.injEq,Prod.mk.injEq]at q
    obtain⟨rfl,_⟩:=q
    refine⟨ok.led,rfl,?_⟩
    have:=(vz (λj=>owner.getD j none) (List.range (SetTable.sizeAbove n - 1+1)) List.pairwise_lt_range).1
    simpa using this
  ·exact YN ok.led _
theorem qw (led:Bool):TabOk led (.fresh 0 0 led):=⟨rfl,rfl,List.Pairwise.nil⟩
end PM
namespace PM
open PySem PySem.Spec PyProof.Rows L2
noncomputable def UY:Value->Int
 |.int k _=>k
 |_=>0
noncomputable def YB (prog:Program)(w:World)(led:Bool)(a:Addr)(ns:List Int)(h:Heap):Prop:=
 ∃ (ob:Obj)(en:Array (Int×Value)) (age:Nat)(tb:SetTable),h.get? a=some ob/\ob.ExactSet/\ob.data=.set en age tb/\ElemsOf (intKind prog w) en.toList/\(en.toList.map λe=>UY e.2).Perm ns/\en.size<scanBound/\tb.fits en.size=true/\TabOk led tb
section
variable {prog:Program}{w:World}{A:Around}{E:Value->Shared->Prop}{s:Shared}{a:Addr}{led:Bool}{ns:List Int}
theorem YB.keep {h h':Heap}(x:YB prog w led a ns h)(k:∀ o,h.get? a=some o->h'.get? a=some o):YB prog w led a ns h':=by
 obtain⟨ob,en,age,tb,g,r⟩:=x
 exact⟨ob,en,age,tb,k ob g,r⟩
theorem Xu {k:Int}{v:Value}(h:(intKind prog w).is k v=true):UY v=k:=by
 obtain⟨t,rfl⟩:=Value.isInt_shape h
 rfl
theorem Jh {l:List (Int×Value)}(h:ElemsOf (intKind prog w) l){e:Int×Value}(he:e ∈ l):(intKind prog w).is (UY e.2) e.2=true:=by
 obtain⟨⟨k,hk,_⟩,_⟩:=h e he
 rw[Xu hk]
 exact hk
theorem YB.stored {h:Heap}{ob:Obj}{en en':Array (Int×Value)}{age:Nat}{tb tb':SetTable}(g:h.get? a=some ob)(ex:ob.ExactSet)(d:ob.data=.set en age tb)(el:ElemsOf (intKind prog w) en'.toList)(p:(en'.toList.map λe=>UY e.2).Perm ns)
  (hb:en'.size<scanBound)(hf:tb'.fits en'.size=true)(ok:TabOk led tb'):(h.update a (Obj.putSet en' tb')).get? a=some { ob with data:=.set en' (age+1) tb' }/\YB prog w led a ns (h.update a (Obj.putSet en' tb')):=by
 have z:(h.update a (Obj.putSet en' tb')).get? a=some { ob with data:=.set en' (age+1) tb' }:=by
  have y:=Heap.get?_update_self (Obj.putSet en' tb') g (by rw[putSet_of en' tb' d];rfl)
  rwa [putSet_of en' tb' d]at y
 exact⟨z,_,en',age+1,tb',z,ex,rfl,el,p,hb,hf,ok⟩
theorem VE {tb:SetTable}(ok:TabOk led tb):TabOk led { tb with plain:=false }:=⟨ok.led,ok.dum,ok.ris⟩
theorem Wd {g:Bool->Sem Unit}(hg:∀ (b:Bool)(s₁:Shared)(Q':Unit->Shared->Prop),Q' () s₁->wpAny (model prog w) A (g b) Q' E s₁){ob:Obj}{en en1:Array (Int×Value)}{age:Nat}{tb tb1:SetTable}{was:Bool}{R:Option Bool->Shared->Prop}
  (h0:s.heap.get? a=some ob)(ex:ob.ExactSet)(d:ob.data=.set en age tb)(el:ElemsOf (intKind prog w) en1.toList)(p:(en1.toList.map λe=>UY e.2).Perm ns)(hb:en1.size<scanBound)(hf:tb1.fits en1.size=true)(ok:TabOk led tb1)
  (k:∀ h',Heap.SameBut a s.heap h'->YB prog w led a ns h'->R (some true) { s with heap:=h' }) :
  wpAny (model prog w) A (storeSet a en1 tb1 >>= λ_=>if (!was && tb1.tooFull)=true then (g (relayAll tb1 en1 (SetTable.grown en1.size)).2.2 >>= λ_=>storeSet a (relayAll tb1 en1 (SetTable.grown en1.size)).1 (relayAll tb1 en1 (SetTable.grown en1.size)).2.1 >>= λ_=>pure (some true)) else pure (some true)) R E s:=by
 obtain⟨z1,j1⟩:=YB.stored h0 ex d el p hb hf ok
 have sb:=Heap.SameBut.update s.heap a (Obj.putSet en1 tb1)
 refine wpAny_bind (wpAny_storeSet_of h0 d ?_ (fits_of_scanBound hb))
 by_cases c:(!was && tb1.tooFull)=true
 ·rw[if_pos c]
  have q1:=relayAll_perm tb1 en1 (SetTable.grown en1.size)
  have q2:=relayAll_fits tb1 en1 (SetTable.grown en1.size)
  have q3:=v9 ok en1 (SetTable.grown en1.size)
  have q4:(relayAll tb1 en1 (SetTable.grown en1.size)).1.size=en1.size:=by simpa using q1.length_eq
  have hb2:(relayAll tb1 en1 (SetTable.grown en1.size)).1.size<scanBound:=by rw[q4];exact hb
  refine wpAny_bind (hg _ _ _ (wpAny_bind (wpAny_storeSet_of z1 rfl ?_ (fits_of_scanBound hb2))))
  obtain⟨_,j2⟩:=YB.stored (ns:=ns) (led:=led) z1 ex rfl (el.perm q1) ((q1.map _).trans p) hb2 q2 q3
  exact wpAny_pure (k _ (sb.trans (Heap.SameBut.update _ a _)) j2)
 ·rw[if_neg c]
  exact wpAny_pure (k _ sb j1)
theorem kE {k:Int}{x:Value}{Q:Bool->Shared->Prop}(hx:(intKind prog w).is k x=true)(J:YB prog w led a ns s.heap)(room:ns.length+1<scanBound)
  (q0:k ∈ ns->Q false s)(q1:k ∉ ns->∀ h',Heap.SameBut a s.heap h'->YB prog w led a (ns++[k]) h'->Q true { s with heap:=h' }):wpAny (model prog w) A (setAddHashed a x ((intKind prog w).hash k)) Q E s:=by
 obtain⟨ob,en,age,tb,h0,ex,d,el,p,hb,hf,ok⟩:=J
 have hsc:x.scannable=true:=by obtain⟨t,rfl⟩:=Value.isInt_shape hx;rfl
 have hlen:en.size=ns.length:=by simpa using p.length_eq
 unfold setAddHashed setAddHashedIn
 refine wpAny_holding (wpAny_bind (wpAny_setState_of h0 d hf ?_))
 dsimp only
 rw[if_pos (byScan_of hsc hb el)]
 unfold setAddByScan
 refine wpAny_bind (wpAny_bind (wpAny_rule (wpAny_bind (wpAny_setScan_of hx h0 d hf el ?_))))
 have mem:∀ z:Int,z ∈ ns ↔ ∃ e ∈ en.toList,(intKind prog w).is z e.2=true:=λz=>by
  rw[<-p.mem_iff]
  constructor
  ·intro hz
   obtain⟨e,he,rfl⟩:=List.mem_map.mp hz
   exact⟨e,he,Jh el he⟩
  ·rintro⟨e,he,hz⟩
   exact List.mem_map.mpr ⟨e,he,Xu hz⟩
 cases hr:en.toList.findIdx? (λe=>(intKind prog w).is k e.2) with
 |some j=>
  obtain⟨hj,hp,_⟩:=List.findIdx?_eq_some_iff_getElem.mp hr
  exact wpAny_pure (wpAny_pure (q0 ((mem k).mpr ⟨_,List.getElem_mem hj,hp⟩)))
 |none=>
  have hk:k ∉ ns:=λhm=>by
   obtain⟨e,he,hz⟩:=(mem k).mp hm
   have:=List.findIdx?_eq_none_iff.mp hr e he
   rw[hz]at this
   cases this
  have w1:=layNew_perm tb en ((intKind prog w).hash k) x
  have w2:=layNew_fits tb en ((intKind prog w).hash k) x
  have w3:=UW ok en ((intKind prog w).hash k) x
  dsimp only
  generalize layNew tb en ((intKind prog w).hash k) x=L at w1 w2 w3 ⊢
  obtain⟨en1,tb1,was,gave⟩:=L
  dsimp only at w1 w2 w3 ⊢
  rw[Array.toList_push]at w1
  have el1:ElemsOf (intKind prog w) en1.toList:=(el.push hx hsc).perm w1
  have p1:(en1.toList.map λe=>UY e.2).Perm (ns++[k]):=by
   refine (w1.map _).trans ?_
   rw[List.map_append]
   refine List.Perm.append p ?_
   rw[List.map_cons,List.map_nil,Xu hx]
  have hb1:en1.size<scanBound:=by
   have:=p1.length_eq
   simp at this
   omega
  have gw:∀ (b:Bool)(s₁:Shared)(Q':Unit->Shared->Prop),Q' () s₁->wpAny (model prog w) A (match b with | true=>rule "set.scan.the-table-gave-way" | false=>pure ()) Q' E s₁:=λb s₁ Q' hq=>by
   cases b
   ·exact wpAny_pure hq
   ·exact wpAny_rule hq
  refine wpAny_bind (gw _ _ _ ?_)
  have fin:∀ h',Heap.SameBut a s.heap h'->YB prog w led a (ns++[k]) h'->Q true { s with heap:=h' }:=λh' z1 z2=>q1 hk h' z1 z2
  split
  ·refine wpAny_bind ?_
   rw[hashByValue_scannable 8 hsc]
   refine wpAny_pure (Wd gw h0 ex d el1 p1 hb1 ?_ ?_ λh' z1 z2=>wpAny_pure (fin h' z1 z2))
   ·split
    ·exact w2
    ·exact SetTable.fits_plain_off w2
   ·split
    ·exact w3
    ·exact VE w3
  ·refine wpAny_bind (wpAny_pure ?_)
   rw[if_pos rfl]
   exact Wd gw h0 ex d el1 p1 hb1 w2 w3 λh' z1 z2=>wpAny_pure (fin h' z1 z2)
end
end PM
namespace PM
open PySem PySem.Spec PyProof.Rows L2
noncomputable def zd (acc:List Int):List Int->List Int
 |[]=>acc
 |k::r=>zd (if k ∈ acc then acc else acc++[k]) r
section
variable {prog:Program}{w:World}{A:Around}{E:Value->Shared->Prop}{R:Result->Shared->Prop}{I:Addr}{fp wr:List Addr}{Gr:Array GenState->Array GenState->Prop}{n:Nat}{Pv:Nat->Value->Prop}{St:Nat->Shared->Prop}{led:Bool}
theorem Vk (W:WalksS prog w A.in1 I fp wr Gr n Pv St)(S:Addr)(hS:S ∉ fp)(ks:List Int)(hn:ks.length=n)(hv:∀ i v,Pv i v->∃ t,v=.int (ks.getD i 0) t) :
  ∀ (k i:Nat)(s:Shared)(acc:List Int),n - i=k->i<=n->St i s->acc.length+(n - i)+1<scanBound->YB prog w led S acc s.heap ->
   (∀ s',Moved (S::wr) Gr s s'->YB prog w led S (zd acc (ks.drop i)) s'.heap->R (.ok (.ret .none)) s')->codeAny (model prog w) A (.builtin "set.update.loop" ⟨[.ref S,.ref I],[]⟩) R s:=by
 have ns:S ∉ wr:=λz=>hS (W.sub _ z)
 have up:∀ b ∈ wr,b ∈ S::wr:=λb z=>List.mem_cons_of_mem _ z
 intro k
 induction k with
 |zero=>
  intro i s acc hk hi st hb J fin
  obtain rfl:i=n:=by omega
  apply codeAny_builtin F.entry_set_update_loop
  rw[Around.under_plainId F.plain_set_update_loop _];change wpAny _ A.in1 (pyNext (.ref I) >>= _) _ _ s
  refine wpAny_bind (W.done s _ _ st λs' mv=>?_)
  change wpAny _ A.in1 (ret Value.none) _ _ s'
  refine wpAny_pure (fin s' (mv.mono up) ?_)
  rw[List.drop_of_length_le (by omega)]
  exact J.keep λo=>mv.heap S o ns
 |succ k ih=>
  intro i s acc hk hi st hb J fin
  have hlt:i<n:=by omega
  have ek:ks.drop i=ks.getD i 0::ks.drop (i+1):=by
   rw[List.drop_eq_getElem_cons (by omega),List.getD_eq_getElem?_getD,List.getElem?_eq_getElem (by omega)]
   rfl
  apply codeAny_builtin F.entry_set_update_loop
  rw[Around.under_plainId F.plain_set_update_loop _];change wpAny _ A.in1 (pyNext (.ref I) >>= _) _ _ s
  refine wpAny_bind (W.item i s _ _ hlt st λv s1 pv st1 mv=>?_)
  obtain⟨t,rfl⟩:=hv i v pv
  have J1:YB prog w led S acc s1.heap:=J.keep λo=>mv.heap S o ns
  change wpAny _ A.in1 (holding [Value.int (ks.getD i 0) t] (setAdd S (.int (ks.getD i 0) t)) >>= _) _ _ s1
  apply wpAny_bind
  apply wpAny_holding
  unfold setAdd
  apply wpAny_holding
  refine wpAny_bind ((intKind prog w).pyHash (k:=ks.getD i 0) (intKind_is _ _ _ _) ?_)
  rw[ek]at fin
  -- behind the addition: the next turn
  have again1:∀ (h2:Heap)(acc2:List Int),acc2=(if ks.getD i 0 ∈ acc then acc else acc++[ks.getD i 0])->(∀ b o,b≠S->s1.heap.get? b=some o->h2.get? b=some o)->YB prog w led S acc2 h2 ->
    codeAny (model prog w) A (.builtin "set.update.loop" ⟨[.ref S,.ref I],[]⟩) R { s1 with heap:=h2,toks:=s1.toks+1 }:=λh2 acc2 e2 k2 J2=>by
   have hl2:acc2.length<=acc.length+1:=by rw[e2];split<;>simp
   refine ih (i+1) _ acc2 (by omega) hlt (W.frame _ s1 _ _ st1 (Nat.le_succ _) λb hb o e=>k2 b o (λz=>hS (z ▸ hb)) e) (by omega) J2 λs3 m3 J3=>?_
   refine fin s3 (Moved.trans W.gtrans ((mv.mono up).then_heap (Nat.le_succ _) λb o hb e=>k2 b o (λz=>hb (by rw[z];exact List.mem_cons_self)) e) m3) ?_
   show YB prog w led S (zd (if ks.getD i 0 ∈ acc then acc else acc++[ks.getD i 0]) (ks.drop (i+1))) s3.heap
   rw[<-e2]
   exact J3
  refine kE (s:={ s1 with toks:=s1.toks+1 }) (intKind_is _ _ _ _) J1 (by omega) (λhm=>?_) λhm h2 sb J2=>?_
  ·exact wpAny_pure ⟨plainId_quiet F.plain_set_update_loop _,again1 s1.heap acc (by rw[if_pos hm]) (λb o _ e=>e) J1⟩
  ·exact wpAny_pure ⟨plainId_quiet F.plain_set_update_loop _,again1 h2 (acc++[ks.getD i 0]) (by rw[if_neg hm]) (λb o hb e=>(sb.2 b hb).trans e) J2⟩
theorem J0 {s:Shared} (x:Value){Q₁:Value->Shared->Prop}(hq:Q₁ (.ref s.heap.objs.size) { s with heap:=s.heap.push (Yv (!w.params.followText "set-order")) }) :
  codeAny (model prog w) A (.call (.builtin "set.__new__") ⟨[.type "set",x],[]⟩) (wants Q₁ E) s:=by
 apply codeAny_of_tree
 change wpAny _ A.in1 (checkBuiltinCall "set.__new__" ⟨[.type "set",x],[]⟩ >>= λ_=>again (.builtin "set.__new__" ⟨[.type "set",x],[]⟩)) _ _ s
 apply wpAny_bind;apply wpAny_of_eq (F.newCall_set_1 x)
 refine wpAny_pure ⟨plainId_quiet F.plain_set_new _,?_⟩
 apply codeAny_builtin F.entry_set_new
 rw[Around.under_plainId F.plain_set_new _];unfold Builtin.«set.__new__» Builtin.Frozenset.newClass
 have z:=sub_set_self
 obtain⟨h,g,d,t,os⟩:=s
 dsimp only
 wp_walk
 refine wpAny_askSetting (wpAny_pure ?_);dsimp only
 simp only[newObj];refine wpAny_bind (wpAny_alloc (wpAny_pure ?_))
 exact wpAny_pure hq
end
end PM
namespace PM
open PySem PySem.Spec PyProof.Rows L2
section
variable {prog:Program}{w:World}{A:Around}{E:Value->Shared->Prop}{s:Shared}
set_option maxHeartbeats 3200000 in
theorem WU {T:String}{l:Addr}{items:Array Value}{ns:List Int}{io ol:Obj}{nl:Nat}{St:Addr->Nat->Heap->Prop}{Q:Value->Shared->Prop}(SW:SeqWalk prog w T l items io St)
  (hh:A.handled=none)(hol:s.heap.get? l=some ol)(hcl:ol.cls=.type T)(hdl:ol.data=.seq items nl)(hi:IntsAre items.toList ns)(hb:items.size+1<scanBound)
  (h:∀ (h':Heap) (tk:Nat),YB prog w (!w.params.followText "set-order") s.heap.objs.size (zd [] ns) h' ->
   (∀ b o,b<s.heap.objs.size->s.heap.get? b=some o->h'.get? b=some o)->Q (.ref s.heap.objs.size) { s with heap:=h',toks:=tk }) :
  wpAny (model prog w) A (call (.type "set") [.ref l]) Q E s:=by
 obtain⟨c,tl,hmro⟩:=F.called_set.mro
 have m1:=F.called_set.made
 have m2:=F.called_set.sub
 refine wpAny_call (codeAny_of_tree ?_)
 show wpAny _ _ (callAny (.type "set") _) _ _ _
 refine wpAny_pure ⟨Code.quiet_builtin _ (by decide +kernel),codeAny_builtin F.entry_type_call ?_⟩
 rw[Around.under_plain (weight_type_call_type "set" [.ref l] []) rfl]
 have m3:=F.called_set.notType
 have m4:=F.called_set.canCreate
 have m5:=F.typeCall_set_1 (.ref l)
 repeat (any_goals (first | assumption | wp_step))
 generalize hld:(!w.params.followText "set-order")=led at h
 refine codeAny_mono (J0 (.ref l) (E:=E) (Q₁:=λobj s₁=>obj=.ref s.heap.objs.size/\s₁={ s with heap:=s.heap.push (Yv led) }) (by rw[hld];exact⟨rfl,rfl⟩)) λr s₁ hr=>?_
 cases r with
 |error e=>exact hr
 |ok fl=>
  cases fl with
  |ret obj=>
   obtain⟨rfl,rfl⟩:=hr
   have hS:(s.heap.push (Yv led)).get? s.heap.objs.size=some (Yv led):=Heap.get?_push_size _ rfl
   have hT:Shared.TypeIs { s with heap:=s.heap.push (Yv led) } (.ref s.heap.objs.size) "set":=⟨_,hS,rfl⟩
   have m6:=F.called_set.init.lookup
   have m7:=F.called_set.init.bind (.ref s.heap.objs.size)
   repeat (any_goals (first | assumption | wp_step))
   refine codeAny_mono (codeAny_call_builtin (R:=wants (λr s₂=>r=.none/\∃ h' tk,s₂={ s with heap:=h',toks:=tk } ∧
     YB prog w led s.heap.objs.size (zd [] ns) h' ∧
     (∀ b o,b<s.heap.objs.size->s.heap.get? b=some o->h'.get? b=some o)) E) F.called_set.init.plain F.entry_set_init (check_set_init_1 hT ?_)) λr₂ s₂ hr₂=>?_
   ·obtain⟨oc,odd,oda,osl⟩:=ol
    simp only at hcl hdl
    subst hcl;subst hdl
    have hol':(s.heap.push (Yv led)).get? l=some { cls:=.type T,dict:=odd,data:=.seq items nl,slots:=osl }:=Heap.get?_push_of_some _ hol
    have n1:=SW.nset
    have n2:=SW.nfro
    have n3:=SW.ndic
    have hT2:Shared.TypeIs { s with heap:=s.heap.push (Yv led) } (.ref l) T:=⟨_,hol',rfl⟩
    unfold Builtin.«set.__init__» noKeywords Builtin.Frozenset.updateFrom
    generalize hPI:pyIter=PI
    wp_walk
    subst hPI
    refine SW.iter _ _ _ _ ⟨_,_,hol',rfl,rfl⟩ ?_
    refine wpAny_bind (wpAny_runValue ?_)
    have hlS:l<s.heap.objs.size:=Heap.lt_size hol
    have hh3:A.in1.in1.in1.handled=none:=by simp[hh]
    have hz:(s.heap.push (Yv led)).objs.size=s.heap.objs.size+1:=Heap.size_push ..
    have hneI:l≠(s.heap.push (Yv led)).objs.size:=by rw[hz];exact Nat.ne_of_lt (Nat.lt_succ_of_lt hlS)
    have hSf:s.heap.objs.size ∉ [(s.heap.push (Yv led)).objs.size,l]:=by
     simp only[List.mem_cons,List.not_mem_nil,or_false,not_or,hz]
     exact⟨Nat.ne_of_lt (Nat.lt_succ_self _),Nat.ne_of_gt hlS⟩
    have hlen:ns.length=items.size:=by rw[<-hi.length];simp
    refine Vk (led:=led) (SW.walk _ _ hh3 hneI).toS s.heap.objs.size hSf ns hlen (λi v hv=>hi.int_at i v ((Array.getElem?_toList ..).trans hv)) _ 0 _ [] rfl (Nat.zero_le _) (SW.zero _ ⟨_,_,hol',rfl,rfl⟩) (by simpa using hb) ?s0 ?sR
    case s0=>
     exact⟨Yv led,#[],0,_,Heap.get?_push_of_some _ hS,⟨rfl,rfl,rfl⟩,rfl,λe he=>by simp at he,.refl _,by unfold scanBound;simp,rfl,qw led⟩
    case sR=>
     intro s' hm hS'
     obtain⟨h',g',d',tk',os'⟩:=s'
     cases (hm.gens:g'=s.gens)
     cases (hm.drawn:d'=s.drawn)
     cases (hm.os:os'=s.os)
     refine wpAny_pure ?_
     refine wpAny_pure ⟨rfl,h',tk',rfl,hS',λb o hb e=>hm.heap b o ?_ (Heap.get?_push_of_some _ (Heap.get?_push_of_some _ e))⟩
     simp only[List.mem_cons,List.not_mem_nil,or_false,not_or,hz]
     exact⟨Nat.ne_of_lt hb,Nat.ne_of_lt (Nat.lt_succ_of_lt hb)⟩
   ·cases r₂ with
    |error e=>exact hr₂
    |ok fl₂=>
     cases fl₂ with
     |ret r=>
      obtain⟨rfl,h',tk,rfl,hS',hk'⟩:=hr₂
      repeat (any_goals (first | assumption | wp_step))
      exact h _ _ hS' hk'
     |_=>exact hr₂.elim
  |_=>exact hr.elim
end
end PM
namespace PM
open PySem PySem.Spec PyProof.Rows L2
section
variable {prog:Program}{w:World}{A:Around}{E:Value->Shared->Prop}{s:Shared}{a I:Addr}{ob:Obj}{en:Array (Int×Value)}{ep:Nat}{tb:SetTable}
end
end PM
namespace PM
open PySem PySem.Spec PyProof.Rows L2
section
variable {prog:Program}{w:World}{A:Around}{E:Value->Shared->Prop}{s:Shared}{a I:Addr}{ob:Obj}{en:Array (Int×Value)}{ep:Nat}{tb:SetTable}
end
end PM
namespace PM
open PySem PySem.Spec PyProof.Rows L2
section
variable {prog:Program}{w:World}{A:Around}{E:Value->Shared->Prop}{s:Shared}{a I:Addr}{ob:Obj}{en:Array (Int×Value)}{ep:Nat}{tb:SetTable}
end
end PM
namespace PM
open PySem PySem.Spec PyProof.Rows L2
section
variable {prog:Program}{w:World}{A:Around}{E:Value->Shared->Prop}{s:Shared}{a I:Addr}{ob:Obj}{en:Array (Int×Value)}{ep:Nat}{tb:SetTable}
end
end PM
namespace PM
open PySem PySem.Spec PyProof.Rows L2
theorem q8 {x:Int}:∀ (l acc:List Int),x ∈ zd acc l ↔ x ∈ acc\/x ∈ l
 |[],acc=>by simp[zd]
 |k::r,acc=>by
  unfold zd
  rw[q8 r]
  by_cases h:k ∈ acc
  ·rw[if_pos h]
   constructor
   ·rintro (z | z)
    ·exact .inl z
    ·exact .inr (.tail _ z)
   ·rintro (z | z)
    ·exact .inl z
    ·rcases List.mem_cons.mp z with rfl | z
     ·exact .inl h
     ·exact .inr z
  ·rw[if_neg h]
   simp only[List.mem_append,List.mem_cons,List.not_mem_nil,or_false]
   constructor
   ·rintro ((z | z) | z)
    ·exact .inl z
    ·exact .inr (.inl z)
    ·exact .inr (.inr z)
   ·rintro (z | z | z)
    ·exact .inl (.inl z)
    ·exact .inl (.inr z)
    ·exact .inr z
theorem VW:∀ (l acc:List Int),acc.Nodup->(zd acc l).Nodup
 |[],acc,h=>h
 |k::r,acc,h=>by
  unfold zd
  refine VW r _ ?_
  by_cases z:k ∈ acc
  ·rw[if_pos z];exact h
  ·rw[if_neg z]
   exact List.nodup_append.mpr ⟨h,by simp,λa ha b hb=>by rw[List.mem_singleton.mp hb];exact λe=>z (e ▸ ha)⟩
theorem q5 {x:Int}:∀ (l:List Int),x ∈ zl l ↔ x ∈ l
 |[]=>by simp[zl]
 |a::r=>by
  unfold zl
  simp only[List.mem_cons,List.mem_filter,q5 r]
  by_cases h:x=a
  ·simp[h]
  ·simp[h]
theorem VV:∀ (l:List Int),(zl l).Nodup
 |[]=>by simp[zl]
 |a::r=>by
  unfold zl
  refine List.nodup_cons.mpr ⟨λh=>?_,(VV r).filter _⟩
  simpa using (List.mem_filter.mp h).2
theorem Je (l:List Int):(zd [] l).length=(zl l).length:=
 ((List.perm_ext_iff_of_nodup (VW l [] (by simp)) (VV l)).mpr λx=>by rw[q8,q5];simp).length_eq
noncomputable def QJ (P:Program)(w:World)(a:Addr)(ns:List Int):HO:=.ext λh=>YB P w (!w.params.followText "set-order") a ns h
theorem wY:∀ {ns:List Int}{its:List Value},Vals (ns.map V.int) its->IntsAre its ns
 |[],_,.nil=>.nil
 |n::r,_,.cons h t=>by
  obtain⟨k,rfl⟩:=h
  exact .cons _ _ (wY t)
section
variable {X:Cx}{K:PySem.W.Frag}{E:XK}
noncomputable def Ql (P:Program)(w:World)(K:PySem.W.Frag):List V->Hp->VK->Prop:=λxs H Q=>∃ (p:Addr)(ns:List Int),xs=[.ref p]/\(SqL K H p (ns.map V.int)\/SqT K H p (ns.map V.int))/\ns.length+1<scanBound/\∀ l,H l=none->Q (.ref l) (upd H l (QJ P w l (zd [] ns)))
theorem Uk (hc:X.calm=true):CallR X (.type "set") (Ql X.prog X.w X.K):=by
 intro pins s σ H xs us Q I r h
 obtain⟨p,ns,rfl,hq,hb,q⟩:=h
 obtain⟨u,rfl,rx⟩:=vals1 r
 cases rx
 have fin:∀ (h':Heap) (tk:Nat),YB X.prog X.w (!X.w.params.followText "set-order") s.heap.objs.size (zd [] ns) h'->(∀ b o,b<s.heap.objs.size->s.heap.get? b=some o->h'.get? b=some o) ->
   EP X pins σ Q (.ref s.heap.objs.size) { s with heap:=h',toks:=tk }:=λh' tk J k=>by
  refine⟨.ref s.heap.objs.size,_,I.laid (t':=tk) (o:=QJ X.prog X.w s.heap.objs.size (zd [] ns)) (λb o e=>k b o (Heap.lt_size e) e) (Nat.le_refl _) ?_,rfl,q _ (I.hok.fresh (Nat.le_refl _))⟩
  obtain⟨ob,_,_,_,e,_⟩:=id J
  exact⟨J,⟨ob,e⟩,λh1 h2 j k=>YB.keep j k⟩
 rcases hq with hq | hq
 ·obtain⟨its,r',pl,hz⟩:=I.list hq
  have hI:=wY r'
  obtain⟨o,ho,hcl,n,hd⟩:=pl.isList
  exact WU vT (I.ok.hd hc) ho hcl hd (by simpa using hI) (by rw[List.size_toArray,hI.length];exact hb) fin
 ·obtain⟨its,r',pl,hz⟩:=I.tuple hq
  have hI:=wY r'
  obtain⟨o,ho,hcl,n,hd⟩:=pl
  exact WU Wh (I.ok.hd hc) ho hcl hd (by simpa using hI) (by rw[List.size_toArray,hI.length];exact hb) fin
noncomputable def wM (P:Program)(w:World):List V->Hp->VK->Prop:=λxs H Q=>∃ (p:Addr)(ns:List Int),xs=[.ref p]/\H p=some (QJ P w p ns)/\Q (.int ns.length) H
theorem Ve:CallR X (.builtin "len") (wM X.prog X.w):=by
 intro pins s σ H xs us Q I r h
 obtain⟨p,ns,rfl,hp,q⟩:=h
 obtain⟨u,rfl,rx⟩:=vals1 r
 cases rx
 obtain⟨⟨ob,en,age,tb,h0,ex,d,el,pm,hb,hf,ok⟩,_⟩:=(show ObjOk X.prog X.w H s.heap p (QJ X.prog X.w p ns) from I.hok p _ hp)
 have hl:en.size=ns.length:=by simpa using pm.length_eq
 refine call_len_set h0 ex d hf (by unfold scanBound at hb;omega) ?_
 exact⟨.int ns.length,H,I.tok _,⟨s.toks+1,by rw[hl]⟩,q⟩
theorem Xv:∀ {ds:List D}{ns:List Int},Y3 ds=some ns->ds=ns.map D.int
 |[],_,e=>by cases e;rfl
 |d::r,ns,e=>by
  cases d<;>first | (cases e;done) | skip
  obtain⟨ms,e1,rfl⟩:=Option.map_eq_some_iff.mp e
  rw[Xv e1]
  rfl
theorem wg:∀ {G:Hp}{ns:List Int}{vs:List V},zJ K G (ns.map D.int) vs->vs=ns.map V.int
 |_,[],vs,r=>r.nil_inv
 |_,n::ns,vs,r=>by
  obtain⟨v,vr,rfl,rv,rr⟩:=r.cons_inv
  rw[wg rr,zM.mp rv]
  rfl
theorem qA {G H:Hp}{d:D}{v:V}{ds:List D}{ns:List Int}(s:Same G H)(h:d=.tup ds\/d=.lst ds)(r:Rep K G d v)(e:Y3 ds=some ns):∃ p,v=.ref p/\(SqL K H p (ns.map V.int)\/SqT K H p (ns.map V.int)):=by
 rcases h with rfl | rfl
 ·obtain⟨a,vs,rfl,hq,rl⟩:=zy.mp r
  rw[Xv e]at rl
  rw[wg rl]at hq
  exact⟨a,rfl,.inr (SqT.same s hq)⟩
 ·obtain⟨a,vs,rfl,hq,rl⟩:=zg.mp r
  rw[Xv e]at rl
  rw[wg rl]at hq
  exact⟨a,rfl,.inl (s.seq hq)⟩
theorem UH {P:Program}{w:World}{te:TE}{m:M D}(he:RE K E te m):RE K E (tCB (wM P w) (tCons (tCB (Ql P w K) (tCons te tNil)) tNil)) (op1 xJ m):=by
 intro G0 H0 ρ σ G H ho
 refine RAt.bind (t2:=λx σ H1 Q=>Ql P w K [x] H1 λy H2=>wM P w [y] H2 Q) (he G0 H0 ρ σ G H ho) λd ρ1 v G1 H1 s1 h1 r1=>?_
 refine RAt.opt1 λr e=>?_
 intro Q hQ
 have key:∀ (ds:List D),(d=.tup ds\/d=.lst ds)->((Y3 ds).bind λns=>if ns.length<1000 then some (D.int (zl ns).length) else none)=some r->Ql P w K [v] H1 λy H2=>wM P w [y] H2 Q:=by
  intro ds hd e
  obtain⟨ns,e1,e2⟩:=Option.bind_eq_some_iff.mp e
  split at e2
  ·rename_i hz
   cases e2
   obtain⟨p,rfl,hq⟩:=qA h1.e.s hd r1 e1
   refine⟨p,ns,rfl,hq,by unfold scanBound;omega,λl hl=>⟨l,_,rfl,upd_same,?_⟩⟩
   have h2:=h1.grow (VX (o:=QJ P w l (zd [] ns)) h1.e.s hl) (Same.upd hl)
   exact hQ _ G1 _ (Same.refl _) h2 (zM.mpr (by rw[Je]))
  ·cases e2
 cases d<;>first | (cases e;done) | skip
 ·exact key _ (.inl rfl) e
 ·exact key _ (.inr rfl) e
end
section
variable {X:Cx}{E:XK}{e:Expr}{p p2 pos cp:Pos}{m:M D}
theorem UT (hl:X.mg "len" = none)(hs:X.mg "set" = none)(h:ME X E e m)(hc:autoParam (X.calm=true) aR._auto_1)(hgl:Gl X "len":=by rfl)(hgs:Gl X "set":=by rfl)(hst:autoParam (starEach [e] X.env=[(false,eval e X.env)]) aR._auto_1)
  (hst2:starEach [.Call (.Name "set" p2) [e] [] cp] X.env=[(false,eval (.Call (.Name "set" p2) [e] [] cp) X.env)]:=by rfl):ME X E (.Call (.Name "len" p) [.Call (.Name "set" p2) [e] [] cp] [] pos) (op1 xJ m):=by
 obtain⟨t,pe,re⟩:=h
 exact⟨_,pe_callB Ve hgl hl (by with_unfolding_all rfl) (pa_cons (pe_callTy (Uk hc) hgs hs (by with_unfolding_all rfl) (pa_cons pe pa_nil hst) (by decide) (by decide) hst (by rfl)) pa_nil hst2) (by decide) (by decide) hst2 (by rfl),UH re⟩
end
end PM
namespace PM
open PySem
end PM
namespace PM
open PySem PySem.Spec PyProof.Rows L2
section
variable {X:Cx}{K:PySem.W.Frag}{E:XK}
end
section
variable {X:Cx}{E:XK}{e:Expr}{es:List Expr}{pos p p3:Pos}{m:M D}
end
end PM
namespace PM
open PySem PySem.Spec PyProof.Rows L2
section
variable {l b:Addr}{xs ys:Array Value}{ns ms:List Int}{ol ob:Obj}{nl nb:Nat}
end
section
variable {X:Cx}{K:PySem.W.Frag}{E:XK}
end
end PM
namespace PM
open PySem PySem.Spec PyProof.Rows L2
section
variable {X:Cx}{pins:List (Addr×Obj)}{σ:List (Option V)}{H:Hp}{s:Shared}{h':Heap}
end
section
variable {X:Cx}
end
end PM
namespace PM
open PySem
noncomputable section
noncomputable def VN (A:Cls):M Fl:=
 zL (ZE 3 (op2 ixD (vM 1) (cM (.int 0))))
 (zL (ZE 4 (op2 ixD (vM 1) (cM (.int 1))))
 (zL (ifM (orM (zK zP (op2 ltD (vM 3) (cM (.int 0)))) (zK zP (op2 geD (vM 3) (zN (zX yP) [vM 0])))) (yD A.bm) (nxM))
 (zL (ifM (zK zP (op2 neD (zN (zX yP) [vM 4]) (op2 ixD (op2 ixD (vM 0) (vM 3)) (cM (.int 1))))) (yD A.bm) (nxM))
 (zL (ifM (zK zP (op2 neD (op1 xJ (vM 4)) (zN (zX yP) [vM 4]))) (yD A.bm) (nxM))
 (XO (vM 4) xt (zx 5) (ifM (orM (zK zP (op2 ltD (vM 5) (cM (.int 0)))) (zK zP (op2 geD (vM 5) (vM 2)))) (yD A.bm) (nxM)))))))
noncomputable def Z0 (A:Cls):List D->FR:=Ze 6 (VN A)
noncomputable def yg:M Fl:=
 ZW (Zc yh (cM (.str " ")) (Z8 (zS xt (op2 zk (yA [op2 ixD (vM 0) (cM (.int 0))]) (op2 ixD (vM 0) (cM (.int 1))))) 1 [] (zx 0) none (zN (zX Xa) [vM 0])))
noncomputable def ZT:List D->FR:=Ze 1 yg
noncomputable def Wq (A:Cls):M Fl:=
 xA A.bt (vM 0)
noncomputable def Zf (A:Cls):List D->FR:=Ze 1 (Wq A)
noncomputable def WE:M Fl:=
 zL (ifM (zK Zs (vM 0)) (ZW (op2 ixD (vM 0) (op2 yU (vM 1) (zN (zX yP) [vM 0])))) (nxM))
 (ZW (cM (.int 0)))
noncomputable def ym:List D->FR:=Ze 2 WE
noncomputable def y8 (A:Cls):M Fl:=
 zL (ifM (zK zP (op2 isD (vM 0) (cM .non))) (ZW (cM (.str "ok"))) (nxM))
 (zL (xP 1 [op1 (Z6 (A.is A.bm)) (vM 0),op1 (Z6 (A.is A.bt)) (vM 0),op1 (Z6 (A.is A.bw)) (vM 0)])
 (zL (zr 1 (op1 (Z6 (A.is A.tm)) (vM 0)))
 (zL (ifM (orM (zK zP (op2 neD (WB Y8 1 (cM (.bl true))) (cM (.int 1)))) (Wp (zK Zs (op1 (Z6 A.isVE) (vM 0))))) (ZW (cM (.str "wrong"))) (nxM))
 (ZW (op2 ixD (lstM [cM (.str "machine"),cM (.str "text"),cM (.str "word"),cM (.str "many")]) (WB Y4 1 (cM (.bl true))))))))
noncomputable def zh (A:Cls):List D->FR:=Ze 2 (y8 A)
noncomputable def xk:M Fl:=
 zL (xP 1 [])
 (zL (XO (vM 0) ZH (VT [2,3,4]) (zL (xP 5 [op2 ixD (lstM [cM (.str "no"),cM (.str "yes")]) (zN (zX XY) [vM 2])])
 (zL (XO (vM 4) ZH (VT [6,7]) (zr 5 (Zc yh (cM (.str " ")) (op2 zk (lstM [zN (zX Xa) [vM 6]]) (Z8 (zS xt (vM 7)) 1 [] (zx 0) none (zN (zX Xa) [vM 0]))))))
 (Y6 5 (zr 1 (Zc yh (cM (.str "; ")) (vM 5)))))))
 (Y6 1 (ZW (Zc yh (cM (.str "\n")) (vM 1)))))
noncomputable def yk:List D->FR:=Ze 8 xk
noncomputable def y9:M Fl:=
 zL (xP 1 [])
 (zL (XO (vM 0) ZH (zx 2) (zL (ifM (orM (zK zP (op2 eqD (vM 2) (cM (.str "")))) (orM (zK zP (op2 gtD (zN (zX Wr) [vM 2]) (cM (.int 3)))) (orM (Wp (zK Zs (zN (zX Vg) [Z8 (zS WT (vM 2)) 1 [] (zx 0) none (op2 inS (vM 0) (cM (.str "0123456789")))]))) (zK zP (op2 neD (zN (zX Xa) [zN (zX vf) [vM 2]]) (vM 2)))))) (ZW (cM .non)) (nxM))
 (zr 1 (zN (zX vf) [vM 2]))))
 (Y6 1 (ZW (vM 1))))
noncomputable def ZD:List D->FR:=Ze 3 y9
noncomputable def vc (A:Cls):M Fl:=
 zL (ZE 2 (op2 ixD (vM 1) (cM (.int 1))))
 (zL (ZE 3 (op2 ixD (vM 1) (cM (.int 2))))
 (zL (ifM (orM (zK zP (op2 ltD (vM 2) (cM (.int 0)))) (zK zP (op2 gtD (vM 2) (cM (.int 6))))) (yD A.bm) (nxM))
 (zL (ifM (zK zP (op2 neD (zN (zX yP) [vM 3]) (op2 zk (vM 2) (cM (.int 1))))) (yD A.bm) (nxM))
 (zL (XO (ZV (vM 3) none (some (vM 2))) ZH (zx 4) (Zq (zH (Z0 A) [vM 0,vM 4,vM 2])))
 (Zq (zH (Z0 A) [vM 0,op2 ixD (vM 3) (vM 2),op2 zk (vM 2) (cM (.int 1))]))))))
noncomputable def Z9 (A:Cls):List D->FR:=Ze 5 (vc A)
noncomputable def yV:M Fl:=
 zL (ZE 1 (V7 (zK Zs (op2 ixD (vM 0) (cM (.int 0)))) (cM (.str "yes")) (cM (.str "no"))))
 (ZW (Zc yh (cM (.str "; ")) (op2 zk (lstM [vM 1]) (Z8 (zS ZH (op2 ixD (vM 0) (cM (.int 2)))) 1 [] (zx 0) none (zH ZT [vM 0])))))
noncomputable def ZJ:List D->FR:=Ze 2 yV
noncomputable def yO (A:Cls):M Fl:=
 zL (ZQ 1 (zS ZH (Zc Zi (vM 0) (cM (.str " ")))) 1 [] (zx 0) (zH (Zf A) [vM 0]))
 (ZW (yA [op2 ixD (vM 1) (cM (.int 0)),zN (zX yT) [ZV (vM 1) (some (cM (.int 1))) none]]))
noncomputable def Zz (A:Cls):List D->FR:=Ze 2 (yO A)
noncomputable def W6:M Fl:=
 zL (ZE 2 (op2 yU (op2 zk (zH ym [vM 0,vM 1]) (op2 Ye (cM (.int 104729)) (op2 zk (vM 1) (cM (.int 1))))) (cM (.int 4294967291))))
 (zL (ZE 2 (op2 yU (op2 Ye (vM 2) (cM (.int 48271))) (cM (.int 4294967279))))
 (ZW (op2 yU (op2 zk (op2 Ye (op2 Yb (vM 2) (cM (.int 64))) (cM (.int 69621))) (vM 2)) (cM (.int 4294967231)))))
noncomputable def zV:List D->FR:=Ze 3 W6
noncomputable def Y1:M Fl:=
 zL (xP 1 [])
 (zL (XO (Zc Zi (vM 0) (cM (.str "\n"))) ZH (zx 2) (zL (ZE 3 (Zc Zi (vM 2) (cM (.str "; "))))
 (zL (Za false 4 (zS ZH (ZV (vM 3) (some (cM (.int 1))) none)) 1 [] (zx 0) none (zH ZD [Zc Zi (vM 0) (cM (.str " "))]))
 (zL (ifM (orM (zK zP (op2 YQ (op2 ixD (vM 3) (cM (.int 0))) (yA [cM (.str "yes"),cM (.str "no")]))) (orM (zK zP (op2 eqD (vM 4) (lstM []))) (zK zP (op2 inD (cM .non) (vM 4))))) (ZW (cM .non)) (nxM))
 (zr 1 (yA [op2 eqD (op2 ixD (vM 3) (cM (.int 0))) (cM (.str "yes")),op2 Wf (zN (zX yP) [vM 4]) (cM (.int 1)),Z8 (zS ZH (vM 4)) 1 [] (zx 0) none (yA [op2 ixD (vM 0) (cM (.int 0)),zN (zX yT) [ZV (vM 0) (some (cM (.int 1))) none]])]))))))
 (Y6 1 (ZW (vM 1))))
noncomputable def Zm:List D->FR:=Ze 5 Y1
noncomputable def WD (A:Cls):M Fl:=
 zL (ifM (orM (zK zP (op2 ltD (zN (zX yP) [vM 0]) (cM (.int 1)))) (zK zP (op2 gtD (zN (zX yP) [vM 0]) (cM (.int 400))))) (yD A.bm) (nxM))
 (zL (ifM (zK zP (op2 neD (op2 ixD (op2 ixD (vM 0) (cM (.int 0))) (cM (.int 1))) (cM (.int 0)))) (yD A.bm) (nxM))
 (XO (vM 0) ZH (zx 1) (Zq (zH (Z9 A) [vM 0,vM 1]))))
noncomputable def zQ (A:Cls):List D->FR:=Ze 2 (WD A)
noncomputable def Z5 (A:Cls):M Fl:=
 zL (ZE 1 (Zc Zi (vM 0) (cM (.str "; "))))
 (zL (ZQ 2 (zS ZH (ZV (vM 1) (some (cM (.int 1))) none)) 1 [] (zx 0) (zH (Zz A) [vM 0]))
 (ZW (yA [op2 eqD (op2 ixD (vM 1) (cM (.int 0))) (cM (.str "yes")),op2 Wf (zN (zX yP) [vM 2]) (cM (.int 1)),vM 2])))
noncomputable def ZY (A:Cls):List D->FR:=Ze 3 (Z5 A)
noncomputable def xX:M Fl:=
 zL (YF 4 (vM 3))
 (zL (xP 5 [])
 (zL (yy (zK zP (op2 ltD (V5 5) (vM 2))) (zr 5 (wt 4 (op2 yU (zH zV [vM 0,op2 zk (vM 1) (V5 5)]) (V5 4)))) Jc)
 (Y6 5 (ZW (zN (zX yT) [vM 5])))))
noncomputable def Zg:List D->FR:=Ze 6 xX
noncomputable def YH (A:Cls):M Fl:=
 zL (Zq (zH (zQ A) [vM 0]))
 (ZW (Zc yh (cM (.str "\n")) (Z8 (zS ZH (vM 0)) 1 [] (zx 0) none (zH ZJ [vM 0]))))
noncomputable def z0 (A:Cls):List D->FR:=Ze 1 (YH A)
noncomputable def xY:M Fl:=
 zL (xP 3 [cM (.int 0)])
 (zL (WI (op2 yU (zH zV [vM 0,vM 1]) (vM 2)) (zx 4) (zr 3 (op2 ixD (lstM [cM (.int 0),cM (.int 1),cM (.int 1),cM (.int 2)]) (op2 yU (zH zV [vM 0,op2 zk (op2 zk (vM 1) (cM (.int 1))) (vM 4)]) (cM (.int 4))))))
 (zL (xP 5 [])
 (Y6 3 (zL (WI (zN (zX yP) [vM 3]) (zx 6) (zL (xP 7 [])
 (zL (WI (op2 zk (op2 ixD (vM 3) (vM 6)) (cM (.int 1))) (zx 8) (zL (ZE 9 (op2 zk (op2 ixD (vM 3) (vM 6)) (zN (zX XY) [op2 eqD (vM 8) (op2 ixD (vM 3) (vM 6))])))
 (zL (Za false 10 (zS yC (zN (zX yP) [vM 3])) 1 [3,9] (zx 0) (some (zK zP (op2 leD (op2 ixD (vM 1) (vM 0)) (vM 2)))) (vM 0))
 (zL (ZE 11 (op2 ixD (vM 10) (op2 yU (zH zV [vM 0,op2 zk (op2 zk (op2 zk (vM 1) (cM (.int 8))) (op2 Ye (cM (.int 5)) (vM 6))) (vM 8)]) (zN (zX yP) [vM 10]))))
 (zr 7 (yA [vM 11,zH Zg [vM 0,op2 zk (op2 zk (op2 zk (vM 1) (cM (.int 40))) (op2 Ye (cM (.int 9)) (vM 6))) (op2 Ye (cM (.int 3)) (vM 8)),op2 ixD (vM 3) (vM 11),vM 9]]))))))
 (Y6 7 (zr 5 (yA [op2 eqD (op2 yU (op2 Yb (zH zV [vM 0,op2 zk (op2 zk (vM 1) (cM (.int 30))) (vM 6)]) (cM (.int 4))) (cM (.int 2))) (cM (.int 0)),op2 ixD (vM 3) (vM 6),vM 7]))))))
 (Y6 5 (ZW (vM 5)))))))
noncomputable def Zh:List D->FR:=Ze 12 xY
noncomputable def yF (A:Cls):M Fl:=
 zL (ZE 1 (cM .non))
 (zL (wB [A.bm] 1 (Zq (zH (zQ A) [vM 0])))
 (ZW (op2 isD (vM 1) (cM .non))))
noncomputable def zW (A:Cls):List D->FR:=Ze 3 (yF A)
noncomputable def YV (A:Cls):M Fl:=
 zL (ZQ 1 (zS ZH (Zc Zi (vM 0) (cM (.str "\n")))) 1 [] (zx 0) (zH (ZY A) [vM 0]))
 (zL (X6 [A.bm] A.bt (ZE 2 (zH (z0 A) [vM 1])))
 (zL (ifM (zK zP (op2 neD (vM 2) (vM 0))) (yD A.bt) (nxM))
 (ZW (vM 1))))
noncomputable def yW (A:Cls):List D->FR:=Ze 3 (YV A)
noncomputable def qm (A:Cls):M Fl:=
 zL (ZE 1 (zH Zh [vM 0,cM (.int 0),cM (.int 4)]))
 (zL (ZE 2 (zH yk [vM 1]))
 (zL (ifM (orM (zK zP (op2 neD (zH (z0 A) [vM 1]) (vM 2))) (zK zP (op2 neD (zH (yW A) [vM 2]) (vM 1)))) (ZW (cM (.bl false))) (nxM))
 (zL (WI (op2 zk (cM (.int 1)) (op2 yU (zH zV [vM 0,cM (.int 100)]) (cM (.int 2)))) (zx 3) (zL (ZE 4 (zH zV [vM 0,op2 zk (cM (.int 101)) (vM 3)]))
 (zL (ZE 5 (op2 yU (op2 Yb (vM 4) (cM (.int 8))) (op2 zk (zN (zX Wr) [vM 2]) (cM (.int 1)))))
 (zL (ZE 6 (op2 ixS (cM (.str "012 ;\nysno9-")) (op2 yU (op2 Yb (vM 4) (cM (.int 4096))) (cM (.int 12)))))
 (zL (ZE 7 (lstM [op2 YL (op2 YL (z5 (vM 2) none (some (vM 5))) (vM 6)) (z5 (vM 2) (some (vM 5)) none),op2 YL (op2 YL (z5 (vM 2) none (some (vM 5))) (vM 6)) (z5 (vM 2) (some (op2 zk (vM 5) (cM (.int 1)))) none),op2 YL (z5 (vM 2) none (some (vM 5))) (z5 (vM 2) (some (op2 zk (vM 5) (cM (.int 1)))) none)]))
 (ZE 2 (op2 ixD (vM 7) (op2 yU (vM 4) (cM (.int 3))))))))))
 (zL (ZE 8 (cM .non))
 (zL (ZE 9 (cM .non))
 (zL (yM A.all 9 8 10 (yW A) [vM 2])
 (zL (ZE 11 (zH Zm [vM 2]))
 (zL (ifM (Wb (zK zP (op2 Xj (vM 11) (cM .non))) (zK Zs (zH (zW A) [vM 11]))) (ZW (uL (op2 isD (vM 8) (cM .non)) (op2 eqD (vM 9) (vM 11)))) (nxM))
 (zL (ifM (zK zP (op2 neD (zH (zh A) [vM 8]) (cM (.str "text")))) (ZW (cM (.bl false))) (nxM))
 (zL (ZE 8 (cM .non))
 (zL (wB A.all 8 (Zq (zH (z0 A) [lstM []])))
 (ZW (op2 eqD (zH (zh A) [vM 8]) (cM (.str "machine")))))))))))))))
noncomputable def QM (A:Cls):List D->FR:=Ze 12 (qm A)
end
end PM
set_option maxHeartbeats 4000000
namespace PM.K70
open PySem PySem.Spec PyProof.Rows L2 PM
noncomputable def top (i:Nat):Stmt:=PySem.Challenge.pw_boxword_k70_texts.main.body.getD i (.Pass ⟨0,0,0,0⟩)
structure Txt (K:PySem.W.Frag)(mg:Str->Option Value)(A:Cls):Prop extends ErrT K mg A where
 caughtR:∀ c ∈ [A.bm],PySem.W.excIn K c Zl zo=true/\PySem.W.mroIn K c (.ref A.bm)=some true/\Yd K (.ref c)
 caughtB:∀ c ∈ [A.bm],PySem.W.excIn K c Zl zo=true/\PySem.W.mroIn K c (.ref A.bm)=some true
 nn_BadText:¬ Yd K (.ref A.bt)
 b_ValueError:mg "ValueError" = none
 b_all:mg "all" = none
 b_int:mg "int" = none
 b_isinstance:mg "isinstance" = none
 b_len:mg "len" = none
 b_list:mg "list" = none
 b_range:mg "range" = none
 b_set:mg "set" = none
 b_str:mg "str" = none
 b_tuple:mg "tuple" = none
 g_MOST_BOXES:∃ t,mg "MOST_BOXES" = some (.int 6 t)
 g_MOST_STATES:∃ t,mg "MOST_STATES" = some (.int 400 t)
end PM.K70
namespace PM
open PySem
inductive Res.wp {α:Type}:Res α->(α->Rho->Prop)->(Addr->Prop)->Prop where
 |ok {a:α}{ρ:Rho}{Q:α->Rho->Prop}{X:Addr->Prop}(h:Q a ρ):Res.wp (.ok a ρ) Q X
 |exn {c:Addr}{ρ:Rho}{Q:α->Rho->Prop}{X:Addr->Prop}(h:X c):Res.wp (.exn c ρ) Q X
section
variable {α β:Type}{Q:α->Rho->Prop}{R:β->Rho->Prop}{X:Addr->Prop}
theorem wX (a:α)(ρ:Rho):(Res.ok a ρ).wp Q X=Q a ρ:=propext ⟨λh=>by cases h;assumption,.ok⟩
theorem Vi (c:Addr)(ρ:Rho):(Res.exn c ρ:Res α).wp Q X=X c:=propext ⟨λh=>by cases h;assumption,.exn⟩
theorem Ut:(Res.bad:Res α).wp Q X=False:=propext ⟨λh=>(by cases h),False.elim⟩
theorem vJ (r:Res α)(k:α->Rho->Res β):(r.bnd k).wp R X=r.wp (λa ρ=>(k a ρ).wp R X) X:=by
 cases r<;>simp only[Res.bnd,wX,Vi,Ut]
theorem jm (c:Prop) [Decidable c] (a b:Res α):(if c then a else b).wp Q X=if c then a.wp Q X else b.wp Q X:=by split<;>rfl
theorem Res.wp.mono {r:Res α}{Q':α->Rho->Prop}{X':Addr->Prop}(h:r.wp Q X)(hq:∀ a ρ,Q a ρ->Q' a ρ)(hx:∀ c,X c->X' c):r.wp Q' X':=by
 cases h with
 |ok h=>exact .ok (hq _ _ h)
 |exn h=>exact .exn (hx _ h)
theorem zm {r:Res α}{a:α}{ρ:Rho}(e:r=.ok a ρ)(h:Q a ρ):r.wp Q X:=by rw[e];exact .ok h
theorem wz {r:Res α}{a:α}{ρ:Rho}(h:r.wp (λa' ρ'=>a'=a/\ρ'=ρ) (λ_=>False)):r=.ok a ρ:=by
 cases h with
 |ok h=>obtain⟨rfl,rfl⟩:=h;rfl
 |exn h=>exact h.elim
end
inductive FR.wp:FR->(D->Prop)->(Addr->Prop)->Prop where
 |ok {d:D}{Q:D->Prop}{X:Addr->Prop}(h:Q d):FR.wp (.ok d) Q X
 |exn {c:Addr}{Q:D->Prop}{X:Addr->Prop}(h:X c):FR.wp (.exn c) Q X
theorem FR.ok_of {r:FR}{d:D}(h:r.wp (λx=>x=d) λ_=>False):r=.ok d:=by
 cases h with
 |ok h=>exact congrArg _ h
 |exn h=>exact h.elim
theorem FR.exn_of {r:FR}{c:Addr}(h:r.wp (λ_=>False) λx=>x=c):r=.exn c:=by
 cases h with
 |ok h=>exact h.elim
 |exn h=>exact congrArg _ h
noncomputable def Fl.fin (Q:D->Prop):Fl->Rho->Prop
 |.nx,_=>Q .non
 |.ret d,_=>Q d
 |_,_=>False
theorem yH {n:Nat}{b:M Fl}{args:List D}{Q:D->Prop}{X:Addr->Prop}(h:(b (ZS n args)).wp (Fl.fin Q) X):(Ze n b args).wp Q X:=by
 unfold Ze
 generalize b (ZS n args)=r at h
 cases h with
 |@ok f ρ _ _ h=>
  cases f with
  |nx=>exact .ok h
  |ret d=>exact .ok h
  |brk=>exact h.elim
  |cont=>exact h.elim
 |exn h=>exact .exn h
theorem ZL {n:Nat}{b:M Fl}{args:List D}{d:D}(h:(b (ZS n args)).wp (Fl.fin (· = d)) λ_=>False):Ze n b args=.ok d:=FR.ok_of (yH h)
theorem to_ok (d:D)(ρ:Rho):(FR.ok d).to ρ=.ok d ρ:=rfl
theorem to_exn (d:Addr)(ρ:Rho):(FR.exn d).to ρ=.exn d ρ:=rfl
section
variable {g:GM}{b:M Fl}{Q:Fl->Rho->Prop}{X:Addr->Prop}
noncomputable def Yk (J:Rho->Prop)(Q:Fl->Rho->Prop):Fl->Rho->Prop
 |.nx,ρ=>J ρ
 |.cont,ρ=>J ρ
 |.brk,ρ=>Q .nx ρ
 |.ret d,ρ=>Q (.ret d) ρ
theorem uN {J:Rho->Prop}{go:M Fl}{r:Res Fl}(h:r.wp (Yk J Q) X)(hj:∀ ρ,J ρ->(go ρ).wp Q X):(r.bnd λf ρ=>yp f ρ go).wp Q X:=by
 rw[vJ]
 refine h.mono (λf ρ q=>?_) λ_ q=>q
 cases f with
 |nx=>exact hj ρ q
 |cont=>exact hj ρ q
 |brk=>exact .ok q
 |ret d=>exact .ok q
theorem QN {ds:List D}{ρ:Rho}(J:Nat->Rho->Prop)(h0:J 0 ρ)(hs:∀ (i:Nat)(d:D)(ρ:Rho),ds[i]? = some d->J i ρ->∃ ρ1,g d ρ=some ρ1/\(b ρ1).wp (Yk (J (i+1)) Q) X)
  (he:∀ ρ,J ds.length ρ->Q .nx ρ):(zY g b ds ρ).wp Q X:=by
 induction ds generalizing ρ J with
 |nil=>exact .ok (he ρ h0)
 |cons d ds ih=>
  unfold zY
  obtain⟨ρ1,e,w⟩:=hs 0 d ρ rfl h0
  rw[vJ,e]
  rw[show z8 (some ρ1) ρ=.ok ρ1 ρ from rfl,wX]
  exact uN w λρ2 j=>ih (λi=>J (i+1)) j (λi d ρ hd hj=>hs (i+1) d ρ (by simpa using hd) hj) λρ hj=>he ρ (by simpa using hj)
theorem yo {α:Type}{f:α->D}{xs:List α}{ρ:Rho}(J:Nat->Rho->Prop)(h0:J 0 ρ)(hs:∀ (i:Nat)(x:α)(ρ:Rho),xs[i]? = some x->J i ρ->∃ ρ1,g (f x) ρ=some ρ1/\(b ρ1).wp (Yk (J (i+1)) Q) X)
  (he:∀ ρ,J xs.length ρ->Q .nx ρ):(zY g b (xs.map f) ρ).wp Q X:=by
 refine QN J h0 (λi d ρ hd hj=>?_) λρ hj=>he ρ (by simpa using hj)
 rw[List.getElem?_map]at hd
 cases q:xs[i]? with
 |none=>rw[q]at hd;cases hd
 |some x=>rw[q]at hd;cases hd;exact hs i x ρ q hj
theorem wK {n:Nat}{ρ:Rho}(J:Nat->Rho->Prop)(h0:J 0 ρ)(hs:∀ (i:Nat)(ρ:Rho),i<n->J i ρ->∃ ρ1,g (.int i) ρ=some ρ1/\(b ρ1).wp (Yk (J (i+1)) Q) X)
  (he:∀ ρ,J n ρ->Q .nx ρ):(zY g b (yu n) ρ).wp Q X:=by
 unfold yu
 refine yo J h0 (λi x ρ hx hj=>?_) λρ hj=>he ρ (by simpa using hj)
 have hi:i<n:=by simpa using (List.getElem?_eq_some_iff.mp hx).1
 have:x=i:=by rw[List.getElem?_range hi]at hx;exact (Option.some.inj hx).symm
 subst this
 exact hs _ ρ hi hj
theorem Us {c:M Bool}{n:Nat}{ρ:Rho}(J:Nat->Rho->Prop) (k:Nat)(hk:k<n)(h0:J k ρ)
  (hs:∀ (i:Nat)(ρ:Rho),J i ρ->(c ρ).wp (λt ρ1=>if t=true then (b ρ1).wp (Yk (λρ2=>∃ j,j<i/\J j ρ2) Q) X else Q .nx ρ1) X):(yy c b n ρ).wp Q X:=by
 induction n generalizing k ρ with
 |zero=>exact absurd hk (Nat.not_lt_zero _)
 |succ n ih=>
  unfold yy
  rw[vJ]
  refine (hs k ρ h0).mono (λt ρ1 q=>?_) λ_ q=>q
  cases t with
  |true=>
   rw[if_pos rfl]at q ⊢
   exact uN q λρ2 ⟨j,hj,jj⟩=>ih j (by omega) jj
  |false=>
   rw[if_neg (by simp)]at q ⊢
   exact .ok q
end
section
variable {e:M D}{c:M Bool}
theorem xO (a:Slot)(caps:List Slot)(s:Slot):([a]++caps++[s])[1+caps.length]? = some s:=by
 rw[List.getElem?_append_right (by simp;omega)]
 simp[Nat.add_comm]
theorem WY (a:Slot)(caps:List Slot)(s t:Slot):([a]++caps++[s]).set (1+caps.length) t=[a]++caps++[t]:=by
 rw[List.set_append_right _ _ (by simp;omega)]
 simp[Nat.add_comm]
theorem vC {caps:List Slot}{f:D->D}:∀ {ds:List D}{acc:List D}{a:Slot},acc.length+ds.length<=sizeLine->(∀ d ∈ ds,∀ acc,e ([.fz d]++caps++[.own acc])=.ok (f d) ([.fz d]++caps++[.own acc])) ->
  ∃ a',zY (zx 0) (yR (1+caps.length) none e) ds ([a]++caps++[.own acc])=.ok .nx ([a']++caps++[.own (acc++ds.map f)])
 |[],acc,a,_,_=>⟨a,by simp[zY]⟩
 |d::ds,acc,a,hl,h=>by
  obtain⟨a',e'⟩:=vC (caps:=caps) (f:=f) (ds:=ds) (acc:=acc++[f d]) (a:=.fz d) (by simp at hl ⊢;omega) (λx hx=>h x (List.mem_cons_of_mem _ hx))
  refine⟨a',?_⟩
  have h1:acc.length<sizeLine:=by simp at hl;omega
  have hd:=h d List.mem_cons_self acc
  unfold zY
  have g1:zx 0 d ([a]++caps++[.own acc])=some ([.fz d]++caps++[.own acc]):=by simp[zx]
  have ap:yR (1+caps.length) none e ([.fz d]++caps++[.own acc])=.ok .nx ([.fz d]++caps++[.own (acc++[f d])]):=by
   unfold yR zr
   simp only[xO,xD,zz,Res.bnd_ok,hd,if_pos h1,WY]
  rw[g1,zz,Res.bnd_ok,ap,Res.bnd_ok]
  unfold yp
  dsimp only
  rw[e']
  simp
theorem Va {caps:List Slot}{idx:List Nat}{ds:List D}{ρ ρ':Rho}{mi:M (List D)}(f:D->D)(hm:mi ρ=.ok ds ρ')(hc:(idx.map λi=>vk (ρ'.getD i .un))=caps)(hl:ds.length<=sizeLine)
  (h:∀ d ∈ ds,∀ acc,e ([.fz d]++caps++[.own acc])=.ok (f d) ([.fz d]++caps++[.own acc])) :
  Z8 mi 1 idx (zx 0) none e ρ=.ok (.lst (ds.map f)) ρ':=by
 have hi:idx.length=caps.length:=by rw[<-hc];simp
 unfold Z8
 rw[hm,Res.bnd_ok,hi]
 have eb:ZC 1 idx ρ'=[.un]++caps++[.own []]:=by unfold ZC;rw[hc];rfl
 obtain⟨a',e'⟩:=vC (caps:=caps) (f:=f) (ds:=ds) (acc:=[]) (a:=.un) (by simpa using hl) h
 rw[eb,e']
 unfold XT
 dsimp only
 rw[xO,xD,zz,Res.bnd_ok]
 simp
theorem vw {caps:List Slot}{idx:List Nat}{ds:List D}{ρ ρ':Rho}{mi:M (List D)}{own:Bool}{i:Nat}(f:D->D)(hm:mi ρ=.ok ds ρ')(hc:(idx.map λi=>vk (ρ'.getD i .un))=caps)(hl:ds.length<=sizeLine)
  (h:∀ d ∈ ds,∀ acc,e ([.fz d]++caps++[.own acc])=.ok (f d) ([.fz d]++caps++[.own acc])) :
  Za own i mi 1 idx (zx 0) none e ρ=.ok .nx (ρ'.set i (if own then .own (ds.map f) else .fz (.lst (ds.map f)))):=by
 have q:=Va f hm hc hl h
 unfold Z8 at q
 unfold Za
 rw[hm,Res.bnd_ok]at q ⊢
 cases z:XT (1+idx.length) (zY (zx 0) (yR (1+idx.length) none e) ds (ZC 1 idx ρ')) with
 |none=>rw[z]at q;cases q
 |some ys=>rw[z]at q;cases q;rfl
theorem xo {caps:List Slot}{f:D->D}{p:D->Bool}:∀ {ds:List D}{acc:List D}{a:Slot},acc.length+ds.length<=sizeLine ->
  (∀ d ∈ ds,∀ acc,c ([.fz d]++caps++[.own acc])=.ok (p d) ([.fz d]++caps++[.own acc]))->(∀ d ∈ ds,∀ acc,p d=true->e ([.fz d]++caps++[.own acc])=.ok (f d) ([.fz d]++caps++[.own acc])) ->
  ∃ a',zY (zx 0) (yR (1+caps.length) (some c) e) ds ([a]++caps++[.own acc])=.ok .nx ([a']++caps++[.own (acc++(ds.filter p).map f)])
 |[],acc,a,_,_,_=>⟨a,by simp[zY]⟩
 |d::ds,acc,a,hl,hc,h=>by
  have h1:acc.length<sizeLine:=by simp at hl;omega
  have g1:zx 0 d ([a]++caps++[.own acc])=some ([.fz d]++caps++[.own acc]):=by simp[zx]
  have hcd:=hc d List.mem_cons_self acc
  by_cases hp:p d=true
  ·obtain⟨a',e'⟩:=xo (caps:=caps) (f:=f) (p:=p) (ds:=ds) (acc:=acc++[f d]) (a:=.fz d) (by simp at hl ⊢;omega) (λx hx=>hc x (List.mem_cons_of_mem _ hx)) (λx hx=>h x (List.mem_cons_of_mem _ hx))
   refine⟨a',?_⟩
   have hd:=h d List.mem_cons_self acc hp
   have ap:yR (1+caps.length) (some c) e ([.fz d]++caps++[.own acc])=.ok .nx ([.fz d]++caps++[.own (acc++[f d])]):=by
    unfold yR ifM zr
    simp only[hcd,hp,xO,xD,zz,Res.bnd_ok,hd,if_pos h1,WY,if_true]
   unfold zY
   rw[g1,zz,Res.bnd_ok,ap,Res.bnd_ok]
   unfold yp
   dsimp only
   rw[e']
   simp[hp]
  ·obtain⟨a',e'⟩:=xo (caps:=caps) (f:=f) (p:=p) (ds:=ds) (acc:=acc) (a:=.fz d) (by simp at hl ⊢;omega) (λx hx=>hc x (List.mem_cons_of_mem _ hx)) (λx hx=>h x (List.mem_cons_of_mem _ hx))
   refine⟨a',?_⟩
   have hp':p d=false:=by simpa using hp
   have ap:yR (1+caps.length) (some c) e ([.fz d]++caps++[.own acc])=.ok .nx ([.fz d]++caps++[.own acc]):=by
    unfold yR ifM
    simp[hcd,hp',Res.bnd_ok,nxM]
    simp only[List.singleton_append]at hcd
    rw[show (Slot.fz d::(caps++[Slot.own acc]))=[.fz d]++caps++[.own acc] by simp,hc d List.mem_cons_self acc]
    simp[Res.bnd_ok,hp']
   unfold zY
   rw[g1,zz,Res.bnd_ok,ap,Res.bnd_ok]
   unfold yp
   dsimp only
   rw[e']
   simp[hp']
theorem wc {caps:List Slot}{idx:List Nat}{ds:List D}{ρ ρ':Rho}{mi:M (List D)}{own:Bool}{i:Nat}(p:D->Bool)(f:D->D)(hm:mi ρ=.ok ds ρ')(hc:(idx.map λi=>vk (ρ'.getD i .un))=caps)(hl:ds.length<=sizeLine)
  (hp:∀ d ∈ ds,∀ acc,c ([.fz d]++caps++[.own acc])=.ok (p d) ([.fz d]++caps++[.own acc]))(h:∀ d ∈ ds,∀ acc,p d=true->e ([.fz d]++caps++[.own acc])=.ok (f d) ([.fz d]++caps++[.own acc])) :
  Za own i mi 1 idx (zx 0) (some c) e ρ=.ok .nx (ρ'.set i (if own then .own ((ds.filter p).map f) else .fz (.lst ((ds.filter p).map f)))):=by
 have hi:idx.length=caps.length:=by rw[<-hc];simp
 unfold Za
 rw[hm,Res.bnd_ok,hi]
 have eb:ZC 1 idx ρ'=[.un]++caps++[.own []]:=by unfold ZC;rw[hc];rfl
 obtain⟨a',e'⟩:=xo (caps:=caps) (f:=f) (p:=p) (ds:=ds) (acc:=[]) (a:=.un) (by simpa using hl) hp h
 rw[eb,e']
 unfold XT
 dsimp only
 rw[xO,xD,zz,Res.bnd_ok]
 simp
end
end PM
namespace PM
open PySem
inductive oP {α:Type}:Option α->(α->Prop)->Prop where
 |mk {a:α}{Q:α->Prop}(h:Q a):oP (some a) Q
@[simp] theorem oP_some {α:Type}(a:α)(Q:α->Prop):oP (some a) Q=Q a:=propext ⟨λh=>by cases h;assumption,.mk⟩
@[simp] theorem oP_none {α:Type}(Q:α->Prop):oP none Q=False:=propext ⟨λh=>(by cases h),False.elim⟩
theorem Jz {α:Type}{o:Option α}{a:α}{Q:α->Prop}(h:o=some a)(q:Q a):oP o Q:=by rw[h];exact .mk q
theorem qz {Q:D->Prop}{X:Addr->Prop}(d:D):(FR.ok d).wp Q X=Q d:=propext ⟨λh=>by cases h;assumption,.ok⟩
theorem ur {Q:D->Prop}{X:Addr->Prop}(d:Addr):(FR.exn d).wp Q X=X d:=propext ⟨λh=>by cases h;assumption,.exn⟩
theorem jG {Q:D->Prop}{X:Addr->Prop}:(FR.bad).wp Q X=False:=propext ⟨λh=>(by cases h),False.elim⟩
section
variable {α β:Type}{Q:α->Rho->Prop}{X:Addr->Prop}{ρ:Rho}{a b:M D}{c d:M Bool}{s t:M Fl}{i:Nat}{R:Fl->Rho->Prop}{S:D->Rho->Prop}{U:Bool->Rho->Prop}
@[simp] theorem p_ok (a:α)(ρ:Rho):(Res.ok a ρ).wp Q X=Q a ρ:=wX a ρ
@[simp] theorem p_exn (c:Addr)(ρ:Rho):(Res.exn c ρ:Res α).wp Q X=X c:=Vi c ρ
@[simp] theorem p_bad:(Res.bad:Res α).wp Q X=False:=Ut
@[simp] theorem p_bnd {R:β->Rho->Prop}(r:Res α)(k:α->Rho->Res β):(r.bnd k).wp R X=r.wp (λa ρ=>(k a ρ).wp R X) X:=vJ r k
@[simp] theorem p_opt (o:Option α)(ρ:Rho):(z8 o ρ).wp Q X=oP o λa=>Q a ρ:=by cases o<;>simp[z8]
@[simp] theorem p_ite (c:Prop) [Decidable c] (a b:Res α):(if c then a else b).wp Q X=if c then a.wp Q X else b.wp Q X:=jm c a b
@[simp] theorem p_seq:(zL s t ρ).wp R X=(s ρ).wp (λf ρ=>if f.isNx=true then (t ρ).wp R X else R f ρ) X:=by
 unfold zL;simp
theorem yS (J:Rho->Prop)(h:(s ρ).wp (λf ρ=>f=.nx/\J ρ) X)(k:∀ ρ,J ρ->(t ρ).wp R X):(zL s t ρ).wp R X:=by
 rw[p_seq]
 refine h.mono (λf ρ q=>?_) λ_ q=>q
 obtain⟨rfl,j⟩:=q
 rw[if_pos (show Fl.nx.isNx=true from rfl)]
 exact k ρ j
@[simp] theorem p_vM:(vM i ρ).wp S X=oP (jE ρ[i]?) λd=>S d ρ:=by unfold vM;simp
@[simp] theorem p_cM {d:D}:(cM d ρ).wp S X=S d ρ:=wX _ _
@[simp] theorem p_op2 {f:D->D->Option D}:(op2 f a b ρ).wp S X=(a ρ).wp (λx ρ=>(b ρ).wp (λy ρ=>oP (f x y) λd=>S d ρ) X) X:=by unfold op2;simp
@[simp] theorem p_op1 {f:D->Option D}:(op1 f a ρ).wp S X=(a ρ).wp (λx ρ=>oP (f x) λd=>S d ρ) X:=by unfold op1;simp
@[simp] theorem p_test {f:D->Option Bool}:(zK f a ρ).wp U X=(a ρ).wp (λx ρ=>oP (f x) λd=>U d ρ) X:=by unfold zK;simp
@[simp] theorem p_and:(Wb c d ρ).wp U X=(c ρ).wp (λx ρ=>if x=true then (d ρ).wp U X else U false ρ) X:=by unfold Wb;simp
@[simp] theorem p_or:(orM c d ρ).wp U X=(c ρ).wp (λx ρ=>if x=true then U true ρ else (d ρ).wp U X) X:=by unfold orM;simp
@[simp] theorem p_not:(Wp c ρ).wp U X=(c ρ).wp (λx ρ=>U (!x) ρ) X:=by unfold Wp;simp
@[simp] theorem p_andV:(uL a b ρ).wp S X=(a ρ).wp (λx ρ=>oP (zP x) λk=>if k=true then (b ρ).wp S X else S (.bl false) ρ) X:=by unfold uL;simp
@[simp] theorem p_iteM:(V7 c a b ρ).wp S X=(c ρ).wp (λx ρ=>if x=true then (a ρ).wp S X else (b ρ).wp S X) X:=by unfold V7;simp
@[simp] theorem p_args0 {R:List D->Rho->Prop}:(za [] ρ).wp R X=R [] ρ:=wX _ _
@[simp] theorem p_args {as:List (M D)}{R:List D->Rho->Prop}:(za (a::as) ρ).wp R X=(a ρ).wp (λx ρ=>(za as ρ).wp (λxs ρ=>R (x::xs) ρ) X) X:=by rw[show za (a::as) ρ=(a ρ).bnd λx ρ=>(za as ρ).bnd λxs ρ=>.ok (x::xs) ρ from rfl];simp only[p_bnd,p_ok]
@[simp] theorem p_callB {f:List D->Option D}{as:List (M D)}:(zN f as ρ).wp S X=(za as ρ).wp (λxs ρ=>oP (f xs) λd=>S d ρ) X:=by unfold zN;simp
@[simp] theorem p_callM {F:List D->FR}{as:List (M D)}:(zH F as ρ).wp S X=(za as ρ).wp (λxs ρ=>(F xs).wp (λd=>S d ρ) X) X:=by
 unfold zH
 simp only[p_bnd]
 congr 1
 funext xs ρ
 cases F xs<;>simp[FR.to,qz,ur,jG]
@[simp] theorem p_tup {as:List (M D)}:(yA as ρ).wp S X=(za as ρ).wp (λxs ρ=>xs.length<=sizeLine/\S (.tup xs) ρ) X:=by
 unfold yA
 simp only[p_bnd]
 congr 1
 funext xs ρ
 by_cases h:xs.length<=sizeLine<;>simp[h]
@[simp] theorem p_lst {as:List (M D)}:(lstM as ρ).wp S X=(za as ρ).wp (λxs ρ=>xs.length<=sizeLine/\S (.lst xs) ρ) X:=by
 unfold lstM
 simp only[p_bnd]
 congr 1
 funext xs ρ
 by_cases h:xs.length<=sizeLine<;>simp[h]
@[simp] theorem p_part0 {R:Option Int->Rho->Prop}:(ye none ρ).wp R X=R none ρ:=wX _ _
@[simp] theorem p_part1 {R:Option Int->Rho->Prop}:(ye (some a) ρ).wp R X=(a ρ).wp (λx ρ=>oP (W8 x) λk=>R (some k) ρ) X:=by unfold ye;simp
@[simp] theorem p_slice {lo hi:Option (M D)}:(ZV a lo hi ρ).wp S X=(a ρ).wp (λx ρ=>(ye lo ρ).wp (λl ρ=>(ye hi ρ).wp (λh ρ=>oP (slD x l h) λd=>S d ρ) X) X) X:=by unfold ZV;simp
@[simp] theorem p_set:(ZE i a ρ).wp R X=(a ρ).wp (λx ρ=>R .nx (ρ.set i (.fz x))) X:=by unfold ZE;simp
@[simp] theorem p_ret:(ZW a ρ).wp R X=(a ρ).wp (λx ρ=>R (.ret x) ρ) X:=by unfold ZW;simp
@[simp] theorem p_expr:(Zq a ρ).wp R X=(a ρ).wp (λx ρ=>R .nx ρ) X:=by unfold Zq;simp
@[simp] theorem p_nx:(nxM ρ).wp R X=R .nx ρ:=wX _ _
@[simp] theorem p_if:(ifM c s t ρ).wp R X=(c ρ).wp (λx ρ=>if x=true then (s ρ).wp R X else (t ρ).wp R X) X:=by unfold ifM;simp
@[simp] theorem p_new {as:List (M D)}:(xP i as ρ).wp R X=(za as ρ).wp (λxs ρ=>xs.length<=sizeLine/\R .nx (ρ.set i (.own xs))) X:=by
 unfold xP
 simp only[p_bnd]
 congr 1
 funext xs ρ
 by_cases h:xs.length<=sizeLine<;>simp[h]
@[simp] theorem p_frz:(Y6 i s ρ).wp R X=oP (zn ρ[i]?) λds=>(s (ρ.set i (.fz (.lst ds)))).wp R X:=by unfold Y6;simp
@[simp] theorem p_app:(zr i a ρ).wp R X=oP (zn ρ[i]?) λds=>(a ρ).wp (λx ρ=>oP (zn ρ[i]?) λds=>ds.length<sizeLine/\R .nx (ρ.set i (.own (ds++[x])))) X:=by
 unfold zr
 simp only[p_bnd,p_opt]
 congr 1
 funext ds
 congr 2
 funext x ρ
 congr 1
 funext ds
 by_cases h:ds.length<sizeLine<;>simp[h]
@[simp] theorem p_lenO:(V5 i ρ).wp S X=oP (zn ρ[i]?) λds=>S (.int ds.length) ρ:=by unfold V5;simp
@[simp] theorem p_popAtO:(wt i a ρ).wp S X=oP (zn ρ[i]?) λds=>(a ρ).wp (λx ρ=>oP (zn ρ[i]?) λds=>oP (W8 x) λk=>oP ((if ds.length<=sizeLine then Xr ds.length k else none)) λj=>oP (ds[j]?) λy=>S y (ρ.set i (.own (ds.eraseIdx j)))) X:=by
 unfold wt;simp only[p_bnd,p_opt,p_ok]
@[simp] theorem p_forE {items:D->Option (List D)}{g:GM}:(XO a items g s ρ).wp R X=(a ρ).wp (λx ρ=>oP (items x) λds=>(zY g s ds ρ).wp R X) X:=by unfold XO;simp
@[simp] theorem p_forR {g:GM}:(WI a g s ρ).wp R X=(a ρ).wp (λx ρ=>oP (yC x) λds=>(zY g s ds ρ).wp R X) X:=by unfold WI;simp
@[simp] theorem p_newRange:(YF i a ρ).wp R X=(a ρ).wp (λx ρ=>oP (yC x) λds=>ds.length<=sizeLine/\R .nx (ρ.set i (.own ds))) X:=by
 unfold YF
 simp only[p_bnd,p_opt]
 congr 1
 funext x ρ
 congr 1
 funext ds
 by_cases h:ds.length<=sizeLine<;>simp[h]
@[simp] theorem p_methO {f:D->D->Option D}:(WB f i a ρ).wp S X=oP (zn ρ[i]?) λds=>(a ρ).wp (λx ρ=>oP (zn ρ[i]?) λds=>oP (f (.lst ds) x) λd=>S d ρ) X:=by
 unfold WB;simp only[p_bnd,p_opt,p_ok]
@[simp] theorem p_raise {c:Addr}:(yD c ρ).wp R X=X c:=Vi _ _
@[simp] theorem fz_fz (d:D):jE (some (.fz d))=some d:=rfl
@[simp] theorem own_own (d:List D):zn (some (.own d))=some d:=rfl
@[simp] theorem nx_nx:Fl.nx.isNx=true:=rfl
@[simp] theorem nx_ret (d:D):(Fl.ret d).isNx=false:=rfl
@[simp] theorem nx_brk:Fl.brk.isNx=false:=rfl
@[simp] theorem nx_cont:Fl.cont.isNx=false:=rfl
@[simp] theorem fin_ret {Q:D->Prop}(d:D)(ρ:Rho):Fl.fin Q (.ret d) ρ=Q d:=propext Iff.rfl
@[simp] theorem fin_nx {Q:D->Prop}(ρ:Rho):Fl.fin Q .nx ρ=Q .non:=propext Iff.rfl
@[simp] theorem turn_nx {J:Rho->Prop}(ρ:Rho):Yk J R .nx ρ=J ρ:=propext Iff.rfl
@[simp] theorem turn_ret {J:Rho->Prop}(d:D)(ρ:Rho):Yk J R (.ret d) ρ=R (.ret d) ρ:=propext Iff.rfl
@[simp] theorem turn_brk {J:Rho->Prop}(ρ:Rho):Yk J R .brk ρ=R .nx ρ:=propext Iff.rfl
@[simp] theorem turn_cont {J:Rho->Prop}(ρ:Rho):Yk J R .cont ρ=J ρ:=propext Iff.rfl
@[simp] theorem fr_ok {Q:D->Prop}(d:D):(FR.ok d).wp Q X=Q d:=qz d
@[simp] theorem fr_exn {Q:D->Prop}(d:Addr):(FR.exn d).wp Q X=X d:=ur d
end
@[simp] theorem sizeLine_eq:sizeLine=16777216:=by decide
@[simp] theorem s_mod (a b:Int)(h:0<b):yU (.int a) (.int b)=some (.int (a % b)):=by show (if _ then _ else _)=_;rw[if_pos h]
@[simp] theorem s_fdiv (a b:Int)(h:0<b/\b<1073741824):Yb (.int a) (.int b)=some (.int (a / b)):=by show (if _ then _ else _)=_;rw[if_pos h]
@[simp] theorem s_add (a b:Int):zk (.int a) (.int b)=some (.int (a+b)):=rfl
@[simp] theorem s_sub (a b:Int):Wf (.int a) (.int b)=some (.int (a - b)):=rfl
theorem jW (a b:Int)(h:(-(2 ^ 64)<a/\a<2 ^ 64)\/(-(2 ^ 64)<b/\b<2 ^ 64)):Ye (.int a) (.int b)=some (.int (a * b)):=by show (if _ then _ else _)=_;rw[if_pos h]
@[simp] theorem s_mulL (a b:Int) (h : -(2 ^ 64)<a/\a<2 ^ 64):Ye (.int a) (.int b)=some (.int (a * b)):=jW a b (.inl h)
@[simp] theorem s_mulR (a b:Int) (h : -(2 ^ 64)<b/\b<2 ^ 64):Ye (.int a) (.int b)=some (.int (a * b)):=jW a b (.inr h)
@[simp] theorem s_lt (a b:Int):ltD (.int a) (.int b)=some (.bl (decide (a<b))):=rfl
@[simp] theorem s_le (a b:Int):leD (.int a) (.int b)=some (.bl (decide (a<=b))):=rfl
@[simp] theorem s_gt (a b:Int):gtD (.int a) (.int b)=some (.bl (decide (b<a))):=rfl
@[simp] theorem s_ge (a b:Int):geD (.int a) (.int b)=some (.bl (decide (b<=a))):=rfl
@[simp] theorem s_eq (a b:Int):eqD (.int a) (.int b)=some (.bl (decide (a=b))):=by simp[eqD,D.plain,D.deep,D.eqv];rfl
@[simp] theorem s_ne (a b:Int):neD (.int a) (.int b)=some (.bl (!decide (a=b))):=by simp[neD,D.plain,D.deep,D.eqv];rfl
@[simp] theorem s_lenL (a:List D):yP (.lst a)=some (.int a.length):=rfl
@[simp] theorem s_lenT (a:List D):yP (.tup a)=some (.int a.length):=rfl
@[simp] theorem s_arg1 (f:D->Option D)(x:D):zX f [x]=f x:=rfl
@[simp] theorem s_ixL (a:List D) (i:Int):ixD (.lst a) (.int i)=atD a i:=rfl
@[simp] theorem s_ixT (a:List D) (i:Int):ixD (.tup a) (.int i)=atD a i:=rfl
@[simp] theorem s_boolB (b:Bool):zP (.bl b)=some b:=rfl
@[simp] theorem s_truB (b:Bool):Zs (.bl b)=some b:=rfl
@[simp] theorem s_truL (b:List D):Zs (.lst b)=some (!b.isEmpty):=rfl
@[simp] theorem s_lstOf (b:List D):ZH (.lst b)=some b:=rfl
@[simp] theorem s_tupOf (b:List D):xt (.tup b)=some b:=rfl
@[simp] theorem s_intOf (b:Int):W8 (.int b)=some b:=rfl
@[simp] theorem s_asIntB (b:Bool):XY (.bl b)=some (.int (if b then 1 else 0)):=rfl
@[simp] theorem s_asIntI (b:Int):XY (.int b)=some (.int b):=rfl
@[simp] theorem s_tupleL (b:List D):yT (.lst b)=some (.tup b):=rfl
@[simp] theorem s_tupleT (b:List D):yT (.tup b)=some (.tup b):=rfl
@[simp] theorem s_slL (b:List D)(lo hi:Option Int):slD (.lst b) lo hi=some (.lst (cut b lo hi)):=rfl
@[simp] theorem s_slT (b:List D)(lo hi:Option Int):slD (.tup b) lo hi=some (.tup (cut b lo hi)):=rfl
@[simp] theorem s_range (j:Int) (h : -(2 ^ 62)<=j/\j<2 ^ 62):yC (.int j)=some (yu j.toNat):=by show (if _ then _ else _)=_;rw[if_pos h]
@[simp] theorem s_isN (d:D):isD d .non=some (.bl (YA d)):=rfl
@[simp] theorem s_notN (d:D):Xj d .non=some (.bl (!YA d)):=rfl
@[simp] theorem s_gVar (i:Nat)(d:D)(ρ:Rho):zx i d ρ=some (ρ.set i (.fz d)):=rfl
@[simp] theorem s_gTup (is:List Nat)(ds:List D)(ρ:Rho):VT is (.tup ds) ρ=XN is ds ρ:=rfl
@[simp] theorem s_gTup0 (ρ:Rho):XN [] [] ρ=some ρ:=rfl
@[simp] theorem s_gTup1 (i:Nat)(is:List Nat)(d:D)(ds:List D)(ρ:Rho):XN (i::is) (d::ds) ρ=XN is ds (ρ.set i (.fz d)):=rfl
theorem Jv (a:List D) (j:Nat)(h:j<a.length):atD a (j:Int)=a[j]?:=by
 unfold atD Xr
 simp[h]
theorem wV {α:Type}(f:α->D)(xs:List α) (j:Nat)(x:α)(h:xs[j]? = some x):atD (xs.map f) (j:Int)=some (f x):=by
 have hj:=(List.getElem?_eq_some_iff.mp h).1
 rw[Jv _ _ (by simpa using hj),List.getElem?_map,h]
 rfl
section
variable {s t:M Fl}{ρ ρ':Rho}{R:Fl->Rho->Prop}{X:Addr->Prop}{a b c:M Bool}{r:Res Bool}
theorem zO (e:s ρ=.ok .nx ρ')(h:(t ρ').wp R X):(zL s t ρ).wp R X:=by unfold zL;rw[e];exact h
theorem QW {d:D}(e:s ρ=.ok (.ret d) ρ')(h:R (.ret d) ρ'):(zL s t ρ).wp R X:=by unfold zL;rw[e];exact .ok h
theorem ZP {k:Addr}(e:s ρ=.exn k ρ')(h:X k):(zL s t ρ).wp R X:=by unfold zL;rw[e];exact .exn h
theorem xR (e:c ρ=.ok true ρ'):ifM c s t ρ=s ρ':=by unfold ifM;rw[e];rfl
theorem XM (e:c ρ=.ok false ρ'):ifM c s t ρ=t ρ':=by unfold ifM;rw[e];rfl
theorem Wm (e:a ρ=.ok true ρ'):orM a b ρ=.ok true ρ':=by unfold orM;rw[e];rfl
theorem Yr (e:a ρ=.ok false ρ')(e2:b ρ'=r):orM a b ρ=r:=by unfold orM;rw[e];exact e2
theorem kD (e:a ρ=.ok false ρ'):Wb a b ρ=.ok false ρ':=by unfold Wb;rw[e];rfl
theorem jk (e:a ρ=.ok true ρ')(e2:b ρ'=r):Wb a b ρ=r:=by unfold Wb;rw[e];exact e2
theorem Xs {p:Prop} [Decidable p] (h:p)(e:a ρ=.ok (decide p) ρ'):a ρ=.ok true ρ':=by rw[e,decide_eq_true h]
theorem Y2 {p:Prop} [Decidable p] (h:¬ p)(e:a ρ=.ok (decide p) ρ'):a ρ=.ok false ρ':=by rw[e,decide_eq_false h]
end
theorem zI {f:D->D->Option D}{a b:M D}{ρ ρ1 ρ2:Rho}{x y z:D}(ea:a ρ=.ok x ρ1)(eb:b ρ1=.ok y ρ2)(e:f x y=some z):op2 f a b ρ=.ok z ρ2:=by unfold op2;rw[ea,Res.bnd_ok,eb,Res.bnd_ok,e];rfl
theorem JK {f:D->Option D}{a:M D}{ρ ρ1:Rho}{x z:D}(ea:a ρ=.ok x ρ1)(e:f x=some z):op1 f a ρ=.ok z ρ1:=by unfold op1;rw[ea,Res.bnd_ok,e];rfl
theorem zZ {f:D->Option Bool}{a:M D}{ρ ρ1:Rho}{x:D}{z:Bool}(ea:a ρ=.ok x ρ1)(e:f x=some z):zK f a ρ=.ok z ρ1:=by unfold zK;rw[ea,Res.bnd_ok,e];rfl
theorem wO (a b:Int):neD (.int a) (.int b)=some (.bl (decide (a≠b))):=by
 unfold neD
 by_cases h:a=b<;>simp[D.plain,D.deep,D.eqv,h]
theorem zT {a:M D}{as:List (M D)}{ρ ρ1 ρ2:Rho}{x:D}{xs:List D}(e:a ρ=.ok x ρ1)(er:za as ρ1=.ok xs ρ2):za (a::as) ρ=.ok (x::xs) ρ2:=by
 show (a ρ).bnd _=_
 rw[e,Res.bnd_ok]
 show (za as ρ1).bnd _=_
 rw[er]
 rfl
theorem Xz {F:List D->FR}{as:List (M D)}{ρ ρ':Rho}{xs:List D}{R:Fl->Rho->Prop}{X:Addr->Prop}(e:za as ρ=.ok xs ρ')(h:(F xs).wp (λ_=>R .nx ρ') X):(Zq (zH F as) ρ).wp R X:=by
 rw[p_expr,p_callM,e,p_ok]
 exact h
theorem Xy {it:M D}{items:D->Option (List D)}{g:GM}{b:M Fl}{ρ ρ':Rho}{x:D}{ds:List D}{R:Fl->Rho->Prop}{X:Addr->Prop}(e:it ρ=.ok x ρ')(ei:items x=some ds)(h:(zY g b ds ρ').wp R X):(XO it items g b ρ).wp R X:=by
 rw[p_forE,e,p_ok,ei,oP_some]
 exact h
theorem U7 {a:M D}{hi:M D}{ρ ρ1 ρ2:Rho}{x z:D}{k:Int}(e:a ρ=.ok x ρ1)(eh:hi ρ1=.ok (.int k) ρ2)(ez:slD x none (some k)=some z):ZV a none (some hi) ρ=.ok z ρ2:=by
 unfold ZV ye
 rw[e,Res.bnd_ok]
 dsimp only
 rw[Res.bnd_ok,eh,Res.bnd_ok]
 show ((Res.ok k ρ2).bnd _).bnd _=_
 rw[Res.bnd_ok,Res.bnd_ok,ez]
 rfl
theorem U9 {s t:M Fl}{ρ:Rho}{R:Fl->Rho->Prop}{X:Addr->Prop}(J:Rho->Prop)(h:(s ρ).wp (λf ρ=>f=.nx/\J ρ) X)(k:∀ ρ,J ρ->(t ρ).wp R X):(zL s t ρ).wp R X:=yS J h k
end PM
namespace PM
open PySem
noncomputable def cell (ns:List Int) (k:Nat):Int:=if ns=[] then 0 else ns.getD (k % ns.length) 0
noncomputable def JS (c:Int) (k:Nat):Int:=
 ((c+104729 * (k+1)) % 4294967291 * 48271 % 4294967279 / 64 * 69621+(c+104729 * (k+1)) % 4294967291 * 48271 % 4294967279) % 4294967231
noncomputable def mix (ns:List Int) (k:Nat):Nat:=(JS (cell ns k) k).toNat
theorem jq (ns:List Int) (k:Nat):ym [.lst (ns.map .int),.int k]=.ok (.int (cell ns k)):=by
 refine ZL ?_
 unfold WE ZS
 by_cases h:ns=[]
 ·subst h
  simp[cell]
 ·have hl:0<ns.length:=List.length_pos_iff.mpr h
  have hm:k % ns.length<ns.length:=Nat.mod_lt _ hl
  simp[h,hl,cell]
  rw[show ((k:Int) % (ns.length:Int))=((k % ns.length:Nat):Int) by omega]
  rw[wV D.int ns (k % ns.length) (ns.getD (k % ns.length) 0) (by rw[List.getD_eq_getElem?_getD,List.getElem?_eq_getElem hm];rfl)]
  simp
theorem JR (ns:List Int) (k:Nat):(mix ns k:Int)=JS (cell ns k) k:=by
 unfold mix
 exact Int.toNat_of_nonneg (Int.emod_nonneg _ (by decide))
theorem Jr (ns:List Int) (k:Nat):zV [.lst (ns.map .int),.int k]=.ok (.int (mix ns k)):=by
 refine ZL ?_
 unfold W6 ZS
 simp[jq,JR,JS]
noncomputable def wA (s:D)(mx:Nat->Nat):Prop:=∀ k:Nat,zV [s,.int k]=.ok (.int (mx k))
theorem kA (ns:List Int):wA (.lst (ns.map .int)) (mix ns):=λk=>Jr ns k
theorem wA.at {s:D}{mx:Nat->Nat}(h:wA s mx) (k:Nat){z:Int}(e:z=k):zV [s,.int z]=.ok (.int (mx k)):=by rw[e];exact h k
noncomputable def nth (l:List Nat) (i:Nat):Nat:=(l[i]?).getD 0
noncomputable def dn (n:Nat):D:=.int n
noncomputable abbrev dns (l:List Nat):List D:=l.map dn
noncomputable def Xh (mx:Nat->Nat) (k:Nat):Nat->List Nat->List Nat->List Nat
 |0,_,found=>found
 |n+1,left,found=>Xh mx k n (left.eraseIdx (mx (k+found.length) % left.length)) (found++[nth left (mx (k+found.length) % left.length)])
noncomputable def vR (mx:Nat->Nat) (k many most:Nat):List Nat:=Xh mx k many (List.range most) []
theorem VQ (n:Nat):yu n=dns (List.range n):=rfl
theorem XR {α β:Type}(f:α->β):∀ (l:List α) (i:Nat),(l.map f).eraseIdx i=(l.eraseIdx i).map f
 |[],_=>rfl
 |a::r,0=>rfl
 |a::r,i+1=>by simp[XR f r i]
theorem getElem?_getD {l:List Nat}{j:Nat}(h:j<l.length):l[j]? = some (nth l j):=by
 unfold nth;rw[List.getElem?_eq_getElem h];rfl
theorem qq {n j:Nat}(h:j<n):Xr n (j:Int)=some j:=by
 unfold Xr
 rw[if_pos (by omega),if_pos (by omega)]
 simp
theorem UB {s:D}{mx:Nat->Nat}(hs:wA s mx) (k many most:Nat)(h:many<=most)(hm:most<1000):Zg [s,dn k,dn many,dn most]=.ok (.tup (dns (vR mx k many most))):=by
 refine ZL ?_
 unfold xX ZS
 simp[dn]
 have r1:=s_range (most:Int) (by omega)
 rw[r1]
 simp only[oP_some]
 refine⟨by simp[yu];omega,?_⟩
 refine Us (λi ρ=>∃ left found:List Nat,i=many - found.length/\found.length<=many/\left.length+found.length=most/\Xh mx k (many - found.length) left found=vR mx k many most/\ρ=[.fz (s),.fz (dn k),.fz (dn many),.fz (dn most),.own (dns left),.own (dns found)]) many (by rw[jF];omega)
  ⟨List.range most,[],by simp,by simp,by simp,by simp[vR],by simp[dn,VQ]⟩ ?_
 rintro i ρ ⟨left,found,rfl,hf,hl,hp,rfl⟩
 by_cases hlt:found.length<many
 ·have hleft:0<left.length:=by omega
  have hj:mx (k+found.length) % left.length<left.length:=Nat.mod_lt _ hleft
  have e1:(k:Int)+(found.length:Int)=((k+found.length:Nat):Int):=by omega
  have e2:((mx (k+found.length):Nat):Int) % (left.length:Int)=((mx (k+found.length) % left.length:Nat):Int):=by omega
  simp[dn,hlt]
  rw[hs.at (k+found.length) e1]
  simp only[fr_ok]
  refine Jz (s_mod _ _ (by omega)) ?_
  rw[e2]
  have hz:left.length<=16777216:=by omega
  simp only[s_intOf,oP_some,hz,if_true,qq hj,getElem?_getD hj,Option.map_some]
  refine⟨by omega,many - (found.length+1),by omega,left.eraseIdx (mx (k+found.length) % left.length),found++[nth left (mx (k+found.length) % left.length)],by simp,by simp;omega,by simp[List.length_eraseIdx,hj];omega,?_,by simp[dns,XR],by simp[dns,dn]⟩
  rw[<-hp,show many - found.length=(many - (found.length+1))+1 by omega]
  simp[Xh]
 ·have e:found.length=many:=by omega
  simp[dn,hlt]
  rw[<-hp,e]
  simp[Xh]
theorem wv {α:Type}:∀ {l:List α}{j:Nat}(h:j<l.length),(l[j]::l.eraseIdx j).Perm l
 |a::r,0,_=>List.Perm.refl _
 |a::r,j+1,h=>(List.Perm.swap _ _ _).trans ((wv (l:=r) (j:=j) (by simpa using h)).cons a)
theorem W0 (mx:Nat->Nat) (k:Nat):∀ (n:Nat)(left found:List Nat),n<=left.length->(left++found).Nodup->(Xh mx k n left found).length=found.length+n/\(Xh mx k n left found).Nodup/\∀ x ∈ Xh mx k n left found,x ∈ left\/x ∈ found
 |0,left,found,_,hd=>⟨by simp[Xh],by simpa[Xh] using (List.nodup_append.mp hd).2.1,λx hx=>by simp[Xh]at hx;exact .inr hx⟩
 |n+1,left,found,hn,hd=>by
  have hj:mx (k+found.length) % left.length<left.length:=Nat.mod_lt _ (by omega)
  generalize hJ:mx (k+found.length) % left.length=j at hj
  have hm:nth left j ∈ left:=List.mem_of_getElem? (getElem?_getD hj)
  have hpm:left.Perm (nth left j::left.eraseIdx j):=by
   unfold nth
   rw[List.getElem?_eq_getElem hj]
   exact (wv hj).symm
  have hd2:(left.eraseIdx j++(found++[nth left j])).Nodup:=by
   refine (List.Perm.nodup_iff ?_).mp hd
   refine (hpm.append_right found).trans ?_
   rw[List.cons_append,<-List.append_assoc]
   exact (List.perm_append_singleton _ _).symm
  obtain⟨h1,h2,h3⟩:=W0 mx k n (left.eraseIdx j) (found++[nth left j]) (by rw[List.length_eraseIdx,if_pos hj];omega) hd2
  have e:Xh mx k (n+1) left found=Xh mx k n (left.eraseIdx j) (found++[nth left j]):=by rw[<-hJ];rfl
  rw[e]
  refine⟨by rw[h1];simp;omega,h2,λx hx=>?_⟩
  rcases h3 x hx with h | h
  ·exact .inl (List.mem_of_mem_eraseIdx h)
  ·rcases List.mem_append.mp h with h | h
   ·exact .inr h
   ·rw[List.mem_singleton.mp h];exact .inl hm
theorem QU (mx:Nat->Nat) (k many most:Nat)(h:many<=most):(vR mx k many most).length=many/\(vR mx k many most).Nodup/\∀ x ∈ vR mx k many most,x<most:=by
 obtain⟨h1,h2,h3⟩:=W0 mx k many (List.range most) [] (by simpa using h) (by simpa using List.nodup_range)
 exact⟨by simpa[vR] using h1,h2,λx hx=>by simpa using h3 x hx⟩
noncomputable abbrev Mv:=Int×List Int
noncomputable abbrev Stt:=Bool×Int×List Mv
noncomputable def eMv (m:Mv):D:=.tup [.int m.1,.tup (m.2.map .int)]
noncomputable def eSt (s:Stt):D:=.tup [.bl s.1,.int s.2.1,.lst (s.2.2.map eMv)]
noncomputable def eM (m:List Stt):D:=.lst (m.map eSt)
noncomputable def zs (l:List Nat):List Int:=l.map λn:Nat=>(n:Int)
noncomputable def zi (mx:Nat->Nat) (k most:Nat):List Nat:=0::(List.range (mx k % most)).map λj=>nth [0,1,1,2] (mx (k+1+j) % 4)
noncomputable def wJ (bs:List Nat) (s c:Nat):Nat:=nth bs s+if c=nth bs s then 1 else 0
noncomputable def Zo (bs:List Nat) (far:Nat):List Nat:=(List.range bs.length).filter λg=>decide (nth bs g<=far)
noncomputable def gGoal (mx:Nat->Nat) (k:Nat)(bs:List Nat) (s c:Nat):Nat:=nth (Zo bs (wJ bs s c)) (mx (k+8+5 * s+c) % (Zo bs (wJ bs s c)).length)
noncomputable def uk (mx:Nat->Nat) (k:Nat)(bs:List Nat) (s c:Nat):List Nat:=vR mx (k+40+9 * s+3 * c) (nth bs (gGoal mx k bs s c)) (wJ bs s c)
noncomputable def yv (mx:Nat->Nat) (k:Nat)(bs:List Nat) (s c:Nat):Mv:=((gGoal mx k bs s c:Int),zs (uk mx k bs s c))
noncomputable def jg (mx:Nat->Nat) (k s:Nat):Bool:=decide (mx (k+30+s) / 4 % 2=0)
noncomputable def z6 (mx:Nat->Nat) (k:Nat)(bs:List Nat) (s:Nat):Stt:=(jg mx k s,(nth bs s:Int),(List.range (nth bs s+1)).map (yv mx k bs s))
noncomputable def gM (mx:Nat->Nat) (k most:Nat):List Stt:=(List.range (zi mx k most).length).map (z6 mx k (zi mx k most))
theorem xm (mx:Nat->Nat) (k most:Nat)(h:0<most):(zi mx k most).length<=most/\0<(zi mx k most).length:=by
 have:=Nat.mod_lt (mx k) h
 simp[zi];omega
theorem Xw (mx:Nat->Nat) (k most s:Nat):nth (zi mx k most) s<=2:=by
 unfold nth
 cases q:(zi mx k most)[s]? with
 |none=>simp
 |some b=>
  have hb:=List.mem_of_getElem? q
  unfold zi at hb
  rcases List.mem_cons.mp hb with rfl | hb
  ·simp
  ·obtain⟨j,_,rfl⟩:=List.mem_map.mp hb
   have:mx (k+1+j) % 4<4:=Nat.mod_lt _ (by decide)
   generalize mx (k+1+j) % 4=x at this
   match x,this with
   |0,_=>decide
   |1,_=>decide
   |2,_=>decide
   |3,_=>decide
theorem xl {bs:List Nat}{far g:Nat}:g ∈ Zo bs far ↔ g<bs.length/\nth bs g<=far:=by simp[Zo]
theorem WH (mx:Nat->Nat) (k most far:Nat):0<(Zo (zi mx k most) far).length:=by
 refine List.length_pos_of_mem (a:=0) (xl.mpr ⟨by simp[zi],by simp[zi,nth]⟩)
theorem vB (mx:Nat->Nat) (k most s c:Nat):gGoal mx k (zi mx k most) s c ∈ Zo (zi mx k most) (wJ (zi mx k most) s c):=by
 unfold gGoal
 exact List.mem_of_getElem? (getElem?_getD (Nat.mod_lt _ (WH mx k most _)))
theorem vo {l:List Nat}{j:Nat}(h:j<l.length):atD (dns l) (j:Int)=some (dn (nth l j)):=wV dn l j _ (getElem?_getD h)
theorem QF {l:List Nat}{j:Nat}{z:Int}(e:z=j)(h:j<l.length):atD (dns l) z=some (dn (nth l j)):=by rw[e];exact vo h
noncomputable def rM (s:D) (k most:Nat)(bs:List Nat)(st:List D)(j1 j2 j3 j4 j5 j6 j7:Slot):Rho:=[.fz s,.fz (dn k),.fz (dn most),.fz (.lst (dns bs)),j1,.own st,j2,j3,j4,j5,j6,j7]
theorem vb {s:D}{mx:Nat->Nat}(hs:wA s mx) (k most:Nat)(bs:List Nat)(j:Slot)(hbl:bs.length<=100/\0<bs.length)(hb2:∀ s,nth bs s<=2)(hgp:∀ far,0<(Zo bs far).length)(hgm:∀ s c,gGoal mx k bs s c ∈ Zo bs (wJ bs s c)) :
  ((zL (xP 5 [])
 (Y6 3 (zL (WI (zN (zX yP) [vM 3]) (zx 6) (zL (xP 7 [])
 (zL (WI (op2 zk (op2 ixD (vM 3) (vM 6)) (cM (.int 1))) (zx 8) (zL (ZE 9 (op2 zk (op2 ixD (vM 3) (vM 6)) (zN (zX XY) [op2 eqD (vM 8) (op2 ixD (vM 3) (vM 6))])))
 (zL (Za false 10 (zS yC (zN (zX yP) [vM 3])) 1 [3,9] (zx 0) (some (zK zP (op2 leD (op2 ixD (vM 1) (vM 0)) (vM 2)))) (vM 0))
 (zL (ZE 11 (op2 ixD (vM 10) (op2 yU (zH zV [vM 0,op2 zk (op2 zk (op2 zk (vM 1) (cM (.int 8))) (op2 Ye (cM (.int 5)) (vM 6))) (vM 8)]) (zN (zX yP) [vM 10]))))
 (zr 7 (yA [vM 11,zH Zg [vM 0,op2 zk (op2 zk (op2 zk (vM 1) (cM (.int 40))) (op2 Ye (cM (.int 9)) (vM 6))) (op2 Ye (cM (.int 3)) (vM 8)),op2 ixD (vM 3) (vM 11),vM 9]]))))))
 (Y6 7 (zr 5 (yA [op2 eqD (op2 yU (op2 Yb (zH zV [vM 0,op2 zk (op2 zk (vM 1) (cM (.int 30))) (vM 6)]) (cM (.int 4))) (cM (.int 2))) (cM (.int 0)),op2 ixD (vM 3) (vM 6),vM 7]))))))
 (Y6 5 (ZW (vM 5)))))) [.fz s,.fz (dn k),.fz (dn most),.own (dns bs),j,.un,.un,.un,.un,.un,.un,.un]).wp (Fl.fin λx=>x=eM ((List.range bs.length).map (z6 mx k bs))) λ_=>False:=by
 refine yS (λρ=>ρ=[.fz s,.fz (dn k),.fz (dn most),.own (dns bs),j,.own [],.un,.un,.un,.un,.un,.un]) ?_ ?_
 ·simp
 rintro ρ rfl
 simp only[p_frz,List.getElem?_cons_succ,List.getElem?_cons_zero,own_own,oP_some,List.set]
 refine yS (λρ=>∃ j1 j2 j3 j4 j5 j6 j7,ρ=rM s k most bs ((List.range bs.length).map λi=>eSt (z6 mx k bs i)) j1 j2 j3 j4 j5 j6 j7) ?_ ?_
 ·simp
  rw[s_range _ (by omega)]
  simp
  refine wK (λi ρ=>∃ j1 j2 j3 j4 j5 j6 j7,ρ=rM s k most bs ((List.range i).map λi=>eSt (z6 mx k bs i)) j1 j2 j3 j4 j5 j6 j7) ⟨_,_,_,_,_,_,_,rfl⟩ ?_ ?_
  ·rintro i ρ hi ⟨j1,j2,j3,j4,j5,j6,j7,rfl⟩
   refine⟨_,rfl,?_⟩
   unfold rM
   refine yS (λρ=>ρ=rM s k most bs ((List.range i).map λi=>eSt (z6 mx k bs i)) j1 (.fz (dn i)) (.own []) j4 j5 j6 j7) (by simp[rM,dn]) ?_
   rintro ρ rfl
   have eb:atD (dns bs) (i:Int)=some (dn (nth bs i)):=vo hi
   have b2:=hb2 i
   refine yS (λρ=>∃ j4 j5 j6 j7,ρ=rM s k most bs ((List.range i).map λi=>eSt (z6 mx k bs i)) j1 (.fz (dn i)) (.own ((List.range (nth bs i+1)).map λc=>eMv (yv mx k bs i c))) j4 j5 j6 j7) ?_ ?_
   ·simp[rM,dn]
    rw[eb]
    simp only[oP_some,dn,s_add]
    rw[s_range _ (by omega)]
    simp
    refine wK (λc ρ=>∃ j4 j5 j6 j7,ρ=rM s k most bs ((List.range i).map λi=>eSt (z6 mx k bs i)) j1 (.fz (dn i)) (.own ((List.range c).map λc=>eMv (yv mx k bs i c))) j4 j5 j6 j7) ⟨_,_,_,_,by unfold rM;rfl⟩ ?_ ?_
    ·rintro c ρ hc ⟨j4,j5,j6,j7,rfl⟩
     refine⟨_,rfl,?_⟩
     unfold rM
     refine yS (λρ=>ρ=rM s k most bs ((List.range i).map λi=>eSt (z6 mx k bs i)) j1 (.fz (dn i)) (.own ((List.range c).map λc=>eMv (yv mx k bs i c))) (.fz (dn c)) (.fz (dn (wJ bs i c))) j6 j7) ?_ ?_
     ·by_cases hcb:c=nth bs i
      ·subst hcb
       simp[eb,dn,rM,wJ]
      ·have hcb':¬ ((c:Int)=(nth bs i:Int)):=by omega
       simp[eb,dn,rM,wJ,hcb,hcb']
     rintro ρ rfl
     generalize hfar:wJ bs i c=far
     have hf3:far<=3:=by rw[<-hfar];unfold wJ;split<;>omega
     refine yS (λρ=>ρ=rM s k most bs ((List.range i).map λi=>eSt (z6 mx k bs i)) j1 (.fz (dn i)) (.own ((List.range c).map λc=>eMv (yv mx k bs i c))) (.fz (dn c)) (.fz (dn far)) (.fz (.lst (dns (Zo bs far)))) j7) ?_ ?_
     ·have hm:zS yC (zN (zX yP) [vM 3]) (rM s k most bs ((List.range i).map λi=>eSt (z6 mx k bs i)) j1 (.fz (dn i)) (.own ((List.range c).map λc=>eMv (yv mx k bs i c))) (.fz (dn c)) (.fz (dn far)) j6 j7) =
        .ok (dns (List.range bs.length)) (rM s k most bs ((List.range i).map λi=>eSt (z6 mx k bs i)) j1 (.fz (dn i)) (.own ((List.range c).map λc=>eMv (yv mx k bs i c))) (.fz (dn c)) (.fz (dn far)) j6 j7):=by
       refine wz ?_
       unfold zS rM
       simp
       rw[s_range _ (by omega)]
       simp[VQ]
      refine zm (wc (own:=false) (i:=10) (caps:=[.fz (.lst (dns bs)),.fz (dn far)]) (λd=>match d with | .int z=>decide (nth bs z.toNat<=far) | _=>false) id hm rfl (by simp;omega) ?_ ?_) ⟨rfl,?_⟩
      ·intro d hd acc
       obtain⟨x,hx,rfl⟩:=List.mem_map.mp hd
       have hx':x<bs.length:=by simpa using hx
       refine wz ?_
       simp[dn,vo hx']
      ·intro d hd acc hp
       refine wz ?_
       simp
      ·unfold rM
       simp[Zo,dns,List.filter_map,dn]
       rfl
     rintro ρ rfl
     have hpos:=hgp far
     have hgi:=hgm i c
     rw[hfar]at hgi
     have hmod:mx (k+8+5 * i+c) % (Zo bs far).length<(Zo bs far).length:=Nat.mod_lt _ hpos
     have eg:nth (Zo bs far) (mx (k+8+5 * i+c) % (Zo bs far).length)=gGoal mx k bs i c:=by unfold gGoal;rw[hfar]
     refine yS (λρ=>ρ=rM s k most bs ((List.range i).map λi=>eSt (z6 mx k bs i)) j1 (.fz (dn i)) (.own ((List.range c).map λc=>eMv (yv mx k bs i c))) (.fz (dn c)) (.fz (dn far)) (.fz (.lst (dns (Zo bs far)))) (.fz (dn (gGoal mx k bs i c)))) ?_ ?_
     ·simp[dn,rM]
      rw[hs.at (k+8+5 * i+c) (by omega)]
      simp
      rw[s_mod _ _ (by omega)]
      simp
      rw[QF (j:=mx (k+8+5 * i+c) % (Zo bs far).length) (by omega) hmod,eg]
      simp[dn]
     rintro ρ rfl
     obtain⟨hg1,hg2⟩:=xl.mp hgi
     have es:=UB hs (k+40+9 * i+3 * c) (nth bs (gGoal mx k bs i c)) far hg2 (by omega)
     have e1:(k:Int)+40+9 * (i:Int)+3 * (c:Int)=((k+40+9 * i+3 * c:Nat):Int):=by omega
     have e2:vR mx (k+40+9 * i+3 * c) (nth bs (gGoal mx k bs i c)) far=uk mx k bs i c:=by unfold uk;rw[hfar]
     rw[e2]at es
     unfold rM
     simp[dn,vo hg1]
     simp only[dn]at es
     rw[e1,es]
     simp
     refine⟨by omega,?_⟩
     rw[List.range_succ]
     simp[eMv,yv,dn,zs]
    ·rintro ρ ⟨j4,j5,j6,j7,rfl⟩
     exact⟨rfl,_,_,_,_,rfl⟩
   ·rintro ρ ⟨j4,j5,j6,j7,rfl⟩
    unfold rM
    simp[dn,eb]
    rw[hs.at (k+30+i) (by omega)]
    simp
    refine⟨by omega,?_⟩
    rw[show List.range (i+1)=List.range i++[i] from List.range_succ,List.map_append]
    have e:decide ((mx (k+30+i):Int) / 4 % 2=0)=decide (mx (k+30+i) / 4 % 2=0):=decide_eq_decide.mpr (by omega)
    rw[e]
    simp[eSt,z6,jg,Function.comp_def]
  ·rintro ρ ⟨j1,j2,j3,j4,j5,j6,j7,rfl⟩
   exact⟨rfl,_,_,_,_,_,_,_,rfl⟩
 ·rintro ρ ⟨j1,j2,j3,j4,j5,j6,j7,rfl⟩
  unfold rM
  simp[eM]
theorem UD {s:D}{mx:Nat->Nat}(hs:wA s mx) (k most:Nat)(h:0<most)(hm:most<100):Zh [s,dn k,dn most]=.ok (eM (gM mx k most)):=by
 refine ZL ?_
 unfold xY ZS
 refine yS (λρ=>ρ=[.fz s,.fz (dn k),.fz (dn most),.own [.int 0],.un,.un,.un,.un,.un,.un,.un,.un]) (by simp) ?_
 rintro ρ rfl
 have hlt:=Nat.mod_lt (mx k) h
 refine yS (λρ=>∃ j,ρ=[.fz s,.fz (dn k),.fz (dn most),.own (dns (zi mx k most)),j,.un,.un,.un,.un,.un,.un,.un]) ?_ ?_
 ·simp[dn]
  rw[hs k]
  simp
  rw[s_mod _ _ (by omega)]
  simp
  rw[s_range _ (by omega)]
  simp
  rw[show ((mx k:Int) % (most:Int)).toNat=mx k % most by omega]
  refine wK (λi ρ=>∃ j,ρ=[.fz s,.fz (dn k),.fz (dn most),.own (dns (0::(List.range i).map λj=>nth [0,1,1,2] (mx (k+1+j) % 4))),j,.un,.un,.un,.un,.un,.un,.un]) ⟨_,by simp[dn];rfl⟩ ?_ ?_
  ·rintro i ρ hi ⟨j,rfl⟩
   refine⟨_,rfl,?_⟩
   simp[dn]
   rw[hs.at (k+1+i) (by omega)]
   simp
   have e:atD [D.int 0,D.int 1,D.int 1,D.int 2] ((mx (k+1+i):Int) % 4)=some (dn (nth [0,1,1,2] (mx (k+1+i) % 4))):=QF (l:=[0,1,1,2]) (by omega) (Nat.mod_lt _ (by decide))
   rw[e]
   simp
   refine⟨by omega,?_⟩
   rw[List.range_succ]
   simp[dn]
  ·rintro ρ ⟨j,rfl⟩
   exact⟨rfl,j,rfl⟩
 rintro ρ ⟨j,rfl⟩
 have hbl:=xm mx k most h
 exact vb hs k most _ j ⟨by omega,hbl.2⟩ (Xw mx k most) (WH mx k most) (vB mx k most)
theorem FR.wp.mono {r:FR}{Q Q':D->Prop}{X X':Addr->Prop}(h:r.wp Q X)(hq:∀ d,Q d->Q' d)(hx:∀ c,X c->X' c):r.wp Q' X':=by
 cases h with
 |ok h=>exact .ok (hq _ h)
 |exn h=>exact .exn (hx _ h)
noncomputable def Yc (m:List Stt) (g:Int):Int:=((m[g.toNat]?).map (·.2.1)).getD 0
noncomputable def W1 (most:Int)(ss:List Int):Bool:=decide ((zl ss).length=ss.length) && ss.all λx=>decide (0<=x) && decide (x<most)
noncomputable def xQ (m:List Stt) (most:Int)(v:Mv):Bool:=decide (0<=v.1) && decide (v.1<m.length) && decide ((v.2.length:Int)=Yc m v.1) && W1 most v.2
noncomputable def wD (m:List Stt)(s:Stt):Bool:=decide (0<=s.2.1) && decide (s.2.1<=6) && decide ((s.2.2.length:Int)=s.2.1+1) && (s.2.2.take s.2.1.toNat).all (xQ m s.2.1) && ((s.2.2[s.2.1.toNat]?).map (xQ m (s.2.1+1))).getD false
noncomputable def yQ (m:List Stt):Bool:=decide (1<=m.length) && decide (m.length<=400) && decide (Yc m 0=0) && m.all (wD m)
noncomputable def We (m:List Stt):Prop:=∀ s ∈ m,∀ v ∈ s.2.2,v.2.length<1000
theorem ji {m:List Stt}{g:Int}(h0:0<=g)(h1:g<m.length):∃ s,m[g.toNat]? = some s/\atD (m.map eSt) g=some (eSt s)/\Yc m g=s.2.1:=by
 have hl:g.toNat<m.length:=by omega
 refine⟨m[g.toNat],List.getElem?_eq_getElem hl,?_,?_⟩
 ·have:=wV eSt m g.toNat _ (List.getElem?_eq_getElem hl)
  rwa [show ((g.toNat:Nat):Int)=g by omega]at this
 ·unfold Yc;rw[List.getElem?_eq_getElem hl];rfl
theorem V8 (ns:List Int):Y3 (ns.map .int)=some ns:=by
 induction ns with
 |nil=>rfl
 |cons a r ih=>simp[Y3,ih]
theorem V4 (ns:List Int)(h:ns.length<1000):xJ (.tup (ns.map .int))=some (.int (zl ns).length):=by
 simp[xJ,V8,h]
@[simp] theorem at0 (a:D)(r:List D):atD (a::r) 0=some a:=by simp[atD,Xr]
@[simp] theorem at1 (a b:D)(r:List D):atD (a::b::r) 1=some b:=by
 unfold atD Xr
 rw[if_pos (by decide),if_pos (by simp;omega)]
 rfl
@[simp] theorem at2 (a b c:D)(r:List D):atD (a::b::c::r) 2=some c:=by
 unfold atD Xr
 rw[if_pos (by decide),if_pos (by simp;omega)]
 rfl
theorem take_succ {α:Type}{l:List α}{i:Nat}{x:α}(h:l[i]? = some x):l.take (i+1)=l.take i++[x]:=by
 rw[List.take_succ,h];rfl
noncomputable def Wv {α:Type}(l:List α)(p:α->Bool):Prop:=l.all p=true
theorem allT_nil {α:Type}(p:α->Bool):Wv [] p:=rfl
theorem X3 {α:Type}{l:List α}{i:Nat}{x:α}{p:α->Bool}(h:l[i]? = some x)(ha:Wv (l.take i) p)(hx:p x=true):Wv (l.take (i+1)) p:=by
 unfold Wv at *
 rw[take_succ h,List.all_append,ha]
 simp[hx]
theorem Wc {α:Type}{l:List α}{p:α->Bool}(h:Wv (l.take l.length) p):l.all p=true:=by
 unfold Wv at h
 rwa [List.take_length]at h
noncomputable def rLM (m:List Stt)(v:Mv) (l:Int)(j:Slot):Rho:=[.fz (eM m),.fz (eMv v),.fz (.int l),.fz (.int v.1),.fz (.tup (v.2.map .int)),j]
theorem jA (A:Cls)(m:List Stt)(v:Mv) (l x:Int):((ifM (orM (zK zP (op2 ltD (vM 5) (cM (.int 0)))) (zK zP (op2 geD (vM 5) (vM 2)))) (yD A.bm) (nxM)) (rLM m v l (.fz (.int x))))=if 0<=x/\x<l then .ok .nx (rLM m v l (.fz (.int x))) else .exn A.bm (rLM m v l (.fz (.int x))):=by
 by_cases h0:x<0
 ·rw[if_neg (by omega)]
  exact xR (Wm (Xs h0 rfl))
 ·by_cases h1:l<=x
  ·rw[if_neg (by omega)]
   exact xR (Yr (Y2 h0 rfl) (Xs h1 rfl))
  ·rw[if_pos (by omega)]
   exact XM (Yr (Y2 h0 rfl) (Y2 h1 rfl))
theorem X5 (A:Cls)(m:List Stt)(v:Mv) (l:Int)(hv:v.2.length<1000):(Z0 A [eM m,eMv v,.int l]).wp (λd=>d=.non/\xQ m l v=true) (λc=>c=A.bm/\xQ m l v=false):=by
 refine yH (zO (ρ':=[.fz (eM m),.fz (eMv v),.fz (.int l),.fz (.int v.1),.un,.un]) rfl (zO (ρ':=rLM m v l .un) rfl ?_))
 have el:((m.map eSt).length:Int)=m.length:=by rw[List.length_map]
 by_cases h0:v.1<0
 ·exact ZP (xR (Wm (Xs h0 rfl))) ⟨rfl,by simp[xQ];omega⟩
 by_cases h1:((m.map eSt).length:Int)<=v.1
 ·exact ZP (xR (Yr (Y2 h0 rfl) (Xs h1 rfl))) ⟨rfl,by simp[xQ];omega⟩
 refine zO (XM (Yr (Y2 h0 rfl) (Y2 h1 rfl))) ?_
 obtain⟨s,hs,ea,eb⟩:=ji (m:=m) (g:=v.1) (by omega) (by omega)
 have e1:op2 neD (zN (zX yP) [vM 4]) (op2 ixD (op2 ixD (vM 0) (vM 3)) (cM (.int 1))) (rLM m v l .un)=.ok (.bl (decide (((v.2.map D.int).length:Int)≠s.2.1))) (rLM m v l .un):=
  zI rfl (zI (zI rfl rfl ea) rfl rfl) (wO _ _)
 have e2:op2 neD (op1 xJ (vM 4)) (zN (zX yP) [vM 4]) (rLM m v l .un)=.ok (.bl (decide (((zl v.2).length:Int)≠((v.2.map D.int).length:Int)))) (rLM m v l .un):=
  zI (JK rfl (V4 v.2 hv)) rfl (wO _ _)
 have em:(v.2.map D.int).length=v.2.length:=by rw[List.length_map]
 rw[em]at e1 e2
 by_cases h2:(v.2.length:Int)=s.2.1
 case neg=>exact ZP (xR (Xs h2 (zZ e1 rfl))) ⟨rfl,by simp[xQ,eb,h2]⟩
 refine zO (XM (Y2 (λz=>z h2) (zZ e1 rfl))) ?_
 have hc:xQ m l v=W1 l v.2:=by simp[xQ,eb,h2];omega
 rw[hc]
 by_cases h3:((zl v.2).length:Int)=(v.2.length:Int)
 case neg=>exact ZP (xR (Xs h3 (zZ e2 rfl))) ⟨rfl,by simp[W1];omega⟩
 refine zO (XM (Y2 (λz=>z h3) (zZ e2 rfl))) ?_
 rw[p_forE,p_vM]
 refine .mk (.mk (yo (λi ρ=>Wv (v.2.take i) (λx=>decide (0<=x) && decide (x<l))/\∃ j,ρ=rLM m v l j) ⟨rfl,_,rfl⟩ ?_ ?_))
 ·rintro i x ρ hx ⟨hall,j,rfl⟩
  refine⟨rLM m v l (.fz (.int x)),rfl,?_⟩
  rw[jA A m v l x]
  by_cases hx0:0<=x/\x<l
  ·rw[if_pos hx0,p_ok]
   exact⟨X3 hx hall (by simp[hx0]),_,rfl⟩
  ·rw[if_neg hx0,p_exn]
   refine⟨rfl,?_⟩
   unfold W1
   rw[Bool.and_eq_false_iff]
   exact .inr (List.all_eq_false.mpr ⟨x,List.mem_of_getElem? hx,by simpa using hx0⟩)
 ·rintro ρ ⟨hall,j,rfl⟩
  have:=Wc hall
  exact⟨rfl,by unfold W1;rw[this,Bool.and_true];exact decide_eq_true (by omega)⟩
theorem Ji {α:Type}(xs:List α) (b:Int)(h:0<=b):cut xs none (some b)=xs.take b.toNat:=by
 unfold cut vF
 simp only[List.drop_zero,Nat.sub_zero]
 rw[if_neg (by omega)]
 by_cases hb:b.toNat<=xs.length
 ·rw[Nat.min_eq_left hb]
 ·rw[Nat.min_eq_right (by omega),List.take_of_length_le (Nat.le_refl _),List.take_of_length_le (by omega)]
noncomputable def rLS (m:List Stt)(s:Stt)(j:Slot):Rho:=[.fz (eM m),.fz (eSt s),.fz (.int s.2.1),.fz (.lst (s.2.2.map eMv)),j]
theorem vL (A:Cls)(m:List Stt)(s:Stt)(hs:∀ v ∈ s.2.2,v.2.length<1000):(Z9 A [eM m,eSt s]).wp (λd=>d=.non/\wD m s=true) (λc=>c=A.bm/\wD m s=false):=by
 refine yH (zO (ρ':=[.fz (eM m),.fz (eSt s),.fz (.int s.2.1),.un,.un]) rfl (zO (ρ':=rLS m s .un) rfl ?_))
 by_cases h0:s.2.1<0
 ·exact ZP (xR (Wm (Xs h0 rfl))) ⟨rfl,by simp[wD];omega⟩
 by_cases h6:6<s.2.1
 ·exact ZP (xR (Yr (Y2 h0 rfl) (Xs h6 rfl))) ⟨rfl,by simp[wD];omega⟩
 refine zO (XM (Yr (Y2 h0 rfl) (Y2 h6 rfl))) ?_
 have e1:op2 neD (zN (zX yP) [vM 3]) (op2 zk (vM 2) (cM (.int 1))) (rLS m s .un)=.ok (.bl (decide (((s.2.2.map eMv).length:Int)≠s.2.1+1))) (rLS m s .un):=zI rfl rfl (wO _ _)
 rw[List.length_map]at e1
 by_cases hl:(s.2.2.length:Int)=s.2.1+1
 case neg=>exact ZP (xR (Xs hl (zZ e1 rfl))) ⟨rfl,by simp[wD];omega⟩
 refine zO (XM (Y2 (λz=>z hl) (zZ e1 rfl))) ?_
 have hb:s.2.1.toNat<s.2.2.length:=by omega
 have hbl:=List.getElem?_eq_getElem hb
 generalize s.2.2[s.2.1.toNat]=vl at hbl
 have hcond:wD m s=((s.2.2.take s.2.1.toNat).all (xQ m s.2.1) && xQ m (s.2.1+1) vl):=by
  unfold wD
  rw[decide_eq_true (show 0<=s.2.1 by omega),decide_eq_true (show s.2.1<=6 by omega),decide_eq_true hl,hbl]
  rfl
 have eat:atD (s.2.2.map eMv) s.2.1=some (eMv vl):=by
  have:=wV eMv s.2.2 s.2.1.toNat _ hbl
  rwa [show ((s.2.1.toNat:Nat):Int)=s.2.1 by omega]at this
 rw[hcond]
 refine U9 (λρ=>Wv (s.2.2.take s.2.1.toNat) (xQ m s.2.1)/\∃ j,ρ=rLS m s j) (Xy (U7 rfl rfl rfl) rfl ?_) ?_
 ·rw[Ji _ _ (by omega),<-List.map_take]
  refine yo (λi ρ=>Wv ((s.2.2.take s.2.1.toNat).take i) (xQ m s.2.1)/\∃ j,ρ=rLS m s j) ⟨rfl,_,rfl⟩ ?_ ?_
  ·rintro i v ρ hv ⟨hall,j,rfl⟩
   have hvm:v ∈ s.2.2.take s.2.1.toNat:=List.mem_of_getElem? hv
   refine⟨rLS m s (.fz (eMv v)),rfl,Xz (xs:=[eM m,eMv v,.int s.2.1]) rfl ?_⟩
   refine (X5 A m v s.2.1 (hs v (List.mem_of_mem_take hvm))).mono (λd hd=>?_) λc hc=>?_
   ·exact⟨X3 hv hall hd.2,_,rfl⟩
   ·exact⟨hc.1,Bool.and_eq_false_iff.mpr (.inl (List.all_eq_false.mpr ⟨v,hvm,by rw[hc.2];decide⟩))⟩
  ·rintro ρ ⟨hall,j,rfl⟩
   exact⟨rfl,Wc hall,j,rfl⟩
 ·rintro ρ ⟨hall,j,rfl⟩
  rw[show (s.2.2.take s.2.1.toNat).all (xQ m s.2.1)=true from hall]
  refine Xz (ρ':=rLS m s j) (xs:=[eM m,eMv vl,.int (s.2.1+1)]) (zT (ρ1:=rLS m s j) rfl (zT (zI rfl rfl eat) rfl)) ?_
  refine (X5 A m vl (s.2.1+1) (hs _ (List.mem_of_getElem? hbl))).mono (λd hd=>?_) λc hc=>?_
  ·exact⟨rfl,hd.2⟩
  ·exact⟨hc.1,hc.2⟩
theorem Yi (A:Cls)(m:List Stt)(hs:We m):(zQ A [eM m]).wp (λd=>d=.non/\yQ m=true) (λc=>c=A.bm/\yQ m=false):=by
 refine yH ?_
 have el:((m.map eSt).length:Int)=m.length:=by rw[List.length_map]
 by_cases h1:((m.map eSt).length:Int)<1
 ·exact ZP (ρ':=ZS 2 [eM m]) (xR (Wm (Xs h1 rfl))) ⟨rfl,by unfold yQ;rw[decide_eq_false (by omega)];rfl⟩
 by_cases h4:400<((m.map eSt).length:Int)
 ·exact ZP (ρ':=ZS 2 [eM m]) (xR (Yr (Y2 h1 rfl) (Xs h4 rfl))) ⟨rfl,by unfold yQ;rw[decide_eq_false (show ¬ m.length<=400 by omega),Bool.and_false];rfl⟩
 refine zO (ρ':=ZS 2 [eM m]) (XM (Yr (Y2 h1 rfl) (Y2 h4 rfl))) ?_
 obtain⟨s,e1,e2,e3⟩:=ji (m:=m) (g:=0) (by omega) (by omega)
 have hg:yQ m=(decide (s.2.1=0) && m.all (wD m)):=by
  unfold yQ
  rw[decide_eq_true (show 1<=m.length by omega),decide_eq_true (show m.length<=400 by omega),e3]
  rfl
 have eq:op2 neD (op2 ixD (op2 ixD (vM 0) (cM (.int 0))) (cM (.int 1))) (cM (.int 0)) (ZS 2 [eM m])=.ok (.bl (decide (s.2.1≠0))) (ZS 2 [eM m]):=zI (zI (zI rfl rfl e2) rfl rfl) rfl (wO _ _)
 rw[hg]
 by_cases h0:s.2.1=0
 case neg=>exact ZP (xR (Xs h0 (zZ eq rfl))) ⟨rfl,by rw[decide_eq_false h0];rfl⟩
 refine zO (XM (Y2 (λz=>z h0) (zZ eq rfl))) ?_
 rw[decide_eq_true h0,Bool.true_and]
 refine Xy rfl rfl (yo (λi ρ=>Wv (m.take i) (wD m)/\∃ j,ρ=[.fz (eM m),j]) ⟨rfl,_,rfl⟩ ?_ ?_)
 ·rintro i v ρ hv ⟨hall,j,rfl⟩
  have hvm:v ∈ m:=List.mem_of_getElem? hv
  refine⟨[.fz (eM m),.fz (eSt v)],rfl,Xz (xs:=[eM m,eSt v]) rfl ?_⟩
  refine (vL A m v (hs v hvm)).mono (λd hd=>?_) λc hc=>?_
  ·exact⟨X3 hv hall hd.2,_,rfl⟩
  ·exact⟨hc.1,List.all_eq_false.mpr ⟨v,hvm,by rw[hc.2];decide⟩⟩
 ·rintro ρ ⟨hall,j,rfl⟩
  exact⟨rfl,Wc hall⟩
theorem WK:∀ l:List Int,(zl l).length<=l.length
 |[]=>Nat.le_refl _
 |a::r=>by
  unfold zl
  have:=List.length_filter_le (· != a) (zl r)
  have:=WK r
  simp;omega
theorem WL:∀ (l:List Int) (x:Int),x ∈ l->x ∈ zl l
 |a::r,x,h=>by
  unfold zl
  by_cases e:x=a
  ·subst e;exact List.mem_cons_self
  ·refine List.mem_cons_of_mem _ (List.mem_filter.mpr ⟨WL r x ((List.mem_cons.mp h).resolve_left e),by simpa using e⟩)
theorem XQ:∀ l:List Int,(zl l).length=l.length->l.Nodup
 |[],_=>List.nodup_nil
 |a::r,h=>by
  unfold zl at h
  have h1:=List.length_filter_le (· != a) (zl r)
  have h2:=WK r
  simp at h
  have h3:(zl r).length=r.length:=by omega
  have h4:((zl r).filter (· != a)).length=(zl r).length:=by omega
  refine List.nodup_cons.mpr ⟨λm=>?_,XQ r h3⟩
  have:=(List.length_filter_eq_length_iff.mp h4) a (WL r a m)
  simp at this
theorem XC:∀ l:List Int,l.Nodup->zl l=l
 |[],_=>rfl
 |a::r,h=>by
  obtain⟨h1,h2⟩:=List.nodup_cons.mp h
  unfold zl
  rw[XC r h2,List.filter_eq_self.mpr]
  intro x hx
  have:x≠a:=λe=>h1 (e ▸ hx)
  simpa using this
structure GoodMv (m:List Stt) (most:Int)(v:Mv):Prop where
 t0:0<=v.1
 t1:v.1<m.length
 ln:(v.2.length:Int)=Yc m v.1
 nd:v.2.Nodup
 lo:∀ x ∈ v.2,0<=x
 hi:∀ x ∈ v.2,x<most
structure GoodSt (m:List Stt)(s:Stt):Prop where
 b0:0<=s.2.1
 b6:s.2.1<=6
 ml:s.2.2.length=s.2.1.toNat+1
 mv:∀ (c:Nat)(v:Mv),s.2.2[c]? = some v->GoodMv m (s.2.1+if c=s.2.1.toNat then 1 else 0) v
structure GoodM (m:List Stt):Prop where
 pos:0<m.length
 few:m.length<=400
 zer:Yc m 0=0
 sts:∀ s ∈ m,GoodSt m s
theorem XF {m:List Stt}{most:Int}{v:Mv}:xQ m most v=true ↔ GoodMv m most v:=by
 unfold xQ W1
 simp only[Bool.and_eq_true,decide_eq_true_eq,List.all_eq_true]
 constructor
 ·rintro⟨⟨⟨h1,h2⟩,h3⟩,h4,h5⟩
  exact⟨h1,h2,h3,XQ _ h4,λx hx=>(h5 x hx).1,λx hx=>(h5 x hx).2⟩
 ·rintro⟨h1,h2,h3,h4,h5,h6⟩
  exact⟨⟨⟨h1,h2⟩,h3⟩,by rw[XC _ h4],λx hx=>⟨h5 x hx,h6 x hx⟩⟩
theorem vv {m:List Stt}{s:Stt}:wD m s=true ↔ GoodSt m s:=by
 unfold wD
 simp only[Bool.and_eq_true,decide_eq_true_eq,List.all_eq_true]
 constructor
 ·rintro⟨⟨⟨⟨h1,h2⟩,h3⟩,h4⟩,h5⟩
  have hb:s.2.1.toNat<s.2.2.length:=by omega
  have hbl:=List.getElem?_eq_getElem hb
  rw[hbl]at h5
  refine⟨h1,h2,by omega,λc v hv=>?_⟩
  have hc:=(List.getElem?_eq_some_iff.mp hv).1
  by_cases e:c=s.2.1.toNat
  ·subst e
   rw[hbl]at hv
   cases hv
   rw[if_pos rfl]
   exact XF.mp h5
  ·rw[if_neg e,Int.add_zero]
   refine XF.mp (h4 v (List.mem_iff_getElem?.mpr ⟨c,?_⟩))
   rw[List.getElem?_take,if_pos (by omega),hv]
 ·rintro⟨h1,h2,h3,h4⟩
  have hb:s.2.1.toNat<s.2.2.length:=by omega
  have hbl:=List.getElem?_eq_getElem hb
  refine⟨⟨⟨⟨h1,h2⟩,by omega⟩,λv hv=>?_⟩,?_⟩
  ·obtain⟨c,hc⟩:=List.mem_iff_getElem?.mp hv
   rw[List.getElem?_take]at hc
   split at hc
   ·rename_i hlt
    have:=h4 c v hc
    rw[if_neg (by omega),Int.add_zero]at this
    exact XF.mpr this
   ·cases hc
  ·rw[hbl]
   have:=h4 _ _ hbl
   rw[if_pos rfl]at this
   exact XF.mpr this
theorem YJ {m:List Stt}:yQ m=true ↔ GoodM m:=by
 unfold yQ
 simp only[Bool.and_eq_true,decide_eq_true_eq,List.all_eq_true]
 constructor
 ·rintro⟨⟨⟨h1,h2⟩,h3⟩,h4⟩
  exact⟨h1,h2,h3,λs hs=>vv.mp (h4 s hs)⟩
 ·rintro⟨h1,h2,h3,h4⟩
  exact⟨⟨⟨h1,h2⟩,h3⟩,λs hs=>vv.mpr (h4 s hs)⟩
theorem WV {m:List Stt}{g:Int}{s:Stt}(h:m[g.toNat]? = some s):Yc m g=s.2.1:=by unfold Yc;rw[h];rfl
theorem VD (l:List Int):D.plains (l.map .int)=true:=by
 induction l with
 |nil=>simp[D.plains]
 |cons a r ih=>simp[D.plains,D.plain,ih]
theorem uE (l:List Int):D.deeps (l.map .int)=0:=by
 induction l with
 |nil=>simp[D.deeps]
 |cons a r ih=>simp[D.deeps,D.deep,ih]
theorem Uz {m:List Stt}(hm:GoodM m)(hs:We m)(A:Cls):zQ A [eM m]=.ok .non:=by
 have:=Yi A m hs
 rw[YJ.mpr hm]at this
 exact FR.ok_of (this.mono (λd h=>h.1) λc h=>by cases h.2)
theorem vh (mx:Nat->Nat) (k most:Nat):(gM mx k most).length=(zi mx k most).length:=by simp[gM]
theorem jf (mx:Nat->Nat) (k most s:Nat)(h:s<(zi mx k most).length):(gM mx k most)[s]? = some (z6 mx k (zi mx k most) s):=by
 unfold gM
 rw[List.getElem?_map,List.getElem?_range h]
 rfl
theorem qW {l:List Nat}(h:l.Nodup):(zs l).Nodup:=by
 unfold zs
 refine List.pairwise_map.mpr (h.imp λh e=>h (by omega))
theorem ul (mx:Nat->Nat) (k most:Nat)(h:0<most)(h1:most<=100):GoodM (gM mx k most):=by
 have hl:=xm mx k most h
 refine⟨by rw[vh];exact hl.2,by rw[vh];omega,?_,λs hs=>?_⟩
 ·rw[WV (g:=0) (jf mx k most 0 hl.2)]
  simp[z6,zi,nth]
 ·obtain⟨i,hi,rfl⟩:=List.mem_map.mp hs
  have hi:i<(zi mx k most).length:=by simpa using hi
  have hb:=Xw mx k most i
  refine⟨by simp[z6],by simp[z6];omega,by simp[z6],λc v hv=>?_⟩
  have hc:c<nth (zi mx k most) i+1:=by have:=(List.getElem?_eq_some_iff.mp hv).1;simpa[z6] using this
  simp only[z6]at hv
  rw[List.getElem?_map,List.getElem?_range hc]at hv
  cases hv
  have hg:=vB mx k most i c
  obtain⟨g1,g2⟩:=xl.mp hg
  obtain⟨s1,s2,s3⟩:=QU mx (k+40+9 * i+3 * c) _ _ g2
  have hfar:((wJ (zi mx k most) i c:Nat):Int)=(z6 mx k (zi mx k most) i).2.1+if c=(z6 mx k (zi mx k most) i).2.1.toNat then 1 else 0:=by
   simp[wJ,z6]
   by_cases q:c=nth (zi mx k most) i<;>simp[q]
  refine⟨by simp[yv],by rw[vh];simp[yv];exact g1,?_,qW s2,λx hx=>?_,λx hx=>?_⟩
  ·rw[WV (g:=(yv mx k (zi mx k most) i c).1) (s:=z6 mx k (zi mx k most) (gGoal mx k (zi mx k most) i c)) (by simp only[yv,Int.toNat_natCast];exact jf mx k most _ g1)]
   simp[yv,z6,zs,uk,s1]
  ·obtain⟨y,_,rfl⟩:=List.mem_map.mp hx
   omega
  ·obtain⟨y,hy,rfl⟩:=List.mem_map.mp hx
   rw[<-hfar]
   have:=s3 y hy
   omega
structure Cls.Ok (A:Cls):Prop where
 t:A.bm≠A.bt
 w:A.bm≠A.bw
 m:A.bm≠A.tm
 tw:A.bt≠A.bw
 tm:A.bt≠A.tm
 wm:A.bw≠A.tm
theorem yI {f:Addr->Option Bool}{c:Addr}{b:Bool}(h:f c=some b):Z6 f (.exc c)=some (.bl b):=by simp[Z6,h]
theorem vP {A:Cls}(h:A.Ok):zh A [.exc A.bm]=.ok (.str "machine"):=by
 refine ZL ?_
 unfold y8 ZS
 have i1:Z6 (A.is A.bm) (.exc A.bm)=some (.bl true):=yI (by simp[Cls.is,Cls.all])
 have i2:Z6 (A.is A.bt) (.exc A.bm)=some (.bl false):=yI (by simp[Cls.is,Cls.all,h.t])
 have i3:Z6 (A.is A.bw) (.exc A.bm)=some (.bl false):=yI (by simp[Cls.is,Cls.all,h.w])
 have i4:Z6 (A.is A.tm) (.exc A.bm)=some (.bl false):=yI (by simp[Cls.is,Cls.all,h.m])
 have i5:Z6 A.isVE (.exc A.bm)=some (.bl true):=yI (by simp[Cls.isVE,Cls.all])
 have c1:Y8 (.lst [.bl true,.bl false,.bl false,.bl false]) (.bl true)=some (.int 1):=by simp[Y8,D.plain,D.plains,D.deeps,D.deep,D.eqv]
 have c2:Y4 (.lst [.bl true,.bl false,.bl false,.bl false]) (.bl true)=some (.int 0):=by simp[Y4,D.items?,D.plain,D.plains,D.deeps,D.deep,VU,List.findIdx?_cons,D.eqv]
 simp[YA,i1,i2,i3,i4,i5,c1,c2]
theorem Uq {A:Cls}{m:List Stt}(hs:We m)(h:yQ m=false):zQ A [eM m]=.exn A.bm:=by
 have:=Yi A m hs
 rw[h]at this
 exact FR.exn_of (this.mono (λd h=>by cases h.2) λc h=>h.1)
mutual
theorem WM:∀ d:D,d.plain=true->d.eqv d=true
 |.non,_=>by simp[D.eqv]
 |.bl b,_=>by simp[D.eqv]
 |.int b,_=>by simp[D.eqv]
 |.str b,_=>by simp[D.eqv]
 |.tup l,h=>by simp only[D.eqv];exact X0 l (by simpa[D.plain] using h)
 |.lst l,h=>by simp only[D.eqv];exact X0 l (by simpa[D.plain] using h)
 |.exc c,h=>by simp[D.plain]at h
 |.dct a b,h=>by simp[D.plain]at h
theorem X0:∀ l:List D,D.plains l=true->D.eqvs l l=true
 |[],_=>by simp[D.eqvs]
 |a::r,h=>by
  simp only[D.plains,Bool.and_eq_true]at h
  simp only[D.eqvs,Bool.and_eq_true]
  exact⟨WM a h.1,X0 r h.2⟩
end
theorem jJ (d:D)(h:d.plain=true)(h2:d.deep<=30):eqD d d=some (.bl true):=by simp[eqD,h,h2,WM d h]
theorem uZ (d:D)(h:d.plain=true)(h2:d.deep<=30):neD d d=some (.bl false):=by simp[neD,h,h2,WM d h]
theorem WZ {i:Nat}{e:M D}{ρ:Rho}{ds:List D}{x:D}(ho:zn ρ[i]? = some ds)(he:e ρ=.ok x ρ)(hs:ds.length<16777216):zr i e ρ=.ok .nx (ρ.set i (.own (ds++[x]))):=by
 unfold zr
 rw[ho]
 show (e ρ).bnd _=_
 rw[he]
 show (z8 (zn ρ[i]?) ρ).bnd _=_
 rw[ho]
 show (if ds.length<sizeLine then _ else _)=_
 rw[if_pos (by rw[sizeLine_eq];exact hs)]
theorem Xb {i:Nat}{e:M D}{ρ ρ':Rho}{x:D}(he:e ρ=.ok x ρ'):ZE i e ρ=.ok .nx (ρ'.set i (.fz x)):=by
 unfold ZE
 rw[he]
 rfl
theorem ZB {F:List D->FR}{as:List (M D)}{ρ ρ':Rho}{xs:List D}{d:D}(ha:za as ρ=.ok xs ρ')(h:F xs=.ok d):zH F as ρ=.ok d ρ':=by
 unfold zH
 rw[ha]
 show (F xs).to ρ'=_
 rw[h]
 rfl
theorem Vq {s t:M Fl}{ρ ρ':Rho}(e:s ρ=.ok .nx ρ'):zL s t ρ=t ρ':=by unfold zL;rw[e];rfl
theorem yB {e:M D}{ρ ρ':Rho}{x:D}(he:e ρ=.ok x ρ'):ZW e ρ=.ok (.ret x) ρ':=by
 unfold ZW
 rw[he]
 rfl
theorem ut {e:M D}{ρ ρ':Rho}{x:D}(he:e ρ=.ok x ρ'):Zq e ρ=.ok .nx ρ':=by
 unfold Zq
 rw[he]
 rfl
theorem u0 (a b:List D)(h:a.length+b.length<=16777216):zk (.lst a) (.lst b)=some (.lst (a++b)):=by
 show (if a.length+b.length<=sizeLine then _ else _)=_
 rw[sizeLine_eq,if_pos h]
theorem Wg {m:List Stt}(hm:GoodM m):We m:=by
 intro s hs v hv
 obtain⟨c,hc⟩:=List.getElem?_of_mem hv
 have g:=(hm.sts s hs).mv c v hc
 have:=g.ln
 have ht:v.1.toNat<m.length:=by have:=g.t0;have:=g.t1;omega
 rw[WV (List.getElem?_eq_getElem ht)]at this
 have:=(hm.sts _ (List.getElem_mem ht)).b6
 omega
theorem jH {a:M D}{g:GM}{b:M Fl}{ρ ρ':Rho}{n:Nat}{R:Fl->Rho->Prop}{X:Addr->Prop}(e:a ρ=.ok (dn n) ρ')(h:n<1000000)(hw:(zY g b (yu n) ρ').wp R X):(WI a g b ρ).wp R X:=by
 rw[p_forR,e,p_ok]
 unfold dn
 rw[s_range _ (by omega),oP_some,Int.toNat_natCast]
 exact hw
theorem uK (bs:List Bool):WW (bs.map .bl)=some bs:=by
 induction bs with
 |nil=>rfl
 |cons a r ih=>simp[WW,ih]
theorem QI (bs:List Bool):Vg (.lst (bs.map .bl))=some (.bl (bs.all id)):=by simp[Vg,uK]
theorem JN {c:M Bool}{ρ ρ':Rho}{b:Bool}(h:c ρ=.ok b ρ'):Wp c ρ=.ok (!b) ρ':=by
 unfold Wp
 rw[h]
 rfl
theorem QE {f:List D->Option D}{as:List (M D)}{ρ ρ':Rho}{xs:List D}{d:D}(ha:za as ρ=.ok xs ρ')(h:f xs=some d):zN f as ρ=.ok d ρ':=by
 unfold zN
 rw[ha]
 show z8 (f xs) ρ'=_
 rw[h]
 rfl
theorem Zd {f:D->Option D}{a:M D}{ρ ρ':Rho}{x d:D}(ha:a ρ=.ok x ρ')(h:f x=some d):zN (zX f) [a] ρ=.ok d ρ':=QE (xs:=[x]) (zT ha (by rfl)) h
end PM
namespace PM
open PySem PySem.StrLaws PySem.Builtin PySem.Builtin.Str
noncomputable abbrev sL (x:Str):List Nat:=x.cps.toList
theorem Vo {x y:Str}(h:sL x=sL y):x=y:=Str.ext' (Array.toList_inj.mp h)
theorem Zw (x y:Str):sL (x++y)=sL x++sL y:=by show (x.cps++y.cps).toList=_;rw[Array.toList_append]
theorem Z1 (x:Str):(sL x).length=x.length:=Array.length_toList
theorem join_one (y p:Str):Str.join y [p]=p:=rfl
theorem XL (y p q:Str)(r:List Str):Str.join y (p::q::r)=p++y++Str.join y (q::r):=rfl
theorem uw {x y:Str}{c:Nat}{tl:List Nat}{i:Nat}(hy:sL y=c::tl)(h:At x y x.length i):(sL x)[i]? = some c:=by
 have h2:=h.2
 rw[subAt_eq]at h2
 have e:(List.drop i (sL x)).take y.length=c::tl:=(eq_of_beq h2).trans hy
 have e0:((List.drop i (sL x)).take y.length)[0]? = some c:=by rw[e];rfl
 have hl:0<y.length:=by rw[<-Z1,hy];exact Nat.succ_pos _
 rw[List.getElem?_take_of_lt hl,List.getElem?_drop]at e0
 exact e0
theorem Jj {x y:Str}{pre rest:List Nat}(h:sL x=pre++(sL y++rest)):At x y x.length pre.length:=by
 refine⟨?_,?_⟩
 ·rw[<-Z1 x,h,<-Z1 y];simp only[List.length_append];omega
 ·rw[subAt_eq,beq_iff_eq]
  show (List.drop pre.length (sL x)).take y.length=sL y
  rw[h,List.drop_left,<-Z1 y,List.take_left]
theorem VG {x y:Str}{c:Nat}{tl:List Nat}(hy:sL y=c::tl)(ht:c ∉ tl):∀ (ps:List Str) (p:Str)(pre:List Nat)(cuts:List Nat) (f:Nat),(∀ q ∈ p::ps,c ∉ sL q)->sL x=pre++sL (Str.join y (p::ps)) ->
  ChainG x y x.length pre.length cuts f->(∀ k,f<=k->¬ At x y x.length k)->partsFrom x y.length pre.length cuts=p::ps
 |[],p,pre,cuts,f,hf,hx,hG,hn=>by
  have hp:=hf p (List.mem_cons_self ..)
  have hxx:sL x=pre++sL p:=hx
  cases cuts with
  |nil=>
   show [strSub x pre.length x.length]=[p]
   refine congrArg (λz=>[z]) (Vo ?_)
   show (strSub x pre.length x.length).cps.toList=sL p
   rw[strSub_toList]
   show ((sL x).drop pre.length).take _=_
   rw[hxx,List.drop_left]
   exact List.take_of_length_le (by rw[<-Z1 x,hxx];simp only[List.length_append];omega)
  |cons k r=>
   exfalso
   obtain⟨h1,h2,_,_⟩:=hG
   have:=uw hy h2
   rw[hxx,List.getElem?_append_right h1]at this
   exact hp (List.mem_of_getElem? this)
 |q::ps,p,pre,cuts,f,hf,hx,hG,hn=>by
  have hp:=hf p (List.mem_cons_self ..)
  have hxx:sL x=(pre++sL p)++(sL y++sL (Str.join y (q::ps))):=by
   rw[hx,XL,Zw,Zw];simp only[List.append_assoc]
  have hA:=Jj hxx
  cases cuts with
  |nil=>
   exfalso
   have e:f=pre.length:=hG
   exact hn _ (by rw[e];simp) hA
  |cons k r=>
   obtain⟨h1,h2,h3,h4⟩:=hG
   have hk:=uw hy h2
   have ek:k=(pre++sL p).length:=by
    by_cases hlt:k<(pre++sL p).length
    ·exfalso
     rw[hxx,List.getElem?_append_left hlt,List.getElem?_append_right h1]at hk
     exact hp (List.mem_of_getElem? hk)
    ·by_cases hgt:(pre++sL p).length<k
     ·exact absurd hA (h3 _ (by simp) hgt)
     ·omega
   show strSub x pre.length k::partsFrom x y.length (k+y.length) r=p::q::ps
   have e1:strSub x pre.length k=p:=by
    refine Vo ?_
    show (strSub x pre.length k).cps.toList=_
    rw[strSub_toList]
    show ((sL x).drop pre.length).take _=_
    rw[hxx,ek,List.append_assoc,List.drop_left,List.length_append,Nat.add_sub_cancel_left,List.take_left]
   have e2:k+y.length=(pre++sL p++sL y).length:=by rw[ek,List.length_append (as:=pre++sL p),Z1 y]
   rw[e1,e2]
   refine congrArg (p :: ·) (VG hy ht ps q (pre++sL p++sL y) r f (λz hz=>hf z (List.mem_cons_of_mem _ hz)) ?_ (e2 ▸ h4) hn)
   rw[hxx];simp only[List.append_assoc]
theorem jC {x y:Str}(h:sL y≠[])(ha:∀ c ∈ sL y,c<128):¬ PySem.Builtin.Str.strKind x<PySem.Builtin.Str.strKind y:=by
 have:PySem.Builtin.Str.strKind y=1:=by
  unfold PySem.Builtin.Str.strKind
  rw[if_pos]
  rw[<-Array.all_toList,List.all_eq_true]
  exact λc hc=>decide_eq_true (Nat.lt_of_lt_of_le (ha c hc) (by decide))
 rw[this]
 unfold PySem.Builtin.Str.strKind
 split
 ·decide
 ·split<;>decide
theorem xf {y:Str}{c:Nat}{tl:List Nat}(hy:sL y=c::tl)(ht:c ∉ tl)(ha:∀ c ∈ sL y,c<128){p:Str}{ps:List Str}(hf:∀ q ∈ p::ps,c ∉ sL q):Txt.split (Str.join y (p::ps)) y=p::ps:=by
 have hw:1<=y.length:=by rw[<-Z1,hy];exact Nat.succ_pos _
 obtain⟨f,hG,hn⟩:=occ_tight (Str.join y (p::ps)) y hw
 have key:=VG (x:=Str.join y (p::ps)) hy ht ps p [] _ f hf rfl hG hn
 have key':partsFrom (Str.join y (p::ps)) y.length 0 (occurrences (Str.join y (p::ps)) y 0 (Str.join y (p::ps)).length ((Str.join y (p::ps)).length+1))=p::ps:=key
 unfold Txt.split
 split
 ·rename_i hc
  rw[Bool.or_eq_true,decide_eq_true_eq,decide_eq_true_eq]at hc
  rcases hc with h | h
  ·cases ps with
   |nil=>rfl
   |cons q r=>
    exfalso
    rw[XL,Str.length_append,Str.length_append]at h
    omega
  ·exact absurd h (jC (by rw[hy];exact List.cons_ne_nil _ _) ha)
 ·split
  ·rename_i he
   have e0:=List.isEmpty_iff.mp he
   rw[e0]at key'
   have k2:[strSub (Str.join y (p::ps)) 0 (Str.join y (p::ps)).length]=p::ps:=key'
   rw[sub_whole]at k2
   exact k2
  ·rw[partsBetween_eq];exact key'
theorem YC (x y:Str):∃ p ps,Txt.split x y=p::ps:=by
 unfold Txt.split
 split
 ·exact⟨_,_,rfl⟩
 ·split
  ·exact⟨_,_,rfl⟩
  ·rw[partsBetween_eq];exact partsFrom_ne _ _ _ _
theorem Zv (x y:Str):(Txt.split x y).length<=x.length+2/\(partsBetween x (occurrences x y 0 x.length (x.length+1)) y.length).length<=x.length+2:=by
 have pl:∀ (cuts:List Nat) (a:Nat),(partsFrom x y.length a cuts).length=cuts.length+1:=λcuts=>by
  induction cuts with
  |nil=>exact λ_=>rfl
  |cons c r ih=>exact λa=>congrArg (· + 1) (ih _)
 have h:=occ_length_le x y 0 x.length (x.length+1)
 have hp:(partsBetween x (occurrences x y 0 x.length (x.length+1)) y.length).length<=x.length+2:=by rw[partsBetween_eq,pl];omega
 refine⟨?_,hp⟩
 unfold Txt.split
 split
 ·show 1<=_;omega
 ·split
  ·show 1<=_;omega
  ·exact hp
theorem US {x y p:Str}(h:p ∈ Txt.split x y):∀ c ∈ sL p,c ∈ sL x:=by
 have hs:∀ (a b:Nat) c,c ∈ sL (strSub x a b)->c ∈ sL x:=λa b c hc=>by
  have hc':c ∈ (strSub x a b).cps.toList:=hc
  rw[strSub_toList]at hc'
  exact List.mem_of_mem_drop (List.mem_of_mem_take hc')
 have hp:∀ (cuts:List Nat) (a:Nat),p ∈ partsFrom x y.length a cuts->∀ c ∈ sL p,c ∈ sL x:=λcuts=>by
  induction cuts with
  |nil=>
   intro a h c hc
   rw[List.mem_singleton.mp h]at hc
   exact hs _ _ c hc
  |cons k r ih=>
   intro a h c hc
   rcases List.mem_cons.mp h with e | e
   ·rw[e]at hc;exact hs _ _ c hc
   ·exact ih _ e c hc
 unfold Txt.split at h
 split at h
 ·rw[List.mem_singleton.mp h];exact λc hc=>hc
 ·split at h
  ·rw[List.mem_singleton.mp h];exact λc hc=>hc
  ·rw[partsBetween_eq]at h;exact hp _ _ h
theorem zu {x y p:Str}(h:p ∈ Txt.split x y):p.length<=x.length:=by
 have hs:∀ (a b:Nat),(strSub x a b).length<=x.length:=λa b=>by
  rw[<-Z1,<-Z1]
  show (strSub x a b).cps.toList.length<=_
  rw[strSub_toList,List.length_take,List.length_drop]
  exact Nat.le_trans (Nat.min_le_right _ _) (Nat.sub_le _ _)
 have hp:∀ (cuts:List Nat) (a:Nat),p ∈ partsFrom x y.length a cuts->p.length<=x.length:=λcuts=>by
  induction cuts with
  |nil=>intro a h;rw[List.mem_singleton.mp h];exact hs _ _
  |cons k r ih=>
   intro a h
   rcases List.mem_cons.mp h with e | e
   ·rw[e];exact hs _ _
   ·exact ih _ e
 unfold Txt.split at h
 split at h
 ·rw[List.mem_singleton.mp h];exact Nat.le_refl _
 ·split at h
  ·rw[List.mem_singleton.mp h];exact Nat.le_refl _
  ·rw[partsBetween_eq]at h;exact hp _ _ h
end PM
namespace PM
open PySem PySem.StrLaws PyProof.Rows
noncomputable abbrev nl:Str:="\n"
noncomputable abbrev sm:Str:="; "
noncomputable abbrev sp:Str:=" "
noncomputable abbrev yes:Str:="yes"
noncomputable abbrev no:Str:="no"
noncomputable abbrev wN (n:Int):Str:=Str.ofString (toString n)
noncomputable def yn (b:Bool):Str:=if b then yes else no
noncomputable def wMv (v:Mv):Str:=Str.join sp (wN v.1::v.2.map wN)
noncomputable def wSt (s:Stt):Str:=Str.join sm (yn s.1::s.2.2.map wMv)
noncomputable def wr (m:List Stt):Str:=Str.join nl (m.map wSt)
noncomputable def zc {α β:Type}(f:α->Option β):List α->Option (List β)
 |[]=>some []
 |a::r=>match f a with
  |none=>none
  |some b=>match zc f r with
   |none=>none
   |some bs=>some (b::bs)
noncomputable def J4:Option (List Int)->Option Mv
 |some (n::ns)=>some (n,ns)
 |_=>none
noncomputable def U6 (p:Str)(ms:List Mv):Stt:=(p == yes,(ms.length:Int) - 1,ms)
noncomputable def rMv (x:Str):Option Mv:=J4 (zc PySem.intText? (Txt.split x sp))
noncomputable def rSt (x:Str):Option Stt:=match Txt.split x sm with
 |p::ps=>(zc rMv ps).map (U6 p)
 |[]=>none
noncomputable def rd (x:Str):Option (List Stt):=zc rSt (Txt.split x nl)
noncomputable def Z7 (x:Str):Bool:=(sL x).all λc=>decide (48<=c) && decide (c<=57)
noncomputable def tN (x:Str):Option Int:=if x≠Str.ofString ""/\x.length<=3/\Z7 x=true then (match PySem.intText? x with | some n=>if wN n=x then some n else none | none=>none) else none
noncomputable def tMv (x:Str):Option Mv:=J4 (zc tN (Txt.split x sp))
noncomputable def tSt (x:Str):Option Stt:=match Txt.split x sm with
 |p::ps=>if p=yes\/p=no then (match zc tMv ps with | some (v::vs)=>some (U6 p (v::vs)) | _=>none) else none
 |[]=>none
noncomputable def tr (x:Str):Option (List Stt):=zc tSt (Txt.split x nl)
section
variable {α β:Type}{f g:α->Option β}{w:β->α}
theorem wS (h:∀ a b,f a=some b->g a=some b):∀ {l:List α}{bs:List β},zc f l=some bs->zc g l=some bs
 |[],_,e=>e
 |a::r,bs,e=>by
  unfold zc at e ⊢
  cases q:f a with
  |none=>rw[q]at e;cases e
  |some b=>
   rw[q]at e
   rw[h a b q]
   cases q2:zc f r with
   |none=>rw[q2]at e;cases e
   |some bs'=>rw[q2]at e;rw[wS h q2];exact e
theorem xI (h:∀ a b,f a=some b->w b=a):∀ {l:List α}{bs:List β},zc f l=some bs->bs.map w=l
 |[],_,e=>by cases e;rfl
 |a::r,bs,e=>by
  unfold zc at e
  cases q:f a with
  |none=>rw[q]at e;cases e
  |some b=>
   rw[q]at e
   cases q2:zc f r with
   |none=>rw[q2]at e;cases e
   |some bs'=>
    rw[q2]at e
    cases e
    rw[List.map_cons,h a b q,xI h q2]
theorem XJ:∀ {bs:List β},(∀ b ∈ bs,f (w b)=some b)->zc f (bs.map w)=some bs
 |[],_=>rfl
 |b::bs,h=>by
  rw[List.map_cons]
  unfold zc
  rw[h b (List.mem_cons_self ..),XJ λc hc=>h c (List.mem_cons_of_mem _ hc)]
end
theorem U2 {x:Str}{n:Int}(h:tN x=some n):PySem.intText? x=some n/\wN n=x:=by
 unfold tN at h
 split at h
 ·cases q:PySem.intText? x with
  |none=>rw[q]at h;cases h
  |some k=>
   rw[q]at h
   dsimp only at h
   split at h
   ·cases h;exact⟨rfl,by assumption⟩
   ·cases h
 ·cases h
theorem U3 {x:Str}{v:Mv}(h:tMv x=some v):rMv x=some v/\wMv v=x:=by
 unfold tMv at h
 cases q:zc tN (Txt.split x sp) with
 |none=>rw[q]at h;cases h
 |some l=>
  rw[q]at h
  cases l with
  |nil=>cases h
  |cons n ns=>
   cases h
   refine⟨?_,?_⟩
   ·unfold rMv;rw[wS (λa b e=>(U2 e).1) q];rfl
   ·show Str.join sp ((n::ns).map wN)=x
    rw[xI (λa b e=>(U2 e).2) q,join_split]
theorem Jl {p:Str}(h:p=yes\/p=no):yn (p == yes)=p:=by
 rcases h with rfl | rfl
 ·rfl
 ·have:((no:Str) == yes)=false:=by decide
  rw[this];rfl
theorem U0 {x:Str}{s:Stt}(h:tSt x=some s):rSt x=some s/\wSt s=x:=by
 unfold tSt at h
 obtain⟨p,ps,e⟩:=YC x sm
 rw[e]at h
 dsimp only at h
 split at h
 ·rename_i hp
  cases q:zc tMv ps with
  |none=>rw[q]at h;cases h
  |some l=>
   rw[q]at h
   cases l with
   |nil=>cases h
   |cons v vs=>
    cases h
    refine⟨?_,?_⟩
    ·unfold rSt;rw[e];dsimp only;rw[wS (λa b e=>(U3 e).1) q];rfl
    ·show Str.join sm (yn (p == yes)::(v::vs).map wMv)=x
     rw[xI (λa b e=>(U3 e).2) q,Jl hp,<-e,join_split]
 ·cases h
theorem Ux {x:Str}{m:List Stt}(h:tr x=some m):rd x=some m/\wr m=x:=by
 unfold tr at h
 refine⟨wS (λa b e=>(U0 e).1) h,?_⟩
 show Str.join nl (m.map wSt)=x
 rw[xI (λa b e=>(U0 e).2) h,join_split]
theorem Yj {n:Int}(h0:0<=n):∀ c ∈ sL (wN n),48<=c/\c<=57:=by
 obtain⟨m,rfl⟩:=Int.eq_ofNat_of_zero_le h0
 intro c hc
 have hc':c ∈ (PySem.Str.ofString (toString ((m:Nat):Int))).cps.toList:=hc
 rw[PySem.W.KIN.signs_num]at hc'
 obtain⟨ch,hch,e⟩:=List.mem_map.mp hc'
 rw[<-e]
 exact digit_range (Nat.isDigit_of_mem_toDigits (by decide) (by decide) hch)
theorem Vj {n:Int}(h0:0<=n)(h1:n<1000):(wN n).length<=3:=toString_length_le h0 (by decide) h1
theorem Jm {n:Int}(h0:0<=n):wN n≠Str.ofString "":=λe=>by
 obtain⟨m,rfl⟩:=Int.eq_ofNat_of_zero_le h0
 have h:(Nat.toDigits 10 m).map Char.toNat=[]:=by rw[<-PySem.W.KIN.signs_num];show sL (wN _)=_;rw[e];rfl
 have h2:=PySem.toDigits_len_ge 10 m
 rw[List.map_eq_nil_iff.mp h]at h2
 exact absurd h2 (by decide)
theorem jV {n:Int}(h0:0<=n)(h1:n<1000):tN (wN n)=some n:=by
 unfold tN
 have hd:Z7 (wN n)=true:=by
  unfold Z7
  rw[List.all_eq_true]
  intro c hc
  have:=Yj h0 c hc
  rw[Bool.and_eq_true,decide_eq_true_eq,decide_eq_true_eq]
  exact this
 rw[if_pos ⟨Jm h0,Vj h0 h1,hd⟩,PySem.W.KIN.num_reads h0 (by omega)]
 exact if_pos rfl
structure MvS (v:Mv):Prop where
 g0:0<=v.1
 g1:v.1<1000
 s0:∀ x ∈ v.2,0<=x
 s1:∀ x ∈ v.2,x<1000
 sl:v.2.length<=6
structure StS (s:Stt):Prop where
 ne:s.2.2≠[]
 b:s.2.1=(s.2.2.length:Int) - 1
 mv:∀ v ∈ s.2.2,MvS v
 ml:s.2.2.length<=7
theorem Y5 {m:List Stt}(hm:GoodM m):∀ s ∈ m,StS s:=λs hs=>by
 have g:=hm.sts s hs
 have few:=hm.few
 refine⟨λe=>(by have:=g.ml;rw[e]at this;cases this),(by have:=g.ml;have:=g.b0;omega),λv hv=>?_,(by have:=g.ml;have:=g.b6;omega)⟩
 obtain⟨c,hc⟩:=List.mem_iff_getElem?.mp hv
 have gv:=g.mv c v hc
 have b6:=g.b6
 have hi:∀ x ∈ v.2,x<1000:=λx hx=>by have:=gv.hi x hx;split at this<;>omega
 refine⟨gv.t0,(by have:=gv.t1;omega),gv.lo,hi,?_⟩
 have hb:Yc m v.1<=6:=by
  unfold Yc
  cases q:m[v.1.toNat]? with
  |none=>decide
  |some s'=>exact (hm.sts s' (List.mem_of_getElem? q)).b6
 have:=gv.ln
 omega
theorem xL {c:Nat}{y:Str}(hy:c ∉ sL y):∀ {l:List Str},(∀ p ∈ l,c ∉ sL p)->c ∉ sL (Str.join y l)
 |[],_=>λh=>by cases h
 |[p],h=>h p (List.mem_cons_self ..)
 |p::q::r,h=>by
  rw[XL,Zw,Zw]
  intro hc
  rcases List.mem_append.mp hc with hc | hc
  ·rcases List.mem_append.mp hc with hc | hc
   ·exact h p (List.mem_cons_self ..) hc
   ·exact hy hc
  ·exact xL hy (λz hz=>h z (List.mem_cons_of_mem _ hz)) hc
theorem uq {c:Nat}(h:c<48){n:Int}(h0:0<=n):c ∉ sL (wN n):=λhc=>by have:=Yj h0 c hc;omega
theorem qy {c:Nat}(h:57<c){n:Int}(h0:0<=n):c ∉ sL (wN n):=λhc=>by have:=Yj h0 c hc;omega
theorem XD {v:Mv}(h:MvS v):∀ p ∈ wN v.1::v.2.map wN,∃ n:Int,0<=n/\p=wN n:=λp hp=>by
 rcases List.mem_cons.mp hp with e | e
 ·exact⟨v.1,h.g0,e⟩
 ·obtain⟨n,hn,rfl⟩:=List.mem_map.mp e;exact⟨n,h.s0 n hn,rfl⟩
theorem QT {v:Mv}(h:MvS v):tMv (wMv v)=some v:=by
 unfold tMv wMv
 rw[xf (y:=sp) (c:=32) (tl:=[]) rfl (by decide) (by decide) λq hq=>by obtain⟨n,hn,rfl⟩:=XD h q hq;exact uq (by decide) hn]
 have:=XJ (f:=tN) (w:=wN) (bs:=v.1::v.2) λb hb=>by
  rcases List.mem_cons.mp hb with e | e
  ·rw[e];exact jV h.g0 h.g1
  ·exact jV (h.s0 b e) (h.s1 b e)
 rw[List.map_cons]at this
 rw[this]
 rfl
theorem uo {c:Nat}(h:c<97)(b:Bool):c ∉ sL (yn b):=by
 cases b
 ·intro hc
  have:c ∈ [110,111]:=hc
  simp at this;omega
 ·intro hc
  have:c ∈ [121,101,115]:=hc
  simp at this;omega
theorem vt {s:Stt}(h:StS s):∀ p ∈ yn s.1::s.2.2.map wMv,(59 ∉ sL p/\10 ∉ sL p):=λp hp=>by
 rcases List.mem_cons.mp hp with e | e
 ·rw[e];exact⟨uo (by decide) _,uo (by decide) _⟩
 ·obtain⟨v,hv,rfl⟩:=List.mem_map.mp e
  refine⟨xL (by decide) λq hq=>?_,xL (by decide) λq hq=>?_⟩
  ·obtain⟨n,hn,rfl⟩:=XD (h.mv v hv) q hq;exact qy (by decide) hn
  ·obtain⟨n,hn,rfl⟩:=XD (h.mv v hv) q hq;exact uq (by decide) hn
theorem QS {s:Stt}(h:StS s):tSt (wSt s)=some s:=by
 unfold tSt wSt
 rw[xf (y:=sm) (c:=59) (tl:=[32]) rfl (by decide) (by decide) λq hq=>(vt h q hq).1]
 dsimp only
 have hyn:yn s.1=yes\/yn s.1=no:=by cases s.1;exact .inr rfl;exact .inl rfl
 rw[if_pos hyn,XJ (f:=tMv) (w:=wMv) λb hb=>QT (h.mv b hb)]
 obtain⟨g,b,ms⟩:=s
 have hb:b=(ms.length:Int) - 1:=h.b
 cases ms with
 |nil=>exact absurd rfl h.ne
 |cons v vs=>
  dsimp only
  unfold U6
  have:(yn g == yes)=g:=by cases g<;>decide
  rw[this,hb]
theorem qx {s:Stt}(h:StS s):10 ∉ sL (wSt s):=xL (by decide) λq hq=>(vt h q hq).2
theorem jS {m:List Stt}(hm:GoodM m):tr (wr m)=some m:=by
 have hs:=Y5 hm
 unfold tr wr
 cases m with
 |nil=>exact absurd hm.pos (by decide)
 |cons s r=>
  rw[List.map_cons,xf (y:=nl) (c:=10) (tl:=[]) rfl (by decide) (by decide),<-List.map_cons]
  ·exact XJ λb hb=>QS (hs b hb)
  ·intro q hq
   rw[<-List.map_cons]at hq
   obtain⟨z,hz,rfl⟩:=List.mem_map.mp hq
   exact qx (hs z hz)
end PM
namespace PM
open PySem PySem.StrLaws PyProof.Rows
theorem wb:∀ ys:List Str,xc (ys.map .str)=some ys
 |[]=>rfl
 |y::ys=>by rw[List.map_cons];unfold xc;rw[wb ys];rfl
theorem xK {y:Str}{ys:List Str}(h:(ys.map (·.length)).sum+ys.length * y.length<=16777216):yh (.str y) (.lst (ys.map .str))=some (.str (Str.join y ys)):=by
 unfold yh
 dsimp only
 rw[wb]
 dsimp only
 rw[if_pos h]
 show some (D.str (Builtin.Str.glued y ys))=_
 rw[glued_eq_join]
theorem Zb {f:D->D->Option D}{a b:M D}{ρ ρ1 ρ2:Rho}{x:Str}{y z:D}(ea:a ρ=.ok (.str x) ρ1)(eb:b ρ1=.ok y ρ2)(e:f (.str x) y=some z):Zc f a b ρ=.ok z ρ2:=by
 unfold Zc
 rw[ea,Res.bnd_ok]
 show (Res.ok x ρ1).bnd _=_
 rw[Res.bnd_ok,eb,Res.bnd_ok,e]
 rfl
theorem wL {n:Int}(h0:0<=n)(h1:n<1000):Xa (.int n)=some (.str (wN n)):=by
 unfold Xa
 dsimp only
 rw[if_pos]
 have:n.natAbs<=1000:=by omega
 exact Nat.lt_of_le_of_lt (Nat.log2_le_self _) (by omega)
theorem wT {as:List (M D)}{ρ ρ':Rho}{xs:List D}(e:za as ρ=.ok xs ρ')(h:xs.length<=1000):lstM as ρ=.ok (.lst xs) ρ':=by
 unfold lstM
 rw[e,Res.bnd_ok,if_pos (by rw[sizeLine_eq];omega)]
theorem xw {as:List (M D)}{ρ ρ':Rho}{xs:List D}(e:za as ρ=.ok xs ρ')(h:xs.length<=1000):yA as ρ=.ok (.tup xs) ρ':=by
 unfold yA
 rw[e,Res.bnd_ok,if_pos (by rw[sizeLine_eq];omega)]
theorem Zp {f:D->Option (List D)}{e:M D}{ρ ρ':Rho}{x:D}{ds:List D}(he:e ρ=.ok x ρ')(h:f x=some ds):zS f e ρ=.ok ds ρ':=by
 unfold zS
 rw[he,Res.bnd_ok,h]
 rfl
theorem jP (a b:List D)(h:a.length+b.length<=16777216):zk (.tup a) (.tup b)=some (.tup (a++b)):=by
 show (if a.length+b.length<=sizeLine then _ else _)=_
 rw[sizeLine_eq,if_pos h]
theorem YK {α:Type}{enc out:α->D}{xs:List α}{e:M D}{mi:M (List D)}{ρ ρ':Rho}(hm:mi ρ=.ok (xs.map enc) ρ')(hl:xs.length<=16777216)(h:∀ x ∈ xs,∀ acc,e [.fz (enc x),.own acc]=.ok (out x) [.fz (enc x),.own acc]) :
  Z8 mi 1 [] (zx 0) none e ρ=.ok (.lst (xs.map out)) ρ':=by
 have key:∃ g:D->D,∀ x ∈ xs,g (enc x)=out x:=⟨λd=>match e [.fz d,.own []] with | .ok x _=>x | _=>.non,λx hx=>by dsimp only;rw[h x hx []]⟩
 obtain⟨g,hg⟩:=key
 rw[Va (caps:=[]) (idx:=[]) g hm (by rfl) (by rw[sizeLine_eq,List.length_map];exact hl) (λd hd acc=>by
  obtain⟨x,hx,rfl⟩:=List.mem_map.mp hd
  rw[hg x hx]
  exact h x hx acc),List.map_map]
 exact congrArg (λz=>Res.ok (D.lst z) ρ') (List.map_congr_left λx hx=>hg x hx)
theorem vx {α:Type}{enc out:α->D}{xs:List α}{e:M D}{mi:M (List D)}{ρ ρ':Rho}{i:Nat}(hm:mi ρ=.ok (xs.map enc) ρ')(hl:xs.length<=16777216)(h:∀ x ∈ xs,∀ acc,e [.fz (enc x),.own acc]=.ok (out x) [.fz (enc x),.own acc]) :
  Za false i mi 1 [] (zx 0) none e ρ=.ok .nx (ρ'.set i (.fz (.lst (xs.map out)))):=by
 have key:∃ g:D->D,∀ x ∈ xs,g (enc x)=out x:=⟨λd=>match e [.fz d,.own []] with | .ok x _=>x | _=>.non,λx hx=>by dsimp only;rw[h x hx []]⟩
 obtain⟨g,hg⟩:=key
 rw[vw (caps:=[]) (idx:=[]) g hm (by rfl) (by rw[sizeLine_eq,List.length_map];exact hl) (λd hd acc=>by
  obtain⟨x,hx,rfl⟩:=List.mem_map.mp hd
  rw[hg x hx]
  exact h x hx acc),List.map_map]
 exact congrArg (λz=>Res.ok Fl.nx (ρ'.set i (.fz (.lst z)))) (List.map_congr_left λx hx=>hg x hx)
theorem U4 (B:Nat):∀ {l:List Str},(∀ p ∈ l,p.length<=B)->(l.map (·.length)).sum<=l.length * B
 |[],_=>Nat.zero_le _
 |p::r,h=>by
  have h1:=h p (List.mem_cons_self ..)
  have h2:=U4 B (l:=r) λq hq=>h q (List.mem_cons_of_mem _ hq)
  rw[List.map_cons,List.sum_cons,List.length_cons,Nat.succ_mul]
  omega
theorem YI {y:Str}{l:List Str} (B n:Nat)(h:∀ p ∈ l,p.length<=B)(hn:l.length<=n):(l.map (·.length)).sum+l.length * y.length<=n * (B+y.length)/\(Str.join y l).length<=n * (B+y.length):=by
 have h1:=U4 B h
 have h2:=join_length_le y l
 have h3:l.length * (B+y.length)<=n * (B+y.length):=Nat.mul_le_mul_right _ hn
 rw[Nat.mul_add]at h3
 omega
theorem V1 {v:Mv}(h:MvS v) (k:Nat)(hk:v.2.length<=k):((wN v.1::v.2.map wN).map (·.length)).sum+(wN v.1::v.2.map wN).length * sp.length<=(k+1) * 4/\(wMv v).length<=(k+1) * 4:=
 YI (y:=sp) 3 (k+1) (λp hp=>by
  rcases List.mem_cons.mp hp with e | e
  ·rw[e];exact Vj h.g0 h.g1
  ·obtain⟨n,hn,rfl⟩:=List.mem_map.mp e;exact Vj (h.s0 n hn) (h.s1 n hn)) (by rw[List.length_cons,List.length_map];omega)
theorem Vp {s:Stt}(h:StS s) (k j:Nat)(hk:∀ v ∈ s.2.2,v.2.length<=k)(hj:s.2.2.length<=j):((yn s.1::s.2.2.map wMv).map (·.length)).sum+(yn s.1::s.2.2.map wMv).length * sm.length<=(j+1) * ((k+1) * 4+2)/\(wSt s).length<=(j+1) * ((k+1) * 4+2):=
 YI (y:=sm) ((k+1) * 4) (j+1) (λp hp=>by
  rcases List.mem_cons.mp hp with e | e
  ·rw[e];have:(yn s.1).length<=3:=by cases s.1<;>decide
   omega
  ·obtain⟨v,hv,rfl⟩:=List.mem_map.mp e;exact (V1 (h.mv v hv) k (hk v hv)).2) (by rw[List.length_cons,List.length_map];omega)
theorem wa {v:Mv}(h:MvS v):ZT [eMv v]=.ok (.str (wMv v)):=by
 refine ZL ?_
 show (yg [.fz (eMv v)]).wp _ _
 unfold yg
 have e1:op2 ixD (vM 0) (cM (.int 0)) [.fz (eMv v)]=.ok (.int v.1) [.fz (eMv v)]:=zI (by rfl) (by rfl) (by rfl)
 have e2:op2 ixD (vM 0) (cM (.int 1)) [.fz (eMv v)]=.ok (.tup (v.2.map .int)) [.fz (eMv v)]:=zI (by rfl) (by rfl) (by rfl)
 have e3:op2 zk (yA [op2 ixD (vM 0) (cM (.int 0))]) (op2 ixD (vM 0) (cM (.int 1))) [.fz (eMv v)]=.ok (.tup ([.int v.1]++v.2.map .int)) [.fz (eMv v)]:=zI (xw (zT e1 (by rfl)) (by show 1<=1000;decide)) e2 (jP [.int v.1] _ (by have:=h.sl;simp;omega))
 have e4:=YK (enc:=D.int) (out:=λn=>.str (wN n)) (xs:=v.1::v.2) (e:=zN (zX Xa) [vM 0]) (Zp (f:=xt) e3 (by rfl)) (by have:=h.sl;simp;omega) (λn hn acc=>by
  have hb:0<=n/\n<1000:=by
   rcases List.mem_cons.mp hn with e | e
   ·rw[e];exact⟨h.g0,h.g1⟩
   ·exact⟨h.s0 n e,h.s1 n e⟩
  exact Zd (by rfl) (wL hb.1 hb.2))
 refine zm (yB (Zb (f:=yh) (x:=sp) (by rfl) e4 ?_)) rfl
 have e5:(v.1::v.2).map (λn=>D.str (wN n))=(wN v.1::v.2.map wN).map .str:=by rw[List.map_cons,List.map_cons,List.map_map];rfl
 rw[e5]
 exact xK (by have:=(V1 h 6 h.sl).1;omega)
theorem wC {s:Stt}(h:StS s):ZJ [eSt s]=.ok (.str (wSt s)):=by
 refine ZL ?_
 show (yV [.fz (eSt s),.un]).wp _ _
 unfold yV
 have e1:V7 (zK Zs (op2 ixD (vM 0) (cM (.int 0)))) (cM (.str "yes")) (cM (.str "no")) [.fz (eSt s),.un]=.ok (.str (yn s.1)) [.fz (eSt s),.un]:=by
  unfold V7
  rw[zZ (f:=Zs) (z:=s.1) (zI (f:=ixD) (z:=.bl s.1) (by rfl) (by rfl) (by rfl)) (by rfl),Res.bnd_ok]
  cases s.1<;>rfl
 refine zO (Xb e1) ?_
 show (ZW _ [.fz (eSt s),.fz (.str (yn s.1))]).wp _ _
 have e2:op2 ixD (vM 0) (cM (.int 2)) [.fz (eSt s),.fz (.str (yn s.1))]=.ok (.lst (s.2.2.map eMv)) [.fz (eSt s),.fz (.str (yn s.1))]:=zI (by rfl) (by rfl) (by rfl)
 have e4:=YK (enc:=eMv) (out:=λv=>.str (wMv v)) (e:=zH ZT [vM 0]) (Zp (f:=ZH) e2 (by rfl)) (by have:=h.ml;omega) (λv hv acc=>ZB (zT (by rfl) (by rfl)) (wa (h.mv v hv)))
 have e5:s.2.2.map (λv=>D.str (wMv v))=(s.2.2.map wMv).map .str:=by rw[List.map_map];rfl
 rw[e5]at e4
 have e6:=zI (f:=zk) (wT (as:=[vM 1]) (ρ:=[.fz (eSt s),.fz (.str (yn s.1))]) (xs:=[.str (yn s.1)]) (by rfl) (by show 1<=1000;decide)) e4 (u0 _ _ (by have:=h.ml;simp;omega))
 refine zm (yB (Zb (f:=yh) (x:=sm) (by rfl) e6 ?_)) rfl
 exact xK (ys:=yn s.1::s.2.2.map wMv) (by have:=(Vp h 6 7 (λv hv=>(h.mv v hv).sl) h.ml).1;omega)
theorem Ju {m:List Stt}(hs:∀ s ∈ m,StS s){ρ ρ':Rho}{it:M D}(hl:m.length<=400)(hi:it ρ=.ok (eM m) ρ'):Z8 (zS ZH it) 1 [] (zx 0) none (zH ZJ [vM 0]) ρ=.ok (.lst ((m.map wSt).map .str)) ρ':=by
 rw[YK (enc:=eSt) (out:=λs=>.str (wSt s)) (Zp (f:=ZH) hi (by rfl)) (by omega) λs hs' acc=>ZB (zT (by rfl) (by rfl)) (wC (hs s hs')),List.map_map]
 rfl
theorem jl {m:List Stt}(hs:∀ s ∈ m,StS s) (i k j:Nat)(hk:∀ s ∈ m,∀ v ∈ s.2.2,v.2.length<=k)(hj:∀ s ∈ m,s.2.2.length<=j)(hi:m.length<=i) :
  ((m.map wSt).map (·.length)).sum+(m.map wSt).length * nl.length<=i * ((j+1) * ((k+1) * 4+2)+1)/\(wr m).length<=i * ((j+1) * ((k+1) * 4+2)+1):=
 YI (y:=nl) ((j+1) * ((k+1) * 4+2)) i (λp hp=>by
  obtain⟨s,hs',rfl⟩:=List.mem_map.mp hp
  exact (Vp (hs s hs') k j (hk s hs') (hj s hs')).2) (by rw[List.length_map];exact hi)
theorem uM {m:List Stt}(hm:GoodM m):((m.map wSt).map (·.length)).sum+(m.map wSt).length * nl.length<=16777216:=by
 have hs:=Y5 hm
 have:=(jl hs 400 6 7 (λs h v hv=>((hs s h).mv v hv).sl) (λs h=>(hs s h).ml) hm.few).1
 omega
theorem Wy {m:List Stt}(hm:GoodM m)(A:Cls):z0 A [eM m]=.ok (.str (wr m)):=by
 refine ZL ?_
 show (YH A [.fz (eM m)]).wp _ _
 unfold YH
 refine zO (ut (ZB (zT (by rfl) (by rfl)) (Uz hm (Wg hm) A))) ?_
 exact zm (yB (Zb (f:=yh) (x:=nl) (by rfl) (Ju (Y5 hm) hm.few (by rfl)) (xK (uM hm)))) rfl
theorem Ww {m:List Stt}(h:yQ m=false)(hs:We m)(A:Cls):z0 A [eM m]=.exn A.bm:=by
 refine FR.exn_of (yH ?_)
 show (YH A [.fz (eM m)]).wp _ _
 unfold YH
 refine ZP (k:=A.bm) (ρ':=[.fz (eM m)]) ?_ rfl
 unfold Zq zH
 show ((zQ A [eM m]).to _).bnd _=_
 rw[Uq hs h]
 rfl
end PM
namespace PM
open PySem PySem.StrLaws PyProof.Rows
theorem xT {α β:Type}{f:α->β}{l:List α}{i:Nat}{x:α}(h:l[i]? = some x):(l.take i).map f++[f x]=(l.take (i+1)).map f:=by
 rw[take_succ h,List.map_append];rfl
theorem vi {i:Nat}{b:M Fl}{ρ:Rho}{ds:List D}(h:zn ρ[i]? = some ds):Y6 i b ρ=b (ρ.set i (.fz (.lst ds))):=by
 unfold Y6
 rw[h]
 rfl
theorem Vm {m:List Stt}(hm:GoodM m):yk [eM m]=.ok (.str (wr m)):=by
 have hs:=Y5 hm
 have few:=hm.few
 refine ZL ?_
 show (xk [.fz (eM m),.un,.un,.un,.un,.un,.un,.un]).wp _ _
 unfold xk
 refine zO (ρ':=[.fz (eM m),.own [],.un,.un,.un,.un,.un,.un]) (by rfl) ?_
 refine yS (λρ=>∃ j2 j3 j4 j5 j6 j7,ρ=[.fz (eM m),.own (m.map λs=>.str (wSt s)),j2,j3,j4,j5,j6,j7]) ?_ ?_
 ·refine Xy (x:=eM m) (by rfl) (by rfl) ?_
  refine yo (f:=eSt) (λi ρ=>∃ j2 j3 j4 j5 j6 j7,ρ=[.fz (eM m),.own ((m.take i).map λs=>.str (wSt s)),j2,j3,j4,j5,j6,j7]) ⟨_,_,_,_,_,_,rfl⟩ ?_ ?_
  ·rintro i s ρ hi ⟨j2,j3,j4,j5,j6,j7,rfl⟩
   have hst:=hs s (List.mem_of_getElem? hi)
   refine⟨[.fz (eM m),.own ((m.take i).map λs=>.str (wSt s)),.fz (.bl s.1),.fz (.int s.2.1),.fz (.lst (s.2.2.map eMv)),j5,j6,j7],by rfl,?_⟩
   have e1:xP 5 [op2 ixD (lstM [cM (.str "no"),cM (.str "yes")]) (zN (zX XY) [vM 2])] [.fz (eM m),.own ((m.take i).map λs=>.str (wSt s)),.fz (.bl s.1),.fz (.int s.2.1),.fz (.lst (s.2.2.map eMv)),j5,j6,j7] =
     .ok .nx [.fz (eM m),.own ((m.take i).map λs=>.str (wSt s)),.fz (.bl s.1),.fz (.int s.2.1),.fz (.lst (s.2.2.map eMv)),.own [.str (yn s.1)],j6,j7]:=by
    cases s.1<;>rfl
   refine zO e1 ?_
   refine yS (λρ=>∃ j6 j7,ρ=[.fz (eM m),.own ((m.take i).map λs=>.str (wSt s)),.fz (.bl s.1),.fz (.int s.2.1),.fz (.lst (s.2.2.map eMv)),.own (.str (yn s.1)::s.2.2.map λv=>.str (wMv v)),j6,j7]) ?_ ?_
   ·refine Xy (x:=.lst (s.2.2.map eMv)) (by rfl) (by rfl) ?_
    refine yo (f:=eMv) (λk ρ=>∃ j6 j7,ρ=[.fz (eM m),.own ((m.take i).map λs=>.str (wSt s)),.fz (.bl s.1),.fz (.int s.2.1),.fz (.lst (s.2.2.map eMv)),.own (.str (yn s.1)::(s.2.2.take k).map λv=>.str (wMv v)),j6,j7]) ⟨_,_,rfl⟩ ?_ ?_
    ·rintro k v ρ hk ⟨j6,j7,rfl⟩
     have hv:=hst.mv v (List.mem_of_getElem? hk)
     have hml:=hst.ml
     refine⟨[.fz (eM m),.own ((m.take i).map λs=>.str (wSt s)),.fz (.bl s.1),.fz (.int s.2.1),.fz (.lst (s.2.2.map eMv)),.own (.str (yn s.1)::(s.2.2.take k).map λv=>.str (wMv v)),.fz (.int v.1),.fz (.tup (v.2.map .int))],by rfl,?_⟩
     generalize hρ:([.fz (eM m),.own ((m.take i).map λs=>.str (wSt s)),.fz (.bl s.1),.fz (.int s.2.1),.fz (.lst (s.2.2.map eMv)),.own (.str (yn s.1)::(s.2.2.take k).map λv=>.str (wMv v)),.fz (.int v.1),.fz (.tup (v.2.map .int))]:Rho)=ρ
     have e2:lstM [zN (zX Xa) [vM 6]] ρ=.ok (.lst [.str (wN v.1)]) ρ:=by
      refine wT (zT (Zd ?_ (wL hv.g0 hv.g1)) (by rfl)) (by show 1<=1000;decide)
      rw[<-hρ];rfl
     have e3:=YK (enc:=D.int) (out:=λn=>.str (wN n)) (xs:=v.2) (e:=zN (zX Xa) [vM 0]) (mi:=zS xt (vM 7)) (ρ:=ρ) (ρ':=ρ) (Zp (x:=.tup (v.2.map .int)) (by rw[<-hρ];rfl) (by rfl)) (by have:=hv.sl;omega) (λn hn acc=>Zd (by rfl) (wL (hv.s0 n hn) (hv.s1 n hn)))
     have e4:=zI (f:=zk) e2 e3 (u0 _ _ (by have:=hv.sl;simp;omega))
     have e5:[D.str (wN v.1)]++v.2.map (λn=>D.str (wN n))=(wN v.1::v.2.map wN).map .str:=by rw[List.map_cons,List.map_map];rfl
     rw[e5]at e4
     have e6:=Zb (f:=yh) (a:=cM (.str sp)) (x:=sp) (ρ:=ρ) (by rfl) e4 (xK (by have:=(V1 hv 6 hv.sl).1;omega))
     refine zm (WZ (i:=5) (ds:=.str (yn s.1)::(s.2.2.take k).map λv=>.str (wMv v)) (by rw[<-hρ];rfl) e6 (by simp;omega)) ?_
     refine⟨.fz (.int v.1),.fz (.tup (v.2.map .int)),?_⟩
     rw[<-hρ]
     rw[<-xT (f:=λv=>D.str (wMv v)) hk]
     rfl
    ·rintro ρ ⟨j6,j7,rfl⟩
     refine⟨rfl,j6,j7,?_⟩
     rw[List.take_length]
   ·rintro ρ ⟨j6,j7,rfl⟩
    have e7:D.str (yn s.1)::s.2.2.map (λv=>D.str (wMv v))=(yn s.1::s.2.2.map wMv).map .str:=by rw[List.map_cons,List.map_map];rfl
    rw[e7]
    rw[vi (ds:=(yn s.1::s.2.2.map wMv).map .str) (by rfl)]
    have e8:=Zb (f:=yh) (a:=cM (.str sm)) (b:=vM 5) (x:=sm) (ρ:=[.fz (eM m),.own ((m.take i).map λs=>.str (wSt s)),.fz (.bl s.1),.fz (.int s.2.1),.fz (.lst (s.2.2.map eMv)),.fz (.lst ((yn s.1::s.2.2.map wMv).map .str)),j6,j7]) (by rfl) (by rfl) (xK (by have:=(Vp hst 6 7 (λv hv=>(hst.mv v hv).sl) hst.ml).1;omega))
    refine zm (WZ (i:=1) (ds:=(m.take i).map λs=>.str (wSt s)) (by rfl) e8 (by simp;omega)) ?_
    refine⟨.fz (.bl s.1),.fz (.int s.2.1),.fz (.lst (s.2.2.map eMv)),.fz (.lst ((yn s.1::s.2.2.map wMv).map .str)),j6,j7,?_⟩
    rw[<-xT (f:=λs=>D.str (wSt s)) hi]
    rfl
  ·rintro ρ ⟨j2,j3,j4,j5,j6,j7,rfl⟩
   refine⟨rfl,j2,j3,j4,j5,j6,j7,?_⟩
   rw[List.take_length]
 ·rintro ρ ⟨j2,j3,j4,j5,j6,j7,rfl⟩
  have e7:m.map (λs=>D.str (wSt s))=(m.map wSt).map .str:=by rw[List.map_map];rfl
  rw[e7,vi (ds:=(m.map wSt).map .str) (by rfl)]
  exact zm (yB (Zb (f:=yh) (x:=nl) (by rfl) (by rfl) (xK (uM hm)))) rfl
end PM
namespace PM
open PySem PySem.StrLaws PyProof.Rows
noncomputable def Asc (x:Str):Prop:=∀ c ∈ sL x,c<128
theorem Asc.part {x y p:Str}(h:Asc x)(hp:p ∈ Txt.split x y):Asc p:=λc hc=>h c (US hp c hc)
noncomputable def wG {β:Type}(enc:β->D)(c:Addr):Option β->FR
 |some b=>.ok (enc b)
 |none=>.exn c
theorem UL {β:Type}(enc:β->D)(c:Addr)(b:β):wG enc c (some b)=.ok (enc b):=rfl
theorem UM {β:Type}(enc:β->D)(c:Addr):wG enc c none=.exn c:=rfl
theorem Uy {A:Cls}{x:Str}(ha:Asc x)(hl:x.length<=640):Zf A [.str x]=wG D.int A.bt (PySem.intText? x):=by
 show FR.of (xA A.bt (vM 0) [.fz (.str x)])=_
 unfold xA
 show FR.of (if (decide (x.length<=640) && (sL x).all λc=>decide (c<128))=true then _ else _)=_
 rw[if_pos (by rw[Bool.and_eq_true,decide_eq_true_eq,List.all_eq_true];exact⟨hl,λc hc=>decide_eq_true (ha c hc)⟩)]
 cases PySem.intText? x<;>rfl
section
variable {β:Type}{f:Str->Option β}{enc:β->D}{F:List D->FR}{c:Addr}
theorem uB:∀ {xs:List Str}{acc:List D}{a:Slot},acc.length+xs.length<16777216->(∀ x ∈ xs,F [.str x]=wG enc c (f x)) ->
  (∃ bs a',zc f xs=some bs/\zY (zx 0) (zr 1 (zH F [vM 0])) (xs.map .str) [a,.own acc]=.ok .nx [a',.own (acc++bs.map enc)])\/(zc f xs=none/\∃ ρ2,zY (zx 0) (zr 1 (zH F [vM 0])) (xs.map .str) [a,.own acc]=.exn c ρ2)
 |[],acc,a,_,_=>.inl ⟨[],a,rfl,by simp[zY]⟩
 |x::xs,acc,a,hl,h=>by
  rw[List.map_cons]
  have hx:=h x (List.mem_cons_self ..)
  unfold zY zc
  show (∃ bs a',_/\((zr 1 (zH F [vM 0]) [.fz (.str x),.own acc]).bnd _)=_)\/(_/\∃ ρ2,((zr 1 (zH F [vM 0]) [.fz (.str x),.own acc]).bnd _)=_)
  cases q:f x with
  |none=>
   rw[q,UM]at hx
   have e:zr 1 (zH F [vM 0]) [.fz (.str x),.own acc]=.exn c [.fz (.str x),.own acc]:=by
    unfold zr zH
    show (((F [.str x]).to _).bnd _)=_
    rw[hx]
    rfl
   exact .inr ⟨rfl,_,by rw[e];rfl⟩
  |some b=>
   rw[q,UL]at hx
   have e:=WZ (i:=1) (e:=zH F [vM 0]) (ρ:=[.fz (.str x),.own acc]) (ds:=acc) (x:=enc b) (by rfl) (ZB (zT (by rfl) (by rfl)) hx) (by simp at hl;omega)
   have e':zr 1 (zH F [vM 0]) [.fz (.str x),.own acc]=.ok .nx [.fz (.str x),.own (acc++[enc b])]:=e
   rw[e']
   rcases uB (xs:=xs) (acc:=acc++[enc b]) (a:=.fz (.str x)) (by simp at hl ⊢;omega) (λz hz=>h z (List.mem_cons_of_mem _ hz)) with ⟨bs,a',e1,e2⟩ | ⟨e1,ρ2,e2⟩
   ·refine .inl ⟨b::bs,a',by rw[e1],?_⟩
    show zY _ _ _ _=_
    rw[e2,List.map_cons,List.append_assoc]
    rfl
   ·exact .inr ⟨by rw[e1],ρ2,e2⟩
theorem Xc {xs:List Str}{bs:List β}{mi:M (List D)}{ρ ρ':Rho}{i:Nat}(hm:mi ρ=.ok (xs.map .str) ρ')(hl:xs.length<16777216)(h:∀ x ∈ xs,F [.str x]=wG enc c (f x))(e:zc f xs=some bs) :
  ZQ i mi 1 [] (zx 0) (zH F [vM 0]) ρ=.ok .nx (ρ'.set i (.fz (.lst (bs.map enc)))):=by
 unfold ZQ
 rw[hm,Res.bnd_ok]
 rcases uB (enc:=enc) (xs:=xs) (acc:=[]) (a:=.un) (by simpa using hl) h with ⟨bs',a',e1,e2⟩ | ⟨e1,_⟩
 ·rw[e]at e1
  cases e1
  have e2':zY (zx 0) (zr (1+([]:List Nat).length) (zH F [vM 0])) (xs.map .str) (ZC 1 [] ρ')=.ok .nx [a',.own (bs.map enc)]:=e2
  rw[e2']
  rfl
 ·rw[e]at e1;cases e1
theorem Xd {xs:List Str}{mi:M (List D)}{ρ ρ':Rho}{i:Nat}(hm:mi ρ=.ok (xs.map .str) ρ')(hl:xs.length<16777216)(h:∀ x ∈ xs,F [.str x]=wG enc c (f x))(e:zc f xs=none) :
  ZQ i mi 1 [] (zx 0) (zH F [vM 0]) ρ=.exn c ρ':=by
 unfold ZQ
 rw[hm,Res.bnd_ok]
 rcases uB (enc:=enc) (xs:=xs) (acc:=[]) (a:=.un) (by simpa using hl) h with ⟨bs',a',e1,e2⟩ | ⟨e1,ρ2,e2⟩
 ·rw[e]at e1;cases e1
 ·have e2':zY (zx 0) (zr (1+([]:List Nat).length) (zH F [vM 0])) (xs.map .str) (ZC 1 [] ρ')=.exn c ρ2:=e2
  rw[e2']
end
theorem YD {x y:Str}(hy:(y.length == 0)=false)(hl:x.length<=1000):Zi (.str x) (.str y)=some (.lst ((Txt.split x y).map .str)):=by
 have:=Zv x y
 unfold Zi
 dsimp only
 rw[if_pos ⟨hy,by rw[sizeLine_eq];omega,by rw[sizeLine_eq];omega,by rw[sizeLine_eq];omega⟩]
theorem kK {α:Type}(a:α)(r:List α):cut (a::r) (some 1) none=r:=by
 unfold cut vF
 simp
theorem ug {α β:Type}{f:α->Option β}{a:α}{l:List α}{bs:List β}(h:zc f (a::l)=some bs):∃ b r,bs=b::r:=by
 unfold zc at h
 cases q:f a with
 |none=>rw[q]at h;cases h
 |some b=>
  rw[q]at h
  cases q2:zc f l with
  |none=>rw[q2]at h;cases h
  |some r=>rw[q2]at h;cases h;exact⟨b,r,rfl⟩
theorem xB {e:M D}{ρ ρ':Rho}{a:D}{r:List D}(he:e ρ=.ok (.lst (a::r)) ρ'):ZV e (some (cM (.int 1))) none ρ=.ok (.lst r) ρ':=by
 unfold ZV
 rw[he,Res.bnd_ok]
 show z8 (slD (.lst (a::r)) (some 1) none) ρ'=_
 unfold slD
 dsimp only
 rw[kK]
 rfl
theorem vq {A:Cls}{x:Str}(ha:Asc x)(hl:x.length<=640):Zz A [.str x]=wG eMv A.bt (rMv x):=by
 have ln:=(Zv x sp).1
 have hm:zS ZH (Zc Zi (vM 0) (cM (.str sp))) [.fz (.str x),.un]=.ok ((Txt.split x sp).map .str) [.fz (.str x),.un]:=Zp (Zb (x:=x) (by rfl) (by rfl) (YD (by decide) (by omega))) (by rfl)
 have hF:∀ z ∈ Txt.split x sp,Zf A [.str z]=wG D.int A.bt (PySem.intText? z):=λz hz=>Uy (ha.part hz) (Nat.le_trans (zu hz) hl)
 unfold rMv
 cases q:zc PySem.intText? (Txt.split x sp) with
 |none=>
  refine FR.exn_of (yH ?_)
  show (yO A [.fz (.str x),.un]).wp _ _
  unfold yO
  exact ZP (Xd hm (by omega) hF q) rfl
 |some l=>
  obtain⟨p,ps,e⟩:=YC x sp
  rw[e]at q
  obtain⟨n,ns,rfl⟩:=ug q
  rw[<-e]at q
  refine ZL ?_
  show (yO A [.fz (.str x),.un]).wp _ _
  unfold yO
  refine zO (Xc hm (by omega) hF q) ?_
  show (ZW _ [.fz (.str x),.fz (.lst ((n::ns).map .int))]).wp _ _
  exact zm (yB (xw (xs:=[.int n,.tup (ns.map .int)]) (zT (zI (x:=.lst ((n::ns).map .int)) (y:=.int 0) (by rfl) (by rfl) (at0 _ _)) (zT (Zd (x:=.lst (ns.map .int)) (xB (by rfl)) (by rfl)) (by rfl))) (by show 2<=1000;decide))) rfl
theorem vQ {A:Cls}{x:Str}(ha:Asc x)(hl:x.length<=640):ZY A [.str x]=wG eSt A.bt (rSt x):=by
 have ln:=(Zv x sm).1
 obtain⟨p,ps,e⟩:=YC x sm
 have hsub:∀ z ∈ ps,z ∈ Txt.split x sm:=λz hz=>by rw[e];exact List.mem_cons_of_mem _ hz
 have e1:ZE 1 (Zc Zi (vM 0) (cM (.str sm))) [.fz (.str x),.un,.un]=.ok .nx [.fz (.str x),.fz (.lst ((p::ps).map .str)),.un]:=by
  rw[<-e];exact Xb (Zb (x:=x) (by rfl) (by rfl) (YD (y:=sm) (by decide) (by omega)))
 have hm:zS ZH (ZV (vM 1) (some (cM (.int 1))) none) [.fz (.str x),.fz (.lst ((p::ps).map .str)),.un]=.ok (ps.map .str) [.fz (.str x),.fz (.lst ((p::ps).map .str)),.un]:=by
  exact Zp (x:=.lst (ps.map .str)) (xB (by rfl)) (by rfl)
 have hF:∀ z ∈ ps,Zz A [.str z]=wG eMv A.bt (rMv z):=λz hz=>vq (ha.part (hsub z hz)) (Nat.le_trans (zu (hsub z hz)) hl)
 have hpl:ps.length<16777216:=by rw[e]at ln;simp at ln;omega
 have pa:Asc p:=ha.part (y:=sm) (by rw[e];exact List.mem_cons_self ..)
 unfold rSt
 rw[e]
 dsimp only
 cases q:zc rMv ps with
 |none=>
  refine FR.exn_of (yH ?_)
  show (Z5 A [.fz (.str x),.un,.un]).wp _ _
  unfold Z5
  exact zO e1 (ZP (Xd hm hpl hF q) rfl)
 |some ms=>
  refine ZL ?_
  show (Z5 A [.fz (.str x),.un,.un]).wp _ _
  unfold Z5
  refine zO e1 (zO (Xc hm hpl hF q) ?_)
  show (ZW _ [.fz (.str x),.fz (.lst ((p::ps).map .str)),.fz (.lst (ms.map eMv))]).wp _ _
  have pl:∀ y:Str,Asc y->D.plain (.str y)=true:=λy hy=>by
   show y.cps.all (· < 0x110000)=true
   rw[<-Array.all_toList,List.all_eq_true]
   exact λc hc=>decide_eq_true (Nat.lt_of_lt_of_le (hy c hc) (by decide))
  have eq:eqD (.str p) (.str yes)=some (.bl (p == yes)):=by
   unfold eqD
   rw[pl p pa,pl yes (show ∀ c ∈ [121,101,115],c<128 by decide)]
   exact if_pos rfl
  exact zm (yB (xw (xs:=[.bl (p == yes),.int ((ms.length:Int) - 1),.lst (ms.map eMv)]) (zT (zI (zI (x:=.lst ((p::ps).map .str)) (y:=.int 0) (z:=.str p) (by rfl) (by rfl) (at0 _ _)) (by rfl) eq) (zT (zI (f:=Wf) (x:=.int ms.length) (y:=.int 1) (Zd (x:=.lst (ms.map eMv)) (by rfl) (show some (D.int ((ms.map eMv).length:Nat))=_ by rw[List.length_map])) (by rfl) (by rfl)) (by rfl))) (by show 3<=1000;decide))) rfl
end PM
namespace PM
open PySem PySem.StrLaws PyProof.Rows
theorem Zx {y:Str}(hy:Asc y):D.plain (.str y)=true:=by
 show y.cps.all (· < 0x110000)=true
 rw[<-Array.all_toList,List.all_eq_true]
 exact λc hc=>decide_eq_true (Nat.lt_of_lt_of_le (hy c hc) (by decide))
theorem uD {x y:Str}(hx:Asc x)(hy:Asc y):eqD (.str x) (.str y)=some (.bl (x == y)):=by
 unfold eqD
 rw[Zx hx,Zx hy]
 exact if_pos rfl
theorem V0 {x y:Str}(hx:Asc x)(hy:Asc y):neD (.str x) (.str y)=some (.bl (!(x == y))):=by
 unfold neD
 rw[Zx hx,Zx hy]
 exact if_pos rfl
theorem XW {y:Str}(hy:Asc y):∀ {l:List Str},(∀ p ∈ l,Asc p)->Asc (Str.join y l)
 |[],_=>λc h=>by cases h
 |[p],h=>h p (List.mem_cons_self ..)
 |p::q::r,h=>λc hc=>by
  rw[XL,Zw,Zw]at hc
  rcases List.mem_append.mp hc with hc | hc
  ·rcases List.mem_append.mp hc with hc | hc
   ·exact h p (List.mem_cons_self ..) c hc
   ·exact hy c hc
  ·exact XW hy (λz hz=>h z (List.mem_cons_of_mem _ hz)) c hc
theorem YX {x:Str}{l:List Nat}(e:sL x=l)(h:∀ c ∈ l,c<128):Asc x:=λc hc=>h c (e ▸ hc)
theorem jO {s:Stt}(h:StS s):Asc (wSt s):=XW (YX (l:=[59,32]) rfl (by decide)) λp hp=>by
 rcases List.mem_cons.mp hp with e | e
 ·rw[e]
  cases s.1
  ·exact YX (l:=[110,111]) rfl (by decide)
  ·exact YX (l:=[121,101,115]) rfl (by decide)
 ·obtain⟨v,hv,rfl⟩:=List.mem_map.mp e
  refine XW (YX (l:=[32]) rfl (by decide)) λq hq c hc=>?_
  obtain⟨n,hn,rfl⟩:=XD (h.mv v hv) q hq
  have:=Yj hn c hc
  omega
theorem QG {m:List Stt}(hm:GoodM m):Asc (wr m):=XW (YX (l:=[10]) rfl (by decide)) λp hp=>by
 obtain⟨s,hs,rfl⟩:=List.mem_map.mp hp
 exact jO (Y5 hm s hs)
section
variable {α β:Type}{f:α->Option β}
theorem Y0:∀ {l:List α}{bs:List β},zc f l=some bs->bs.length=l.length
 |[],_,e=>by cases e;rfl
 |a::r,bs,e=>by
  unfold zc at e
  cases q:f a with
  |none=>rw[q]at e;cases e
  |some b=>
   rw[q]at e
   cases q2:zc f r with
   |none=>rw[q2]at e;cases e
   |some bs'=>rw[q2]at e;cases e;rw[List.length_cons,List.length_cons,Y0 q2]
theorem WC:∀ {l:List α}{bs:List β},zc f l=some bs->∀ b ∈ bs,∃ a ∈ l,f a=some b
 |[],_,e=>by cases e;exact λb hb=>by cases hb
 |a::r,bs,e=>by
  unfold zc at e
  cases q:f a with
  |none=>rw[q]at e;cases e
  |some b=>
   rw[q]at e
   cases q2:zc f r with
   |none=>rw[q2]at e;cases e
   |some bs'=>
    rw[q2]at e
    cases e
    intro c hc
    rcases List.mem_cons.mp hc with z | z
    ·exact⟨a,List.mem_cons_self ..,by rw[z];exact q⟩
    ·obtain⟨a',ha',e'⟩:=WC q2 c z
     exact⟨a',List.mem_cons_of_mem _ ha',e'⟩
end
theorem wj {x:Str}(hl:x.length<=640){m:List Stt}(h:rd x=some m):We m:=by
 intro s hs v hv
 obtain⟨row,hr,es⟩:=WC h s hs
 unfold rSt at es
 obtain⟨p,ps,e⟩:=YC row sm
 rw[e]at es
 dsimp only at es
 obtain⟨ms,em,rfl⟩:=Option.map_eq_some_iff.mp es
 obtain⟨part,hp,ev⟩:=WC em v hv
 have hpart:part ∈ Txt.split row sm:=by rw[e];exact List.mem_cons_of_mem _ hp
 have l1:=zu hr
 have l2:=zu hpart
 have l3:=(Zv part sp).1
 unfold rMv at ev
 cases q:zc PySem.intText? (Txt.split part sp) with
 |none=>rw[q]at ev;cases ev
 |some l=>
  rw[q]at ev
  have:=Y0 q
  cases l with
  |nil=>cases ev
  |cons n ns=>cases ev;simp at this ⊢;omega
noncomputable def W4 (x:Str):Option (List Stt):=match rd x with
 |some m=>if yQ m=true/\wr m=x then some m else none
 |none=>none
theorem Vl {A:Cls}{x:Str}(ha:Asc x)(hl:x.length<=640):yW A [.str x]=wG eM A.bt (W4 x):=by
 have ln:=(Zv x nl).1
 have hm:zS ZH (Zc Zi (vM 0) (cM (.str nl))) [.fz (.str x),.un,.un]=.ok ((Txt.split x nl).map .str) [.fz (.str x),.un,.un]:=Zp (Zb (x:=x) (by rfl) (by rfl) (YD (by decide) (by omega))) (by rfl)
 have hF:∀ z ∈ Txt.split x nl,ZY A [.str z]=wG eSt A.bt (rSt z):=λz hz=>vQ (ha.part hz) (Nat.le_trans (zu hz) hl)
 have bad:∀ {r:FR},r.wp (λ_=>False) (λc=>c=A.bt)->r=.exn A.bt:=λh=>FR.exn_of h
 unfold W4
 cases q:rd x with
 |none=>
  refine bad (yH ?_)
  show (YV A [.fz (.str x),.un,.un]).wp _ _
  unfold YV
  exact ZP (Xd hm (by omega) hF q) rfl
 |some m=>
  have hs:=wj hl q
  have e1:ZQ 1 (zS ZH (Zc Zi (vM 0) (cM (.str nl)))) 1 [] (zx 0) (zH (ZY A) [vM 0]) [.fz (.str x),.un,.un]=.ok .nx [.fz (.str x),.fz (eM m),.un]:=Xc hm (by omega) hF q
  dsimp only
  by_cases hg:yQ m=true
  ·have gm:=YJ.mp hg
   have e2:X6 [A.bm] A.bt (ZE 2 (zH (z0 A) [vM 1])) [.fz (.str x),.fz (eM m),.un]=.ok .nx [.fz (.str x),.fz (eM m),.fz (.str (wr m))]:=by
    unfold X6
    rw[Xb (ZB (zT (by rfl) (by rfl)) (Wy gm A))]
    rfl
   have e3:zK zP (op2 neD (vM 2) (vM 0)) [.fz (.str x),.fz (eM m),.fz (.str (wr m))]=.ok (!(wr m == x)) [.fz (.str x),.fz (eM m),.fz (.str (wr m))]:=zZ (zI (by rfl) (by rfl) (V0 (QG gm) ha)) (by rfl)
   by_cases hw:wr m=x
   ·rw[if_pos ⟨hg,hw⟩]
    refine ZL ?_
    show (YV A [.fz (.str x),.un,.un]).wp _ _
    unfold YV
    have hb:(!(wr m == x))=false:=by rw[hw,beq_self_eq_true];rfl
    rw[hb]at e3
    refine zO e1 (zO e2 (zO (ρ':=[.fz (.str x),.fz (eM m),.fz (.str (wr m))]) (by rw[XM e3];rfl) ?_))
    exact zm (yB (by rfl)) rfl
   ·rw[if_neg λz=>hw z.2]
    refine bad (yH ?_)
    show (YV A [.fz (.str x),.un,.un]).wp _ _
    unfold YV
    have hb:(!(wr m == x))=true:=by rw[beq_false_of_ne hw];rfl
    rw[hb]at e3
    exact zO e1 (zO e2 (ZP (ρ':=[.fz (.str x),.fz (eM m),.fz (.str (wr m))]) (by rw[xR e3];rfl) rfl))
  ·rw[if_neg λz=>hg z.1]
   refine bad (yH ?_)
   show (YV A [.fz (.str x),.un,.un]).wp _ _
   unfold YV
   refine zO e1 (ZP (k:=A.bt) (ρ':=List.replicate 3 Slot.un) ?_ rfl)
   have ew:ZE 2 (zH (z0 A) [vM 1]) [.fz (.str x),.fz (eM m),.un]=.exn A.bm [.fz (.str x),.fz (eM m),.un]:=by
    unfold ZE zH
    show ((z0 A [eM m]).to _).bnd _=_
    rw[Ww (by simpa using hg) hs A]
    rfl
   unfold X6
   rw[ew]
   dsimp only
   rw[if_pos (by simp)]
   rfl
end PM
namespace PM
open PySem PySem.StrLaws PyProof.Rows PySem.NumText
noncomputable def uY:Option (List Int)->D
 |some ns=>.lst (ns.map .int)
 |none=>.non
section
variable {α β:Type}{f:α->Option β}
theorem Xq:∀ {l:List α}{x:α},x ∈ l->f x=none->zc f l=none
 |a::r,x,h,e=>by
  unfold zc
  rcases List.mem_cons.mp h with z | z
  ·rw[<-z,e]
  ·rw[Xq z e]
   cases f a<;>rfl
theorem Xp:∀ {l:List α}{bs:List β}{x:α}{b:β},zc f l=some bs->f x=some b->zc f (l++[x])=some (bs++[b])
 |[],_,x,b,e,h=>by cases e;show zc f [x]=some [b];unfold zc;rw[h];rfl
 |a::r,bs,x,b,e,h=>by
  rw[List.cons_append]
  unfold zc at e ⊢
  cases q:f a with
  |none=>rw[q]at e;cases e
  |some c=>
   rw[q]at e
   cases q2:zc f r with
   |none=>rw[q2]at e;cases e
   |some bs'=>
    rw[q2]at e
    cases e
    rw[Xp q2 h]
    rfl
end
theorem Uw:∀ (cs:List Nat) (acc:Nat),(∀ c ∈ cs,48<=c/\c<=57)->cs.foldl (λacc c=>acc * 10+(c - 48)) acc<(acc+1) * 10 ^ cs.length
 |[],acc,_=>by simp
 |c::cs,acc,h=>by
  have h1:=h c (List.mem_cons_self ..)
  have h2:=Uw cs (acc * 10+(c - 48)) λd hd=>h d (List.mem_cons_of_mem _ hd)
  rw[List.foldl_cons,List.length_cons,Nat.pow_succ]
  refine Nat.lt_of_lt_of_le h2 ?_
  rw[show (acc+1) * (10 ^ cs.length * 10)=((acc+1) * 10) * 10 ^ cs.length by rw[Nat.mul_comm (10 ^ cs.length) 10,Nat.mul_assoc]]
  exact Nat.mul_le_mul_right _ (by omega)
theorem VY {x:Str}:Z7 x=true ↔ ∀ c ∈ sL x,48<=c/\c<=57:=by
 unfold Z7
 rw[List.all_eq_true]
 exact⟨λh c hc=>by have:=h c hc;rw[Bool.and_eq_true,decide_eq_true_eq,decide_eq_true_eq]at this;exact this,λh c hc=>by rw[Bool.and_eq_true,decide_eq_true_eq,decide_eq_true_eq];exact h c hc⟩
theorem Uc {x:Str}:x=Str.ofString "" ↔ sL x=[]:=⟨λe=>by rw[e];rfl,λe=>Vo (e.trans rfl)⟩
theorem Ja {x:Str}(h0:x≠Str.ofString "")(h3:x.length<=3)(hd:Z7 x=true):∃ n:Int,PySem.intText? x=some n/\0<=n/\n<1000:=by
 have d:=VY.mp hd
 refine⟨_,intText_digits (x:=x) d (λe=>h0 (Uc.mpr e)) (by omega),Int.natCast_nonneg _,?_⟩
 have:=Uw (sL x) 0 d
 have hp:(10:Nat) ^ (sL x).length<=10 ^ 3:=Nat.pow_le_pow_right (by decide) (by rw[Z1];exact h3)
 have:digitsVal x.cps.toList<1000:=by
  show (sL x).foldl _ 0<1000
  omega
 omega
theorem qs (c:Nat):inS (.str ⟨#[c]⟩) (.str "0123456789")=some (.bl (decide (48<=c) && decide (c<=57))):=by
 unfold inS
 dsimp only
 rw[found_one]
 have e:(Str.ofString "0123456789").cps.toList=[48,49,50,51,52,53,54,55,56,57]:=by decide
 rw[e]
 by_cases h:48<=c/\c<=57
 ·rw[decide_eq_true h.1,decide_eq_true h.2,decide_eq_true (by simp;omega)]
  rfl
 ·have:decide (c ∈ [48,49,50,51,52,53,54,55,56,57])=false:=decide_eq_false (by simp;omega)
  rw[this]
  by_cases h1:48<=c
  ·rw[decide_eq_true h1,decide_eq_false λh2=>h ⟨h1,h2⟩];rfl
  ·rw[decide_eq_false h1];rfl
theorem u3 {w:Str}(ha:Asc w)(hl:w.length<=640){ρ:Rho}(hv:vM 2 ρ=.ok (.str w) ρ) :
  orM (zK zP (op2 eqD (vM 2) (cM (.str "")))) (orM (zK zP (op2 gtD (zN (zX Wr) [vM 2]) (cM (.int 3)))) (orM (Wp (zK Zs (zN (zX Vg) [Z8 (zS WT (vM 2)) 1 [] (zx 0) none (op2 inS (vM 0) (cM (.str "0123456789")))]))) (zK zP (op2 neD (zN (zX Xa) [zN (zX vf) [vM 2]]) (vM 2))))) ρ=.ok (tN w).isNone ρ ∧
  ∀ n,tN w=some n->zN (zX vf) [vM 2] ρ=.ok (.int n) ρ:=by
 have hi:∀ n,PySem.intText? w=some n->zN (zX vf) [vM 2] ρ=.ok (.int n) ρ:=λn e=>Zd hv (by unfold vf;dsimp only;rw[if_pos hl,e];rfl)
 refine⟨?_,λn e=>hi n (U2 e).1⟩
 have t1:zK zP (op2 eqD (vM 2) (cM (.str ""))) ρ=.ok (w == Str.ofString "") ρ:=zZ (zI hv (by rfl) (uD ha (λc hc=>by cases hc))) (by rfl)
 by_cases h0:w=Str.ofString ""
 ·have:tN w=none:=by unfold tN;exact if_neg λz=>z.1 h0
  rw[this]
  rw[h0,beq_self_eq_true]at t1
  exact Wm t1
 rw[beq_false_of_ne h0]at t1
 refine Yr t1 ?_
 have t2:zK zP (op2 gtD (zN (zX Wr) [vM 2]) (cM (.int 3))) ρ=.ok (decide ((w.length:Int) > 3)) ρ:=zZ (zI (x:=.int w.length) (Zd hv (by unfold Wr;dsimp only;rw[if_pos (by rw[sizeLine_eq];omega)])) (by rfl) (by rfl)) (by rfl)
 by_cases h3:w.length<=3
 rotate_left
 ·have:tN w=none:=by unfold tN;exact if_neg λz=>h3 z.2.1
  rw[this]
  exact Wm (Xs (by omega) t2)
 refine Yr (Y2 (by omega) t2) ?_
 have cm:=YK (enc:=λc:Nat=>.str ⟨#[c]⟩) (out:=λc=>.bl (decide (48<=c) && decide (c<=57))) (xs:=sL w) (e:=op2 inS (vM 0) (cM (.str "0123456789"))) (mi:=zS WT (vM 2)) (ρ:=ρ) (ρ':=ρ) (Zp hv (by rfl)) (by rw[Z1];omega) (λc hc acc=>zI (by rfl) (by rfl) (qs c))
 have t3:Wp (zK Zs (zN (zX Vg) [Z8 (zS WT (vM 2)) 1 [] (zx 0) none (op2 inS (vM 0) (cM (.str "0123456789")))])) ρ=.ok (!Z7 w) ρ:=by
  refine JN (zZ (x:=.bl (Z7 w)) (Zd cm ?_) (by rfl))
  have:=QI ((sL w).map λc=>decide (48<=c) && decide (c<=57))
  rw[List.map_map]at this
  rw[show (sL w).map (λc=>D.bl (decide (48<=c) && decide (c<=57)))=(sL w).map (D.bl ∘ λc=>decide (48<=c) && decide (c<=57)) from rfl,this]
  unfold Z7
  rw[List.all_map]
  rfl
 by_cases hd:Z7 w=true
 rotate_left
 ·have:tN w=none:=by unfold tN;exact if_neg λz=>hd z.2.2
  rw[this]
  have hd':Z7 w=false:=by simpa using hd
  rw[hd']at t3
  exact Wm t3
 rw[hd]at t3
 refine Yr t3 ?_
 obtain⟨n,en,n0,n1⟩:=Ja h0 h3 hd
 have t4:zK zP (op2 neD (zN (zX Xa) [zN (zX vf) [vM 2]]) (vM 2)) ρ=.ok (!(wN n == w)) ρ:=zZ (zI (x:=.str (wN n)) (Zd (hi n en) (wL n0 n1)) hv (V0 (λc hc=>by have:=Yj n0 c hc;omega) ha)) (by rfl)
 rw[t4]
 unfold tN
 rw[if_pos ⟨h0,h3,hd⟩,en]
 dsimp only
 by_cases hw:wN n=w
 ·rw[if_pos hw,hw,beq_self_eq_true];rfl
 ·rw[if_neg hw,beq_false_of_ne hw];rfl
theorem UC {ws:List Str}(ha:∀ w ∈ ws,Asc w)(hl:∀ w ∈ ws,w.length<=640)(hn:ws.length<=1000):ZD [.lst (ws.map .str)]=.ok (uY (zc tN ws)):=by
 refine ZL ?_
 show (y9 [.fz (.lst (ws.map .str)),.un,.un]).wp _ _
 unfold y9
 refine zO (ρ':=[.fz (.lst (ws.map .str)),.own [],.un]) (by rfl) ?_
 rw[p_seq]
 refine Xy (x:=.lst (ws.map .str)) (by rfl) (by rfl) ?_
 refine yo (f:=D.str) (λi ρ=>∃ ns j2,zc tN (ws.take i)=some ns/\ρ=[.fz (.lst (ws.map .str)),.own (ns.map .int),j2]) ⟨[],_,rfl,rfl⟩ ?_ ?_
 ·rintro i w ρ hi ⟨ns,j2,en,rfl⟩
  have hw:=List.mem_of_getElem? hi
  refine⟨[.fz (.lst (ws.map .str)),.own (ns.map .int),.fz (.str w)],by rfl,?_⟩
  obtain⟨c1,c2⟩:=u3 (ρ:=[.fz (.lst (ws.map .str)),.own (ns.map .int),.fz (.str w)]) (ha w hw) (hl w hw) (by rfl)
  cases q:tN w with
  |none=>
   rw[q]at c1
   refine QW (d:=.non) (ρ':=[.fz (.lst (ws.map .str)),.own (ns.map .int),.fz (.str w)]) (by rw[xR c1];rfl) ?_
   unfold Yk
   dsimp only
   rw[if_neg (by unfold Fl.isNx;decide)]
   show D.non=uY (zc tN ws)
   rw[Xq hw q]
   rfl
  |some n=>
   rw[q]at c1
   have nl:=Y0 en
   refine zO (ρ':=[.fz (.lst (ws.map .str)),.own (ns.map .int),.fz (.str w)]) (by rw[XM c1];rfl) ?_
   refine zm (WZ (ds:=ns.map .int) (by rfl) (c2 n q) (by rw[List.length_map,nl,List.length_take];omega)) ?_
   refine⟨ns++[n],.fz (.str w),?_,?_⟩
   ·rw[take_succ hi];exact Xp en q
   ·rw[List.map_append];rfl
 ·rintro ρ ⟨ns,j2,en,rfl⟩
  rw[List.take_length]at en
  rw[if_pos (by rfl),vi (ds:=ns.map .int) (by rfl)]
  refine zm (yB (by rfl)) ?_
  show D.lst (ns.map .int)=uY (zc tN ws)
  rw[en]
  rfl
end PM
namespace PM
open PySem PySem.StrLaws PyProof.Rows PySem.NumText
noncomputable def mvL (v:Mv):D:=.lst ((v.1::v.2).map .int)
noncomputable def mvD:Option Mv->D
 |some v=>mvL v
 |none=>.non
theorem Q1 (part:Str):uY (zc tN (Txt.split part sp))=mvD (tMv part):=by
 unfold tMv
 obtain⟨p,ps,e⟩:=YC part sp
 rw[e]
 cases q:zc tN (p::ps) with
 |none=>rfl
 |some l=>obtain⟨n,ns,rfl⟩:=ug q;rfl
theorem UK (o:Option Mv):(mvD o).plain=true/\(mvD o).deep<=1:=by
 cases o with
 |none=>exact⟨rfl,by simp[mvD,D.deep]⟩
 |some v=>
  have h1:=VD (v.1::v.2)
  have h2:=uE (v.1::v.2)
  refine⟨by unfold mvD mvL D.plain;exact h1,?_⟩
  unfold mvD mvL D.deep
  rw[h2]
  decide
theorem wu (f:Str->Option Mv):∀ ps:List Str,D.plains (ps.map λx=>mvD (f x))=true/\D.deeps (ps.map λx=>mvD (f x))<=1
 |[]=>⟨rfl,by simp[D.deeps]⟩
 |p::ps=>by
  obtain⟨h1,h2⟩:=wu f ps
  obtain⟨h3,h4⟩:=UK (f p)
  rw[List.map_cons]
  refine⟨by unfold D.plains;rw[h1,h3];rfl,?_⟩
  unfold D.deeps
  omega
theorem Q9 {α β:Type}{f:α->Option β}{a:α}{r:List α}(h:f a=none):zc f (a::r)=none:=by show (match f a with | none=>none | some b=>_)=_;rw[h]
theorem Q8 {α β:Type}{f:α->Option β}{a:α}{r:List α}{b:β}(h:f a=some b):zc f (a::r)=(zc f r).map (b :: ·):=by
 show (match f a with | none=>none | some b=>match zc f r with | none=>none | some bs=>some (b::bs))=_
 rw[h]
 cases zc f r<;>rfl
theorem uz (f:Str->Option Mv):∀ ps:List Str,((ps.map λx=>mvD (f x)).any λy=>y.eqv .non)=(zc f ps).isNone
 |[]=>rfl
 |p::ps=>by
  rw[List.map_cons,List.any_cons,uz f ps]
  cases q:f p with
  |none=>rw[Q9 q];simp[mvD,D.eqv]
  |some v=>
   have:(mvD (some v)).eqv .non=false:=by unfold mvD mvL D.eqv;rfl
   rw[this,Bool.false_or,Q8 q]
   cases zc f ps<;>rfl
theorem map_some {f:Str->Option Mv}:∀ {ps:List Str}{vs:List Mv},zc f ps=some vs->(ps.map λx=>mvD (f x))=vs.map mvL
 |[],_,e=>by cases e;rfl
 |p::ps,vs,e=>by
  unfold zc at e
  cases q:f p with
  |none=>rw[q]at e;cases e
  |some v=>
   rw[q]at e
   cases q2:zc f ps with
   |none=>rw[q2]at e;cases e
   |some vs'=>rw[q2]at e;cases e;rw[List.map_cons,q,map_some q2,List.map_cons];rfl
theorem uy:Asc yes:=YX (l:=[121,101,115]) rfl (by decide)
theorem Jk:Asc no:=YX (l:=[110,111]) rfl (by decide)
theorem qV {p:Str}(hp:Asc p):YQ (.str p) (.tup [.str yes,.str no])=some (.bl (!decide (p=yes\/p=no))):=by
 unfold YQ
 show (if (D.plain (.str p) && D.plains [.str yes,.str no] && decide (D.deeps [.str yes,.str no]<=30))=true then some (D.bl (!([D.str yes,D.str no].any λy=>y.eqv (.str p)))) else none)=_
 rw[Zx hp,if_pos (by unfold D.plains D.plains D.plains;rw[Zx uy,Zx Jk];simp[D.deeps,D.deep])]
 have e1:∀ y:Str,(D.str y).eqv (.str p)=decide (p=y):=λy=>by
  unfold D.eqv
  by_cases h:y=p
  ·rw[h,beq_self_eq_true,decide_eq_true rfl]
  ·rw[beq_false_of_ne h,decide_eq_false λz=>h z.symm]
 rw[List.any_cons,List.any_cons,List.any_nil,e1,e1,Bool.or_false]
 by_cases h1:p=yes
 ·rw[decide_eq_true h1,decide_eq_true (Or.inl h1)];rfl
 ·by_cases h2:p=no
  ·rw[decide_eq_true h2,decide_eq_true (Or.inr h2),Bool.or_true]
  ·rw[decide_eq_false h1,decide_eq_false h2,decide_eq_false (by rintro (z | z);exact h1 z;exact h2 z)];rfl
theorem Jq {row:Str}(ha:Asc row)(hl:row.length<=640){L:D}{acc:List D}(hacc:acc.length<16777216){j3 j4:Slot} :
  zL (ZE 3 (Zc Zi (vM 2) (cM (.str "; "))))
 (zL (Za false 4 (zS ZH (ZV (vM 3) (some (cM (.int 1))) none)) 1 [] (zx 0) none (zH ZD [Zc Zi (vM 0) (cM (.str " "))]))
 (zL (ifM (orM (zK zP (op2 YQ (op2 ixD (vM 3) (cM (.int 0))) (yA [cM (.str "yes"),cM (.str "no")]))) (orM (zK zP (op2 eqD (vM 4) (lstM []))) (zK zP (op2 inD (cM .non) (vM 4))))) (ZW (cM .non)) (nxM))
 (zr 1 (yA [op2 eqD (op2 ixD (vM 3) (cM (.int 0))) (cM (.str "yes")),op2 Wf (zN (zX yP) [vM 4]) (cM (.int 1)),Z8 (zS ZH (vM 4)) 1 [] (zx 0) none (yA [op2 ixD (vM 0) (cM (.int 0)),zN (zX yT) [ZV (vM 0) (some (cM (.int 1))) none]])])))) [.fz L,.own acc,.fz (.str row),j3,j4] =
  match tSt row with
  |some s=>.ok .nx [.fz L,.own (acc++[eSt s]),.fz (.str row),.fz (.lst ((Txt.split row sm).map .str)),.fz (.lst (s.2.2.map mvL))]
  |none=>.ok (.ret .non) [.fz L,.own acc,.fz (.str row),.fz (.lst ((Txt.split row sm).map .str)),.fz (.lst ((Txt.split row sm).tail.map λx=>mvD (tMv x)))]:=by
 have ln:=(Zv row sm).1
 obtain⟨p,ps,e⟩:=YC row sm
 have pa:Asc p:=ha.part (y:=sm) (by rw[e];exact List.mem_cons_self ..)
 have hsub:∀ z ∈ ps,z ∈ Txt.split row sm:=λz hz=>by rw[e];exact List.mem_cons_of_mem _ hz
 have hpl:ps.length<=1000:=by rw[e]at ln;simp at ln;omega
 rw[Vq (ρ':=[.fz L,.own acc,.fz (.str row),.fz (.lst ((p::ps).map .str)),j4]) (by rw[<-e];exact Xb (Zb (x:=row) (by rfl) (by rfl) (YD (y:=sm) (by decide) (by omega))))]
 have hc:=vx (i:=4) (enc:=D.str) (out:=λx=>mvD (tMv x)) (xs:=ps) (e:=zH ZD [Zc Zi (vM 0) (cM (.str " "))]) (mi:=zS ZH (ZV (vM 3) (some (cM (.int 1))) none)) (ρ:=[.fz L,.own acc,.fz (.str row),.fz (.lst ((p::ps).map .str)),j4]) (Zp (xB (by rfl)) (by rfl)) (by omega) (λx hx acc=>by
  have hx':=hsub x hx
  have lx:=zu hx'
  have l3:=(Zv x sp).1
  have:=ZB (F:=ZD) (as:=[Zc Zi (vM 0) (cM (.str " "))]) (ρ:=[.fz (.str x),.own acc]) (zT (Zb (f:=Zi) (x:=x) (by rfl) (by rfl) (YD (y:=sp) (by decide) (by omega))) (by rfl)) (UC (ws:=Txt.split x sp) (λz hz=>(ha.part hx').part hz) (λz hz=>Nat.le_trans (zu hz) (by omega)) (by omega))
  rw[Q1]at this
  exact this)
 rw[Vq hc]
 show zL _ _ [.fz L,.own acc,.fz (.str row),.fz (.lst ((p::ps).map .str)),.fz (.lst (ps.map λx=>mvD (tMv x)))]=_
 generalize hρ:([.fz L,.own acc,.fz (.str row),.fz (.lst ((p::ps).map .str)),.fz (.lst (ps.map λx=>mvD (tMv x)))]:Rho)=ρ
 have v3:vM 3 ρ=.ok (.lst ((p::ps).map .str)) ρ:=by rw[<-hρ];rfl
 have v0:op2 ixD (vM 3) (cM (.int 0)) ρ=.ok (.str p) ρ:=zI v3 (y:=.int 0) (by rfl) (at0 _ _)
 have v4:vM 4 ρ=.ok (.lst (ps.map λx=>mvD (tMv x))) ρ:=by rw[<-hρ];rfl
 have t1:zK zP (op2 YQ (op2 ixD (vM 3) (cM (.int 0))) (yA [cM (.str "yes"),cM (.str "no")])) ρ=.ok (!decide (p=yes\/p=no)) ρ:=zZ (zI v0 (by rfl) (qV pa)) (by rfl)
 have fail:tSt row=none->orM (zK zP (op2 YQ (op2 ixD (vM 3) (cM (.int 0))) (yA [cM (.str "yes"),cM (.str "no")]))) (orM (zK zP (op2 eqD (vM 4) (lstM []))) (zK zP (op2 inD (cM .non) (vM 4)))) ρ=.ok true ρ->(zL (ifM (orM (zK zP (op2 YQ (op2 ixD (vM 3) (cM (.int 0))) (yA [cM (.str "yes"),cM (.str "no")]))) (orM (zK zP (op2 eqD (vM 4) (lstM []))) (zK zP (op2 inD (cM .non) (vM 4))))) (ZW (cM .non)) (nxM))
 (zr 1 (yA [op2 eqD (op2 ixD (vM 3) (cM (.int 0))) (cM (.str "yes")),op2 Wf (zN (zX yP) [vM 4]) (cM (.int 1)),Z8 (zS ZH (vM 4)) 1 [] (zx 0) none (yA [op2 ixD (vM 0) (cM (.int 0)),zN (zX yT) [ZV (vM 0) (some (cM (.int 1))) none]])])) ρ=match tSt row with
  |some s=>.ok .nx [.fz L,.own (acc++[eSt s]),.fz (.str row),.fz (.lst ((Txt.split row sm).map .str)),.fz (.lst (s.2.2.map mvL))]
  |none=>.ok (.ret .non) [.fz L,.own acc,.fz (.str row),.fz (.lst ((Txt.split row sm).map .str)),.fz (.lst ((Txt.split row sm).tail.map λx=>mvD (tMv x)))]):=λen ec=>by
  rw[en,e]
  unfold zL
  rw[xR ec,<-hρ]
  rfl
 by_cases hp:p=yes\/p=no
 rotate_left
 ·rw[decide_eq_false hp]at t1
  exact fail (by unfold tSt;rw[e];exact if_neg hp) (Wm t1)
 rw[decide_eq_true hp]at t1
 obtain⟨pl1,pl2⟩:=wu tMv ps
 have t2:zK zP (op2 eqD (vM 4) (lstM [])) ρ=.ok (ps.map λx=>mvD (tMv x)).isEmpty ρ:=by
  refine zZ (zI v4 (y:=.lst []) (by rfl) (z:=.bl (ps.map λx=>mvD (tMv x)).isEmpty) ?_) (by rfl)
  unfold eqD
  rw[if_pos (by unfold D.plain D.deep;rw[pl1,show D.plains []=true from rfl];simp;omega)]
  cases ps with
  |nil=>rfl
  |cons a r=>rfl
 have t3:zK zP (op2 inD (cM .non) (vM 4)) ρ=.ok (zc tMv ps).isNone ρ:=by
  refine zZ (zI (by rfl) v4 (z:=.bl (zc tMv ps).isNone) ?_) (by rfl)
  unfold inD
  show (if (D.plain .non && D.plains (ps.map λx=>mvD (tMv x)) && decide (D.deeps (ps.map λx=>mvD (tMv x))<=30))=true then some (D.bl ((ps.map λx=>mvD (tMv x)).any λy=>y.eqv .non)) else none)=_
  rw[pl1,if_pos (by simp[D.plain];omega),uz]
 cases q:zc tMv ps with
 |none=>
  rw[q]at t3
  refine fail (by unfold tSt;rw[e];dsimp only;rw[if_pos hp,q]) (Yr t1 ?_)
  cases hb:(ps.map λx=>mvD (tMv x)).isEmpty with
  |true=>rw[hb]at t2;exact Wm t2
  |false=>rw[hb]at t2;exact Yr t2 t3
 |some vs=>
  rw[q]at t3
  have em:=map_some q
  have vl:=Y0 q
  rw[em]at t2 v4
  cases vs with
  |nil=>exact fail (by unfold tSt;rw[e];dsimp only;rw[if_pos hp,q]) (Yr t1 (Wm t2))
  |cons v vs=>
   have es:tSt row=some (U6 p (v::vs)):=by unfold tSt;rw[e];dsimp only;rw[if_pos hp,q]
   rw[es,Vq (ρ':=ρ) (by rw[XM (Yr t1 (Yr t2 t3))];rfl)]
   dsimp only
   have c1:=YK (enc:=mvL) (out:=eMv) (xs:=v::vs) (e:=yA [op2 ixD (vM 0) (cM (.int 0)),zN (zX yT) [ZV (vM 0) (some (cM (.int 1))) none]]) (mi:=zS ZH (vM 4)) (ρ:=ρ) (ρ':=ρ) (Zp v4 (by rfl)) (by omega) (λu hu acc=>xw (xs:=[.int u.1,.tup (u.2.map .int)]) (zT (zI (x:=mvL u) (y:=.int 0) (by rfl) (by rfl) (at0 _ _)) (zT (Zd (x:=.lst (u.2.map .int)) (xB (by rfl)) (by rfl)) (by rfl))) (by show 2<=1000;decide))
   have c2:yA [op2 eqD (op2 ixD (vM 3) (cM (.int 0))) (cM (.str "yes")),op2 Wf (zN (zX yP) [vM 4]) (cM (.int 1)),Z8 (zS ZH (vM 4)) 1 [] (zx 0) none (yA [op2 ixD (vM 0) (cM (.int 0)),zN (zX yT) [ZV (vM 0) (some (cM (.int 1))) none]])] ρ=.ok (eSt (U6 p (v::vs))) ρ:=
    xw (xs:=[.bl (p == yes),.int (((v::vs).length:Int) - 1),.lst ((v::vs).map eMv)]) (zT (zI v0 (by rfl) (uD pa uy)) (zT (zI (f:=Wf) (x:=.int (v::vs).length) (y:=.int 1) (Zd v4 (show some (D.int (((v::vs).map mvL).length:Nat))=_ by rw[List.length_map])) (by rfl) (by rfl)) (zT c1 (by rfl)))) (by show 3<=1000;decide)
   rw[WZ (ds:=acc) (by rw[<-hρ];rfl) c2 hacc,<-hρ,em,e]
   rfl
end PM
namespace PM
open PySem PySem.StrLaws PyProof.Rows PySem.NumText
noncomputable def trD:Option (List Stt)->D
 |some m=>eM m
 |none=>.non
theorem uQ {x:Str}(ha:Asc x)(hl:x.length<=640):Zm [.str x]=.ok (trD (tr x)):=by
 have ln:=(Zv x nl).1
 refine ZL ?_
 show (Y1 [.fz (.str x),.un,.un,.un,.un]).wp _ _
 unfold Y1
 refine zO (ρ':=[.fz (.str x),.own [],.un,.un,.un]) (by rfl) ?_
 rw[p_seq]
 refine Xy (x:=.lst ((Txt.split x nl).map .str)) (ρ':=[.fz (.str x),.own [],.un,.un,.un]) (Zb (x:=x) (by rfl) (by rfl) (YD (y:=nl) (by decide) (by omega))) (by rfl) ?_
 refine yo (f:=D.str) (λi ρ=>∃ m' j2 j3 j4,zc tSt ((Txt.split x nl).take i)=some m'/\ρ=[.fz (.str x),.own (m'.map eSt),j2,j3,j4]) ⟨[],_,_,_,rfl,rfl⟩ ?_ ?_
 ·rintro i row ρ hi ⟨m',j2,j3,j4,em,rfl⟩
  have hr:=List.mem_of_getElem? hi
  have ml:=Y0 em
  refine⟨[.fz (.str x),.own (m'.map eSt),.fz (.str row),j3,j4],by rfl,?_⟩
  rw[Jq (ha.part hr) (Nat.le_trans (zu hr) hl) (by rw[List.length_map,ml,List.length_take];omega)]
  cases q:tSt row with
  |none=>
   dsimp only
   refine .ok ?_
   unfold Yk
   dsimp only
   rw[if_neg (by unfold Fl.isNx;decide)]
   show D.non=trD (tr x)
   rw[show tr x=none from Xq hr q]
   rfl
  |some s=>
   dsimp only
   refine .ok ⟨m'++[s],.fz (.str row),.fz (.lst ((Txt.split row sm).map .str)),.fz (.lst (s.2.2.map mvL)),?_,?_⟩
   ·rw[take_succ hi];exact Xp em q
   ·rw[List.map_append];rfl
 ·rintro ρ ⟨m',j2,j3,j4,em,rfl⟩
  rw[List.take_length]at em
  rw[if_pos (by rfl),vi (ds:=m'.map eSt) (by rfl)]
  refine zm (yB (by rfl)) ?_
  show D.lst (m'.map eSt)=trD (tr x)
  rw[show tr x=some m' from em]
  rfl
theorem xy {A:Cls}{m:List Stt}(hs:We m):zW A [eM m]=.ok (.bl (yQ m)):=by
 refine ZL ?_
 show (yF A [.fz (eM m),.un,.un]).wp _ _
 unfold yF
 refine zO (ρ':=[.fz (eM m),.fz .non,.un]) (by rfl) ?_
 cases hg:yQ m with
 |true=>
  have e:wB [A.bm] 1 (Zq (zH (zQ A) [vM 0])) [.fz (eM m),.fz .non,.un]=.ok .nx [.fz (eM m),.fz .non,.un]:=by
   unfold wB
   rw[ut (ZB (zT (by rfl) (by rfl)) (Uz (YJ.mp hg) hs A))]
  refine zO e ?_
  exact zm (yB (by rfl)) rfl
 |false=>
  have e0:Zq (zH (zQ A) [vM 0]) [.fz (eM m),.fz .non,.un]=.exn A.bm [.fz (eM m),.fz .non,.un]:=by
   unfold Zq zH
   show ((zQ A [eM m]).to _).bnd _=_
   rw[Uq hs hg]
   rfl
  have e:wB [A.bm] 1 (Zq (zH (zQ A) [vM 0])) [.fz (eM m),.fz .non,.un]=.ok .nx [.un,.fz (.exc A.bm),.un]:=by
   unfold wB
   rw[e0]
   dsimp only
   rw[if_pos (by simp)]
   rfl
  refine zO e ?_
  exact zm (yB (by rfl)) rfl
theorem uO {n:Int}(h0:0<=n)(h1:n<10):(wN n).length<=1:=toString_length_le h0 (by decide) h1
theorem Jb (mx:Nat->Nat) (k most:Nat):∀ s ∈ gM mx k most,s.2.1<=2:=λs hs=>by
 obtain⟨i,_,rfl⟩:=List.mem_map.mp hs
 have:=Xw mx k most i
 show ((nth (zi mx k most) i:Nat):Int)<=2
 omega
theorem Ur (mx:Nat->Nat):(wr (gM mx 0 4)).length<=132:=by
 have hm:=ul mx 0 4 (by decide) (by decide)
 have hl:(gM mx 0 4).length<=4:=by rw[vh];exact (xm mx 0 4 (by decide)).1
 have hb:=Jb mx 0 4
 have hbox:∀ g,Yc (gM mx 0 4) g<=2:=λg=>by
  unfold Yc
  cases q:(gM mx 0 4)[g.toNat]? with
  |none=>decide
  |some s'=>exact hb s' (List.mem_of_getElem? q)
 have hmv:∀ s ∈ gM mx 0 4,∀ v ∈ s.2.2,(wMv v).length<=6:=λs hs v hv=>by
  obtain⟨c,hc⟩:=List.mem_iff_getElem?.mp hv
  have gv:=(hm.sts s hs).mv c v hc
  have b2:=hb s hs
  have hi:∀ x ∈ v.2,x<10:=λx hx=>by have:=gv.hi x hx;split at this<;>omega
  have l2:=hbox v.1
  have ln:=gv.ln
  have:=(YI (y:=sp) (l:=wN v.1::v.2.map wN) 1 3 (λp hp=>by
   rcases List.mem_cons.mp hp with e | e
   ·rw[e];exact uO gv.t0 (by have:=gv.t1;omega)
   ·obtain⟨n,hn,rfl⟩:=List.mem_map.mp e;exact uO (gv.lo n hn) (hi n hn)) (by rw[List.length_cons,List.length_map];omega)).2
  exact this
 have hst:∀ s ∈ gM mx 0 4,(wSt s).length<=32:=λs hs=>by
  have g:=hm.sts s hs
  have b2:=hb s hs
  have:=(YI (y:=sm) (l:=yn s.1::s.2.2.map wMv) 6 4 (λp hp=>by
   rcases List.mem_cons.mp hp with e | e
   ·rw[e];have:(yn s.1).length<=3:=by cases s.1<;>decide
    omega
   ·obtain⟨v,hv,rfl⟩:=List.mem_map.mp e;exact hmv s hs v hv) (by rw[List.length_cons,List.length_map,g.ml];omega)).2
  exact this
 exact (YI (y:=nl) (l:=(gM mx 0 4).map wSt) 32 4 (λp hp=>by
  obtain⟨s,hs,rfl⟩:=List.mem_map.mp hp
  exact hst s hs) (by rw[List.length_map];exact hl)).2
theorem X1 {x:Str}(h:Asc x)(l u:Option Int):Asc (Txt.slice x l u):=by
 unfold Txt.slice
 split
 ·exact h
 ·intro c hc
  have hc':c ∈ ((Builtin.Str.strSliceIndices l u 1 x.length).filterMap (x.cps[·]?)).toArray.toList:=hc
  rw[List.toList_toArray]at hc'
  obtain⟨i,_,e⟩:=List.mem_filterMap.mp hc'
  exact h c (by
   have:x.cps.toList[i]? = some c:=by rw[Array.getElem?_toList];exact e
   exact List.mem_of_getElem? this)
theorem XX {x y:Str}(hx:Asc x)(hy:Asc y):Asc (x++y):=λc hc=>by
 rw[Zw]at hc
 rcases List.mem_append.mp hc with h | h
 ·exact hx c h
 ·exact hy c h
theorem U8 {e:M D}{lo hi:Option (M D)}{ρ:Rho}{x:Str}{l u:Option Int}(he:e ρ=.ok (.str x) ρ)(hlo:ye lo ρ=.ok l ρ)(hhi:ye hi ρ=.ok u ρ)(hx:x.length<=1000):z5 e lo hi ρ=.ok (.str (Txt.slice x l u)) ρ:=by
 unfold z5
 rw[he,Res.bnd_ok,hlo,Res.bnd_ok,hhi,Res.bnd_ok]
 unfold slS
 dsimp only
 rw[if_pos (by rw[sizeLine_eq];omega)]
 rfl
theorem vW {e:M D}{ρ:Rho}{i:Int}(he:e ρ=.ok (.int i) ρ):ye (some e) ρ=.ok (some i) ρ:=by
 unfold ye
 dsimp only
 rw[he]
 rfl
theorem wW {x y:Str}(h:x.length+y.length<=100000):YL (.str x) (.str y)=some (.str (x++y)):=by
 unfold YL
 dsimp only
 rw[if_pos (by rw[sizeLine_eq];omega)]
end PM
namespace PM
open PySem PySem.StrLaws PyProof.Rows PySem.NumText
theorem vO {A:Cls}(h:A.Ok):zh A [.exc A.bt]=.ok (.str "text"):=by
 refine ZL ?_
 unfold y8 ZS
 have i1:Z6 (A.is A.bm) (.exc A.bt)=some (.bl false):=yI (by simp[Cls.is,Cls.all,h.t.symm])
 have i2:Z6 (A.is A.bt) (.exc A.bt)=some (.bl true):=yI (by simp[Cls.is,Cls.all])
 have i3:Z6 (A.is A.bw) (.exc A.bt)=some (.bl false):=yI (by simp[Cls.is,Cls.all,h.tw])
 have i4:Z6 (A.is A.tm) (.exc A.bt)=some (.bl false):=yI (by simp[Cls.is,Cls.all,h.tm])
 have i5:Z6 A.isVE (.exc A.bt)=some (.bl true):=yI (by simp[Cls.isVE,Cls.all])
 have c1:Y8 (.lst [.bl false,.bl true,.bl false,.bl false]) (.bl true)=some (.int 1):=by simp[Y8,D.plain,D.plains,D.deeps,D.deep,D.eqv]
 have c2:Y4 (.lst [.bl false,.bl true,.bl false,.bl false]) (.bl true)=some (.int 1):=by simp[Y4,D.items?,D.plain,D.plains,D.deeps,D.deep,VU,List.findIdx?_cons,D.eqv]
 simp[YA,i1,i2,i3,i4,i5,c1,c2]
theorem Vu (l:List Int):D.plains (l.map .int)=true/\D.deeps (l.map .int)<=0:=by
 induction l with
 |nil=>simp[D.plains,D.deeps]
 |cons a r ih=>simp[D.plains,D.plain,D.deeps,D.deep]at ih ⊢;exact ih
theorem UJ (l:List Mv):D.plains (l.map eMv)=true/\D.deeps (l.map eMv)<=2:=by
 induction l with
 |nil=>simp[D.plains,D.deeps]
 |cons a r ih=>
  have:=Vu a.2
  simp[D.plains,D.plain,D.deeps,D.deep,eMv]at ih this ⊢
  simp[this,ih]
theorem UI (l:List Stt):D.plains (l.map eSt)=true/\D.deeps (l.map eSt)<=4:=by
 induction l with
 |nil=>simp[D.plains,D.deeps]
 |cons a r ih=>
  have:=UJ a.2.2
  simp[D.plains,D.plain,D.deeps,D.deep,eSt]at ih this ⊢
  simp[this,ih]
  omega
theorem x9 (m:List Stt):(eM m).plain=true/\(eM m).deep<=30:=by
 have:=UI m
 simp[eM,D.plain,D.deep]at this ⊢
 simp[this]
 omega
theorem Xg {t:Str}{m:List Stt}:W4 t=some m ↔ tr t=some m/\yQ m=true:=by
 constructor
 ·intro h
  unfold W4 at h
  cases q:rd t with
  |none=>rw[q]at h;cases h
  |some m'=>
   rw[q]at h
   dsimp only at h
   split at h
   ·rename_i hg
    cases h
    refine⟨?_,hg.1⟩
    have:=jS (YJ.mp hg.1)
    rw[hg.2]at this
    exact this
   ·cases h
 ·rintro⟨h,hg⟩
  obtain⟨e1,e2⟩:=Ux h
  unfold W4
  rw[e1]
  dsimp only
  rw[if_pos ⟨hg,e2⟩]
theorem kI {z:Int}(h0:0<=z)(h1:z<12):∃ c,c<128/\ixS (.str "012 ;\nysno9-") (.int z)=some (.str ⟨#[c]⟩):=by
 have:z=0\/z=1\/z=2\/z=3\/z=4\/z=5\/z=6\/z=7\/z=8\/z=9\/z=10\/z=11:=by omega
 rcases this with rfl | rfl | rfl | rfl | rfl | rfl | rfl | rfl | rfl | rfl | rfl | rfl
 ·exact⟨48,by decide,by rfl⟩
 ·exact⟨49,by decide,by rfl⟩
 ·exact⟨50,by decide,by rfl⟩
 ·exact⟨32,by decide,by rfl⟩
 ·exact⟨59,by decide,by rfl⟩
 ·exact⟨10,by decide,by rfl⟩
 ·exact⟨121,by decide,by rfl⟩
 ·exact⟨115,by decide,by rfl⟩
 ·exact⟨110,by decide,by rfl⟩
 ·exact⟨111,by decide,by rfl⟩
 ·exact⟨57,by decide,by rfl⟩
 ·exact⟨45,by decide,by rfl⟩
end PM
namespace PM
open PySem PySem.StrLaws PyProof.Rows PySem.NumText
theorem wU (x y:Str):(x++y).length=x.length+y.length:=by rw[<-Z1,Zw,List.length_append,Z1,Z1]
theorem Yl {i:Nat}{e:M D}{ρ ρ' ρ2:Rho}{x:D}(he:e ρ=.ok x ρ')(h:ρ'.set i (.fz x)=ρ2):ZE i e ρ=.ok .nx ρ2:=by rw[Xb he,h]
theorem jB (c:Nat):(⟨#[c]⟩ : Str).length=1:=rfl
noncomputable def jh:M Fl:=zL (ZE 4 (zH zV [vM 0,op2 zk (cM (.int 101)) (vM 3)]))
 (zL (ZE 5 (op2 yU (op2 Yb (vM 4) (cM (.int 8))) (op2 zk (zN (zX Wr) [vM 2]) (cM (.int 1)))))
 (zL (ZE 6 (op2 ixS (cM (.str "012 ;\nysno9-")) (op2 yU (op2 Yb (vM 4) (cM (.int 4096))) (cM (.int 12)))))
 (zL (ZE 7 (lstM [op2 YL (op2 YL (z5 (vM 2) none (some (vM 5))) (vM 6)) (z5 (vM 2) (some (vM 5)) none),op2 YL (op2 YL (z5 (vM 2) none (some (vM 5))) (vM 6)) (z5 (vM 2) (some (op2 zk (vM 5) (cM (.int 1)))) none),op2 YL (z5 (vM 2) none (some (vM 5))) (z5 (vM 2) (some (op2 zk (vM 5) (cM (.int 1)))) none)]))
 (ZE 2 (op2 ixD (vM 7) (op2 yU (vM 4) (cM (.int 3))))))))
theorem jp {s:D}{mx:Nat->Nat}(hs:wA s mx){M:D}{t:Str}(ha:Asc t)(hl:t.length<=300) (i:Nat){j4 j5 j6 j7:Slot} :
  (jh [.fz s,.fz M,.fz (.str t),.fz (.int i),j4,j5,j6,j7,.un,.un,.un,.un]).wp (λf ρ'=>f=.nx/\∃ t' k4 k5 k6 k7,Asc t'/\t'.length+1<=2 * (t.length+1)/\ρ'=[.fz s,.fz M,.fz (.str t'),.fz (.int i),k4,k5,k6,k7,.un,.un,.un,.un]) λ_=>False:=by
 unfold jh
 obtain⟨c,hc,ec⟩:=kI (z:=(mx (101+i):Int) / 4096 % 12) (by omega) (by omega)
 have el:Wr (.str t)=some (.int (t.length:Nat)):=by
  unfold Wr
  dsimp only
  rw[if_pos (by rw[sizeLine_eq];omega)]
 refine zO (ρ':=[.fz s,.fz M,.fz (.str t),.fz (.int i),.fz (.int (mx (101+i))),j5,j6,j7,.un,.un,.un,.un]) (Yl (ZB (zT (by rfl) (zT (zI (by rfl) (by rfl) (s_add _ _)) (by rfl))) (hs.at (101+i) (by omega))) (by rfl)) ?_
 generalize hp:(mx (101+i):Int) / 8 % ((t.length:Int)+1)=p
 refine zO (ρ':=[.fz s,.fz M,.fz (.str t),.fz (.int i),.fz (.int (mx (101+i))),.fz (.int p),j6,j7,.un,.un,.un,.un]) (by
  rw[<-hp]
  exact Yl (zI (zI (by rfl) (by rfl) (s_fdiv _ _ (by decide))) (zI (Zd (by rfl) el) (by rfl) (s_add _ _)) (s_mod _ _ (by omega))) (by rfl)) ?_
 refine zO (ρ':=[.fz s,.fz M,.fz (.str t),.fz (.int i),.fz (.int (mx (101+i))),.fz (.int p),.fz (.str ⟨#[c]⟩),j7,.un,.un,.un,.un]) (Yl (zI (by rfl) (zI (zI (by rfl) (by rfl) (s_fdiv _ _ (by decide))) (by rfl) (s_mod _ _ (by decide))) ec) (by rfl)) ?_
 generalize hρ:([.fz s,.fz M,.fz (.str t),.fz (.int i),.fz (.int (mx (101+i))),.fz (.int p),.fz (.str ⟨#[c]⟩),j7,.un,.un,.un,.un]:Rho)=ρ
 have v2:vM 2 ρ=.ok (.str t) ρ:=by rw[<-hρ];rfl
 have v5:vM 5 ρ=.ok (.int p) ρ:=by rw[<-hρ];rfl
 have v6:vM 6 ρ=.ok (.str ⟨#[c]⟩) ρ:=by rw[<-hρ];rfl
 have v51:op2 zk (vM 5) (cM (.int 1)) ρ=.ok (.int (p+1)) ρ:=zI v5 (by rfl) (s_add _ _)
 have a:z5 (vM 2) none (some (vM 5)) ρ=.ok (.str (Txt.slice t none (some p))) ρ:=U8 v2 (by rfl) (vW v5) (by omega)
 have b:z5 (vM 2) (some (vM 5)) none ρ=.ok (.str (Txt.slice t (some p) none)) ρ:=U8 v2 (vW v5) (by rfl) (by omega)
 have b1:z5 (vM 2) (some (op2 zk (vM 5) (cM (.int 1)))) none ρ=.ok (.str (Txt.slice t (some (p+1)) none)) ρ:=U8 v2 (vW v51) (by rfl) (by omega)
 have la:=Txt.slice_le t none (some p)
 have lb:=Txt.slice_le t (some p) none
 have lb1:=Txt.slice_le t (some (p+1)) none
 have qa:=X1 ha none (some p)
 have qb:=X1 ha (some p) none
 have qb1:=X1 ha (some (p+1)) none
 generalize Txt.slice t none (some p)=A at *
 generalize Txt.slice t (some p) none=B at *
 generalize Txt.slice t (some (p+1)) none=B1 at *
 have lc:=jB c
 have qc:Asc ⟨#[c]⟩:=λz hz=>by
  have:z ∈ [c]:=hz
  rw[List.mem_singleton]at this
  omega
 generalize (⟨#[c]⟩ : Str)=C at *
 have lac:=wU A C
 have lacb:=wU (A++C) B
 have lacb1:=wU (A++C) B1
 have lab1:=wU A B1
 have e1:op2 YL (z5 (vM 2) none (some (vM 5))) (vM 6) ρ=.ok (.str (A++C)) ρ:=zI a v6 (wW (by omega))
 have el:lstM [op2 YL (op2 YL (z5 (vM 2) none (some (vM 5))) (vM 6)) (z5 (vM 2) (some (vM 5)) none),op2 YL (op2 YL (z5 (vM 2) none (some (vM 5))) (vM 6)) (z5 (vM 2) (some (op2 zk (vM 5) (cM (.int 1)))) none),op2 YL (z5 (vM 2) none (some (vM 5))) (z5 (vM 2) (some (op2 zk (vM 5) (cM (.int 1)))) none)] ρ=.ok (.lst [.str (A++C++B),.str (A++C++B1),.str (A++B1)]) ρ:=
  wT (zT (zI e1 b (wW (by omega))) (zT (zI e1 b1 (wW (by omega))) (zT (zI a b1 (wW (by omega))) (by rfl)))) (by simp)
 refine zO (Xb el) ?_
 subst hρ
 have fin:∀ t':Str,Asc t'->t'.length+1<=2 * (t.length+1)->ixD (.lst [.str (A++C++B),.str (A++C++B1),.str (A++B1)]) (.int ((mx (101+i):Int) % 3))=some (.str t')->(ZE 2 (op2 ixD (vM 7) (op2 yU (vM 4) (cM (.int 3)))) [.fz s,.fz M,.fz (.str t),.fz (.int i),.fz (.int (mx (101+i))),.fz (.int p),.fz (.str C),.fz (.lst [.str (A++C++B),.str (A++C++B1),.str (A++B1)]),.un,.un,.un,.un]).wp (λf ρ'=>f=.nx/\∃ t' k4 k5 k6 k7,Asc t'/\t'.length+1<=2 * (t.length+1)/\ρ'=[.fz s,.fz M,.fz (.str t'),.fz (.int i),k4,k5,k6,k7,.un,.un,.un,.un]) λ_=>False:=
  λt' h1 h2 h3=>zm (Yl (zI (by rfl) (zI (by rfl) (by rfl) (s_mod _ _ (by decide))) h3) (by rfl)) ⟨rfl,t',_,_,_,_,h1,h2,rfl⟩
 have h3:(mx (101+i):Int) % 3=0\/(mx (101+i):Int) % 3=1\/(mx (101+i):Int) % 3=2:=by omega
 rcases h3 with h | h | h
 ·exact fin (A++C++B) (XX (XX qa qc) qb) (by omega) (by rw[h];rfl)
 ·exact fin (A++C++B1) (XX (XX qa qc) qb1) (by omega) (by rw[h];rfl)
 ·exact fin (A++B1) (XX qa qb1) (by omega) (by rw[h];rfl)
noncomputable def jT (A:Cls):M Fl:=zL (ZE 8 (cM .non))
 (zL (ZE 9 (cM .non))
 (zL (yM A.all 9 8 10 (yW A) [vM 2])
 (zL (ZE 11 (zH Zm [vM 2]))
 (zL (ifM (Wb (zK zP (op2 Xj (vM 11) (cM .non))) (zK Zs (zH (zW A) [vM 11]))) (ZW (uL (op2 isD (vM 8) (cM .non)) (op2 eqD (vM 9) (vM 11)))) (nxM))
 (zL (ifM (zK zP (op2 neD (zH (zh A) [vM 8]) (cM (.str "text")))) (ZW (cM (.bl false))) (nxM))
 (zL (ZE 8 (cM .non))
 (zL (wB A.all 8 (Zq (zH (z0 A) [lstM []])))
 (ZW (op2 eqD (zH (zh A) [vM 8]) (cM (.str "machine")))))))))))
theorem Vf:Asc "text":=YX (l:=[116,101,120,116]) rfl (by decide)
theorem X9:Asc "machine":=YX (l:=[109,97,99,104,105,110,101]) rfl (by decide)
theorem jo {A:Cls}(hA:A.Ok){t:Str}(ha:Asc t)(hl:t.length<=640){s M:D}{j3 j4 j5 j6 j7:Slot}:(jT A [.fz s,.fz M,.fz (.str t),j3,j4,j5,j6,j7,.un,.un,.un,.un]).wp (λf _=>f=.ret (.bl true)) λ_=>False:=by
 unfold jT
 refine zO (ρ':=[.fz s,.fz M,.fz (.str t),j3,j4,j5,j6,j7,.fz .non,.un,.un,.un]) (by rfl) (zO (ρ':=[.fz s,.fz M,.fz (.str t),j3,j4,j5,j6,j7,.fz .non,.fz .non,.un,.un]) (by rfl) ?_)
 cases q:W4 t with
 |some m=>
  obtain⟨e1,e2⟩:=Xg.mp q
  have hs:=wj hl (Ux e1).1
  have er:yW A [.str t]=.ok (eM m):=by rw[Vl ha hl,q];rfl
  have et:Zm [.str t]=.ok (eM m):=by rw[uQ ha hl,e1];rfl
  have ei:zW A [eM m]=.ok (.bl true):=by rw[xy hs,e2]
  refine zO (ρ':=[.fz s,.fz M,.fz (.str t),j3,j4,j5,j6,j7,.fz .non,.fz (eM m),.un,.un]) (by
   unfold yM
   show (match yW A [.str t] with | .ok d=>_ | .exn c=>_ | .bad=>_)=_
   rw[er]
   rfl) ?_
  refine zO (ρ':=[.fz s,.fz M,.fz (.str t),j3,j4,j5,j6,j7,.fz .non,.fz (eM m),.un,.fz (eM m)]) (Yl (ZB (xs:=[.str t]) (by rfl) et) (by rfl)) ?_
  rw[p_seq]
  refine zm (ρ:=[.fz s,.fz M,.fz (.str t),j3,j4,j5,j6,j7,.fz .non,.fz (eM m),.un,.fz (eM m)]) (a:=.ret (.bl true)) ?_ (by rw[if_neg (by unfold Fl.isNx;decide)])
  rw[xR (jk (zZ (z:=true) (zI (x:=eM m) (y:=.non) (z:=.bl true) (by rfl) (by rfl) (by rfl)) (by rfl)) (zZ (z:=true) (ZB (xs:=[eM m]) (by rfl) ei) (by rfl)))]
  refine yB ?_
  unfold uL
  rw[show op2 isD (vM 8) (cM D.non) [.fz s,.fz M,.fz (.str t),j3,j4,j5,j6,j7,.fz .non,.fz (eM m),.un,.fz (eM m)]=.ok (.bl true) [.fz s,.fz M,.fz (.str t),j3,j4,j5,j6,j7,.fz .non,.fz (eM m),.un,.fz (eM m)] from zI (x:=.non) (y:=.non) (by rfl) (by rfl) (by rfl),Res.bnd_ok]
  rw[show zP (.bl true)=some true from rfl]
  show op2 eqD (vM 9) (vM 11) [.fz s,.fz M,.fz (.str t),j3,j4,j5,j6,j7,.fz .non,.fz (eM m),.un,.fz (eM m)]=_
  exact zI (by rfl) (by rfl) (jJ _ (x9 m).1 (x9 m).2)
 |none=>
  have er:yW A [.str t]=.exn A.bt:=by rw[Vl ha hl,q];rfl
  refine zO (ρ':=[.fz s,.fz M,.fz (.str t),j3,j4,j5,j6,j7,.fz (.exc A.bt),.fz .non,.un,.un]) (by
   unfold yM
   show (match yW A [.str t] with | .ok d=>_ | .exn c=>_ | .bad=>_)=_
   rw[er]
   dsimp only
   rw[if_pos (by simp[Cls.all])]
   rfl) ?_
  refine zO (ρ':=[.fz s,.fz M,.fz (.str t),j3,j4,j5,j6,j7,.fz (.exc A.bt),.fz .non,.un,.fz (trD (tr t))]) (Yl (ZB (xs:=[.str t]) (by rfl) (uQ ha hl)) (by rfl)) ?_
  generalize hρ:([.fz s,.fz M,.fz (.str t),j3,j4,j5,j6,j7,.fz (.exc A.bt),.fz .non,.un,.fz (trD (tr t))]:Rho)=ρ
  have v11:vM 11 ρ=.ok (trD (tr t)) ρ:=by rw[<-hρ];rfl
  have v8:vM 8 ρ=.ok (.exc A.bt) ρ:=by rw[<-hρ];rfl
  have hlen:ρ.length=12:=by rw[<-hρ];rfl
  have ht:Wb (zK zP (op2 Xj (vM 11) (cM .non))) (zK Zs (zH (zW A) [vM 11])) ρ=.ok false ρ:=by
   cases qt:tr t with
   |none=>
    rw[qt]at v11
    exact kD (zZ (zI v11 (by rfl) (by rfl)) (by rfl))
   |some m=>
    rw[qt]at v11
    have hs:=wj hl (Ux qt).1
    have hg:yQ m=false:=by
     cases hb:yQ m with
     |false=>rfl
     |true=>rw[Xg.mpr ⟨qt,hb⟩]at q;cases q
    have ei:zW A [eM m]=.ok (.bl false):=by rw[xy hs,hg]
    exact jk (zZ (zI v11 (by rfl) (by rfl)) (by rfl)) (zZ (ZB (zT v11 (by rfl)) ei) (by rfl))
  refine zO (ρ':=ρ) (by rw[XM ht];rfl) ?_
  have h2:zK zP (op2 neD (zH (zh A) [vM 8]) (cM (.str "text"))) ρ=.ok false ρ:=
   zZ (zI (ZB (zT v8 (by rfl)) (vO hA)) (by rfl) (V0 Vf Vf)) (by simp[zP])
  refine zO (ρ':=ρ) (by rw[XM h2];rfl) (zO (ρ':=ρ.set 8 (.fz .non)) (by rfl) ?_)
  have e0:Zq (zH (z0 A) [lstM []]) (ρ.set 8 (.fz .non))=.exn A.bm (ρ.set 8 (.fz .non)):=by
   unfold Zq zH
   rw[show za [lstM []] (ρ.set 8 (.fz .non))=.ok [eM []] (ρ.set 8 (.fz .non)) from zT (wT (by rfl) (by decide)) (by rfl),Res.bnd_ok,Ww (m:=[]) (by decide +kernel) (λs hs=>by cases hs)]
   rfl
  refine zO (ρ':=(List.replicate 12 Slot.un).set 8 (.fz (.exc A.bm))) (by
   unfold wB
   rw[e0]
   dsimp only
   rw[if_pos (by simp[Cls.all]),List.length_set,hlen]) ?_
  exact zm (yB (zI (ZB (xs:=[.exc A.bm]) (by rfl) (vP hA)) (by rfl) ((uD X9 X9).trans (by rw[beq_self_eq_true])))) rfl
theorem law_true {A:Cls}(hA:A.Ok){s:D}{mx:Nat->Nat}(hs:wA s mx):QM A [s]=.ok (.bl true):=by
 have gm:=ul mx 0 4 (by decide) (by decide)
 have hsh:=Ur mx
 have aw:=QG gm
 have e0:Zh [s,.int 0,.int 4]=.ok (eM (gM mx 0 4)):=UD hs 0 4 (by decide) (by decide)
 generalize gM mx 0 4=m at *
 have er:yW A [.str (wr m)]=.ok (eM m):=by
  rw[Vl aw (by omega),Xg.mpr ⟨jS gm,YJ.mpr gm⟩]
  rfl
 refine ZL ?_
 show (qm A [.fz s,.un,.un,.un,.un,.un,.un,.un,.un,.un,.un,.un]).wp _ _
 unfold qm
 refine zO (ρ':=[.fz s,.fz (eM m),.un,.un,.un,.un,.un,.un,.un,.un,.un,.un]) (Yl (ZB (xs:=[s,.int 0,.int 4]) (by rfl) e0) (by rfl)) ?_
 refine zO (ρ':=[.fz s,.fz (eM m),.fz (.str (wr m)),.un,.un,.un,.un,.un,.un,.un,.un,.un]) (Yl (ZB (xs:=[eM m]) (by rfl) (Vm gm)) (by rfl)) ?_
 refine zO (ρ':=[.fz s,.fz (eM m),.fz (.str (wr m)),.un,.un,.un,.un,.un,.un,.un,.un,.un]) (by
  rw[XM (Yr (zZ (zI (ZB (xs:=[eM m]) (by rfl) (Wy gm A)) (by rfl) (uZ (.str (wr m)) (Zx aw) (by simp[D.deep]))) (by rfl)) (zZ (zI (ZB (xs:=[.str (wr m)]) (by rfl) er) (by rfl) (uZ (eM m) (x9 m).1 (x9 m).2)) (by rfl)))]
  rfl) ?_
 refine U9 (λρ=>∃ t j3 j4 j5 j6 j7,Asc t/\t.length<=640/\ρ=[.fz s,.fz (eM m),.fz (.str t),j3,j4,j5,j6,j7,.un,.un,.un,.un]) ?_ ?_
 ·refine jH (n:=1+mx 100 % 2) (ρ':=[.fz s,.fz (eM m),.fz (.str (wr m)),.un,.un,.un,.un,.un,.un,.un,.un,.un]) ?_ (by omega) ?_
  ·have:=zI (f:=zk) (a:=cM (.int 1)) (b:=op2 yU (zH zV [vM 0,cM (.int 100)]) (cM (.int 2))) (ρ:=[.fz s,.fz (eM m),.fz (.str (wr m)),.un,.un,.un,.un,.un,.un,.un,.un,.un]) (by rfl) (zI (ZB (xs:=[s,.int 100]) (by rfl) (hs.at 100 (by rfl))) (by rfl) (s_mod _ _ (by decide))) (s_add _ _)
   rw[this]
   congr 2
  ·refine wK (λi ρ=>∃ t j3 j4 j5 j6 j7,Asc t/\t.length+1<=133 * 2 ^ i/\ρ=[.fz s,.fz (eM m),.fz (.str t),j3,j4,j5,j6,j7,.un,.un,.un,.un]) ⟨wr m,_,_,_,_,_,aw,by omega,rfl⟩ ?_ ?_
   ·rintro i ρ hi ⟨t,j3,j4,j5,j6,j7,at',hl,rfl⟩
    have hp:2 ^ i<=2 ^ 1:=Nat.pow_le_pow_right (by decide) (by omega)
    refine⟨[.fz s,.fz (eM m),.fz (.str t),.fz (.int i),j4,j5,j6,j7,.un,.un,.un,.un],by rfl,?_⟩
    refine (jp hs (M:=eM m) at' (by omega) i (j4:=j4) (j5:=j5) (j6:=j6) (j7:=j7)).mono ?_ λ_ h=>h
    rintro f ρ ⟨rfl,t',k4,k5,k6,k7,h1,h2,rfl⟩
    exact⟨t',_,_,_,_,_,h1,by rw[Nat.pow_succ];omega,rfl⟩
   ·rintro ρ ⟨t,j3,j4,j5,j6,j7,at',hl,rfl⟩
    have hp:2 ^ (1+mx 100 % 2)<=2 ^ 2:=Nat.pow_le_pow_right (by decide) (by omega)
    exact⟨rfl,t,_,_,_,_,_,at',by omega,rfl⟩
 ·rintro ρ ⟨t,j3,j4,j5,j6,j7,at',hl,rfl⟩
  refine (jo hA at' hl (s:=s) (M:=eM m) (j3:=j3) (j4:=j4) (j5:=j5) (j6:=j6) (j7:=j7)).mono ?_ λ_ h=>h
  rintro f ρ rfl
  rfl
end PM
namespace PM.K70
open PySem PySem.Spec PyProof.Rows L2 PM
variable {P:Program}{w:World}{K:PySem.W.Frag}{mg:Str->Option Value}{base:Heap}{A:Cls}
theorem x0:FnScope ["machine","move","letters","target","sources","source"] ["machine","move","letters"] (defScope (top 11)):=⟨rfl,rfl,rfl,by decide +kernel,rfl,by decide +kernel,by decide +kernel⟩
theorem vY {f:Addr}{fd:FuncData}(F:Fun K "look_move" "look_move" (top 11) f fd)(T:Txt K mg A)  : FnOk P w K mg base (CX1 P w K) 1 f fd ["machine","move","letters"] (spM K 3 (Z0 A)):=by
 refine ZX F x0 rfl (by decide) λcdv A' outer s H E hr=>?_
 have nd:=x0.nd
 exact zC (z9 3 nd (ZG (zA 1) (zE)))
  (zC (z9 4 nd (ZG (zA 1) (zE)))
  (zC (yX (MW.mt (xW (zv op_lt wx (zA 3) (zE) (nomark _)) (xi (zv op_ge qQ (zA 3) (ZF call_len_seq Zr rfl T.b_len PySem.boot_len (zB (zA 0) (zD))) (nomark _))))) (zG (Z2 T.e_BadMachine T.c_BadMachine)) (ZK))
  (zC (yX (zv (y6 hr) y0 (ZF call_len_seq Zr rfl T.b_len PySem.boot_len (zB (zA 4) (zD))) (ZG (ZG (zA 0) (zA 3)) (zE)) (nomark _)) (zG (Z2 T.e_BadMachine T.c_BadMachine)) (ZK))
  (zC (yX (zv (y6 hr) y0 (UT T.b_len T.b_set (zA 4)) (ZF call_len_seq Zr rfl T.b_len PySem.boot_len (zB (zA 4) (zD))) (nomark _)) (zG (Z2 T.e_BadMachine T.c_BadMachine)) (ZK))
  (zG (Q6 wF rfl (zA 4) (ya 5 nd) (zG (yX (MW.mt (xW (zv op_lt wx (zA 5) (zE) (nomark _)) (xi (zv op_ge qQ (zA 5) (zA 2) (nomark _))))) (zG (Z2 T.e_BadMachine T.c_BadMachine)) (ZK)))))))))
theorem YY:FnScope ["move"] ["move"] (defScope (top 15)):=⟨rfl,rfl,rfl,by decide +kernel,rfl,by decide +kernel,by decide +kernel⟩
theorem wH {f:Addr}{fd:FuncData}(F:Fun K "written_move" "written_move" (top 15) f fd)(T:Txt K mg A)  : FnOk P w K mg base (CX1 P w K) 1 f fd ["move"] (spM K 1 ZT):=by
 refine ZX F YY rfl (by decide) λcdv A' outer s H E hr=>?_
 have nd:=YY.nd
 exact zG (ZA (xG (zb) (xH (nt:=1) (N':=["number","!acc"]) (idx:=[]) rfl (yj (osc:=defScope (top 15)) (L:=s.heap.objs.size) (N:=["move"]) rfl rfl rfl rfl (by decide +kernel) (by decide +kernel) (by decide +kernel) rfl (by decide +kernel) (by decide +kernel)) (qh (zw (Yx (zB (ZG (zA 0) (zE)) (zD))) (ZG (zA 0) (zE)))) (by show ∀ i ∈ ([]:List Nat),i<1;decide) (λ_ _ _ _ _=>Zk 0 1 (by decide) (by show (["number","!acc"]:List Str).Nodup;decide +kernel)) (λ_ _ _ _ _=>.inl ⟨rfl,rfl⟩) (λ_ _ _ _ _=>Zy call_str_int XV rfl T.b_str (by with_unfolding_all rfl) (zB (zA 0) (zD))))))
theorem Ym:FnScope ["part"] ["part"] (defScope (top 19)):=⟨rfl,rfl,rfl,by decide +kernel,rfl,by decide +kernel,by decide +kernel⟩
theorem wy {f:Addr}{fd:FuncData}(F:Fun K "read_number" "read_number" (top 19) f fd)(T:Txt K mg A)  : FnOkC P w K mg base (CX1 P w K) 1 f fd ["part"] (spM K 1 (Zf A)):=by
 refine XZ F Ym rfl (by decide) λcdv A' outer s H E hr=>?_
 have nd:=Ym.nd
 exact qZ (V2 T.b_ValueError T.b_int T.e_BadText T.c_BadText T.nn_BadText (λpins xe E' hp=>zB (zA 0) (zD)))
theorem X8:FnScope ["_law_script","_law_k"] ["_law_script","_law_k"] (defScope (top 21)):=⟨rfl,rfl,rfl,by decide +kernel,rfl,by decide +kernel,by decide +kernel⟩
theorem VI {f:Addr}{fd:FuncData}(F:Fun K "_law_cell" "_law_cell" (top 21) f fd)(T:Txt K mg A)  : FnOk P w K mg base (CX1 P w K) 1 f fd ["_law_script","_law_k"] (spM K 2 ym):=by
 refine ZX F X8 rfl (by decide) λcdv A' outer s H E hr=>?_
 have nd:=X8.nd
 exact zC (yX (WA (zA 0)) (zG (ZA (ZG (zA 0) (yE (zA 1) (ZF call_len_seq Zr rfl T.b_len PySem.boot_len (zB (zA 0) (zD))))))) (ZK))
  (zG (ZA (zE)))
theorem Yo:FnScope ["_law_kept","_law_kinds"] ["_law_kept"] (defScope (top 25)):=⟨rfl,rfl,rfl,by decide +kernel,rfl,by decide +kernel,by decide +kernel⟩
theorem w5 {f:Addr}{fd:FuncData}(F:Fun K "_law_refusal" "_law_refusal" (top 25) f fd)(T:Txt K mg A)  : FnOk P w K mg base (CX1 P w K) 1 f fd ["_law_kept"] (spM K 1 (zh A)):=by
 refine ZX F Yo rfl (by decide) λcdv A' outer s H E hr=>?_
 have nd:=Yo.nd
 exact zC (yX (zv op_isN Vw (zA 0) (yf) (nomark _)) (zG (ZA (zb))) (ZK))
  (zC (YR 1 nd (zB (XH T.b_isinstance T.c_BadMachine T.i_BadMachine (zA 0)) (zB (XH T.b_isinstance T.c_BadText T.i_BadText (zA 0)) (zB (XH T.b_isinstance T.c_BadWord T.i_BadWord (zA 0)) (zD)))))
  (zC (YS 1 (XH T.b_isinstance T.c_TooMany T.i_TooMany (zA 0)))
  (zC (yX (MW.mt (xW (zv (y6 hr) y0 (UV hr 1 (uf)) (zE) (nomark _)) (xi (qY (WA (V3 T.b_isinstance T.b_ValueError (by with_unfolding_all rfl) T.i_VE (zA 0))))))) (zG (ZA (zb))) (ZK))
  (zG (ZA (ZG (Yz (zB (zb) (zB (zb) (zB (zb) (zB (zb) (zD)))))) (UU hr 1 (uf))))))))
theorem X7:FnScope ["_law_machine_here","_law_rows","_law_good","_law_boxes","_law_moves","_law_parts","_law_goal","_law_sources_here"] ["_law_machine_here"] (defScope (top 26)):=⟨rfl,rfl,rfl,by decide +kernel,rfl,by decide +kernel,by decide +kernel⟩
theorem VH {f:Addr}{fd:FuncData}(F:Fun K "_law_text" "_law_text" (top 26) f fd)(T:Txt K mg A)  : FnOk P w K mg base (CX1 P w K) 1 f fd ["_law_machine_here"] (spM K 1 yk):=by
 refine ZX F X7 rfl (by decide) λcdv A' outer s H E hr=>?_
 have nd:=X7.nd
 exact zC (YR 1 nd (zD))
  (zC (xE wF rfl (zA 0) (qj rfl (Yw 2 nd (Yw 3 nd (Yw 4 nd (ub)))) rfl) (zC (YR 5 nd (zB (ZG (Yz (zB (zb) (zB (zb) (zD)))) (ud T.b_int (zB (zA 2) (zD)))) (zD)))
  (zC (xE wF rfl (zA 4) (qj rfl (Yw 6 nd (Yw 7 nd (ub))) rfl) (zG (YS 5 (xG (zb) (zw (Yz (zB (Zy call_str_int XV rfl T.b_str (by with_unfolding_all rfl) (zB (zA 6) (zD))) (zD))) (xH (nt:=1) (N':=["_law_source","!acc"]) (idx:=[]) rfl (yj (osc:=defScope (top 26)) (L:=s.heap.objs.size) (N:=["_law_machine_here","_law_rows","_law_good","_law_boxes","_law_moves","_law_parts","_law_goal","_law_sources_here"]) rfl rfl rfl rfl (by decide +kernel) (by decide +kernel) (by decide +kernel) rfl (by decide +kernel) (by decide +kernel)) (qh (zA 7)) (by show ∀ i ∈ ([]:List Nat),i<8;decide) (λ_ _ _ _ _=>Zk 0 1 (by decide) (by show (["_law_source","!acc"]:List Str).Nodup;decide +kernel)) (λ_ _ _ _ _=>.inl ⟨rfl,rfl⟩) (λ_ _ _ _ _=>Zy call_str_int XV rfl T.b_str (by with_unfolding_all rfl) (zB (zA 0) (zD)))))))))
  (yt 5 (zG (YS 1 (xG (zb) (zA 5))))))))
  (yt 1 (zG (ZA (xG (zb) (zA 1))))))
theorem Yp:FnScope ["_law_words","_law_found","_law_word"] ["_law_words"] (defScope (top 27)):=⟨rfl,rfl,rfl,by decide +kernel,rfl,by decide +kernel,by decide +kernel⟩
theorem w6 {f:Addr}{fd:FuncData}(F:Fun K "_law_numbers" "_law_numbers" (top 27) f fd)(T:Txt K mg A)  : FnOk P w K mg base (CX1 P w K) 1 f fd ["_law_words"] (spM K 1 ZD):=by
 refine ZX F Yp rfl (by decide) λcdv A' outer s H E hr=>?_
 have nd:=Yp.nd
 exact zC (YR 1 nd (zD))
  (zC (xE wF rfl (zA 0) (ya 2 nd) (zC (yX (MW.mt (xW (zv (Yu hr) Yt (zA 2) (zb) (nomark _)) (xW (zv op_gt Vx (ZF call_len_str Vc rfl T.b_len PySem.boot_len (zB (zA 2) (zD))) (zE) (nomark _)) (xW (qY (WA (JZ T.b_all (zB (xH (nt:=1) (N':=["_law_one","!acc"]) (idx:=[]) rfl (yj (osc:=defScope (top 27)) (L:=s.heap.objs.size) (N:=["_law_words","_law_found","_law_word"]) rfl rfl rfl rfl (by decide +kernel) (by decide +kernel) (by decide +kernel) rfl (by decide +kernel) (by decide +kernel)) (JT (zA 2)) (by show ∀ i ∈ ([]:List Nat),i<3;decide) (λ_ _ _ _ _=>Zk 0 1 (by decide) (by show (["_law_one","!acc"]:List Str).Nodup;decide +kernel)) (λ_ _ _ _ _=>.inl ⟨rfl,rfl⟩) (λ_ _ _ _ _=>JX (zA 0) (zb))) (zD))))) (xi (zv (y6 hr) y0 (Zy call_str_int XV rfl T.b_str (by with_unfolding_all rfl) (zB (Zy vG Vd rfl T.b_int (by with_unfolding_all rfl) (zB (zA 2) (zD))) (zD))) (zA 2) (nomark _))))))) (zG (ZA (yf))) (ZK))
  (zG (YS 1 (Zy vG Vd rfl T.b_int (by with_unfolding_all rfl) (zB (zA 2) (zD)))))))
  (yt 1 (zG (ZA (zA 1)))))
theorem xV:FnScope ["machine","state","boxes","moves","move"] ["machine","state"] (defScope (top 10)):=⟨rfl,rfl,rfl,by decide +kernel,rfl,by decide +kernel,by decide +kernel⟩
theorem Wo {f:Addr}{fd:FuncData}(F:Fun K "look_state" "look_state" (top 10) f fd)(T:Txt K mg A)(G_look_move:Fk P w K mg base 1 "look_move" ["machine","move","letters"] 3 (Z0 A)):FnOk P w K mg base (CX1 P w K) 2 f fd ["machine","state"] (spM K 2 (Z9 A)):=by
 refine ZX F xV rfl (by decide) λcdv A' outer s H E hr=>?_
 have nd:=xV.nd
 exact zC (z9 2 nd (ZG (zA 1) (zE)))
  (zC (z9 3 nd (ZG (zA 1) (zE)))
  (zC (yX (MW.mt (xW (zv op_lt wx (zA 2) (zE) (nomark _)) (xi (zv op_gt Vx (zA 2) (ue rfl T.g_MOST_BOXES) (nomark _))))) (zG (Z2 T.e_BadMachine T.c_BadMachine)) (ZK))
  (zC (yX (zv (y6 hr) y0 (ZF call_len_seq Zr rfl T.b_len PySem.boot_len (zB (zA 3) (zD))) (zw (zA 2) (zE)) (nomark _)) (zG (Z2 T.e_BadMachine T.c_BadMachine)) (ZK))
  (zC (xE wF rfl (Yy (zA 3) Z4 (Z3 (zA 2))) (ya 4 nd) (zG (xF (zR G_look_move (hr.mono (by decide)) zp (zB (zA 0) (zB (zA 4) (zB (zA 2) (zD))))))))
  (zG (xF (zR G_look_move (hr.mono (by decide)) zp (zB (zA 0) (zB (ZG (zA 3) (zA 2)) (zB (zw (zA 2) (zE)) (zD)))))))))))
theorem YE:FnScope ["state","good"] ["state"] (defScope (top 14)):=⟨rfl,rfl,rfl,by decide +kernel,rfl,by decide +kernel,by decide +kernel⟩
theorem Xi {f:Addr}{fd:FuncData}(F:Fun K "written_state" "written_state" (top 14) f fd)(T:Txt K mg A)(G_written_move:Fk P w K mg base 1 "written_move" ["move"] 1 ZT):FnOk P w K mg base (CX1 P w K) 2 f fd ["state"] (spM K 1 ZJ):=by
 refine ZX F YE rfl (by decide) λcdv A' outer s H E hr=>?_
 have nd:=YE.nd
 exact zC (z9 1 nd (JW (WA (ZG (zA 0) (zE))) (zb) (zb)))
  (zG (ZA (xG (zb) (zw (Yz (zB (zA 1) (zD))) (xH (nt:=1) (N':=["move","!acc"]) (idx:=[]) rfl (yj (osc:=defScope (top 14)) (L:=s.heap.objs.size) (N:=["state","good"]) rfl rfl rfl rfl (by decide +kernel) (by decide +kernel) (by decide +kernel) rfl (by decide +kernel) (by decide +kernel)) (YT (ZG (zA 0) (zE))) (by show ∀ i ∈ ([]:List Nat),i<2;decide) (λ_ _ _ _ _=>Zk 0 1 (by decide) (by show (["move","!acc"]:List Str).Nodup;decide +kernel)) (λ_ _ _ _ _=>.inl ⟨rfl,rfl⟩) (λ_ _ _ _ _=>zR G_written_move (hr.mono (by decide)) ww (zB (zA 0) (zD))))))))
theorem xz:FnScope ["part","numbers"] ["part"] (defScope (top 18)):=⟨rfl,rfl,rfl,by decide +kernel,rfl,by decide +kernel,by decide +kernel⟩
theorem vX {f:Addr}{fd:FuncData}(F:Fun K "read_move" "read_move" (top 18) f fd)(T:Txt K mg A)(G_read_number:FkC P w K mg base 1 "read_number" ["part"] 1 (Zf A)):FnOkC P w K mg base (CX1 P w K) 2 f fd ["part"] (spM K 1 (Zz A)):=by
 refine XZ F xz rfl (by decide) λcdv A' outer s H E hr=>?_
 have nd:=xz.nd
 exact ZR (Xl 1 (nt:=1) (N':=["some","!acc"]) (idx:=[]) nd rfl Vv (yj (osc:=defScope (top 18)) (L:=s.heap.objs.size) (N:=["part","numbers"]) rfl rfl rfl rfl (by decide +kernel) (by decide +kernel) (by decide +kernel) rfl (by decide +kernel) (by decide +kernel)) (YT (YG (zA 0) (zb))) (by show ∀ i ∈ ([]:List Nat),i<2;decide) (λ_ _ _ _ _=>Zk 0 1 (by decide) (by show (["some","!acc"]:List Str).Nodup;decide +kernel)) (λ_ _ _ _ _ xe E' hp=>XG G_read_number (hr.mono (by decide)) hp (zB (zA 0) (zD))))
  (wP (zG (ZA (Yx (zB (ZG (zA 1) (zE)) (zB (Xm T.b_tuple (zB (Yy (zA 1) (Z3 (zE)) Z4) (zD))) (zD)))))))
theorem wf:FnScope ["_law_script","_law_k","_law_number"] ["_law_script","_law_k"] (defScope (top 22)):=⟨rfl,rfl,rfl,by decide +kernel,rfl,by decide +kernel,by decide +kernel⟩
theorem Vz {f:Addr}{fd:FuncData}(F:Fun K "_law_mix" "_law_mix" (top 22) f fd)(T:Txt K mg A)(G_law_cell:Fk P w K mg base 1 "_law_cell" ["_law_script","_law_k"] 2 ym):FnOk P w K mg base (CX1 P w K) 2 f fd ["_law_script","_law_k"] (spM K 2 zV):=by
 refine ZX F wf rfl (by decide) λcdv A' outer s H E hr=>?_
 have nd:=wf.nd
 exact zC (z9 2 nd (yE (zw (zR G_law_cell (hr.mono (by decide)) zp (zB (zA 0) (zB (zA 1) (zD)))) (Xn (zE) (zw (zA 1) (zE)))) (zE)))
  (zC (z9 2 nd (yE (Xn (zA 2) (zE)) (zE)))
  (zG (ZA (yE (zw (Xn (wR (zA 2) (zE)) (zE)) (zA 2)) (zE)))))
theorem x2:FnScope ["_law_text_here","_law_found","_law_row","_law_parts","_law_moves"] ["_law_text_here"] (defScope (top 28)):=⟨rfl,rfl,rfl,by decide +kernel,rfl,by decide +kernel,by decide +kernel⟩
theorem vZ {f:Addr}{fd:FuncData}(F:Fun K "_law_tried" "_law_tried" (top 28) f fd)(T:Txt K mg A)(G_law_numbers:Fk P w K mg base 1 "_law_numbers" ["_law_words"] 1 ZD):FnOk P w K mg base (CX1 P w K) 2 f fd ["_law_text_here"] (spM K 1 Zm):=by
 refine ZX F x2 rfl (by decide) λcdv A' outer s H E hr=>?_
 have nd:=x2.nd
 exact zC (YR 1 nd (zD))
  (zC (xE wF rfl (YG (zA 0) (zb)) (ya 2 nd) (zC (z9 3 nd (YG (zA 2) (zb)))
  (zC (ua false 4 (nt:=1) (N':=["_law_part","!acc"]) (idx:=[]) nd rfl (yj (osc:=defScope (top 28)) (L:=s.heap.objs.size) (N:=["_law_text_here","_law_found","_law_row","_law_parts","_law_moves"]) rfl rfl rfl rfl (by decide +kernel) (by decide +kernel) (by decide +kernel) rfl (by decide +kernel) (by decide +kernel)) (YT (Yy (zA 3) (Z3 (zE)) Z4)) (by show ∀ i ∈ ([]:List Nat),i<5;decide) (λ_ _ _ _ _=>Zk 0 1 (by decide) (by show (["_law_part","!acc"]:List Str).Nodup;decide +kernel)) (λ_ _ _ _ _=>.inl ⟨rfl,rfl⟩) (λ_ _ _ _ _=>zR G_law_numbers (hr.mono (by decide)) ww (zB (YG (zA 0) (zb)) (zD))))
  (zC (yX (MW.mt (xW (zv (UP hr) UN (ZG (zA 3) (zE)) (Yx (zB (zb) (zB (zb) (zD)))) (by with_unfolding_all rfl)) (xW (zv (Yu hr) Yt (zA 4) (Yz (zD)) (nomark _)) (xi (zv (JJ hr) JI (yf) (zA 4) (by with_unfolding_all rfl)))))) (zG (ZA (yf))) (ZK))
  (zG (YS 1 (Yx (zB (YU (Yu hr) Yt (ZG (zA 3) (zE)) (zb) (nomark _)) (zB (qk (ZF call_len_seq Zr rfl T.b_len PySem.boot_len (zB (zA 4) (zD))) (zE)) (zB (xH (nt:=1) (N':=["_law_move","!acc"]) (idx:=[]) rfl (yj (osc:=defScope (top 28)) (L:=s.heap.objs.size) (N:=["_law_text_here","_law_found","_law_row","_law_parts","_law_moves"]) rfl rfl rfl rfl (by decide +kernel) (by decide +kernel) (by decide +kernel) rfl (by decide +kernel) (by decide +kernel)) (YT (zA 4)) (by show ∀ i ∈ ([]:List Nat),i<5;decide) (λ_ _ _ _ _=>Zk 0 1 (by decide) (by show (["_law_move","!acc"]:List Str).Nodup;decide +kernel)) (λ_ _ _ _ _=>.inl ⟨rfl,rfl⟩) (λ_ _ _ _ _=>Yx (zB (ZG (zA 0) (zE)) (zB (Xm T.b_tuple (zB (Yy (zA 0) (Z3 (zE)) Z4) (zD))) (zD))))) (zD)))))))))))
  (yt 1 (zG (ZA (zA 1)))))
theorem YZ:FnScope ["machine","state"] ["machine"] (defScope (top 9)):=⟨rfl,rfl,rfl,by decide +kernel,rfl,by decide +kernel,by decide +kernel⟩
theorem wI {f:Addr}{fd:FuncData}(F:Fun K "look_machine" "look_machine" (top 9) f fd)(T:Txt K mg A)(G_look_state:Fk P w K mg base 2 "look_state" ["machine","state"] 2 (Z9 A)):FnOk P w K mg base (CX1 P w K) 3 f fd ["machine"] (spM K 1 (zQ A)):=by
 refine ZX F YZ rfl (by decide) λcdv A' outer s H E hr=>?_
 have nd:=YZ.nd
 exact zC (yX (MW.mt (xW (zv op_lt wx (ZF call_len_seq Zr rfl T.b_len PySem.boot_len (zB (zA 0) (zD))) (zE) (nomark _)) (xi (zv op_gt Vx (ZF call_len_seq Zr rfl T.b_len PySem.boot_len (zB (zA 0) (zD))) (ue rfl T.g_MOST_STATES) (nomark _))))) (zG (Z2 T.e_BadMachine T.c_BadMachine)) (ZK))
  (zC (yX (zv (y6 hr) y0 (ZG (ZG (zA 0) (zE)) (zE)) (zE) (nomark _)) (zG (Z2 T.e_BadMachine T.c_BadMachine)) (ZK))
  (zG (xE wF rfl (zA 0) (ya 1 nd) (zG (xF (zR G_look_state (hr.mono (by decide)) zp (zB (zA 0) (zB (zA 1) (zD)))))))))
theorem xU:FnScope ["row","parts","moves"] ["row"] (defScope (top 17)):=⟨rfl,rfl,rfl,by decide +kernel,rfl,by decide +kernel,by decide +kernel⟩
theorem Wn {f:Addr}{fd:FuncData}(F:Fun K "read_state" "read_state" (top 17) f fd)(T:Txt K mg A)(G_read_move:FkC P w K mg base 2 "read_move" ["part"] 1 (Zz A)):FnOkC P w K mg base (CX1 P w K) 3 f fd ["row"] (spM K 1 (ZY A)):=by
 refine XZ F xU rfl (by decide) λcdv A' outer s H E hr=>?_
 have nd:=xU.nd
 exact ZR (Xk (z9 1 nd (YG (zA 0) (zb))))
  (ZR (Xl 2 (nt:=1) (N':=["part","!acc"]) (idx:=[]) nd rfl Vv (yj (osc:=defScope (top 17)) (L:=s.heap.objs.size) (N:=["row","parts","moves"]) rfl rfl rfl rfl (by decide +kernel) (by decide +kernel) (by decide +kernel) rfl (by decide +kernel) (by decide +kernel)) (YT (Yy (zA 1) (Z3 (zE)) Z4)) (by show ∀ i ∈ ([]:List Nat),i<3;decide) (λ_ _ _ _ _=>Zk 0 1 (by decide) (by show (["part","!acc"]:List Str).Nodup;decide +kernel)) (λ_ _ _ _ _ xe E' hp=>XG G_read_move (hr.mono (by decide)) hp (zB (zA 0) (zD))))
  (wP (zG (ZA (Yx (zB (YU (Yu hr) Yt (ZG (zA 1) (zE)) (zb) (nomark _)) (zB (qk (ZF call_len_seq Zr rfl T.b_len PySem.boot_len (zB (zA 2) (zD))) (zE)) (zB (zA 2) (zD)))))))))
theorem Yn:FnScope ["_law_script","_law_k","_law_many","_law_most","_law_left","_law_found"] ["_law_script","_law_k","_law_many","_law_most"] (defScope (top 23)):=⟨rfl,rfl,rfl,by decide +kernel,rfl,by decide +kernel,by decide +kernel⟩
theorem w4 {f:Addr}{fd:FuncData}(F:Fun K "_law_sources" "_law_sources" (top 23) f fd)(T:Txt K mg A)(G_law_mix:Fk P w K mg base 2 "_law_mix" ["_law_script","_law_k"] 2 zV):FnOk P w K mg base (CX1 P w K) 3 f fd ["_law_script","_law_k","_law_many","_law_most"] (spM K 4 Zg):=by
 refine ZX F Yn rfl (by decide) λcdv A' outer s H E hr=>?_
 have nd:=Yn.nd
 exact zC (VL 4 nd T.b_list T.b_range (zA 3))
  (zC (YR 5 nd (zD))
  (zC (qf Jc wF (zv op_lt wx (va 5 T.b_len) (zA 2) (nomark _)) (zG (YS 5 (ql 4 (yE (zR G_law_mix (hr.mono (by decide)) zp (zB (zA 0) (zB (zw (zA 1) (va 5 T.b_len)) (zD)))) (va 4 T.b_len))))))
  (yt 5 (zG (ZA (Xm T.b_tuple (zB (zA 5) (zD))))))))
theorem we:FnScope ["machine"] ["machine"] (defScope (top 13)):=⟨rfl,rfl,rfl,by decide +kernel,rfl,by decide +kernel,by decide +kernel⟩
theorem Vy {f:Addr}{fd:FuncData}(F:Fun K "written" "written" (top 13) f fd)(T:Txt K mg A)(G_look_machine:Fk P w K mg base 3 "look_machine" ["machine"] 1 (zQ A))(G_written_state:Fk P w K mg base 2 "written_state" ["state"] 1 ZJ):FnOk P w K mg base (CX1 P w K) 4 f fd ["machine"] (spM K 1 (z0 A)):=by
 refine ZX F we rfl (by decide) λcdv A' outer s H E hr=>?_
 have nd:=we.nd
 exact zC (xF (zR G_look_machine (hr.mono (by decide)) zp (zB (zA 0) (zD))))
  (zG (ZA (xG (zb) (xH (nt:=1) (N':=["state","!acc"]) (idx:=[]) rfl (yj (osc:=defScope (top 13)) (L:=s.heap.objs.size) (N:=["machine"]) rfl rfl rfl rfl (by decide +kernel) (by decide +kernel) (by decide +kernel) rfl (by decide +kernel) (by decide +kernel)) (YT (zA 0)) (by show ∀ i ∈ ([]:List Nat),i<1;decide) (λ_ _ _ _ _=>Zk 0 1 (by decide) (by show (["state","!acc"]:List Str).Nodup;decide +kernel)) (λ_ _ _ _ _=>.inl ⟨rfl,rfl⟩) (λ_ _ _ _ _=>zR G_written_state (hr.mono (by decide)) ww (zB (zA 0) (zD)))))))
theorem Yq:FnScope ["_law_script","_law_k","_law_most","_law_boxes","_law_j","_law_found","_law_state","_law_moves","_law_case","_law_far","_law_goals","_law_goal"] ["_law_script","_law_k","_law_most"] (defScope (top 24)):=⟨rfl,rfl,rfl,by decide +kernel,rfl,by decide +kernel,by decide +kernel⟩
theorem w8 {f:Addr}{fd:FuncData}(F:Fun K "_law_machine" "_law_machine" (top 24) f fd)(T:Txt K mg A)(G_law_mix:Fk P w K mg base 2 "_law_mix" ["_law_script","_law_k"] 2 zV)(G_law_sources:Fk P w K mg base 3 "_law_sources" ["_law_script","_law_k","_law_many","_law_most"] 4 Zg):FnOk P w K mg base (CX1 P w K) 4 f fd ["_law_script","_law_k","_law_most"] (spM K 3 Zh):=by
 refine ZX F Yq rfl (by decide) λcdv A' outer s H E hr=>?_
 have nd:=Yq.nd
 exact zC (YR 3 nd (zB (zE) (zD)))
  (zC (wQ wF rfl T.b_range (yE (zR G_law_mix (hr.mono (by decide)) zp (zB (zA 0) (zB (zA 1) (zD)))) (zA 2)) (ya 4 nd) (zG (YS 3 (ZG (Yz (zB (zE) (zB (zE) (zB (zE) (zB (zE) (zD)))))) (yE (zR G_law_mix (hr.mono (by decide)) zp (zB (zA 0) (zB (zw (zw (zA 1) (zE)) (zA 4)) (zD)))) (zE))))))
  (zC (YR 5 nd (zD))
  (yt 3 (zC (wQ wF rfl T.b_range (ZF call_len_seq Zr rfl T.b_len PySem.boot_len (zB (zA 3) (zD))) (ya 6 nd) (zC (YR 7 nd (zD))
  (zC (wQ wF rfl T.b_range (zw (ZG (zA 3) (zA 6)) (zE)) (ya 8 nd) (zC (z9 9 nd (zw (ZG (zA 3) (zA 6)) (ud T.b_int (zB (YU (Yu hr) Yt (zA 8) (ZG (zA 3) (zA 6)) (nomark _)) (zD)))))
  (zC (ua false 10 (nt:=1) (N':=["_law_goal","_law_boxes","_law_far","!acc"]) (idx:=[3,9]) nd rfl (yj (osc:=defScope (top 24)) (L:=s.heap.objs.size) (N:=["_law_script","_law_k","_law_most","_law_boxes","_law_j","_law_found","_law_state","_law_moves","_law_case","_law_far","_law_goals","_law_goal"]) rfl rfl rfl rfl (by decide +kernel) (by decide +kernel) (by decide +kernel) rfl (by decide +kernel) (by decide +kernel)) (qi T.b_range (ZF call_len_seq Zr rfl T.b_len PySem.boot_len (zB (zA 3) (zD)))) (by show ∀ i ∈ ([3,9]:List Nat),i<12;decide) (λ_ _ _ _ _=>Zk 0 1 (by decide) (by show (["_law_goal","_law_boxes","_law_far","!acc"]:List Str).Nodup;decide +kernel)) (λ_ _ _ _ _=>.inr ⟨_,_,rfl,rfl,zv op_le JG (ZG (zA 1) (zA 0)) (zA 2) (nomark _)⟩) (λ_ _ _ _ _=>zA 0))
  (zC (z9 11 nd (ZG (zA 10) (yE (zR G_law_mix (hr.mono (by decide)) zp (zB (zA 0) (zB (zw (zw (zw (zA 1) (zE)) (Xn (zE) (zA 6))) (zA 8)) (zD)))) (ZF call_len_seq Zr rfl T.b_len PySem.boot_len (zB (zA 10) (zD))))))
  (zG (YS 7 (Yx (zB (zA 11) (zB (zR G_law_sources (hr.mono (by decide)) zp (zB (zA 0) (zB (zw (zw (zw (zA 1) (zE)) (Xn (zE) (zA 6))) (Xn (zE) (zA 8))) (zB (ZG (zA 3) (zA 11)) (zB (zA 9) (zD)))))) (zD))))))))))
  (yt 7 (zG (YS 5 (Yx (zB (YU (Yu hr) Yt (yE (wR (zR G_law_mix (hr.mono (by decide)) zp (zB (zA 0) (zB (zw (zw (zA 1) (zE)) (zA 6)) (zD)))) (zE)) (zE)) (zE) (nomark _)) (zB (ZG (zA 3) (zA 6)) (zB (zA 7) (zD)))))))))))
  (yt 5 (zG (ZA (zA 5))))))))
theorem yq:FnScope ["_law_tried_here","_law_kept","e"] ["_law_tried_here"] (defScope (top 29)):=⟨rfl,rfl,rfl,by decide +kernel,rfl,by decide +kernel,by decide +kernel⟩
theorem XA {f:Addr}{fd:FuncData}(F:Fun K "_law_is_machine" "_law_is_machine" (top 29) f fd)(T:Txt K mg A)(G_look_machine:Fk P w K mg base 3 "look_machine" ["machine"] 1 (zQ A)):FnOk P w K mg base (CX1 P w K) 4 f fd ["_law_tried_here"] (spM K 1 (zW A)):=by
 refine ZX F yq rfl (by decide) λcdv A' outer s H E hr=>?_
 have nd:=yq.nd
 exact zC (z9 1 nd (yf))
  (zC (qg (iy:=1) (ie:=2) [A.bm] T.caughtB T.e_BadMachine T.c_BadMachine (λpins xe E' hp=>zG (xF (zR G_look_machine (hr.mono (by decide)) hp (zB (zA 0) (zD))))) nd rfl rfl rfl rfl (by decide))
  (zG (ZA (YU op_isN Vw (zA 1) (yf) (nomark _)))))
theorem uS:FnScope ["text","machine","again"] ["text"] (defScope (top 16)):=⟨rfl,rfl,rfl,by decide +kernel,rfl,by decide +kernel,by decide +kernel⟩
theorem Q0 {f:Addr}{fd:FuncData}(F:Fun K "read" "read" (top 16) f fd)(T:Txt K mg A)(G_read_state:FkC P w K mg base 3 "read_state" ["row"] 1 (ZY A))(G_written:Fk P w K mg base 4 "written" ["machine"] 1 (z0 A)):FnOkC P w K mg base (CX1 P w K) 5 f fd ["text"] (spM K 1 (yW A)):=by
 refine XZ F uS rfl (by decide) λcdv A' outer s H E hr=>?_
 have nd:=uS.nd
 exact ZR (Xl 1 (nt:=1) (N':=["row","!acc"]) (idx:=[]) nd rfl Vv (yj (osc:=defScope (top 16)) (L:=s.heap.objs.size) (N:=["text","machine","again"]) rfl rfl rfl rfl (by decide +kernel) (by decide +kernel) (by decide +kernel) rfl (by decide +kernel) (by decide +kernel)) (YT (YG (zA 0) (zb))) (by show ∀ i ∈ ([]:List Nat),i<3;decide) (λ_ _ _ _ _=>Zk 0 1 (by decide) (by show (["row","!acc"]:List Str).Nodup;decide +kernel)) (λ_ _ _ _ _ xe E' hp=>XG G_read_state (hr.mono (by decide)) hp (zB (zA 0) (zD))))
  (wP (zC (Q5 [A.bm] T.caughtR T.e_BadMachine T.c_BadMachine T.e_BadText T.c_BadText T.nn_BadText (λpins xe E' hp=>zG (z9 2 nd (zR G_written (hr.mono (by decide)) hp (zB (zA 1) (zD))))))
  (zC (yX (zv (y6 hr) y0 (zA 2) (zA 0) (nomark _)) (zG (Z2 T.e_BadText T.c_BadText)) (ZK))
  (zG (ZA (zA 1))))))
theorem qD:FnScope ["_law_script","_law_machine_here","_law_text_here","_law_k","_law_number","_law_at","_law_one","_law_some","_law_kept","_law_found","e","_law_tried_here"] ["_law_script"] (defScope (top 30)):=⟨rfl,rfl,rfl,by decide +kernel,rfl,by decide +kernel,by decide +kernel⟩
theorem JL {f:Addr}{fd:FuncData}(F:Fun K "law" "law" (top 30) f fd)(T:Txt K mg A)(G_law_machine:Fk P w K mg base 4 "_law_machine" ["_law_script","_law_k","_law_most"] 3 Zh)(G_law_text:Fk P w K mg base 1 "_law_text" ["_law_machine_here"] 1 yk)(G_law_tried:Fk P w K mg base 2 "_law_tried" ["_law_text_here"] 1 Zm)(G_law_mix:Fk P w K mg base 2 "_law_mix" ["_law_script","_law_k"] 2 zV)(G_read:FkC P w K mg base 5 "read" ["text"] 1 (yW A))(G_law_is_machine:Fk P w K mg base 4 "_law_is_machine" ["_law_tried_here"] 1 (zW A))(G_law_refusal:Fk P w K mg base 1 "_law_refusal" ["_law_kept"] 1 (zh A))(G_written:Fk P w K mg base 4 "written" ["machine"] 1 (z0 A)):FnOkC P w K mg base (CX1 P w K) 6 f fd ["_law_script"] (spM K 1 (QM A)):=by
 refine XZ F qD rfl (by decide) λcdv A' outer s H E hr=>?_
 have nd:=qD.nd
 exact ZR (Xk (z9 1 nd (zR G_law_machine (hr.mono (by decide)) zp (zB (zA 0) (zB (zE) (zB (zE) (zD)))))))
  (ZR (Xk (z9 2 nd (zR G_law_text (hr.mono (by decide)) zp (zB (zA 1) (zD)))))
  (ZR (JQ (JP (zv (y6 hr) y0 (zR G_written (hr.mono (by decide)) zp (zB (zA 1) (zD))) (zA 2) (nomark _)) (Q4 (y6 hr) y0 (XG G_read (hr.mono (by decide)) zp (zB (zA 2) (zD))) (zA 1) (nomark _))) (zG (ZA (uf))) (ZK))
  (ZR (Xk (wQ wF rfl T.b_range (zw (zE) (yE (zR G_law_mix (hr.mono (by decide)) zp (zB (zA 0) (zB (zE) (zD)))) (zE))) (ya 3 nd) (zC (z9 4 nd (zR G_law_mix (hr.mono (by decide)) zp (zB (zA 0) (zB (zw (zE) (zA 3)) (zD)))))
  (zC (z9 5 nd (yE (wR (zA 4) (zE)) (zw (ZF call_len_str Vc rfl T.b_len PySem.boot_len (zB (zA 2) (zD))) (zE))))
  (zC (z9 6 nd (JV (zb) (yE (wR (zA 4) (zE)) (zE))))
  (zC (z9 7 nd (Yz (zB (XI (XI (yc (zA 2) Z4 (Z3 (zA 5))) (zA 6)) (yc (zA 2) (Z3 (zA 5)) Z4)) (zB (XI (XI (yc (zA 2) Z4 (Z3 (zA 5))) (zA 6)) (yc (zA 2) (Z3 (zw (zA 5) (zE))) Z4)) (zB (XI (yc (zA 2) Z4 (Z3 (zA 5))) (yc (zA 2) (Z3 (zw (zA 5) (zE))) Z4)) (zD))))))
  (zG (z9 2 nd (ZG (zA 7) (yE (zA 4) (zE)))))))))))
  (ZR (Xk (z9 8 nd (yf)))
  (ZR (Xk (z9 9 nd (yf)))
  (ZR (VM 9 8 10 A.all T.caught T.e_BoxError T.c_BoxError G_read (hr.mono (by decide)) (λpins xe E' hp=>zB (zA 2) (zD)) nd rfl rfl rfl rfl rfl rfl)
  (wP (zC (z9 11 nd (zR G_law_tried (hr.mono (by decide)) zp (zB (zA 2) (zD))))
  (zC (yX (MW.mt (JO (zv op_notN UO (zA 11) (yf) (nomark _)) (Q2 (WA (zR G_law_is_machine (hr.mono (by decide)) zp (zB (zA 11) (zD))))))) (zG (ZA (JY (YU op_isN Vw (zA 8) (yf) (nomark _)) (JU (YU (Yu hr) Yt (zA 9) (zA 11) (nomark _)))))) (ZK))
  (zC (yX (zv (y6 hr) y0 (zR G_law_refusal (hr.mono (by decide)) zp (zB (zA 8) (zD))) (zb) (nomark _)) (zG (ZA (uf))) (ZK))
  (zC (z9 8 nd (yf))
  (zC (qg (iy:=8) (ie:=10) A.all T.caught T.e_BoxError T.c_BoxError (λpins xe E' hp=>zG (xF (zR G_written (hr.mono (by decide)) hp (zB (Yz (zD)) (zD))))) nd rfl rfl rfl rfl (by decide))
  (zG (ZA (YU (Yu hr) Yt (zR G_law_refusal (hr.mono (by decide)) zp (zB (zA 8) (zD))) (zb) (nomark _))))))))))))))))
end PM.K70
namespace PM.K70
open PySem PySem.Spec PyProof.Rows L2 PM
noncomputable def uR (K:PySem.W.Frag):Sp:=λvs H Q _=>∃ (a:Addr)(ns:List Int),vs=[.ref a]/\SqL K H a (ns.map V.int)/\ns.length<=63/\∀ H',Q (.bl true) H'
theorem qo {K:PySem.W.Frag}{A:Cls}(hA:A.Ok)(vs:List V)(H:Hp)(Q:VK)(E:XK)(h:uR K vs H Q E):spM K 1 (QM A) vs H Q E:=by
 obtain⟨a,ns,rfl,hq,hl,q⟩:=h
 refine⟨rfl,H,[.lst (ns.map .int)],Same.refl _,zJ.cons (zg.mpr ⟨a,_,rfl,hq,zJ.ofInts ns⟩) zJ.nil,?_⟩
 rw[law_true hA (kA ns)]
 exact λv G' H' _ _ r=>by rw[ZN.mp r];exact q H'
theorem us1 {P:List Value->Prop}(h:∀ a,P [a])(us:List Value)(hl:us.length=1):P us:=match us,hl with
 |[a],_=>h a
theorem us2 {P:List Value->Prop}(h:∀ a b,P [a,b])(us:List Value)(hl:us.length=2):P us:=match us,hl with
 |[a,b],_=>h a b
theorem us3 {P:List Value->Prop}(h:∀ a b c,P [a,b,c])(us:List Value)(hl:us.length=3):P us:=match us,hl with
 |[a,b,c],_=>h a b c
theorem us4 {P:List Value->Prop}(h:∀ a b c d,P [a,b,c,d])(us:List Value)(hl:us.length=4):P us:=match us,hl with
 |[a,b,c,d],_=>h a b c d
theorem ve {K:PySem.W.Frag}{A:Cls}{c:Addr}{R:Addr->Bool->Prop}(h1:R A.bm (A.bm == c))(h2:R A.bw (A.bw == c))(h3:R A.tm (A.tm == c))(h4:R A.bt (A.bt == c))(a:Addr)(b:Bool)(h:A.is c a=some b):R a b:=by
 unfold Cls.is at h
 split at h
 ·rename_i hc
  cases h
  have hm:a ∈ A.all:=by simpa using hc
  simp only[Cls.all,List.mem_cons,List.not_mem_nil,or_false]at hm
  rcases hm with rfl | rfl | rfl | rfl
  ·exact h1
  ·exact h2
  ·exact h3
  ·exact h4
 ·cases h
theorem Zj {K:PySem.W.Frag}{a b:Addr}(h1:PySem.W.kitOne K (.ref a) (.ref a)=some true)(h2:PySem.W.kitOne K (.ref a) (.ref b)=some false):a≠b:=λe=>by
 subst e
 rw[h1]at h2
 cases h2
theorem all_mk {l:PySem.W.OpenLaw}{w:World}{K:PySem.W.Frag}{h:Heap}{mg:Str->Option Value}{fa:Addr}(X:K.In h)(G:h.Ns mainGlobals mg)(hfa:mg "law" = some (.ref fa))
  {f0:Addr}{od0 an0:Option Addr}{sl0:Array (Option Value)}{oc0 kV0 dc0 pm0 cd0 ct0:Value}
  {f1:Addr}{od1 an1:Option Addr}{sl1:Array (Option Value)}{oc1 kV1 dc1 pm1 cd1 ct1:Value}
  {f2:Addr}{od2 an2:Option Addr}{sl2:Array (Option Value)}{oc2 kV2 dc2 pm2 cd2 ct2:Value}
  {f3:Addr}{od3 an3:Option Addr}{sl3:Array (Option Value)}{oc3 kV3 dc3 pm3 cd3 ct3:Value}
  {f4:Addr}{od4 an4:Option Addr}{sl4:Array (Option Value)}{oc4 kV4 dc4 pm4 cd4 ct4:Value}
  {f5:Addr}{od5 an5:Option Addr}{sl5:Array (Option Value)}{oc5 kV5 dc5 pm5 cd5 ct5:Value}
  {f6:Addr}{od6 an6:Option Addr}{sl6:Array (Option Value)}{oc6 kV6 dc6 pm6 cd6 ct6:Value}
  {f7:Addr}{od7 an7:Option Addr}{sl7:Array (Option Value)}{oc7 kV7 dc7 pm7 cd7 ct7:Value}
  {f8:Addr}{od8 an8:Option Addr}{sl8:Array (Option Value)}{oc8 kV8 dc8 pm8 cd8 ct8:Value}
  {f9:Addr}{od9 an9:Option Addr}{sl9:Array (Option Value)}{oc9 kV9 dc9 pm9 cd9 ct9:Value}
  {f10:Addr}{od10 an10:Option Addr}{sl10:Array (Option Value)}{oc10 kV10 dc10 pm10 cd10 ct10:Value}
  {f11:Addr}{od11 an11:Option Addr}{sl11:Array (Option Value)}{oc11 kV11 dc11 pm11 cd11 ct11:Value}
  {f12:Addr}{od12 an12:Option Addr}{sl12:Array (Option Value)}{oc12 kV12 dc12 pm12 cd12 ct12:Value}
  {f13:Addr}{od13 an13:Option Addr}{sl13:Array (Option Value)}{oc13 kV13 dc13 pm13 cd13 ct13:Value}
  {f14:Addr}{od14 an14:Option Addr}{sl14:Array (Option Value)}{oc14 kV14 dc14 pm14 cd14 ct14:Value}
  {f15:Addr}{od15 an15:Option Addr}{sl15:Array (Option Value)}{oc15 kV15 dc15 pm15 cd15 ct15:Value}
  {f16:Addr}{od16 an16:Option Addr}{sl16:Array (Option Value)}{oc16 kV16 dc16 pm16 cd16 ct16:Value}
  {f17:Addr}{od17 an17:Option Addr}{sl17:Array (Option Value)}{oc17 kV17 dc17 pm17 cd17 ct17:Value}
  {f18:Addr}{od18 an18:Option Addr}{sl18:Array (Option Value)}{oc18 kV18 dc18 pm18 cd18 ct18:Value}
  {f19:Addr}{od19 an19:Option Addr}{sl19:Array (Option Value)}{oc19 kV19 dc19 pm19 cd19 ct19:Value}
  {t_MOST_BOXES:Tok}
  {t_MOST_STATES:Tok}
  {be:Addr}
  {bm:Addr}
  {bw:Addr}
  {tm:Addr}
  {bt:Addr}
  {cdd_bm:ClassData}
  {cdd_bw:ClassData}
  {cdd_tm:ClassData}
  {cdd_bt:ClassData}
  (a0:PySem.W.nsIn K mainGlobals "look_move" = some (some (.ref f0)))
  (l0:K.lookup f0=some ⟨oc0,od0,.func (PySem.W.fnOf "look_move" "look_move" (defArgs (top 11)) (defBody (top 11)) (defScope (top 11)) .none kV0 dc0 pm0 an0 cd0 ct0),sl0⟩)
  (c0:PySem.W.codeIn K cd0 "look_move" = true)
  (k0:PySem.W.keepIn K (.ref f0)=true)
  (a1:PySem.W.nsIn K mainGlobals "written_move" = some (some (.ref f1)))
  (l1:K.lookup f1=some ⟨oc1,od1,.func (PySem.W.fnOf "written_move" "written_move" (defArgs (top 15)) (defBody (top 15)) (defScope (top 15)) .none kV1 dc1 pm1 an1 cd1 ct1),sl1⟩)
  (c1:PySem.W.codeIn K cd1 "written_move" = true)
  (k1:PySem.W.keepIn K (.ref f1)=true)
  (a2:PySem.W.nsIn K mainGlobals "read_number" = some (some (.ref f2)))
  (l2:K.lookup f2=some ⟨oc2,od2,.func (PySem.W.fnOf "read_number" "read_number" (defArgs (top 19)) (defBody (top 19)) (defScope (top 19)) .none kV2 dc2 pm2 an2 cd2 ct2),sl2⟩)
  (c2:PySem.W.codeIn K cd2 "read_number" = true)
  (k2:PySem.W.keepIn K (.ref f2)=true)
  (a3:PySem.W.nsIn K mainGlobals "_law_cell" = some (some (.ref f3)))
  (l3:K.lookup f3=some ⟨oc3,od3,.func (PySem.W.fnOf "_law_cell" "_law_cell" (defArgs (top 21)) (defBody (top 21)) (defScope (top 21)) .none kV3 dc3 pm3 an3 cd3 ct3),sl3⟩)
  (c3:PySem.W.codeIn K cd3 "_law_cell" = true)
  (k3:PySem.W.keepIn K (.ref f3)=true)
  (a4:PySem.W.nsIn K mainGlobals "_law_refusal" = some (some (.ref f4)))
  (l4:K.lookup f4=some ⟨oc4,od4,.func (PySem.W.fnOf "_law_refusal" "_law_refusal" (defArgs (top 25)) (defBody (top 25)) (defScope (top 25)) .none kV4 dc4 pm4 an4 cd4 ct4),sl4⟩)
  (c4:PySem.W.codeIn K cd4 "_law_refusal" = true)
  (k4:PySem.W.keepIn K (.ref f4)=true)
  (a5:PySem.W.nsIn K mainGlobals "_law_text" = some (some (.ref f5)))
  (l5:K.lookup f5=some ⟨oc5,od5,.func (PySem.W.fnOf "_law_text" "_law_text" (defArgs (top 26)) (defBody (top 26)) (defScope (top 26)) .none kV5 dc5 pm5 an5 cd5 ct5),sl5⟩)
  (c5:PySem.W.codeIn K cd5 "_law_text" = true)
  (k5:PySem.W.keepIn K (.ref f5)=true)
  (a6:PySem.W.nsIn K mainGlobals "_law_numbers" = some (some (.ref f6)))
  (l6:K.lookup f6=some ⟨oc6,od6,.func (PySem.W.fnOf "_law_numbers" "_law_numbers" (defArgs (top 27)) (defBody (top 27)) (defScope (top 27)) .none kV6 dc6 pm6 an6 cd6 ct6),sl6⟩)
  (c6:PySem.W.codeIn K cd6 "_law_numbers" = true)
  (k6:PySem.W.keepIn K (.ref f6)=true)
  (a7:PySem.W.nsIn K mainGlobals "look_state" = some (some (.ref f7)))
  (l7:K.lookup f7=some ⟨oc7,od7,.func (PySem.W.fnOf "look_state" "look_state" (defArgs (top 10)) (defBody (top 10)) (defScope (top 10)) .none kV7 dc7 pm7 an7 cd7 ct7),sl7⟩)
  (c7:PySem.W.codeIn K cd7 "look_state" = true)
  (k7:PySem.W.keepIn K (.ref f7)=true)
  (a8:PySem.W.nsIn K mainGlobals "written_state" = some (some (.ref f8)))
  (l8:K.lookup f8=some ⟨oc8,od8,.func (PySem.W.fnOf "written_state" "written_state" (defArgs (top 14)) (defBody (top 14)) (defScope (top 14)) .none kV8 dc8 pm8 an8 cd8 ct8),sl8⟩)
  (c8:PySem.W.codeIn K cd8 "written_state" = true)
  (k8:PySem.W.keepIn K (.ref f8)=true)
  (a9:PySem.W.nsIn K mainGlobals "read_move" = some (some (.ref f9)))
  (l9:K.lookup f9=some ⟨oc9,od9,.func (PySem.W.fnOf "read_move" "read_move" (defArgs (top 18)) (defBody (top 18)) (defScope (top 18)) .none kV9 dc9 pm9 an9 cd9 ct9),sl9⟩)
  (c9:PySem.W.codeIn K cd9 "read_move" = true)
  (k9:PySem.W.keepIn K (.ref f9)=true)
  (a10:PySem.W.nsIn K mainGlobals "_law_mix" = some (some (.ref f10)))
  (l10:K.lookup f10=some ⟨oc10,od10,.func (PySem.W.fnOf "_law_mix" "_law_mix" (defArgs (top 22)) (defBody (top 22)) (defScope (top 22)) .none kV10 dc10 pm10 an10 cd10 ct10),sl10⟩)
  (c10:PySem.W.codeIn K cd10 "_law_mix" = true)
  (k10:PySem.W.keepIn K (.ref f10)=true)
  (a11:PySem.W.nsIn K mainGlobals "_law_tried" = some (some (.ref f11)))
  (l11:K.lookup f11=some ⟨oc11,od11,.func (PySem.W.fnOf "_law_tried" "_law_tried" (defArgs (top 28)) (defBody (top 28)) (defScope (top 28)) .none kV11 dc11 pm11 an11 cd11 ct11),sl11⟩)
  (c11:PySem.W.codeIn K cd11 "_law_tried" = true)
  (k11:PySem.W.keepIn K (.ref f11)=true)
  (a12:PySem.W.nsIn K mainGlobals "look_machine" = some (some (.ref f12)))
  (l12:K.lookup f12=some ⟨oc12,od12,.func (PySem.W.fnOf "look_machine" "look_machine" (defArgs (top 9)) (defBody (top 9)) (defScope (top 9)) .none kV12 dc12 pm12 an12 cd12 ct12),sl12⟩)
  (c12:PySem.W.codeIn K cd12 "look_machine" = true)
  (k12:PySem.W.keepIn K (.ref f12)=true)
  (a13:PySem.W.nsIn K mainGlobals "read_state" = some (some (.ref f13)))
  (l13:K.lookup f13=some ⟨oc13,od13,.func (PySem.W.fnOf "read_state" "read_state" (defArgs (top 17)) (defBody (top 17)) (defScope (top 17)) .none kV13 dc13 pm13 an13 cd13 ct13),sl13⟩)
  (c13:PySem.W.codeIn K cd13 "read_state" = true)
  (k13:PySem.W.keepIn K (.ref f13)=true)
  (a14:PySem.W.nsIn K mainGlobals "_law_sources" = some (some (.ref f14)))
  (l14:K.lookup f14=some ⟨oc14,od14,.func (PySem.W.fnOf "_law_sources" "_law_sources" (defArgs (top 23)) (defBody (top 23)) (defScope (top 23)) .none kV14 dc14 pm14 an14 cd14 ct14),sl14⟩)
  (c14:PySem.W.codeIn K cd14 "_law_sources" = true)
  (k14:PySem.W.keepIn K (.ref f14)=true)
  (a15:PySem.W.nsIn K mainGlobals "written" = some (some (.ref f15)))
  (l15:K.lookup f15=some ⟨oc15,od15,.func (PySem.W.fnOf "written" "written" (defArgs (top 13)) (defBody (top 13)) (defScope (top 13)) .none kV15 dc15 pm15 an15 cd15 ct15),sl15⟩)
  (c15:PySem.W.codeIn K cd15 "written" = true)
  (k15:PySem.W.keepIn K (.ref f15)=true)
  (a16:PySem.W.nsIn K mainGlobals "_law_machine" = some (some (.ref f16)))
  (l16:K.lookup f16=some ⟨oc16,od16,.func (PySem.W.fnOf "_law_machine" "_law_machine" (defArgs (top 24)) (defBody (top 24)) (defScope (top 24)) .none kV16 dc16 pm16 an16 cd16 ct16),sl16⟩)
  (c16:PySem.W.codeIn K cd16 "_law_machine" = true)
  (k16:PySem.W.keepIn K (.ref f16)=true)
  (a17:PySem.W.nsIn K mainGlobals "_law_is_machine" = some (some (.ref f17)))
  (l17:K.lookup f17=some ⟨oc17,od17,.func (PySem.W.fnOf "_law_is_machine" "_law_is_machine" (defArgs (top 29)) (defBody (top 29)) (defScope (top 29)) .none kV17 dc17 pm17 an17 cd17 ct17),sl17⟩)
  (c17:PySem.W.codeIn K cd17 "_law_is_machine" = true)
  (k17:PySem.W.keepIn K (.ref f17)=true)
  (a18:PySem.W.nsIn K mainGlobals "read" = some (some (.ref f18)))
  (l18:K.lookup f18=some ⟨oc18,od18,.func (PySem.W.fnOf "read" "read" (defArgs (top 16)) (defBody (top 16)) (defScope (top 16)) .none kV18 dc18 pm18 an18 cd18 ct18),sl18⟩)
  (c18:PySem.W.codeIn K cd18 "read" = true)
  (k18:PySem.W.keepIn K (.ref f18)=true)
  (a19:PySem.W.nsIn K mainGlobals "law" = some (some (.ref f19)))
  (l19:K.lookup f19=some ⟨oc19,od19,.func (PySem.W.fnOf "law" "law" (defArgs (top 30)) (defBody (top 30)) (defScope (top 30)) .none kV19 dc19 pm19 an19 cd19 ct19),sl19⟩)
  (c19:PySem.W.codeIn K cd19 "law" = true)
  (k19:PySem.W.keepIn K (.ref f19)=true)
  (b_ValueError:PySem.W.nsIn K mainGlobals "ValueError" = some none)
  (b_all:PySem.W.nsIn K mainGlobals "all" = some none)
  (b_int:PySem.W.nsIn K mainGlobals "int" = some none)
  (b_isinstance:PySem.W.nsIn K mainGlobals "isinstance" = some none)
  (b_len:PySem.W.nsIn K mainGlobals "len" = some none)
  (b_list:PySem.W.nsIn K mainGlobals "list" = some none)
  (b_range:PySem.W.nsIn K mainGlobals "range" = some none)
  (b_set:PySem.W.nsIn K mainGlobals "set" = some none)
  (b_str:PySem.W.nsIn K mainGlobals "str" = some none)
  (b_tuple:PySem.W.nsIn K mainGlobals "tuple" = some none)
  (g_MOST_BOXES:PySem.W.nsIn K mainGlobals "MOST_BOXES" = some (some (.int 6 t_MOST_BOXES)))
  (g_MOST_STATES:PySem.W.nsIn K mainGlobals "MOST_STATES" = some (some (.int 400 t_MOST_STATES)))
  (c_be:PySem.W.nsIn K mainGlobals "BoxError" = some (some (.ref be)))
  (c_bm:PySem.W.nsIn K mainGlobals "BadMachine" = some (some (.ref bm)))
  (c_bw:PySem.W.nsIn K mainGlobals "BadWord" = some (some (.ref bw)))
  (c_tm:PySem.W.nsIn K mainGlobals "TooMany" = some (some (.ref tm)))
  (c_bt:PySem.W.nsIn K mainGlobals "BadText" = some (some (.ref bt)))
  (e_be:PySem.W.excIn K be Zl zo=true)
  (e_bm:PySem.W.excIn K bm Zl zo=true)
  (e_bw:PySem.W.excIn K bw Zl zo=true)
  (e_tm:PySem.W.excIn K tm Zl zo=true)
  (e_bt:PySem.W.excIn K bt Zl zo=true)
  (m_self:PySem.W.mroIn K bm (.ref bm)=some true)
  (m_bm:PySem.W.mroIn K bm (.ref be)=some true)
  (x_bm:PySem.W.clsIn K bm=some cdd_bm)
  (nm_bm:(cdd_bm.name == ("BadMachine" : Str))=true)
  (ga_bm:PySem.W.findIn K (.ref bm) "__getattribute__" = some (some (.builtin "BaseException.__getattribute__")))
  (no_bm:PySem.W.findIn K (.ref bm) "__getattr__" = some none)
  (cl_bm:PySem.W.findIn K (.ref bm) "__class__" = some (some (.builtin "object.__class__")))
  (ob_bm:PySem.W.mroIn K bm (.type "object")=some true)
  (be_bm:PySem.W.mroIn K bm (.type "BaseException")=some true)
  (ve_bm:PySem.W.kitOne K (.ref bm) (.type "ValueError")=some true)
  (q_bm_bm:PySem.W.kitOne K (.ref bm) (.ref bm)=some true)
  (q_bm_bw:PySem.W.kitOne K (.ref bm) (.ref bw)=some false)
  (q_bm_tm:PySem.W.kitOne K (.ref bm) (.ref tm)=some false)
  (q_bm_bt:PySem.W.kitOne K (.ref bm) (.ref bt)=some false)
  (m_bw:PySem.W.mroIn K bw (.ref be)=some true)
  (x_bw:PySem.W.clsIn K bw=some cdd_bw)
  (ga_bw:PySem.W.findIn K (.ref bw) "__getattribute__" = some (some (.builtin "BaseException.__getattribute__")))
  (no_bw:PySem.W.findIn K (.ref bw) "__getattr__" = some none)
  (cl_bw:PySem.W.findIn K (.ref bw) "__class__" = some (some (.builtin "object.__class__")))
  (ob_bw:PySem.W.mroIn K bw (.type "object")=some true)
  (be_bw:PySem.W.mroIn K bw (.type "BaseException")=some true)
  (ve_bw:PySem.W.kitOne K (.ref bw) (.type "ValueError")=some true)
  (q_bw_bm:PySem.W.kitOne K (.ref bw) (.ref bm)=some false)
  (q_bw_bw:PySem.W.kitOne K (.ref bw) (.ref bw)=some true)
  (q_bw_tm:PySem.W.kitOne K (.ref bw) (.ref tm)=some false)
  (q_bw_bt:PySem.W.kitOne K (.ref bw) (.ref bt)=some false)
  (m_tm:PySem.W.mroIn K tm (.ref be)=some true)
  (x_tm:PySem.W.clsIn K tm=some cdd_tm)
  (ga_tm:PySem.W.findIn K (.ref tm) "__getattribute__" = some (some (.builtin "BaseException.__getattribute__")))
  (no_tm:PySem.W.findIn K (.ref tm) "__getattr__" = some none)
  (cl_tm:PySem.W.findIn K (.ref tm) "__class__" = some (some (.builtin "object.__class__")))
  (ob_tm:PySem.W.mroIn K tm (.type "object")=some true)
  (be_tm:PySem.W.mroIn K tm (.type "BaseException")=some true)
  (ve_tm:PySem.W.kitOne K (.ref tm) (.type "ValueError")=some true)
  (q_tm_bm:PySem.W.kitOne K (.ref tm) (.ref bm)=some false)
  (q_tm_bw:PySem.W.kitOne K (.ref tm) (.ref bw)=some false)
  (q_tm_tm:PySem.W.kitOne K (.ref tm) (.ref tm)=some true)
  (q_tm_bt:PySem.W.kitOne K (.ref tm) (.ref bt)=some false)
  (m_bt:PySem.W.mroIn K bt (.ref be)=some true)
  (x_bt:PySem.W.clsIn K bt=some cdd_bt)
  (nm_bt:(cdd_bt.name == ("BadMachine" : Str))=false)
  (ga_bt:PySem.W.findIn K (.ref bt) "__getattribute__" = some (some (.builtin "BaseException.__getattribute__")))
  (no_bt:PySem.W.findIn K (.ref bt) "__getattr__" = some none)
  (cl_bt:PySem.W.findIn K (.ref bt) "__class__" = some (some (.builtin "object.__class__")))
  (ob_bt:PySem.W.mroIn K bt (.type "object")=some true)
  (be_bt:PySem.W.mroIn K bt (.type "BaseException")=some true)
  (ve_bt:PySem.W.kitOne K (.ref bt) (.type "ValueError")=some true)
  (q_bt_bm:PySem.W.kitOne K (.ref bt) (.ref bm)=some false)
  (q_bt_bw:PySem.W.kitOne K (.ref bt) (.ref bw)=some false)
  (q_bt_tm:PySem.W.kitOne K (.ref bt) (.ref tm)=some false)
  (q_bt_bt:PySem.W.kitOne K (.ref bt) (.ref bt)=some true) :
  ∃ fd:FuncData,(∀ (s:Shared) (v:Value),BindsTo s fd ⟨[v],[]⟩ [("_law_script",v)])/\∀ base:Heap,K.In base->base.Ns mainGlobals mg->FnOkC l.prog w K mg base (CX1 l.prog w K) 6 fa fd ["_law_script"] (uR K):=by
 have e:=hfa.symm.trans (PySem.W.mg_of X G a19)
 cases e
 let A:Cls:=⟨be,bm,bw,tm,bt⟩
 have hA:A.Ok:=⟨Zj q_bm_bm q_bm_bt,Zj q_bm_bm q_bm_bw,Zj q_bm_bm q_bm_tm,Zj q_bt_bt q_bt_bw,Zj q_bt_bt q_bt_tm,Zj q_bw_bw q_bw_tm⟩
 have X_bm:ExcCls K bm:=⟨ga_bm,no_bm,cl_bm,ob_bm,be_bm⟩
 have X_bw:ExcCls K bw:=⟨ga_bw,no_bw,cl_bw,ob_bw,be_bw⟩
 have X_tm:ExcCls K tm:=⟨ga_tm,no_tm,cl_tm,ob_tm,be_tm⟩
 have X_bt:ExcCls K bt:=⟨ga_bt,no_bt,cl_bt,ob_bt,be_bt⟩
 have nbm:Yd K (.ref bm):=by
  unfold PySem.W.clsIn at x_bm
  split at x_bm
  ·rename_i e0
   cases x_bm
   exact⟨bm,_,_,rfl,e0,rfl,eq_of_beq nm_bm⟩
  ·cases x_bm
 have nbt:¬ Yd K (.ref bt):=by
  rintro⟨C,o,cd,e1,e2,e3,e4⟩
  cases e1
  unfold PySem.W.clsIn at x_bt
  rw[e2]at x_bt
  obtain⟨oc,od,dt,osl⟩:=o
  simp only at e3
  subst e3
  cases x_bt
  rw[e4]at nm_bt
  exact absurd nm_bt (by decide)
 have T:Txt K mg A:=
  {c_BoxError:=PySem.W.mg_of X G c_be,c_BadMachine:=PySem.W.mg_of X G c_bm,c_BadWord:=PySem.W.mg_of X G c_bw,c_TooMany:=PySem.W.mg_of X G c_tm,c_BadText:=PySem.W.mg_of X G c_bt,
   e_BoxError:=e_be,e_BadMachine:=e_bm,e_BadWord:=e_bw,e_TooMany:=e_tm,e_BadText:=e_bt,
   caught:=(λc hc=>by
    simp only[Cls.all,List.mem_cons,List.not_mem_nil,or_false]at hc
    rcases hc with rfl | rfl | rfl | rfl
    ·exact⟨e_bm,m_bm⟩
    ·exact⟨e_bw,m_bw⟩
    ·exact⟨e_tm,m_tm⟩
    ·exact⟨e_bt,m_bt⟩),
   caughtR:=(λc hc=>by rw[List.mem_singleton.mp hc];exact⟨e_bm,m_self,nbm⟩),caughtB:=(λc hc=>by rw[List.mem_singleton.mp hc];exact⟨e_bm,m_self⟩),nn_BadText:=nbt,
   i_BadMachine:=(ve (K:=K) (A:=A) (R:=λa b=>(PySem.W.clsIn K a).isSome=true/\ExcCls K a/\PySem.W.kitOne K (.ref a) (.ref bm)=some b) ⟨(by rw[x_bm];rfl),X_bm,by rw[show (bm == bm)=true from beq_self_eq_true _];exact q_bm_bm⟩ ⟨(by rw[x_bw];rfl),X_bw,by rw[show (bw == bm)=false from beq_false_of_ne (Zj q_bw_bw q_bw_bm)];exact q_bw_bm⟩ ⟨(by rw[x_tm];rfl),X_tm,by rw[show (tm == bm)=false from beq_false_of_ne (Zj q_tm_tm q_tm_bm)];exact q_tm_bm⟩ ⟨(by rw[x_bt];rfl),X_bt,by rw[show (bt == bm)=false from beq_false_of_ne (Zj q_bt_bt q_bt_bm)];exact q_bt_bm⟩),
   i_BadWord:=(ve (K:=K) (A:=A) (R:=λa b=>(PySem.W.clsIn K a).isSome=true/\ExcCls K a/\PySem.W.kitOne K (.ref a) (.ref bw)=some b) ⟨(by rw[x_bm];rfl),X_bm,by rw[show (bm == bw)=false from beq_false_of_ne (Zj q_bm_bm q_bm_bw)];exact q_bm_bw⟩ ⟨(by rw[x_bw];rfl),X_bw,by rw[show (bw == bw)=true from beq_self_eq_true _];exact q_bw_bw⟩ ⟨(by rw[x_tm];rfl),X_tm,by rw[show (tm == bw)=false from beq_false_of_ne (Zj q_tm_tm q_tm_bw)];exact q_tm_bw⟩ ⟨(by rw[x_bt];rfl),X_bt,by rw[show (bt == bw)=false from beq_false_of_ne (Zj q_bt_bt q_bt_bw)];exact q_bt_bw⟩),
   i_TooMany:=(ve (K:=K) (A:=A) (R:=λa b=>(PySem.W.clsIn K a).isSome=true/\ExcCls K a/\PySem.W.kitOne K (.ref a) (.ref tm)=some b) ⟨(by rw[x_bm];rfl),X_bm,by rw[show (bm == tm)=false from beq_false_of_ne (Zj q_bm_bm q_bm_tm)];exact q_bm_tm⟩ ⟨(by rw[x_bw];rfl),X_bw,by rw[show (bw == tm)=false from beq_false_of_ne (Zj q_bw_bw q_bw_tm)];exact q_bw_tm⟩ ⟨(by rw[x_tm];rfl),X_tm,by rw[show (tm == tm)=true from beq_self_eq_true _];exact q_tm_tm⟩ ⟨(by rw[x_bt];rfl),X_bt,by rw[show (bt == tm)=false from beq_false_of_ne (Zj q_bt_bt q_bt_tm)];exact q_bt_tm⟩),
   i_BadText:=(ve (K:=K) (A:=A) (R:=λa b=>(PySem.W.clsIn K a).isSome=true/\ExcCls K a/\PySem.W.kitOne K (.ref a) (.ref bt)=some b) ⟨(by rw[x_bm];rfl),X_bm,by rw[show (bm == bt)=false from beq_false_of_ne (Zj q_bm_bm q_bm_bt)];exact q_bm_bt⟩ ⟨(by rw[x_bw];rfl),X_bw,by rw[show (bw == bt)=false from beq_false_of_ne (Zj q_bw_bw q_bw_bt)];exact q_bw_bt⟩ ⟨(by rw[x_tm];rfl),X_tm,by rw[show (tm == bt)=false from beq_false_of_ne (Zj q_tm_tm q_tm_bt)];exact q_tm_bt⟩ ⟨(by rw[x_bt];rfl),X_bt,by rw[show (bt == bt)=true from beq_self_eq_true _];exact q_bt_bt⟩),
   i_VE:=(λa b hab=>by
    unfold Cls.isVE at hab
    split at hab
    ·rename_i hc
     cases hab
     have hm:a ∈ A.all:=by simpa using hc
     simp only[Cls.all,List.mem_cons,List.not_mem_nil,or_false]at hm
     rcases hm with rfl | rfl | rfl | rfl
     ·exact⟨(by rw[x_bm];rfl),X_bm,ve_bm⟩
     ·exact⟨(by rw[x_bw];rfl),X_bw,ve_bw⟩
     ·exact⟨(by rw[x_tm];rfl),X_tm,ve_tm⟩
     ·exact⟨(by rw[x_bt];rfl),X_bt,ve_bt⟩
    ·cases hab),
   b_ValueError:=PySem.W.mg_none_of X G b_ValueError,b_all:=PySem.W.mg_none_of X G b_all,b_int:=PySem.W.mg_none_of X G b_int,b_isinstance:=PySem.W.mg_none_of X G b_isinstance,b_len:=PySem.W.mg_none_of X G b_len,b_list:=PySem.W.mg_none_of X G b_list,b_range:=PySem.W.mg_none_of X G b_range,b_set:=PySem.W.mg_none_of X G b_set,b_str:=PySem.W.mg_none_of X G b_str,b_tuple:=PySem.W.mg_none_of X G b_tuple,g_MOST_BOXES:=⟨_,PySem.W.mg_of X G g_MOST_BOXES⟩,g_MOST_STATES:=⟨_,PySem.W.mg_of X G g_MOST_STATES⟩ }
 refine⟨PySem.W.fnOf "law" "law" (defArgs (top 30)) (defBody (top 30)) (defScope (top 30)) .none kV19 dc19 pm19 an19 cd19 ct19,λs v=>.of_eq rfl,λbase _ _=>?_⟩
 have F0:=fun_mk (st:=top 11) l0 c0 k0
 have O0:=vY (P:=l.prog) (w:=w) (base:=base) (A:=A) F0 T
 have G0:Fk l.prog w K mg base 1 "look_move" ["machine","move","letters"] 3 (Z0 A):=⟨_,_,O0,PySem.W.mg_of X G a0,k0,F0.binds (ps:=["machine","move","letters"]) λ_ _ _ _ _ _=>us3 (λ_ _ _=>rfl)⟩
 have F1:=fun_mk (st:=top 15) l1 c1 k1
 have O1:=wH (P:=l.prog) (w:=w) (base:=base) (A:=A) F1 T
 have G1:Fk l.prog w K mg base 1 "written_move" ["move"] 1 ZT:=⟨_,_,O1,PySem.W.mg_of X G a1,k1,F1.binds (ps:=["move"]) λ_ _ _ _ _ _=>us1 (λ_=>rfl)⟩
 have F2:=fun_mk (st:=top 19) l2 c2 k2
 have O2:=wy (P:=l.prog) (w:=w) (base:=base) (A:=A) F2 T
 have G2:FkC l.prog w K mg base 1 "read_number" ["part"] 1 (Zf A):=⟨_,_,O2,PySem.W.mg_of X G a2,k2,F2.binds (ps:=["part"]) λ_ _ _ _ _ _=>us1 (λ_=>rfl)⟩
 have F3:=fun_mk (st:=top 21) l3 c3 k3
 have O3:=VI (P:=l.prog) (w:=w) (base:=base) (A:=A) F3 T
 have G3:Fk l.prog w K mg base 1 "_law_cell" ["_law_script","_law_k"] 2 ym:=⟨_,_,O3,PySem.W.mg_of X G a3,k3,F3.binds (ps:=["_law_script","_law_k"]) λ_ _ _ _ _ _=>us2 (λ_ _=>rfl)⟩
 have F4:=fun_mk (st:=top 25) l4 c4 k4
 have O4:=w5 (P:=l.prog) (w:=w) (base:=base) (A:=A) F4 T
 have G4:Fk l.prog w K mg base 1 "_law_refusal" ["_law_kept"] 1 (zh A):=⟨_,_,O4,PySem.W.mg_of X G a4,k4,F4.binds (ps:=["_law_kept"]) λ_ _ _ _ _ _=>us1 (λ_=>rfl)⟩
 have F5:=fun_mk (st:=top 26) l5 c5 k5
 have O5:=VH (P:=l.prog) (w:=w) (base:=base) (A:=A) F5 T
 have G5:Fk l.prog w K mg base 1 "_law_text" ["_law_machine_here"] 1 yk:=⟨_,_,O5,PySem.W.mg_of X G a5,k5,F5.binds (ps:=["_law_machine_here"]) λ_ _ _ _ _ _=>us1 (λ_=>rfl)⟩
 have F6:=fun_mk (st:=top 27) l6 c6 k6
 have O6:=w6 (P:=l.prog) (w:=w) (base:=base) (A:=A) F6 T
 have G6:Fk l.prog w K mg base 1 "_law_numbers" ["_law_words"] 1 ZD:=⟨_,_,O6,PySem.W.mg_of X G a6,k6,F6.binds (ps:=["_law_words"]) λ_ _ _ _ _ _=>us1 (λ_=>rfl)⟩
 have F7:=fun_mk (st:=top 10) l7 c7 k7
 have O7:=Wo (P:=l.prog) (w:=w) (base:=base) (A:=A) F7 T G0
 have G7:Fk l.prog w K mg base 2 "look_state" ["machine","state"] 2 (Z9 A):=⟨_,_,O7,PySem.W.mg_of X G a7,k7,F7.binds (ps:=["machine","state"]) λ_ _ _ _ _ _=>us2 (λ_ _=>rfl)⟩
 have F8:=fun_mk (st:=top 14) l8 c8 k8
 have O8:=Xi (P:=l.prog) (w:=w) (base:=base) (A:=A) F8 T G1
 have G8:Fk l.prog w K mg base 2 "written_state" ["state"] 1 ZJ:=⟨_,_,O8,PySem.W.mg_of X G a8,k8,F8.binds (ps:=["state"]) λ_ _ _ _ _ _=>us1 (λ_=>rfl)⟩
 have F9:=fun_mk (st:=top 18) l9 c9 k9
 have O9:=vX (P:=l.prog) (w:=w) (base:=base) (A:=A) F9 T G2
 have G9:FkC l.prog w K mg base 2 "read_move" ["part"] 1 (Zz A):=⟨_,_,O9,PySem.W.mg_of X G a9,k9,F9.binds (ps:=["part"]) λ_ _ _ _ _ _=>us1 (λ_=>rfl)⟩
 have F10:=fun_mk (st:=top 22) l10 c10 k10
 have O10:=Vz (P:=l.prog) (w:=w) (base:=base) (A:=A) F10 T G3
 have G10:Fk l.prog w K mg base 2 "_law_mix" ["_law_script","_law_k"] 2 zV:=⟨_,_,O10,PySem.W.mg_of X G a10,k10,F10.binds (ps:=["_law_script","_law_k"]) λ_ _ _ _ _ _=>us2 (λ_ _=>rfl)⟩
 have F11:=fun_mk (st:=top 28) l11 c11 k11
 have O11:=vZ (P:=l.prog) (w:=w) (base:=base) (A:=A) F11 T G6
 have G11:Fk l.prog w K mg base 2 "_law_tried" ["_law_text_here"] 1 Zm:=⟨_,_,O11,PySem.W.mg_of X G a11,k11,F11.binds (ps:=["_law_text_here"]) λ_ _ _ _ _ _=>us1 (λ_=>rfl)⟩
 have F12:=fun_mk (st:=top 9) l12 c12 k12
 have O12:=wI (P:=l.prog) (w:=w) (base:=base) (A:=A) F12 T G7
 have G12:Fk l.prog w K mg base 3 "look_machine" ["machine"] 1 (zQ A):=⟨_,_,O12,PySem.W.mg_of X G a12,k12,F12.binds (ps:=["machine"]) λ_ _ _ _ _ _=>us1 (λ_=>rfl)⟩
 have F13:=fun_mk (st:=top 17) l13 c13 k13
 have O13:=Wn (P:=l.prog) (w:=w) (base:=base) (A:=A) F13 T G9
 have G13:FkC l.prog w K mg base 3 "read_state" ["row"] 1 (ZY A):=⟨_,_,O13,PySem.W.mg_of X G a13,k13,F13.binds (ps:=["row"]) λ_ _ _ _ _ _=>us1 (λ_=>rfl)⟩
 have F14:=fun_mk (st:=top 23) l14 c14 k14
 have O14:=w4 (P:=l.prog) (w:=w) (base:=base) (A:=A) F14 T G10
 have G14:Fk l.prog w K mg base 3 "_law_sources" ["_law_script","_law_k","_law_many","_law_most"] 4 Zg:=⟨_,_,O14,PySem.W.mg_of X G a14,k14,F14.binds (ps:=["_law_script","_law_k","_law_many","_law_most"]) λ_ _ _ _ _ _=>us4 (λ_ _ _ _=>rfl)⟩
 have F15:=fun_mk (st:=top 13) l15 c15 k15
 have O15:=Vy (P:=l.prog) (w:=w) (base:=base) (A:=A) F15 T G12 G8
 have G15:Fk l.prog w K mg base 4 "written" ["machine"] 1 (z0 A):=⟨_,_,O15,PySem.W.mg_of X G a15,k15,F15.binds (ps:=["machine"]) λ_ _ _ _ _ _=>us1 (λ_=>rfl)⟩
 have F16:=fun_mk (st:=top 24) l16 c16 k16
 have O16:=w8 (P:=l.prog) (w:=w) (base:=base) (A:=A) F16 T G10 G14
 have G16:Fk l.prog w K mg base 4 "_law_machine" ["_law_script","_law_k","_law_most"] 3 Zh:=⟨_,_,O16,PySem.W.mg_of X G a16,k16,F16.binds (ps:=["_law_script","_law_k","_law_most"]) λ_ _ _ _ _ _=>us3 (λ_ _ _=>rfl)⟩
 have F17:=fun_mk (st:=top 29) l17 c17 k17
 have O17:=XA (P:=l.prog) (w:=w) (base:=base) (A:=A) F17 T G12
 have G17:Fk l.prog w K mg base 4 "_law_is_machine" ["_law_tried_here"] 1 (zW A):=⟨_,_,O17,PySem.W.mg_of X G a17,k17,F17.binds (ps:=["_law_tried_here"]) λ_ _ _ _ _ _=>us1 (λ_=>rfl)⟩
 have F18:=fun_mk (st:=top 16) l18 c18 k18
 have O18:=Q0 (P:=l.prog) (w:=w) (base:=base) (A:=A) F18 T G13 G15
 have G18:FkC l.prog w K mg base 5 "read" ["text"] 1 (yW A):=⟨_,_,O18,PySem.W.mg_of X G a18,k18,F18.binds (ps:=["text"]) λ_ _ _ _ _ _=>us1 (λ_=>rfl)⟩
 have F19:=fun_mk (st:=top 30) l19 c19 k19
 have O19:=JL (P:=l.prog) (w:=w) (base:=base) (A:=A) F19 T G16 G5 G11 G10 G18 G17 G4 G15
 exact⟨λvs H Q E h=>O19.len vs H Q E (qo hA vs H Q E h),λA' outer s H args us vs Q E hr e0 hb hv hs=>O19.run A' outer s H args us vs Q E hr e0 hb hv (qo hA vs H Q E hs)⟩
theorem walk {l:PySem.W.OpenLaw}{q:Program}{loose:List Str}{XP:(Str->Option Value)->Heap->Prop}{YP:World->Heap->Prop}{d:DefRec}{K:Params->PySem.W.Frag}(hn:l.most=some 63)(hdf:d.params.defaults=[])
  (hY:∀ (w:World)(h:Heap),YP w h->(K w.params).In h)
  (F:∀ (w:World)(mg:Str->Option Value)(fa:Addr)(h:Heap),(K w.params).In h->h.Ns mainGlobals mg->mg d.name=some (.ref fa) ->
   ∃ fd:FuncData,(∀ (s:Shared) (u:Value),BindsTo s fd ⟨[u],[]⟩ [("_law_script",u)])/\∀ base:Heap,(K w.params).In base->base.Ns mainGlobals mg->FnOkC l.prog w (K w.params) mg base (CX1 l.prog w (K w.params)) 6 fa fd ["_law_script"] (uR (K w.params))) :
  u1 q loose XP YP l.row.toRowW d []:=
 Uv (n:=63) (k:=6) (x:="_law_script") (CX:=λw=>CX1 l.prog w (K w.params)) (sp:=λw=>uR (K w.params)) hn (by decide) hdf ⟨rfl,by decide,by decide⟩ hY F (λ_ _ a ns hl _ hS=>⟨a,ns,rfl,hS,hl,λ_=>rfl⟩) λ_ _ _ _ _ z=>by
  obtain⟨_,_,_,_,_,_,z⟩:=z
  exact z
end PM.K70
open PySem PySem.W PyProof.Rows
namespace PM.H
set_option maxRecDepth 100000 in
set_option maxHeartbeats 0 in
theorem k70:PySem.Challenge.rw_boxword_k70_texts.Holds:=by
 w_on;o_law;k_head;(case hw=>w_witness2)
 k_fill
 refine PM.K70.walk (l:=PySem.Challenge.rw_boxword_k70_texts) rfl rfl (λw h Y=>PySem.W.kIn_of Y) ?F
 case F=>
  intro w mg fa h KX G hmg
  refine' PM.K70.all_mk KX G hmg ?a0 ?l0 ?c0 ?k0 ?a1 ?l1 ?c1 ?k1 ?a2 ?l2 ?c2 ?k2 ?a3 ?l3 ?c3 ?k3 ?a4 ?l4 ?c4 ?k4 ?a5 ?l5 ?c5 ?k5 ?a6 ?l6 ?c6 ?k6 ?a7 ?l7 ?c7 ?k7 ?a8 ?l8 ?c8 ?k8 ?a9 ?l9 ?c9 ?k9 ?a10 ?l10 ?c10 ?k10 ?a11 ?l11 ?c11 ?k11 ?a12 ?l12 ?c12 ?k12 ?a13 ?l13 ?c13 ?k13 ?a14 ?l14 ?c14 ?k14 ?a15 ?l15 ?c15 ?k15 ?a16 ?l16 ?c16 ?k16 ?a17 ?l17 ?c17 ?k17 ?a18 ?l18 ?c18 ?k18 ?a19 ?l19 ?c19 ?k19 ?b_ValueError ?b_all ?b_int ?b_isinstance ?b_len ?b_list ?b_range ?b_set ?b_str ?b_tuple ?g_MOST_BOXES ?g_MOST_STATES ?c_be ?c_bm ?c_bw ?c_tm ?c_bt ?e_be ?e_bm ?e_bw ?e_tm ?e_bt ?m_self ?m_bm ?x_bm ?nm_bm ?ga_bm ?no_bm ?cl_bm ?ob_bm ?be_bm ?ve_bm ?q_bm_bm ?q_bm_bw ?q_bm_tm ?q_bm_bt ?m_bw ?x_bw ?ga_bw ?no_bw ?cl_bw ?ob_bw ?be_bw ?ve_bw ?q_bw_bm ?q_bw_bw ?q_bw_tm ?q_bw_bt ?m_tm ?x_tm ?ga_tm ?no_tm ?cl_tm ?ob_tm ?be_tm ?ve_tm ?q_tm_bm ?q_tm_bw ?q_tm_tm ?q_tm_bt ?m_bt ?x_bt ?nm_bt ?ga_bt ?no_bt ?cl_bt ?ob_bt ?be_bt ?ve_bt ?q_bt_bm ?q_bt_bw ?q_bt_tm ?q_bt_bt
  (case a0=>k_is)
  (case l0=>k_is)
  (case c0=>k_is)
  (case k0=>k_is)
  (case a1=>k_is)
  (case l1=>k_is)
  (case c1=>k_is)
  (case k1=>k_is)
  (case a2=>k_is)
  (case l2=>k_is)
  (case c2=>k_is)
  (case k2=>k_is)
  (case a3=>k_is)
  (case l3=>k_is)
  (case c3=>k_is)
  (case k3=>k_is)
  (case a4=>k_is)
  (case l4=>k_is)
  (case c4=>k_is)
  (case k4=>k_is)
  (case a5=>k_is)
  (case l5=>k_is)
  (case c5=>k_is)
  (case k5=>k_is)
  (case a6=>k_is)
  (case l6=>k_is)
  (case c6=>k_is)
  (case k6=>k_is)
  (case a7=>k_is)
  (case l7=>k_is)
  (case c7=>k_is)
  (case k7=>k_is)
  (case a8=>k_is)
  (case l8=>k_is)
  (case c8=>k_is)
  (case k8=>k_is)
  (case a9=>k_is)
  (case l9=>k_is)
  (case c9=>k_is)
  (case k9=>k_is)
  (case a10=>k_is)
  (case l10=>k_is)
  (case c10=>k_is)
  (case k10=>k_is)
  (case a11=>k_is)
  (case l11=>k_is)
  (case c11=>k_is)
  (case k11=>k_is)
  (case a12=>k_is)
  (case l12=>k_is)
  (case c12=>k_is)
  (case k12=>k_is)
  (case a13=>k_is)
  (case l13=>k_is)
  (case c13=>k_is)
  (case k13=>k_is)
  (case a14=>k_is)
  (case l14=>k_is)
  (case c14=>k_is)
  (case k14=>k_is)
  (case a15=>k_is)
  (case l15=>k_is)
  (case c15=>k_is)
  (case k15=>k_is)
  (case a16=>k_is)
  (case l16=>k_is)
  (case c16=>k_is)
  (case k16=>k_is)
  (case a17=>k_is)
  (case l17=>k_is)
  (case c17=>k_is)
  (case k17=>k_is)
  (case a18=>k_is)
  (case l18=>k_is)
  (case c18=>k_is)
  (case k18=>k_is)
  (case a19=>k_is)
  (case l19=>k_is)
  (case c19=>k_is)
  (case k19=>k_is)
  (case b_ValueError=>k_is)
  (case b_all=>k_is)
  (case b_int=>k_is)
  (case b_isinstance=>k_is)
  (case b_len=>k_is)
  (case b_list=>k_is)
  (case b_range=>k_is)
  (case b_set=>k_is)
  (case b_str=>k_is)
  (case b_tuple=>k_is)
  (case g_MOST_BOXES=>k_is)
  (case g_MOST_STATES=>k_is)
  (case c_be=>k_is)
  (case c_bm=>k_is)
  (case c_bw=>k_is)
  (case c_tm=>k_is)
  (case c_bt=>k_is)
  (case e_be=>k_exc)
  (case e_bm=>k_exc)
  (case e_bw=>k_exc)
  (case e_tm=>k_exc)
  (case e_bt=>k_exc)
  (case m_self=>k_is)
  (case m_bm=>k_is)
  (case x_bm=>k_is)
  (case nm_bm=>rfl)
  (case ga_bm=>k_is)
  (case no_bm=>k_is)
  (case cl_bm=>k_is)
  (case ob_bm=>k_is)
  (case be_bm=>k_is)
  (case ve_bm=>kit_is)
  (case q_bm_bm=>kit_is)
  (case q_bm_bw=>kit_is)
  (case q_bm_tm=>kit_is)
  (case q_bm_bt=>kit_is)
  (case m_bw=>k_is)
  (case x_bw=>k_is)
  (case ga_bw=>k_is)
  (case no_bw=>k_is)
  (case cl_bw=>k_is)
  (case ob_bw=>k_is)
  (case be_bw=>k_is)
  (case ve_bw=>kit_is)
  (case q_bw_bm=>kit_is)
  (case q_bw_bw=>kit_is)
  (case q_bw_tm=>kit_is)
  (case q_bw_bt=>kit_is)
  (case m_tm=>k_is)
  (case x_tm=>k_is)
  (case ga_tm=>k_is)
  (case no_tm=>k_is)
  (case cl_tm=>k_is)
  (case ob_tm=>k_is)
  (case be_tm=>k_is)
  (case ve_tm=>kit_is)
  (case q_tm_bm=>kit_is)
  (case q_tm_bw=>kit_is)
  (case q_tm_tm=>kit_is)
  (case q_tm_bt=>kit_is)
  (case m_bt=>k_is)
  (case x_bt=>k_is)
  (case nm_bt=>rfl)
  (case ga_bt=>k_is)
  (case no_bt=>k_is)
  (case cl_bt=>k_is)
  (case ob_bt=>k_is)
  (case be_bt=>k_is)
  (case ve_bt=>kit_is)
  (case q_bt_bm=>kit_is)
  (case q_bt_bw=>kit_is)
  (case q_bt_tm=>kit_is)
  (case q_bt_bt=>kit_is)
end PM.H
set_option maxRecDepth 100000 in
theorem PySem.Challenge.cw_boxword_k70_texts_holds : PySem.Challenge.rw_boxword_k70_texts.Holds := by
 exact PM.H.k70
