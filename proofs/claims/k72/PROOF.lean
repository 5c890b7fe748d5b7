import PyProof.Rows.All
import Wide.All
import OpenK.AllK
import Wide.FinOn
import Lean
import PyProof.EqAt
import PyProof.EqKinds
import PyProof.TupleCall
import PyProof.NeKinds
import PyProof.Rows.SortWalk
import PyProof.Rows.SortRuns
import KE.KMinKey
import PyProof.IsRules
import PySem.SetOps
import PyProof.SetScanFacts
import PyProof.TupleKey
import PyProof.SetKind
import PyProof.Rows.SetFrom
import KE.KRevSl
import PyProof.Rows.SumAny
import PyProof.EnumMake
import PyProof.SeqI3
import PyProof.TupleOfGen
import PyProof.ListRange
import PyProof.CollectIter
import PyProof.DictItems
import KE.KDictList
import PySem.Challenge.RW_unlikesteps_k72_whole_corners
set_option Elab.async false
set_option linter.all false
set_option maxRecDepth 100000
set_option maxHeartbeats 0
namespace L2
open PySem PySem.Spec PyProof.Rows
abbrev Key:=Sum Int Str
def xk:Key→Value→Bool
 | .inl k,v=>Value.isInt k v
 | .inr x,v=>Value.isStrOf x v
def C6 (w:World):Key→Int
 | .inl k=>hashInt k
 | .inr x=>hashStr w x
theorem ZN:∀{k:Key}{v:Value},xk k v=true→(∃i t,k=Sum.inl i∧v=Value.int i t)∨(∃x t,k=Sum.inr x∧v=Value.str x t)
 | .inl i,v,h=>by
  obtain⟨t,e⟩:=Value.isInt_shape (k:=i) (v:=v) h
  exact .inl ⟨i,t,rfl,e⟩
 | .inr x,v,h=>by
  obtain⟨t,e⟩:=Value.isStrOf_shape (x:=x) (v:=v) h
  exact .inr ⟨x,t,rfl,e⟩
theorem Ht (a b:Int):decide ((Sum.inl a:Key)=Sum.inl b)=(a==b):=by
 by_cases e:a=b
 ·subst e;simp
 ·have h:¬(Sum.inl a:Key)=Sum.inl b:=fun q=>e (Sum.inl.inj q)
  rw[decide_eq_false h]
  exact(beq_eq_false_iff_ne.mpr e).symm
theorem Hw (a b:Str):decide ((Sum.inr a:Key)=Sum.inr b)=decide (a=b):=by
 by_cases e:a=b
 ·subst e;simp
 ·have h:¬(Sum.inr a:Key)=Sum.inr b:=fun q=>e (Sum.inr.inj q)
  rw[decide_eq_false h,decide_eq_false e]
theorem Hu (a:Int) (b:Str):decide ((Sum.inl a:Key)=Sum.inr b)=false:=decide_eq_false (fun q=>nomatch q)
theorem Hv (a:Str) (b:Int):decide ((Sum.inr a:Key)=Sum.inl b)=false:=decide_eq_false (fun q=>nomatch q)
def w6 (prog:Program) (w:World):PySem.KeyKind prog w Key where
 is:=xk
 hash:=C6 w
 inj:=fun v a b ha hb=>by
  rcases ZN ha with ⟨i,t,rfl,rfl⟩ |⟨x,t,rfl,rfl⟩
  ·rcases ZN hb with ⟨j,u,rfl,e⟩ |⟨y,u,rfl,e⟩
   ·injection e with e1 _;rw[e1]
   ·exact nomatch e
  ·rcases ZN hb with ⟨j,u,rfl,e⟩ |⟨y,u,rfl,e⟩
   ·exact nomatch e
   ·injection e with e1 _;rw[e1]
 byValue:=fun k v h=>by
  rcases ZN h with ⟨i,t,rfl,rfl⟩ |⟨x,t,rfl,rfl⟩<;>rfl
 pyHash:=fun hv h=>by
  rcases ZN hv with ⟨i,t,rfl,rfl⟩ |⟨x,t,rfl,rfl⟩
  ·exact wpAny_pyHash_int h
  ·exact wpAny_pyHash_str h
 eqBool:=fun hu hv h=>by
  rcases ZN hu with ⟨i,t,rfl,rfl⟩ |⟨x,t,rfl,rfl⟩
  ·rcases ZN hv with ⟨j,u,rfl,rfl⟩ |⟨y,u,rfl,rfl⟩
   ·rw[Ht]at h;exact wpAny_eqBool_int h
   ·rw[Hu]at h;exact SeqAt.EqAt.int_str i t y u _ _ _ _ h
  ·rcases ZN hv with ⟨j,u,rfl,rfl⟩ |⟨y,u,rfl,rfl⟩
   ·rw[Hv]at h;exact SeqAt.EqAt.str_int x t j u _ _ _ _ h
   ·rw[Hw]at h;exact wpAny_eqBool_str h
 «strs» :=fun k x t v h=>by
  rcases ZN h with ⟨i,u,rfl,e⟩ |⟨y,u,rfl,e⟩
  ·exact nomatch e
  ·injection e with e1 _
   subst e1
   cases v<;>rfl
inductive V where
 |ab |bl (b:Bool) |int (i:Int) |str (x:Str) |fA (b:Array UInt8) |iF (b:UInt64) |ref (a:Addr) |ty (n:String)
 deriving DecidableEq
def RelV:V→Value→Prop
 | .ab,u=>u=Value.none
 | .bl b,u=>u=Value.bool b
 | .int i,u=> ∃t,u=Value.int i t
 | .str x,u=> ∃t,u=Value.str x t
 | .fA b,u=> ∃t,u=Value.bytes b t
 | .iF b,u=> ∃t,u=Value.float b t
 | .ref a,u=>u=Value.ref a
 | .ty n,u=>u=Value.type n
abbrev Vals:List V→List Value→Prop:=Paired RelV
theorem Vals.length {xs:List V}{us:List Value}(r:Vals xs us):xs.length=us.length:=Paired.length r
theorem Vals.get:∀{xs:List V}{us:List Value}{i:Nat}{x:V},Vals xs us→xs[i]? =some x→∃u,us[i]? =some u∧RelV x u
 |_,_,_,_,.nil,e=>by simp at e
 |_,_,0,_,.cons r _,e=>by simp at e;subst e;exact⟨_,rfl,r⟩
 |_,_,i+1,x,.cons _ t,e=>by
  obtain⟨u,h1,h2⟩:=Vals.get (i:=i) (x:=x) t (by simpa using e)
  exact⟨u,by simpa using h1,h2⟩
theorem Vals.set {x:V}{u:Value}(r:RelV x u):∀{xs:List V}{us:List Value}(i:Nat),Vals xs us→Vals (xs.set i x) (us.set i u)
 |_,_,_,.nil=> .nil
 |_,_,0,.cons _ t=> .cons r t
 |_,_,i+1,.cons q t=> .cons q (Vals.set r i t)
theorem Vals.append:∀{xs ys:List V}{us ws:List Value},Vals xs us→Vals ys ws→Vals (xs++ys) (us++ws)
 |_,_,_,_,.nil,s=>s
 |_,_,_,_,.cons r t,s=> .cons r (Vals.append t s)
theorem Vals.take:∀{xs:List V}{us:List Value}(n:Nat),Vals xs us→Vals (xs.take n) (us.take n)
 |_,_,0,_=> .nil
 |_,_,_+1,.nil=> .nil
 |_,_,n+1,.cons r t=> .cons r (Vals.take n t)
theorem Vals.drop:∀{xs:List V}{us:List Value}(n:Nat),Vals xs us→Vals (xs.drop n) (us.drop n)
 |_,_,0,r=>r
 |_,_,_+1,.nil=> .nil
 |_,_,n+1,.cons _ t=>Vals.drop n t
def vf:Option V→Option Value→Prop
 |some v,some u=>RelV v u
 |none,none=>True
 |_,_=>False
def KV {κ:Type} :List (κ×V)→List (κ×Value)→Prop:=Paired fun(p:κ×V) (q:κ×Value)=>p.1=q.1∧RelV p.2 q.2
def kV:Key→V
 | .inl i=> .int i
 | .inr x=> .str x
inductive HO where
  |lst (xs:List V)
  |tup (xs:List V)
  |par (xs:List V)
  |dK (kvs:List (Key×V)) |dT (kvs:List (List Key×V))
  |set (S:Int→Bool) (n:Nat)
  |ins (C dx:Addr) (fs:List (Str×V))
  |own (x:Addr)
  |xd (fs:List (Str×V))
  |met (f x:Addr)
  |fK (lo hi:Int)
  |cQ (o:Obj) (u:HO)
  |fh (ps:Array Value)
  |ext (φ:Heap→Prop)
abbrev Hp:=Addr→Option HO
def upd (H:Hp) (a:Addr) (o:HO):Hp:=fun b=>if b=a then some o else H b
theorem Zd {H:Hp}{a:Addr}{o:HO} :upd H a o a=some o:=by unfold upd;rw[if_pos rfl]
theorem Zh {H:Hp}{a b:Addr}{o:HO}(h:b≠a):upd H a o b=H b:=by unfold upd;rw[if_neg h]
theorem YW {H:Hp}{a b:Addr}{o u:HO}(h:H a=some o) (h':H b=some u) (d:o≠u):a≠b:=by
 intro e;subst e;rw[h]at h';exact d (Option.some.inj h')
theorem Zi {H:Hp}{a b:Addr}{o:HO}(h:H a=some o) (h':H b=none):a≠b:=by
 intro e;subst e;rw[h]at h';cases h'
section
variable (P:Program) (w:World)
def bV (H:Hp) (h:Heap) (a:Addr):HO→Prop
 | .lst xs=>xs.length≤sizeLine∧∃(its:List Value) (n:Nat),Vals xs its∧h.get? a=some {cls:=.type "list",data:=.seq its.toArray n}
 | .tup xs=>xs.length≤sizeLine∧∃its:List Value,Vals xs its∧IsTup h a its.toArray∧∃o,h.get? a=some o∧o.dict=none
 | .par xs=>xs.length≤sizeLine∧∃its:List Value,Vals xs its∧IsTup h a its.toArray
 | .dK kvs=>kvs.length≤sizeLine∧(a==sysModules)=false∧∃vs,KV kvs vs∧h.DictOf (w6 P w) a vs
 | .dT kvs=>kvs.length≤sizeLine∧(a==sysModules)=false∧∃xs:List (List Key×Addr×Value),
   Paired (fun(p:List Key×V) (q:List Key×Addr×Value)=>p.1=q.1∧H q.2.1=some (.tup (p.1.map kV))∧RelV p.2 q.2.2) kvs xs∧
   ∃o es ep,h.get? a=some o∧o.ExactDict∧o.data=.dict es ep∧es.toList=xs.map (entryOfKey (tupleKind (w6 P w)))∧(xs.map (·.1)).Nodup
 | .set S n=>h.SetOf (intKind P w) a S n
 | .ins C dx fs=>H dx=some (.own a)∧fs.length≤1000∧dx≠a∧h.get? a=some (PySem.W.instObj C dx)∧
   ∃mA,h.Ns1 dx mA∧(∀f,vf (fs.lookup f) (mA f))∧PySem.Within mA (fs.map (·.1))
 | .own _=> ∃o,h.get? a=some o
 | .xd fs=> ∃mA,h.Ns1 a mA∧∀f,vf (fs.lookup f) (mA f)
 | .fK lo hi=> ∃t u v,h.get? a=some {cls:=.type "range",data:=.fields #[.int lo t,.int hi u,.int 1 v]}
 | .cQ o u=>h.get? a=some o∧bV H h a u
 | .fh ps=>h.get? a=some {cls:=.none,data:=.fields ps}
 | .met f x=>h.get? a=some (PySem.W.methodObj (.ref f) (.ref x))
 | .ext φ=>φ h∧(∃o,h.get? a=some o)∧∀h1 h2:Heap,φ h1→(∀o,h1.get? a=some o→h2.get? a=some o)→φ h2
def bW (H:Hp) (h:Heap):Prop:=∀a o,H a=some o→bV P w H h a o
end
section
variable {P:Program}{w:World}{H H':Hp}{h h':Heap}{a:Addr}{o:HO}
theorem bV.lt (x:bV P w H h a o):a<h.objs.size:=by
 cases o with
 |lst xs=>obtain⟨_,_,_,_,e⟩:=x;exact Heap.lt_size e
 |tup xs=>obtain⟨_,_,_,p,_⟩:=x;exact p.lt
 |par xs=>obtain⟨_,_,_,p⟩:=x;exact p.lt
 |dK kvs=>obtain⟨_,_,_,_,o,_,_,e,_⟩:=x;exact Heap.lt_size e
 |dT kvs=>obtain⟨_,_,_,_,o,_,_,e,_⟩:=x;exact Heap.lt_size e
 |set S n=>obtain⟨o,_,_,_,e,_⟩:=x;exact Heap.lt_size e
 |ins C dx fs=>obtain⟨_,_,_,e,_⟩:=x;exact Heap.lt_size e
 |own y=>obtain⟨_,e⟩:=x;exact Heap.lt_size e
 |xd fs=>obtain⟨_,⟨_,_,_,e,_⟩,_⟩:=x;exact Heap.lt_size e
 |fK lo hi=>obtain⟨_,_,_,e⟩:=x;exact Heap.lt_size e
 |cQ ob u=>obtain⟨e,_⟩:=x;exact Heap.lt_size e
 |fh ps=>exact Heap.lt_size (show h.get? a=some _ from x)
 |met f y=>exact Heap.lt_size (show h.get? a=some _ from x)
 |ext φ=>obtain⟨_,⟨_,e⟩,_⟩:=x;exact Heap.lt_size e
theorem Paired.bT {α β:Type}{F G:α→β→Prop} :∀{iX:List α}{iW:List β},Paired F iX iW→(∀a b,F a b→G a b)→Paired G iX iW
 |_,_,.nil,_=> .nil
 |_,_,.cons r t,f=> .cons (f _ _ r) (Paired.bT t f)
theorem bV.bL (x:bV P w H h a o) (k:∀b u,(b=a∨H b=some (.own a))→h.get? b=some u→h'.get? b=some u)
  (ho:∀b,H b=some (.own a)→H' b=some (.own a)) (ht:∀b xs,H b=some (.tup xs)→H' b=some (.tup xs)):bV P w H' h' a o:=by
 induction o with
 |lst xs=>obtain⟨z,its,n,r,e⟩:=x;exact⟨z,its,n,r,k _ _ (.inl rfl) e⟩
 |tup xs=>obtain⟨z,its,r,⟨ob,e,c⟩,o2,e2,c2⟩:=x;exact⟨z,its,r,⟨ob,k _ _ (.inl rfl) e,c⟩,o2,k _ _ (.inl rfl) e2,c2⟩
 |par xs=>obtain⟨z,its,r,ob,e,c⟩:=x;exact⟨z,its,r,ob,k _ _ (.inl rfl) e,c⟩
 |dK kvs=>obtain⟨z,y,vs,r,ob,es,ep,e,c⟩:=x;exact⟨z,y,vs,r,ob,es,ep,k _ _ (.inl rfl) e,c⟩
 |dT kvs=>
  obtain⟨z,y,xs,r,ob,es,ep,e,c⟩:=x
  exact⟨z,y,xs,Paired.bT r fun p q z=> ⟨z.1,ht _ _ z.2.1,z.2.2⟩,ob,es,ep,k _ _ (.inl rfl) e,c⟩
 |set S n=>obtain⟨ob,es,ep,t,e,c⟩:=x;exact⟨ob,es,ep,t,k _ _ (.inl rfl) e,c⟩
 |ins C dx fs=>
  obtain⟨d,z,ne,e,mA,⟨od,es,ep,e2,c⟩,r⟩:=x
  exact⟨ho _ d,z,ne,k _ _ (.inl rfl) e,mA,⟨od,es,ep,k _ _ (.inr d) e2,c⟩,r⟩
 |own y=>obtain⟨ob,e⟩:=x;exact⟨ob,k _ _ (.inl rfl) e⟩
 |xd fs=>obtain⟨mA,⟨od,es,ep,e,c⟩,r⟩:=x;exact⟨mA,⟨od,es,ep,k _ _ (.inl rfl) e,c⟩,r⟩
 |fK lo hi=>obtain⟨t,u,v,e⟩:=x;exact⟨t,u,v,k _ _ (.inl rfl) e⟩
 |cQ ob u ih=>obtain⟨e,q⟩:=x;exact⟨k _ _ (.inl rfl) e,ih q⟩
 |fh ps=>
  have e:h.get? a=some {cls:=.none,data:=.fields ps} :=x
  show h'.get? a=some {cls:=.none,data:=.fields ps}
  exact k a _ (.inl rfl) e
 |met f y=>
  have e:h.get? a=some (PySem.W.methodObj (.ref f) (.ref y)):=x
  show h'.get? a=some (PySem.W.methodObj (.ref f) (.ref y))
  exact k a _ (.inl rfl) e
 |ext φ=>obtain⟨p,⟨o,e⟩,st⟩:=x;exact⟨st _ _ p fun o q=>k _ _ (.inl rfl) q,⟨o,k _ _ (.inl rfl) e⟩,st⟩
theorem bW.lt (x:bW P w H h) (e:H a=some o):a<h.objs.size:=(x a o e).lt
theorem bW.fresh (x:bW P w H h) (e:h.objs.size≤a):H a=none:=by
 cases q:H a with
 |none=>rfl
 |some u=>exact absurd (Nat.lt_of_lt_of_le (x.lt q) e) (Nat.lt_irrefl _)
theorem bW.kept (x:bW P w H h) (k:∀b u,h.get? b=some u→h'.get? b=some u):bW P w H h':=fun a o e=>
 (x a o e).bL (fun b u _ q=>k b u q) (fun _ q=>q) fun _ _ q=>q
theorem bW.laid (x:bW P w H h) (k:∀b u,h.get? b=some u→h'.get? b=some u) (hp:h.objs.size≤a) (new:bV P w (upd H a o) h' a o):bW P w (upd H a o) h':=fun b u e=>by
 have hn:=x.fresh hp
 by_cases hb:b=a
 ·subst hb;rw[Zd]at e;cases e;exact new
 ·rw[Zh hb]at e
  exact(x b u e).bL (fun c v _ q=>k c v q) (fun c q=>by rw[Zh (Zi q hn)];exact q) fun c xs q=>by rw[Zh (Zi q hn)];exact q
end
def Rd (H:Hp) (a:Addr) (u:HO):Prop:=H a=some u∨∃o,H a=some (.cQ o u)
theorem Rd.ok {P:Program}{w:World}{H:Hp}{h:Heap}{a:Addr}{u:HO}(r:Rd H a u) (x:bW P w H h):bV P w H h a u:=by
 rcases r with r |⟨o,r⟩
 ·exact x a u r
 ·obtain⟨_,q⟩:=x a _ r
  exact q
def qh:Option HO→Prop
 |some (.lst _)=>True
 |some (.dK _)=>True
 |some (.dT _)=>True
 |some (.set _ _)=>True
 |some (.ins _ _ _)=>True
 |some (.ext _)=>True
 |_=>False
section
variable {P:Program}{w:World}{H:Hp}{h h':Heap}{x e:Addr}{o':HO}
theorem bW.write (ok:bW P w H h) (mu:qh (H x)) (he:e=x∨H e=some (.own x)) (k:∀b u,b≠e→h.get? b=some u→h'.get? b=some u) (lg:∃u,h'.get? e=some u)
  (new:bV P w (upd H x o') h' x o'):bW P w (upd H x o') h':=fun b u q=>by
 have wL:∀c y,H c=some (.own y)→c≠x:=fun c y r z=>by subst z;rw[r]at mu;exact mu
 have Cr:∀c xs,H c=some (.tup xs)→c≠x:=fun c xs r z=>by subst z;rw[r]at mu;exact mu
 by_cases hb:b=x
 ·subst hb;rw[Zd]at q;cases q;exact new
 ·rw[Zh hb]at q
  by_cases jV:b=e
  ·have q':H b=some (.own x):=by
    rcases he with z |z
    ·exact absurd (jV.trans z) hb
    ·rw[jV];exact z
   rw[q]at q';cases q'
   obtain⟨v,hv⟩:=lg
   exact⟨v,by rw[jV];exact hv⟩
  ·refine(ok b u q).bL (fun c v hc r=>k c v ?_ r) (fun c r=>by rw[Zh (wL c b r)];exact r) fun c xs r=>by rw[Zh (Cr c xs r)];exact r
   rcases hc with rfl |hc
   ·exact jV
   ·rintro rfl
    rcases he with z |z
    ·exact wL c b hc z
    ·rw[hc]at z;cases z;exact hb rfl
end
structure Un (fs ex:List Addr) (H H':Hp) (h h':Heap):Prop where
 keep:∀b o,h.get? b=some o→H b=none→b∉fs→b∉ex→h'.get? b=some o
 slot:∀b o,h.get? b=some o→H b=none→b∈fs→b∉ex→∃sl,h'.get? b=some {o with slots:=sl}
 free:∀b o,h.get? b=some o→H b=none→b∉ex→H' b=none
 there:∀b o,h.get? b=some o→b∉ex→∃o',h'.get? b=some o'
 hX:∀b xs,H b=some (.tup xs)→H' b=some (.tup xs)
 gZ:∀b o u,H b=some (.cQ o u)→H' b=some (.cQ o u)
 gG:∀b ps,H b=some (.fh ps)→∃more,H' b=some (.fh (ps++more))
section
variable {fs nk ex MG:List Addr}{H H1 H2:Hp}{h h1 h2 h':Heap}{a x e:Addr}{o:HO}
theorem Un.any (u:Un fs ex H H1 h h1) {b:Addr}{ob:Obj}(q:h.get? b=some ob) (n:H b=none) (hx:b∉ex):∃sl,h1.get? b=some {ob with slots:=sl} :=by
 by_cases hb:b∈fs
 ·exact u.slot b ob q n hb hx
 ·exact⟨ob.slots,u.keep b ob q n hb hx⟩
theorem Un.kept (k:∀b u,h.get? b=some u→h'.get? b=some u):Un fs ex H H h h':=
 ⟨fun b ob q _ _ _=>k b ob q,fun b ob q _ _ _=> ⟨ob.slots,k b ob q⟩,fun _ _ _ n _=>n,fun b ob q _=> ⟨ob,k b ob q⟩,fun _ _ q=>q,fun _ _ _ q=>q,fun _ ps q=> ⟨#[],by rw[q];simp⟩⟩
theorem Un.refl:Un fs ex H H h h:=Un.kept fun _ _ q=>q
theorem Un.laid (k:∀b u,h.get? b=some u→h'.get? b=some u) (hp:h.objs.size≤a) (hn:H a=none):Un fs ex H (upd H a o) h h' where
 keep:=fun b u q _ _ _=>k b u q
 slot:=fun b u q _ _ _=> ⟨u.slots,k b u q⟩
 free:=fun b u q n _=>by rw[Zh (Nat.ne_of_lt (Nat.lt_of_lt_of_le (Heap.lt_size q) hp))];exact n
 there:=fun b u q _=> ⟨u,k b u q⟩
 hX:=fun b xs q=>by rw[Zh (Zi q hn)];exact q
 gZ:=fun b u xs q=>by rw[Zh (Zi q hn)];exact q
 gG:=fun b ps q=> ⟨#[],by rw[Zh (Zi q hn),q];simp⟩
theorem Un.write (mu:qh (H x)) (he:e=x∨H e=some (.own x)) (k:∀b u,b≠e→h.get? b=some u→h'.get? b=some u) (lg:∃u,h'.get? e=some u):Un fs ex H (upd H x o) h h':=by
 have hx:∀b,H b=none→b≠x:=fun b n z=>by subst z;rw[n]at mu;exact mu
 have hb:∀b,H b=none→b≠e:=fun b n z=>by
  subst z
  rcases he with r |r
  ·exact hx b n r
  ·rw[n]at r;cases r
 have hm:∀b u,H b=some u→¬qh (some u)→b≠x:=fun b u q nm z=>by subst z;rw[q]at mu;exact nm mu
 refine⟨fun b u q n _ _=>k b u (hb b n) q,fun b u q n _ _=> ⟨u.slots,k b u (hb b n) q⟩,fun b u q n _=>by rw[Zh (hx b n)];exact n,fun b u q _=> ?_,
  fun b xs q=>by rw[Zh (hm b _ q fun z=>z)];exact q,fun b u xs q=>by rw[Zh (hm b _ q fun z=>z)];exact q,fun b ps q=> ⟨#[],by rw[Zh (hm b _ q fun z=>z),q];simp⟩⟩
 by_cases jV:b=e
 ·subst jV;exact lg
 ·exact⟨u,k b u jV q⟩
end
def bI (h:Heap) (H:Hp):List Addr:=(List.range h.objs.size).filter fun a=> (H a).isSome
def gQ (h:Heap) (H:Hp):Heap:=PySem.W.hideAll h (bI h H)
theorem IM (h:Heap) (H:Hp):(gQ h H).objs.size=h.objs.size:=PySem.W.hideAll_size _ _
theorem HE {h:Heap}{H:Hp}{b:Addr}{o:Obj}(e:h.get? b=some o) (n:H b=none):(gQ h H).get? b=some o:=
 PySem.W.hideAll_get _ e fun hm=>by
  have q:(H b).isSome=true:=(List.mem_filter.mp hm).2
  rw[n]at q;simp at q
theorem GV {h:Heap}{H:Hp}{b:Addr}{o:Obj}(e:(gQ h H).get? b=some o):h.get? b=some o∧H b=none:=by
 have e':h.get? b=some o:=PySem.W.of_hideAll (bI h H) e
 refine⟨e',?_⟩
 cases q:H b with
 |none=>rfl
 |some x=>
  have hm:b∈bI h H:=List.mem_filter.mpr ⟨List.mem_range.mpr (Heap.lt_size e'),by simp[q]⟩
  have z:(gQ h H).get? b=none:=PySem.W.hideAll_none (bI h H) hm
  rw[z]at e;cases e
def F2 (g h:Heap) (L:Addr):List (Addr×Obj):=(List.range h.objs.size).filterMap fun a=>if a=L∨(g.get? a).isSome=true then none else (h.get? a).map fun o=> (a,o)
def rest (g h:Heap) (L d:Addr):List (Addr×Obj):=(F2 g h L).filter fun p=>decide (p.1≠d)
structure Mod (K:PySem.W.Frag) (mg:Str→Option Value) (base:Heap):Prop where
 sU:K.In base
 glob:base.Ns mainGlobals mg
 blt:∃mb,base.Ns builtinsNs mb∧∀x:Str,x≠ "__name__" →mb x=bootBuiltins x
 nolimit:base.NoLimit
structure Cx where
 prog:Program
 w:World
 K:PySem.W.Frag
 mg:Str→Option Value
 base:Heap
 A:Around
 N:List Str
 cb:Shared
 nK:Hp
 env:Env
 outer:List Env
 stack:List Env
 ex:List Addr
 fn:Str→Bool
 calm:Bool
 pn:List (Addr×Obj)
 xe:Value→Shared→Prop
def eK (l:List Env):List Addr:=l.filterMap (·.frame)
abbrev Cx.fs (X:Cx):List Addr:=eK X.outer
def qb (sc:Scope) (x:Str):Prop:=sc.names.lookup x=some .local∨sc.names.lookup x=some .cell∨sc.names.lookup x=some .free
def Loc (sc:Scope) (x:Str):Prop:=sc.names.lookup x=some .local∨sc.names.lookup x=some .cell
def Look (env:Env) (h:Heap) (m:Str→Option Value) (x:Str) (u:Value):Prop:=
 (env.kindOf x=some .local∧m x=some u)∨((env.kindOf x=some .cell∨env.kindOf x=some .free)∧∃c,env.cells.lookup x=some c∧h.IsCell c (some u))
structure Cx.Ok (X:Cx):Prop where
 mod:Mod X.K X.mg X.base
 kind:X.env.scope.kind=.function
 glob:X.env.globals=mainGlobals
 blt:X.env.builtins=builtinsNs
 above:X.cb.heap.objs.size≤X.env.locals
 inj:∀x y c,X.env.cells.lookup x=some c→X.env.cells.lookup y=some c→x=y
 has:∀x,(X.env.kindOf x=some .cell∨X.env.kindOf x=some .free)→∃c,X.env.cells.lookup x=some c
 nE:∀x c,X.fn x=true→X.env.cells.lookup x=some c→X.cb.heap.objs.size≤c
 hd:X.calm=true→X.A.handled=none
 frames:X.A.frames=some X.stack
 n6:X.stack=X.outer∨(X.stack=X.env::X.outer∧X.env.frame=some X.env.locals)
 pU:∀b∈X.ex,b≠X.env.locals∧∀x c,X.env.cells.lookup x=some c→c≠b
 bs:∀b o,X.base.get? b=some o→X.cb.heap.get? b=some o∧X.nK b=none
 j9:X.base.objs.size≤X.cb.heap.objs.size
 mh:∀b o,X.base.get? b=some o→b∉X.ex
 nq:∀b∈X.ex,b∉X.fs
 gr:X.cb.heap.FunFrames X.base X.outer
 lu:∀b∈X.fs,X.nK b=none
structure Inv (X:Cx) (pins:List (Addr×Obj)) (σ:List (Option V)) (H:Hp) (s:Shared):Prop where
 ok:X.Ok
 os:s.os=X.cb.os
 bare:AllBare s.gens
 base:Un X.fs X.ex X.nK H X.cb.heap s.heap
 loc:∃m,s.heap.Ns X.env.locals m∧∀(i:Nat) (x:Str) (v:V),X.N[i]? =some x→σ[i]? =some (some v)→qb X.env.scope x→∃u,RelV v u∧Look X.env s.heap m x u
 cell:∀x c,X.env.cells.lookup x=some c→∃v,s.heap.IsCell c v
 free:H X.env.locals=none
 g8:∀x c,X.env.cells.lookup x=some c→H c=none
 pin:∀p∈X.pn++pins,s.heap.get? p.1=some p.2∧H p.1=none∧p.1≠X.env.locals∧p.1∉X.fs∧∀v,p.2.data≠.cell v
 aj:bW X.prog X.w H s.heap
 len:σ.length=X.N.length
section
variable {X:Cx}{pins:List (Addr×Obj)}{σ:List (Option V)}{H H':Hp}{s:Shared}{h':Heap}
theorem Cx.Ok.Cu (ok:X.Ok) {b:Addr}{o:Obj}(e:X.base.get? b=some o):b∉X.fs:=fun hb=>by
 have:=(ok.gr.mem hb).1
 rw[e]at this;cases this
theorem Inv.bs (I:Inv X pins σ H s):∀b o,X.base.get? b=some o→s.heap.get? b=some o∧H b=none:=fun b o e=>
 ⟨I.base.keep b o (I.ok.bs b o e).1 (I.ok.bs b o e).2 (I.ok.Cu e) (I.ok.mh b o e),I.base.free b o (I.ok.bs b o e).1 (I.ok.bs b o e).2 (I.ok.mh b o e)⟩
theorem Inv.bk (I:Inv X pins σ H s):∀b o,X.base.get? b=some o→s.heap.get? b=some o:=fun b o e=> (I.bs b o e).1
theorem Inv.mod (I:Inv X pins σ H s):Mod X.K X.mg X.base:=I.ok.mod
theorem Inv.dB (I:Inv X pins σ H s):X.K.In s.heap:=I.ok.mod.sU.keeps I.bk
theorem Inv.lt (I:Inv X pins σ H s):X.env.locals<s.heap.objs.size:=let ⟨_,hn,_⟩:=I.loc;hn.lt
theorem Inv.sz (I:Inv X pins σ H s):X.cb.heap.objs.size≤s.heap.objs.size:=Nat.le_trans I.ok.above (Nat.le_of_lt I.lt)
theorem Inv.Cs (I:Inv X pins σ H s) {a:Addr}(h:s.heap.objs.size≤a):a∉X.fs:=fun hb=>by
 obtain⟨_,o,ho,_⟩:=I.ok.gr.mem hb
 exact absurd (Nat.lt_of_lt_of_le (Heap.lt_size ho) (Nat.le_trans I.sz h)) (Nat.lt_irrefl _)
theorem Inv.j8 (I:Inv X pins σ H s):∀x c,X.env.cells.lookup x=some c→c≠X.env.locals:=fun x c e z=>by
 obtain⟨v,o,ho,hd⟩:=I.cell x c e
 obtain⟨m,⟨o',es,ep,dF,jU,_⟩,_⟩:=I.loc
 rw[z,dF]at ho;cases ho;rw[jU]at hd;cases hd
theorem Inv.gr (I:Inv X pins σ H s):s.heap.FunFrames X.base X.outer:=by
 have all:∀(l:List Env),(∀b∈eK l,b∈X.fs)→X.cb.heap.FunFrames X.base l→s.heap.FunFrames X.base l:=by
  intro l
  induction l with
  |nil=>intro _ _;trivial
  |cons env r ih=>
   intro hs hl
   obtain⟨hk,⟨L,o,hf,hn,ho,hd⟩,hr⟩:=hl
   have hL:L∈X.fs:=hs L (by unfold eK;rw[List.filterMap_cons,hf];exact List.mem_cons_self)
   obtain⟨sl,e⟩:=I.base.slot L o ho (I.ok.lu L hL) hL fun z=>I.ok.nq L z hL
   exact⟨hk,⟨L,_,hf,hn,e,hd⟩,ih (fun b hb=>hs b (by unfold eK;rw[List.filterMap_cons,hf];exact List.mem_cons_of_mem _ hb)) hr⟩
 exact all X.outer (fun _ hb=>hb) I.ok.gr
theorem Inv.stack (I:Inv X pins σ H s):s.heap.FunFrames X.base X.stack:=by
 rcases I.ok.n6 with e |⟨e,hf⟩
 ·rw[e];exact I.gr
 ·rw[e]
  obtain⟨m,hn,_⟩:=I.loc
  refine .cons (by rw[I.ok.kind];decide) hf hn ?_ I.gr
  exact Heap.get?_none_of_le (Nat.le_trans I.ok.j9 I.ok.above)
theorem Inv.qy (I:Inv X pins σ H s):∀b∈eK X.stack,b∈X.env.locals::X.fs:=fun b hb=>by
 rcases I.ok.n6 with e |⟨e,hf⟩
 ·rw[e]at hb;exact List.mem_cons_of_mem _ hb
 ·rw[e]at hb
  unfold eK at hb
  rw[List.filterMap_cons,hf]at hb
  exact hb
theorem Inv.vN (I:Inv X pins σ H s):∀b∈eK X.stack,H b=none:=fun b hb=>by
 rcases List.mem_cons.mp (I.qy b hb) with e |hb
 ·rw[e];exact I.free
 ·obtain⟨_,o,ho,_⟩:=I.ok.gr.mem hb
  exact I.base.free b o ho (I.ok.lu b hb) fun z=>I.ok.nq b z hb
theorem Inv.step {g':Array GenState}{t':Nat}{d':Drawn}{ch:List Addr}(I:Inv X pins σ H s)
  (gR:∀b∈ch,(b∈X.ex∨X.cb.heap.objs.size≤b)∧b≠X.env.locals∧(∀x c,X.env.cells.lookup x=some c→c≠b)∧∀p∈X.pn++pins,p.1≠b)
  (keep:∀b o,b≠X.env.locals→b∉X.fs→b∉ch→s.heap.get? b=some o→H b=none→h'.get? b=some o)
  (slot:∀b o,b≠X.env.locals→b∈X.fs→b∉ch→s.heap.get? b=some o→H b=none→∃sl,h'.get? b=some {o with slots:=sl}) (free:∀b o,b∉ch→s.heap.get? b=some o→H b=none→H' b=none)
  (there:∀b o,b∉ch→s.heap.get? b=some o→∃o',h'.get? b=some o')
  (hX:∀b xs,H b=some (.tup xs)→H' b=some (.tup xs)) (gZ:∀b o u,H b=some (.cQ o u)→H' b=some (.cQ o u)) (gG:∀b ps,H b=some (.fh ps)→∃more,H' b=some (.fh (ps++more)))
  (ns:∀m,s.heap.Ns X.env.locals m→h'.Ns X.env.locals m) (aj:bW X.prog X.w H' h') (hg:AllBare g'):
  Inv X pins σ H' {s with heap:=h',gens:=g',drawn:=d',toks:=t'} :=by
 have wV:∀b o,X.cb.heap.get? b=some o→b≠X.env.locals:=fun b o e=>Nat.ne_of_lt (Nat.lt_of_lt_of_le (Heap.lt_size e) I.ok.above)
 have fj:∀b o,X.cb.heap.get? b=some o→b∉X.ex→b∉ch:=fun b o e hx hb=>by
  rcases (gR b hb).1 with z |z
  ·exact hx z
  ·exact absurd (Nat.lt_of_lt_of_le (Heap.lt_size e) z) (Nat.lt_irrefl _)
 have cellK:∀x c,X.env.cells.lookup x=some c→∀v,s.heap.IsCell c v→h'.IsCell c v:=fun x c e v ⟨o,ho,hd⟩=>by
  have mi:c∉ch:=fun z=> (gR c z).2.2.1 x c e rfl
  by_cases hc:c∈X.fs
  ·obtain⟨sl,q⟩:=slot c o (I.j8 x c e) hc mi ho (I.g8 x c e)
   exact⟨_,q,hd⟩
  ·exact⟨o,keep c o (I.j8 x c e) hc mi ho (I.g8 x c e),hd⟩
 refine⟨I.ok,I.os,hg,⟨fun b o e n hb hx=> ?_,fun b o e n hb hx=> ?_,fun b o e n hx=> ?_,fun b o e hx=> ?_,fun b xs e=>hX b xs (I.base.hX b xs e),fun b o xs e=>gZ b o xs (I.base.gZ b o xs e),fun b ps e=> ?_⟩,?_,fun x c e=> ?_,?_,fun x c e=> ?_,fun p hp=> ?_,aj,I.len⟩
 ·exact keep b o (wV b o e) hb (fj b o e hx) (I.base.keep b o e n hb hx) (I.base.free b o e n hx)
 ·obtain⟨sl,e1⟩:=I.base.slot b o e n hb hx
  obtain⟨Bb,e2⟩:=slot b _ (wV b o e) hb (fj b o e hx) e1 (I.base.free b o e n hx)
  exact⟨Bb,e2⟩
 ·obtain⟨o',e1⟩:=I.base.there b o e hx
  exact free b o' (fj b o e hx) e1 (I.base.free b o e n hx)
 ·obtain⟨o',e1⟩:=I.base.there b o e hx
  exact there b o' (fj b o e hx) e1
 ·obtain⟨m1,e1⟩:=I.base.gG b ps e
  obtain⟨m2,e2⟩:=gG b _ e1
  exact⟨m1++m2,by rw[e2,Array.append_assoc]⟩
 ·obtain⟨m,hn,hl⟩:=I.loc
  refine⟨m,ns m hn,fun i x v e1 e2 e3=> ?_⟩
  obtain⟨u,r,l⟩:=hl i x v e1 e2 e3
  refine⟨u,r,?_⟩
  rcases l with l |⟨k,c,e,z⟩
  ·exact .inl l
  ·exact .inr ⟨k,c,e,cellK x c e _ z⟩
 ·obtain⟨v,z⟩:=I.cell x c e
  exact⟨v,cellK x c e v z⟩
 ·obtain⟨m,⟨o,_,_,ho,_⟩,_⟩:=I.loc
  exact free _ o (fun z=> (gR _ z).2.1 rfl) ho I.free
 ·obtain⟨v,o,ho,hd⟩:=I.cell x c e
  exact free c o (fun z=> (gR c z).2.2.1 x c e rfl) ho (I.g8 x c e)
 ·obtain⟨e,n,ne,nf,d⟩:=I.pin p hp
  have mi:p.1∉ch:=fun z=> (gR p.1 z).2.2.2 p hp rfl
  exact⟨keep p.1 p.2 ne nf mi e n,free p.1 p.2 mi e n,ne,nf,d⟩
theorem Inv.un {t':Nat}(I:Inv X pins σ H s) (u:Un X.fs [] H H' s.heap h') (aj:bW X.prog X.w H' h'):Inv X pins σ H' {s with heap:=h',toks:=t'} :=by
 obtain⟨m,⟨o,es,ep,ho,r⟩,_⟩:=id I.loc
 obtain⟨sl,hL⟩:=u.any ho I.free (by simp)
 exact I.step (g':=s.gens) (d':=s.drawn) (ch:=[]) (fun _ z=>nomatch z) (fun b o _ hb _ e n=>u.keep b o e n hb (by simp)) (fun b o _ hb _ e n=>u.slot b o e n hb (by simp)) (fun b o _ e n=>u.free b o e n (by simp)) (fun b o _ e=>u.there b o e (by simp)) u.hX u.gZ u.gG (fun m' hm=>by
  obtain⟨o',eX,uI,dF,r'⟩:=hm
  rw[ho]at dF;cases dF
  exact⟨_,eX,uI,hL,r'⟩) aj I.bare
theorem Inv.call {g':Array GenState}{t':Nat}{d':Drawn}{ch:List Addr}(I:Inv X pins σ H s) (u:Un (eK X.stack) ch H H' s.heap h') (aj:bW X.prog X.w H' h') (hg:AllBare g')
  (gR:∀b∈ch,(b∈X.ex∨X.cb.heap.objs.size≤b)∧b≠X.env.locals∧(∀x c,X.env.cells.lookup x=some c→c≠b)∧∀p∈X.pn++pins,p.1≠b):
  Inv X pins σ H' {s with heap:=h',gens:=g',drawn:=d',toks:=t'} :=by
 obtain⟨m,⟨o,es,ep,ho,r⟩,_⟩:=id I.loc
 obtain⟨sl,hL⟩:=u.any ho I.free fun z=> (gR _ z).2.1 rfl
 exact I.step (ch:=ch) gR (fun b o hL hb hc e n=>u.keep b o e n (fun z=> (List.mem_cons.mp (I.qy b z)).elim hL hb) hc) (fun b o _ _ hc e n=>u.any e n hc) (fun b o hc e n=>u.free b o e n hc) (fun b o hc e=>u.there b o e hc) u.hX u.gZ u.gG (fun m' hm=>by
  obtain⟨o',eX,uI,dF,r'⟩:=hm
  rw[ho]at dF;cases dF
  exact⟨_,eX,uI,hL,r'⟩) aj hg
theorem Inv.turned {t':Nat}{it:Addr}(I:Inv X pins σ H s) (k:∀b o,b≠it→s.heap.get? b=some o→h'.get? b=some o) (hn:H it=none) (hL:it≠X.env.locals)
  (h1:it∈X.ex∨X.cb.heap.objs.size≤it) (h2:∀x c,X.env.cells.lookup x=some c→c≠it) (h3:∀p∈X.pn++pins,p.1≠it):Inv X pins σ H {s with heap:=h',toks:=t'} :=by
 have wR:∀b u,H b=some u→b≠it:=fun b u e z=>by rw[z,hn]at e;cases e
 refine I.step (g':=s.gens) (d':=s.drawn) (ch:=[it]) (fun b hb=> ?_) (fun b o _ _ hc e _=>k b o (fun z=>hc (by simp[z])) e) (fun b o _ _ hc e _=> ⟨o.slots,k b o (fun z=>hc (by simp[z])) e⟩) (fun _ _ _ _ n=>n)
  (fun b o hc e=> ⟨o,k b o (fun z=>hc (by simp[z])) e⟩) (fun _ _ e=>e) (fun _ _ _ e=>e) (fun b ps e=> ⟨#[],by rw[e];simp⟩) (fun m hm=> ?_) (fun b u e=> ?_) I.bare
 ·have e:b=it:=by simpa using hb
  subst e
  exact⟨h1,hL,h2,h3⟩
 ·obtain⟨o,es,ep,ho,r⟩:=hm
  exact⟨o,es,ep,k _ o (Ne.symm hL) ho,r⟩
 ·refine(I.aj b u e).bL (fun c v hc q=>k c v ?_ q) (fun _ q=>q) fun _ _ q=>q
  rcases hc with z |z
  ·rw[z];exact wR b u e
  ·exact wR c _ z
theorem Inv.tok (I:Inv X pins σ H s) (t:Nat):Inv X pins σ H {s with toks:=t} :=I.un (h':=s.heap) (t':=t) Un.refl I.aj
theorem Inv.kept {t':Nat}(I:Inv X pins σ H s) (k:∀b u,s.heap.get? b=some u→h'.get? b=some u):Inv X pins σ H {s with heap:=h',toks:=t'} :=I.un (Un.kept k) (I.aj.kept k)
theorem Inv.laid {a:Addr}{o:HO}{t':Nat}(I:Inv X pins σ H s) (k:∀b u,s.heap.get? b=some u→h'.get? b=some u) (hp:s.heap.objs.size≤a) (new:bV X.prog X.w (upd H a o) h' a o):
  Inv X pins σ (upd H a o) {s with heap:=h',toks:=t'} :=I.un (Un.laid k hp (I.aj.fresh hp)) (I.aj.laid k hp new)
theorem Inv.write {x e:Addr}{o:HO}{t':Nat}(I:Inv X pins σ H s) (mu:qh (H x)) (he:e=x∨H e=some (.own x)) (k:∀b u,b≠e→s.heap.get? b=some u→h'.get? b=some u) (lg:∃u,h'.get? e=some u)
  (new:bV X.prog X.w (upd H x o) h' x o):Inv X pins σ (upd H x o) {s with heap:=h',toks:=t'} :=I.un (Un.write mu he k lg) (I.aj.write mu he k lg new)
theorem Inv.wC {wD:List (Addr×Obj)}(I:Inv X pins σ H s) (h:∀p∈wD,s.heap.get? p.1=some p.2∧H p.1=none∧p.1≠X.env.locals∧p.1∉X.fs∧∀v,p.2.data≠.cell v):Inv X wD σ H s:=
 ⟨I.ok,I.os,I.bare,I.base,I.loc,I.cell,I.free,I.g8,fun p hp=> (List.mem_append.mp hp).elim (fun z=>I.pin p (List.mem_append_left _ z)) (h p),I.aj,I.len⟩
theorem UE {N:List Str}(hN:N.Nodup) {i j:Nat}{x:Str}(a:N[i]? =some x) (b:N[j]? =some x):i=j:=by
 obtain⟨h1,e1⟩:=List.getElem?_eq_some_iff.mp a
 obtain⟨h2,e2⟩:=List.getElem?_eq_some_iff.mp b
 exact(List.getElem_inj hN).mp (e1.trans e2.symm)
theorem WA {M:Model}{A:Around}{E:Value→Shared→Prop}{i:Nat}{x:Str}{v:V}{u:Value}{Q:Unit→Shared→Prop}(I:Inv X pins σ H s) (hN:X.N.Nodup) (hi:X.N[i]? =some x) (hx:Loc X.env.scope x) (r:RelV v u)
  (h:∀s',Inv X pins (σ.set i (some v)) H s'→(∃a,Heap.SameBut a s.heap s'.heap∧(a=X.env.locals∨X.env.cells.lookup x=some a))→Q () s') (hf:X.fn x=true∨X.env.scope.names.lookup x=some .local:=by first |exact .inl rfl |exact .inr rfl |assumption):wpAny M A (storeName X.env x u) Q E s:=by
 obtain⟨m,hn,hl⟩:=id I.loc
 have Er:(X.env.scope.kind==.class||(X.env.scope.kind==.module&&X.env.locals !=X.env.globals))=false:=by rw[I.ok.kind];rfl
 have xY:i<σ.length:=by rw[I.len];exact(List.getElem?_eq_some_iff.mp hi).1
 have j8:=I.j8
 have tracked:∀{a:Addr}{h':Heap},(∃o,s.heap.get? a=some o∧H a=none)→Heap.SameBut a s.heap h'→bW X.prog X.w H h':=fun {a h'} ha hs b ob e=>by
  obtain⟨_,_,ya⟩:=ha
  refine(I.aj b ob e).bL (fun c w' hc q=> (hs.2 c ?_).trans q) (fun _ q=>q) fun _ _ q=>q
  rintro rfl
  rcases hc with rfl |hc
  ·rw[ya]at e;cases e
  ·rw[ya]at hc;cases hc
 rcases hx with hk |hk
 ·refine wpAny_storeName_local hk hn (fun h' mP hs=> ?_) Er
  obtain⟨oL,_,_,ja,_⟩:=id hn
  refine h _ ⟨I.ok,I.os,I.bare,⟨fun b o e n hb hx=> ?_,fun b o e n hb hx=> ?_,I.base.free,fun b o e hx=> ?_,I.base.hX,I.base.gZ,I.base.gG⟩,⟨_,mP,fun j y v' e1 e2 e3=> ?_⟩,fun y c e=> ?_,I.free,I.g8,fun p hp=> ?_,tracked ⟨oL,ja,I.free⟩ hs,by simpa using I.len⟩ ⟨_,hs,.inl rfl⟩
  ·exact(hs.2 b (Nat.ne_of_lt (Nat.lt_of_lt_of_le (Heap.lt_size e) I.ok.above))).trans (I.base.keep b o e n hb hx)
  ·obtain⟨sl,e1⟩:=I.base.slot b o e n hb hx
   exact⟨sl,(hs.2 b (Nat.ne_of_lt (Nat.lt_of_lt_of_le (Heap.lt_size e) I.ok.above))).trans e1⟩
  ·obtain⟨o',e1⟩:=I.base.there b o e hx
   exact⟨o',(hs.2 b (Nat.ne_of_lt (Nat.lt_of_lt_of_le (Heap.lt_size e) I.ok.above))).trans e1⟩
  ·by_cases hj:j=i
   ·subst hj
    rw[hi]at e1;cases e1
    rw[List.getElem?_set_self xY]at e2
    cases e2
    exact⟨u,r,.inl ⟨hk,by simp⟩⟩
   ·rw[List.getElem?_set_ne (Ne.symm hj)]at e2
    obtain⟨u',r',q⟩:=hl j y v' e1 e2 e3
    refine⟨u',r',?_⟩
    rcases q with ⟨k,e⟩ |⟨k,c,e,z⟩
    ·refine .inl ⟨k,?_⟩
     have:y≠x:=fun e=>hj (UE hN e1 (e▸hi))
     simp[this,e]
    ·exact .inr ⟨k,c,e,z.sameBut hs (j8 y c e)⟩
  ·obtain⟨w',z⟩:=I.cell y c e
   exact⟨w',z.sameBut hs (j8 y c e)⟩
  ·obtain⟨e,n,ne,nf,d⟩:=I.pin p hp
   exact⟨(hs.2 p.1 ne).trans e,n,ne,nf,d⟩
 ·have gk:X.fn x=true:=by
   rcases hf with z |z
   ·exact z
   ·rw[z]at hk;cases hk
  obtain⟨c,hc⟩:=I.ok.has x (.inl hk)
  obtain⟨w',z⟩:=I.cell x c hc
  refine wpAny_storeName_cell I.ok.kind hk hc z (fun h' bF hs=> ?_)
  obtain⟨oc,xJ,DU⟩:=id z
  refine h {s with heap:=h'} ⟨I.ok,I.os,I.bare,⟨fun b o e n hb hx=> ?_,fun b o e n hb hx=> ?_,I.base.free,fun b o e hx=> ?_,I.base.hX,I.base.gZ,I.base.gG⟩,⟨m,hn.sameBut hs (Ne.symm (j8 x c hc)),fun j y v' e1 e2 e3=> ?_⟩,fun y c' e=> ?_,I.free,I.g8,fun p hp=> ?_,tracked ⟨oc,xJ,I.g8 x c hc⟩ hs,by simpa using I.len⟩ ⟨c,hs,.inr hc⟩
  ·exact(hs.2 b (Nat.ne_of_lt (Nat.lt_of_lt_of_le (Heap.lt_size e) (I.ok.nE x c gk hc)))).trans (I.base.keep b o e n hb hx)
  ·obtain⟨sl,e1⟩:=I.base.slot b o e n hb hx
   exact⟨sl,(hs.2 b (Nat.ne_of_lt (Nat.lt_of_lt_of_le (Heap.lt_size e) (I.ok.nE x c gk hc)))).trans e1⟩
  ·obtain⟨o',e1⟩:=I.base.there b o e hx
   exact⟨o',(hs.2 b (Nat.ne_of_lt (Nat.lt_of_lt_of_le (Heap.lt_size e) (I.ok.nE x c gk hc)))).trans e1⟩
  ·by_cases hj:j=i
   ·subst hj
    rw[hi]at e1;cases e1
    rw[List.getElem?_set_self xY]at e2
    cases e2
    exact⟨u,r,.inr ⟨.inl hk,c,hc,bF⟩⟩
   ·rw[List.getElem?_set_ne (Ne.symm hj)]at e2
    obtain⟨u',r',q⟩:=hl j y v' e1 e2 e3
    refine⟨u',r',?_⟩
    rcases q with q |⟨k,c',e,z'⟩
    ·exact .inl q
    ·refine .inr ⟨k,c',e,z'.sameBut hs ?_⟩
     rintro rfl
     exact hj (UE hN e1 (I.ok.inj _ _ _ e hc▸hi))
  ·by_cases pP:c'=c
   ·subst pP;exact⟨_,bF⟩
   ·obtain⟨w2,z2⟩:=I.cell y c' e
    exact⟨w2,z2.sameBut hs pP⟩
  ·obtain⟨e,n,ne,nf,d⟩:=I.pin p hp
   refine⟨(hs.2 p.1 ?_).trans e,n,ne,nf,d⟩
   intro q
   rw[q,xJ]at e
   have q':oc=p.2:=Option.some.inj e
   exact d w' (by rw[←q'];exact DU)
theorem Y7 {M:Model}{A:Around}{E:Value→Shared→Prop}{i:Nat}{x:Str}{v:V}{u:Value}{Q:Unit→Shared→Prop}(I:Inv X pins σ H s) (hN:X.N.Nodup) (hi:X.N[i]? =some x) (hx:Loc X.env.scope x) (r:RelV v u)
  (h:∀s',Inv X pins (σ.set i (some v)) H s'→Q () s') (hf:X.fn x=true∨X.env.scope.names.lookup x=some .local:=by first |exact .inl rfl |exact .inr rfl |assumption):wpAny M A (storeName X.env x u) Q E s:=
 WA I hN hi hx r (fun s' I' _=>h s' I') hf
theorem Inv.FV {s':Shared}{ch:List Addr}(I:Inv X pins σ H s) (ho:s'.os=s.os) (u:Un (eK X.stack) ch H H' s.heap s'.heap) (aj:bW X.prog X.w H' s'.heap) (hg:AllBare s'.gens)
  (gR:∀b∈ch,(b∈X.ex∨X.cb.heap.objs.size≤b)∧b≠X.env.locals∧(∀x c,X.env.cells.lookup x=some c→c≠b)∧∀p∈X.pn++pins,p.1≠b):Inv X pins σ H' s':=by
 obtain⟨h',g',d',t',o'⟩:=s'
 have e:o'=s.os:=ho
 subst e
 exact I.call (g':=g') (t':=t') (d':=d') u aj hg gR
end
abbrev XK:=Value→Option Addr→Hp→Prop
abbrev St:=List (Option V)
abbrev VK:=V→Hp→Prop
abbrev TE:=St→Hp→VK→Prop
abbrev TT:=St→Hp→(Bool→Hp→Prop)→Prop
abbrev TA:=St→Hp→(List V→Hp→Prop)→Prop
structure Ends where
 nx:St→Hp→Prop
 rt:VK
 bk:St→Hp→Prop:=fun _ _=>False
 ct:St→Hp→Prop:=fun _ _=>False
abbrev TS:=Ends→St→Hp→Prop
def EP (X:Cx) (pins:List (Addr×Obj)) (σ:St) (Q:VK) (u:Value) (s':Shared):Prop:=∃v H',Inv X pins σ H' s'∧RelV v u∧Q v H'
def TP (X:Cx) (pins:List (Addr×Obj)) (σ:St) (Q:Bool→Hp→Prop) (b:Bool) (s':Shared):Prop:=∃H',Inv X pins σ H' s'∧Q b H'
def AP (X:Cx) (pins:List (Addr×Obj)) (σ:St) (Q:List V→Hp→Prop) (us:List Value) (s':Shared):Prop:=∃vs H',Inv X pins σ H' s'∧Vals vs us∧Q vs H'
def SP (X:Cx) (pins:List (Addr×Obj)) (D:Ends) (f:Flow) (s':Shared):Prop:=
 match f with
 | .next=> ∃ah H',Inv X pins ah H' s'∧D.nx ah H'
 | .brk=> ∃ah H',Inv X pins ah H' s'∧D.bk ah H'
 | .cont=> ∃ah H',Inv X pins ah H' s'∧D.ct ah H'
 | .ret u=> ∃v ah H',Inv X pins ah H' s'∧RelV v u∧D.rt v H'
def PE (X:Cx) (e:Expr) (t:TE):Prop:=
 ∀(pins:List (Addr×Obj)) (s:Shared) (σ:St) (H:Hp) (Q:VK),Inv X pins σ H s→t σ H Q→wpAny (model X.prog X.w) X.A (eval e X.env) (EP X pins σ Q) X.xe s
def PT (X:Cx) (e:Expr) (t:TT):Prop:=
 ∀(pins:List (Addr×Obj)) (s:Shared) (σ:St) (H:Hp) (Q:Bool→Hp→Prop),Inv X pins σ H s→t σ H Q→wpAny (model X.prog X.w) X.A (isTrue e X.env (eval e X.env)) (TP X pins σ Q) X.xe s
def PW (X:Cx) (e:Expr) (t:TT):Prop:=
 ∀(whole:Sem Value) (pins:List (Addr×Obj)) (s:Shared) (σ:St) (H:Hp) (Q:Bool→Hp→Prop),Inv X pins σ H s→t σ H Q→wpAny (model X.prog X.w) X.A (isTrue e X.env whole) (TP X pins σ Q) X.xe s
theorem PW.pt {X:Cx}{e:Expr}{t:TT}(h:PW X e t):PT X e t:=h _
def PA (X:Cx) (es:List Expr) (t:TA):Prop:=
 ∀(pos:Pos) (pins:List (Addr×Obj)) (s:Shared) (σ:St) (H:Hp) (Q:List V→Hp→Prop),Inv X pins σ H s→t σ H Q→wpAny (model X.prog X.w) X.A (spliced (backTo pos (starEach es X.env))) (AP X pins σ Q) X.xe s
def PS (X:Cx) (st:Stmt) (t:TS):Prop:=
 ∀(pins:List (Addr×Obj)) (s:Shared) (σ:St) (H:Hp) (D:Ends),Inv X pins σ H s→t D σ H→wpAny (model X.prog X.w) X.A (exec st X.env) (SP X pins D) X.xe s
def fe (X:Cx) (st:List Stmt) (t:TS):Prop:=
 ∀(pins:List (Addr×Obj)) (s:Shared) (σ:St) (H:Hp) (D:Ends),Inv X pins σ H s→t D σ H→wpAny (model X.prog X.w) X.A (execs st X.env) (SP X pins D) X.xe s
theorem au {α:Type}{t:Sem α}{Q Q':α→Shared→Prop}{M:Model}{A:Around}{E:Value→Shared→Prop}{s:Shared}(h:wpAny M A t Q E s) (hQ:∀a s,Q a s→Q' a s):wpAny M A t Q' E s:=wpAny_mono h hQ fun _ _ x=>x
section
variable {X:Cx}
def qv (i:Nat):TE:=fun σ H Q=> ∃v,σ[i]? =some (some v)∧Q v H
def tC (v:V):TE:=fun _ H Q=>Q v H
theorem He {i:Nat}{x:Str}{pos:Pos}(hN:X.N[i]? =some x) (hv:qb X.env.scope x) (hd:(x==("__debug__" :Str))=false:=by decide) (fw:(x==("__classdict__" :Str))=false:=by decide):PE X (.Name x pos) (qv i):=by
 intro pins s σ H Q I h
 obtain⟨v,e,h⟩:=h
 obtain⟨m,hn,hl⟩:=I.loc
 obtain⟨u,r,l⟩:=hl i x v hN e hv
 have fin:EP X pins σ Q u s:=⟨v,H,I,r,h⟩
 rcases l with ⟨hk,hm⟩ |⟨hk,c,hc,pO⟩
 ·exact wpAny_Name (wpAny_loadName_local I.ok.kind hk hn hm fin) hd
 ·rcases hk with hk |hk
  ·exact wpAny_Name (wpAny_loadName_cell I.ok.kind hk hc pO fin) hd
  ·exact wpAny_Name (wpAny_loadName_free I.ok.kind hk hc pO fin fw) hd
theorem Ze {i j pos} :PE X (.Constant (.int i) j pos) (tC (.int i)):=fun _ _ _ H _ I h=>wpAny_Constant_int ⟨.int i,H,I.tok _,⟨_,rfl⟩,h⟩
theorem qa {b j pos} :PE X (.Constant (.bool b) j pos) (tC (.bl b)):=fun _ _ _ H _ I h=>Constant_bool ⟨.bl b,H,I,rfl,h⟩
theorem W6 {j pos} :PE X (.Constant .none j pos) (tC .ab):=fun _ _ _ H _ I h=>Constant_none ⟨.ab,H,I,rfl,h⟩
def Gl (X:Cx) (x:Str):Prop:=X.env.kindOf x=some .globalImplicit
theorem zx {E:Value→Shared→Prop}{pins:List (Addr×Obj)}{s:Shared}{σ:St}{H:Hp}{x:Str}{u:Value}{pos:Pos}{Q:Value→Shared→Prop}(I:Inv X pins σ H s) (hg:Gl X x) (hm:X.mg x=some u) (h:Q u s)
  (hd:(x==("__debug__" :Str))=false:=by decide):wpAny (model X.prog X.w) X.A (eval (.Name x pos) X.env) Q E s:=
 Calls.Name_function_global I.ok.kind hg (Calls.loadGlobal_global (by rw[I.ok.glob];exact I.mod.glob.keeps I.bk) hm h) hd
theorem Z6 {E:Value→Shared→Prop}{pins:List (Addr×Obj)}{s:Shared}{σ:St}{H:Hp}{x:Str}{u:Value}{pos:Pos}{Q:Value→Shared→Prop}(I:Inv X pins σ H s) (hg:Gl X x) (hm:X.mg x=none) (hv:bootBuiltins x=some u) (h:Q u s)
  (hn:x≠ "__name__" :=by decide) (hd:(x==("__debug__" :Str))=false:=by decide):wpAny (model X.prog X.w) X.A (eval (.Name x pos) X.env) Q E s:=by
 obtain⟨mb,h1,h2⟩:=I.mod.blt
 exact Calls.Name_function_global I.ok.kind hg (Calls.loadGlobal_builtin (by rw[I.ok.glob];exact I.mod.glob.keeps I.bk) hm (by rw[I.ok.blt];exact h1.keeps I.bk) ((h2 x hn).trans hv) h) hd
theorem Ja {x:Str}{v:V}{u:Value}{pos:Pos}(hg:Gl X x) (hm:X.mg x=some u) (r:RelV v u) (hd:(x==("__debug__" :Str))=false:=by decide):PE X (.Name x pos) (tC v):=
 fun _ _ _ H _ I h=>zx I hg hm ⟨v,H,I,r,h⟩ hd
theorem JL {x:Str}{v:V}{u:Value}{pos:Pos}(hg:Gl X x) (hm:X.mg x=none) (hv:bootBuiltins x=some u) (r:RelV v u) (hn:x≠ "__name__" :=by decide) (hd:(x==("__debug__" :Str))=false:=by decide):PE X (.Name x pos) (tC v):=
 fun _ _ _ H _ I h=>Z6 I hg hm hv ⟨v,H,I,r,h⟩ hn hd
variable {a b:Expr}{ta tb:TE}{pos:Pos}
def PC (X:Cx) (op:CmpOp) (a b:Expr) (t:TE):Prop:=
 ∀(pins:List (Addr×Obj)) (s:Shared) (σ:St) (H:Hp) (Q:VK),Inv X pins σ H s→t σ H Q→
  wpAny (model X.prog X.w) X.A (eval a X.env) (fun v aA=>wpAny (model X.prog X.w) X.A (eval b X.env) (fun u h9=>wpAny (model X.prog X.w) X.A (compareOp op v u) (EP X pins σ Q) X.xe h9) X.xe aA) X.xe s
theorem wQ (b:Expr) {op:CmpOp}(h:op≠.In) (h2:op≠.NotIn):behindInMarks op b=false:=by
 have e1:(op==CmpOp.In)=false:=by cases op<;>first |rfl |exact absurd rfl h
 have e2:(op==CmpOp.NotIn)=false:=by cases op<;>first |rfl |exact absurd rfl h2
 cases b<;>simp[behindInMarks,e1,e2]
def AS (ta:TE):TE:=fun σ H Q=>ta σ H fun x H1=>Q (.bl (decide (x=.ab))) H1
def AI (ta:TE):TE:=fun σ H Q=>ta σ H fun x H1=>Q (.bl (!decide (x=.ab))) H1
theorem RelV.wN {x:V}{v:Value}(r:RelV x v):(v==Value.none)=decide (x=.ab):=by
 cases x with
 |ab=>cases r;rfl
 |bl _=>cases r;rfl
 |int _=>obtain⟨t,rfl⟩:=r;rfl
 |str _=>obtain⟨t,rfl⟩:=r;rfl
 |fA _=>obtain⟨t,rfl⟩:=r;rfl
 |iF _=>obtain⟨t,rfl⟩:=r;rfl
 |ref _=>cases r;rfl
 |ty _=>cases r;rfl
theorem u5 {j pos'} (ha:PE X a ta):PC X .Is a (.Constant .none j pos') (AS ta):=by
 intro pins s σ H Q I h
 refine au (ha pins s σ H _ I h) fun v s1 ⟨x,H1,I1,r1,q1⟩=> ?_
 exact Constant_none (is_none_gen ⟨.bl _,H1,I1,by rw[r1.wN];rfl,q1⟩)
theorem Jc {j pos'} (ha:PE X a ta):PC X .IsNot a (.Constant .none j pos') (AI ta):=by
 intro pins s σ H Q I h
 refine au (ha pins s σ H _ I h) fun v s1 ⟨x,H1,I1,r1,q1⟩=> ?_
 exact Constant_none (isnot_none_gen ⟨.bl _,H1,I1,by rw[r1.wN];rfl,q1⟩)
def tB (t:TE):TT:=fun σ H Q=>t σ H fun x H1=> ∃c,x=.bl c∧Q c H1
theorem Hc {op:CmpOp}{t:TE}(h:PC X op a b t) (h1:behindInMarks op b=false:=by first |exact wQ _ (by decide) (by decide) |rfl):PE X (.Compare a [op] [b] pos) t:=fun pins s σ H Q I hw=>wpAny_Compare1 (h pins s σ H Q I hw) h1
theorem YY {op:CmpOp}{t:TE}(h:PC X op a b t) (h1:behindInMarks op b=false:=by first |exact wQ _ (by decide) (by decide) |rfl):PT X (.Compare a [op] [b] pos) (tB t):=by
 intro pins s σ H Q I hw
 refine wpAny_isTrue_Compare1 (au (h pins s σ H _ I hw) fun v s1 h1=>au h1 fun u s2 h2=>au h2 fun c s3 ⟨x,H1,I1,r1,q1⟩=> ?_) h1
 obtain⟨d,rfl,q⟩:=q1
 cases r1
 exact wpAny_truthy_bool ⟨H1,I1,q⟩
theorem ZX {e:Expr}{t:TE}(h:PE X e t) (he:∀whole,isTrue e X.env whole=(do let v ←whole;standAt e.pos;holding [v] (truthy v)):=by intro _;rfl):PT X e (tB t):=by
 intro pins s σ H Q I hw
 refine isTrue_plain (au (h pins s σ H _ I hw) fun v s1 ⟨x,H1,I1,r1,q1⟩=> ?_) (he _)
 obtain⟨d,rfl,q⟩:=q1
 cases r1
 exact wpAny_truthy_bool ⟨H1,I1,q⟩
variable {tA nV:TT}{rest:List Expr}
def A2 (t u:TT):TT:=fun σ H Q=>t σ H fun c H1=>if c=true then u σ H1 Q else Q false H1
def AG (t u:TT):TT:=fun σ H Q=>t σ H fun c H1=>if c=true then Q true H1 else u σ H1 Q
def AJ (t:TT):TT:=fun σ H Q=>t σ H fun c H1=>Q (!c) H1
theorem W4 (ha:PT X a tA):PW X (.BoolOp .And [a] pos) tA:=by
 intro wh pins s σ H Q I h
 refine isTrue_and (au (ha pins s σ H Q I h) fun c s1 e=> ?_)
 cases c with
 |true=>exact isTrue_and_nil e
 |false=>exact e
theorem YA (ha:PT X a tA):PW X (.BoolOp .Or [a] pos) tA:=by
 intro wh pins s σ H Q I h
 refine isTrue_or (au (ha pins s σ H Q I h) fun c s1 e=> ?_)
 cases c with
 |false=>exact isTrue_or_nil e
 |true=>exact e
theorem vc (ha:PT X a tA) (hb:PW X (.BoolOp .And (b::rest) pos) nV):PW X (.BoolOp .And (a::b::rest) pos) (A2 tA nV):=by
 intro wh pins s σ H Q I h
 refine isTrue_and (au (ha pins s σ H _ I h) fun c s1 ⟨H1,I1,q1⟩=> ?_)
 cases c with
 |true=>exact hb wh pins s1 σ H1 Q I1 q1
 |false=>exact⟨H1,I1,q1⟩
theorem Jz (ha:PT X a tA) (hb:PW X (.BoolOp .Or (b::rest) pos) nV):PW X (.BoolOp .Or (a::b::rest) pos) (AG tA nV):=by
 intro wh pins s σ H Q I h
 refine isTrue_or (au (ha pins s σ H _ I h) fun c s1 ⟨H1,I1,q1⟩=> ?_)
 cases c with
 |true=>exact⟨H1,I1,q1⟩
 |false=>exact hb wh pins s1 σ H1 Q I1 q1
theorem Z5 (ha:PT X a tA):PT X (.UnaryOp .Not a pos) (AJ tA):=by
 intro pins s σ H Q I h
 exact isTrue_not (ha pins s σ H (fun c H1=>Q (!c) H1) I h)
def A1 (ta tb:TE):TE:=fun σ H Q=>ta σ H fun x H1=> ∃c,x=.bl c∧if c=true then tb σ H1 Q else Q (.bl false) H1
def AH (ta:TE):TE:=fun σ H Q=>ta σ H fun x H1=> ∃c,x=.bl c∧Q (.bl (!c)) H1
theorem Y0 {op}{t:TE}(h:PE X a t):PE X (.BoolOp op [a] pos) t:=fun pins s σ H Q I hw=>BoolOp_one (h pins s σ H Q I hw)
theorem Y1 (ha:PE X a ta) (hb:PE X (.BoolOp .And (b::rest) pos) tb):PE X (.BoolOp .And (a::b::rest) pos) (A1 ta tb):=by
 intro pins s σ H Q I h
 refine BoolOp_and (au (ha pins s σ H _ I h) fun v s1 ⟨x,H1,I1,r1,q1⟩=> ?_)
 obtain⟨c,rfl,q1⟩:=q1
 cases r1
 refine wpAny_truthy_bool ?_
 cases c with
 |true=>exact hb pins s1 σ H1 Q I1 q1
 |false=>exact⟨.bl false,H1,I1,rfl,q1⟩
theorem Hd (ha:PE X a ta):PE X (.UnaryOp .Not a pos) (AH ta):=by
 intro pins s σ H Q I h
 refine UnaryOp_ (au (ha pins s σ H _ I h) fun v s1 ⟨x,H1,I1,r1,q1⟩=> ?_)
 obtain⟨c,rfl,q1⟩:=q1
 cases r1
 exact not_of (wpAny_truthy_bool ⟨.bl (!c),H1,I1,rfl,q1⟩)
def AV (t:TT) (ta tb:TE):TE:=fun σ H Q=>t σ H fun c H1=>if c=true then ta σ H1 Q else tb σ H1 Q
theorem YB {c:Expr}(hc:PT X c tA) (ha:PE X a ta) (hb:PE X b tb):PE X (.IfExp c a b pos) (AV tA ta tb):=by
 intro pins s σ H Q I h
 refine wpAny_IfExp (au (hc pins s σ H _ I h) fun d s1 ⟨H1,I1,q1⟩=> ?_)
 cases d with
 |true=>exact ha pins s1 σ H1 Q I1 q1
 |false=>exact hb pins s1 σ H1 Q I1 q1
end
def ag (K:PySem.W.Frag) (H:Hp) (a:Addr) (xs:List V):Prop:=
 Rd H a (.lst xs)∨
  ∃(o:Obj) (its:Array Value) (n:Nat),K.lookup a=some o∧o.cls=.type "list" ∧o.dict=none∧o.data=.seq its n∧its.size≤sizeLine∧Vals xs its.toList
def af (K:PySem.W.Frag) (H:Hp) (a:Addr) (xs:List V):Prop:=
 Rd H a (.tup xs)∨
  (∃(o:Obj) (its:Array Value) (n:Nat),K.lookup a=some o∧o.cls=.type "tuple" ∧o.data=.seq its n∧its.size≤sizeLine∧Vals xs its.toList)∨H a=some (.par xs)
def F4:Value→Option V
 | .none=>some .ab
 | .bool b=>some (.bl b)
 | .int i _=>some (.int i)
 | .str x _=>some (.str x)
 | .bytes b _=>some (.fA b)
 | .float b _=>some (.iF b)
 | .ref a=>some (.ref a)
 | .type n=>some (.ty n)
 |_=>none
theorem RelV.abs {x:V}{u:Value}(r:RelV x u):F4 u=some x:=by
 cases x with
 |ab=>cases r;rfl
 |bl _=>cases r;rfl
 |int _=>obtain⟨t,rfl⟩:=r;rfl
 |str _=>obtain⟨t,rfl⟩:=r;rfl
 |fA _=>obtain⟨t,rfl⟩:=r;rfl
 |iF _=>obtain⟨t,rfl⟩:=r;rfl
 |ref _=>cases r;rfl
 |ty _=>cases r;rfl
theorem RelV.inj {x y:V}{u:Value}(r:RelV x u) (q:RelV y u):x=y:=Option.some.inj (r.abs.symm.trans q.abs)
theorem Vals.inj:∀{xs ys:List V}{us:List Value},Vals xs us→Vals ys us→xs=ys
 |_,_,_,.nil,.nil=>rfl
 |_,_,_,.cons r t,.cons r' t'=>by rw[r.inj r',Vals.inj t t']
section
variable {X:Cx}{pins:List (Addr×Obj)}{σ:St}{H:Hp}{s:Shared}{a:Addr}{xs ys:List V}
theorem ag.of {K:PySem.W.Frag}(h:H a=some (.lst xs)):ag K H a xs:=.inl (.inl h)
theorem af.of {K:PySem.W.Frag}(h:H a=some (.tup xs)):af K H a xs:=.inl (.inl h)
theorem af.me {K:PySem.W.Frag}(h:H a=some (.par xs)):af K H a xs:=.inr (.inr h)
theorem Inv.list (I:Inv X pins σ H s) (h:ag X.K H a xs):∃its:List Value,Vals xs its∧PlainL s.heap a its.toArray∧xs.length≤sizeLine:=by
 rcases h with h |⟨o,its,n,hk,hc,hd,hs,hz,r⟩
 ·obtain⟨z,its,n,r,e⟩:=h.ok I.aj
  exact⟨its,r,⟨_,n,e,rfl,rfl,rfl⟩,z⟩
 ·refine⟨its.toList,r,⟨o,n,I.dB a o hk,hc,hd,by simpa using hs⟩,?_⟩
  have e:=r.length
  simp only[Array.length_toList]at e
  omega
theorem Inv.tuple (I:Inv X pins σ H s) (h:af X.K H a xs):∃its:List Value,Vals xs its∧IsTup s.heap a its.toArray∧xs.length≤sizeLine:=by
 rcases h with h |⟨o,its,n,hk,hc,hs,hz,r⟩ |h
 ·obtain⟨z,its,r,p,_⟩:=h.ok I.aj
  exact⟨its,r,p,z⟩
 rotate_left
 ·obtain⟨z,its,r,p⟩:=(show bV X.prog X.w H s.heap a (.par xs) from I.aj a _ h)
  exact⟨its,r,p,z⟩
 ·refine⟨its.toList,r,⟨o,I.dB a o hk,hc,n,by simpa using hs⟩,?_⟩
  have e:=r.length
  simp only[Array.length_toList]at e
  omega
theorem Inv.oV (I:Inv X pins σ H s) (h:ag X.K H a xs) (h':ag X.K H a ys):xs=ys:=by
 obtain⟨its,r,⟨o,n,e,_,_,d⟩,_⟩:=I.list h
 obtain⟨its',r',⟨o',n',e',_,_,d'⟩,_⟩:=I.list h'
 rw[e]at e';cases e'
 rw[d]at d'
 injection d' with d1 _
 have:its=its':=by simpa using congrArg Array.toList d1
 subst this
 exact r.inj r'
theorem Inv.nR (I:Inv X pins σ H s) (h:af X.K H a xs) (h':af X.K H a ys):xs=ys:=by
 obtain⟨its,r,⟨o,e,_,n,d⟩,_⟩:=I.tuple h
 obtain⟨its',r',⟨o',e',_,n',d'⟩,_⟩:=I.tuple h'
 rw[e]at e';cases e'
 rw[d]at d'
 injection d' with d1 _
 have:its=its':=by simpa using congrArg Array.toList d1
 subst this
 exact r.inj r'
end
abbrev Cx.gD (X:Cx) (E:Value→Shared→Prop):Cx:= {X with xe:=E}
abbrev Cx.mf (X:Cx):Cx:=X.gD fun _ _=>False
theorem Cx.Ok.gD {X:Cx}(ok:X.Ok) (E:Value→Shared→Prop):(X.gD E).Ok:=
 ⟨ok.mod,ok.kind,ok.glob,ok.blt,ok.above,ok.inj,ok.has,ok.nE,ok.hd,ok.frames,ok.n6,ok.pU,ok.bs,ok.j9,ok.mh,ok.nq,ok.gr,ok.lu⟩
theorem Cx.Ok.iM {X:Cx}{E:Value→Shared→Prop}(ok:(X.gD E).Ok):X.Ok:=
 ⟨ok.mod,ok.kind,ok.glob,ok.blt,ok.above,ok.inj,ok.has,ok.nE,ok.hd,ok.frames,ok.n6,ok.pU,ok.bs,ok.j9,ok.mh,ok.nq,ok.gr,ok.lu⟩
section
variable {X:Cx}{pins:List (Addr×Obj)}{σ:St}{H:Hp}{s:Shared}{E:Value→Shared→Prop}
theorem Inv.gD (I:Inv X pins σ H s) (E:Value→Shared→Prop):Inv (X.gD E) pins σ H s:=⟨I.ok.gD E,I.os,I.bare,I.base,I.loc,I.cell,I.free,I.g8,I.pin,I.aj,I.len⟩
theorem Inv.iM (I:Inv (X.gD E) pins σ H s):Inv X pins σ H s:=⟨I.ok.iM,I.os,I.bare,I.base,I.loc,I.cell,I.free,I.g8,I.pin,I.aj,I.len⟩
theorem SP.iM {D:Ends}{f:Flow}{s':Shared}(h:SP (X.gD E) pins D f s'):SP X pins D f s':=by
 cases f with
 |next=>obtain⟨ah,H',I,q⟩:=h;exact⟨ah,H',I.iM,q⟩
 |brk=>obtain⟨ah,H',I,q⟩:=h;exact⟨ah,H',I.iM,q⟩
 |cont=>obtain⟨ah,H',I,q⟩:=h;exact⟨ah,H',I.iM,q⟩
 |ret u=>obtain⟨v,ah,H',I,r,q⟩:=h;exact⟨v,ah,H',I.iM,r,q⟩
theorem fe.mf {st:List Stmt}{t:TS}(h:fe X.mf st t):fe X st t:=fun pins s σ H D I hw=>
 wpAny_mono (h pins s σ H D (I.gD _) hw) (fun _ _ q=>q.iM) fun _ _ z=>False.elim z
end
section
variable {X:Cx}{st:Stmt}{rest:List Stmt}{t u:TS}{e:Expr}{te:TE}{pos:Pos}
def vI:TS:=fun D σ H=>D.nx σ H
def qx (t u:TS):TS:=fun D σ H=>t {D with nx:=u D} σ H
theorem Zy:fe X [] vI:=fun _ _ σ H _ I h=>wpAny_execs_nil ⟨σ,H,I,h⟩
theorem Zg (h1:PS X st t) (h2:fe X rest u):fe X (st::rest) (qx t u):=by
 intro pins s σ H D I h
 refine wpAny_execs_cons (au (h1 pins s σ H {D with nx:=u D} I h) fun f s1 q=> ?_)
 cases f with
 |next=>
  obtain⟨ah,H',I',q⟩:=q
  exact h2 pins s1 ah H' D I' q
 |ret v=>exact q
 |brk=>exact q
 |cont=>exact q
theorem Zk (h1:PS X st t):fe X [st] t:=by
 intro pins s σ H D I h
 refine wpAny_execs_cons (au (h1 pins s σ H D I h) fun f s1 q=> ?_)
 cases f with
 |next=>exact wpAny_execs_nil q
 |ret v=>exact q
 |brk=>exact q
 |cont=>exact q
theorem Inv.quiet {pins:List (Addr×Obj)}{σ:St}{H:Hp}{s:Shared}(I:Inv X pins σ H s):interactive X.env=false:=by simp[interactive,I.ok.kind]
def AY (te:TE):TS:=fun D σ H=>te σ H fun _ H1=>D.nx σ H1
theorem ZU (he:PE X e te) (hs:swapsWith e none pos.line X.env=pure false:=by rfl):PS X (.Expr e pos) (AY te):=by
 intro pins s σ H D I h
 exact wpAny_Expr_any (au (he pins s σ H _ I h) fun v s1 ⟨x,H1,I1,r1,q1⟩=> ⟨σ,H1,I1,q1⟩) I.quiet hs
def AD (te:TE):TS:=fun D σ H=>te σ H D.rt
theorem Zu (he:PE X e te):PS X (.Return (some e) pos) (AD te):=by
 intro pins s σ H D I h
 exact wpAny_Return_some (au (he pins s σ H _ I h) fun v s1 ⟨x,H1,I1,r1,q1⟩=> ⟨x,σ,H1,I1,r1,q1⟩)
def AU (c:TT) (t u:TS):TS:=fun D σ H=>c σ H fun b H1=>if b=true then t D σ H1 else u D σ H1
theorem ZR {c:Expr}{a b:List Stmt}{tc:TT}(hc:PT X c tc) (ha:fe X a t) (hb:fe X b u):PS X (.If c a b pos) (AU tc t u):=by
 intro pins s σ H D I h
 refine wpAny_If (au (hc pins s σ H _ I h) fun d s1 ⟨H1,I1,q1⟩=> ?_)
 cases d with
 |true=>exact ha pins s1 σ H1 D I1 q1
 |false=>exact hb pins s1 σ H1 D I1 q1
def AL:TS:=fun _ _ _=>False
theorem Zw {A6:List Stmt} :fe X A6 AL:=fun _ _ _ _ _ _ h=>h.elim
end
abbrev TG:=V→St→Hp→(St→Hp→Prop)→Prop
abbrev kb:=List V→St→Hp→(St→Hp→Prop)→Prop
def PG (X:Cx) (target:Expr) (t:TG):Prop:=
 ∀(pins:List (Addr×Obj)) (s:Shared) (σ:St) (H:Hp) (v:V) (u:Value) (Q:St→Hp→Prop),Inv X pins σ H s→RelV v u→t v σ H Q→
  wpAny (model X.prog X.w) X.A (assign target X.env u) (fun _ s'=> ∃ah H',Inv X pins ah H' s'∧Q ah H') X.xe s
def qf (X:Cx) (ts:List Expr) (t:kb):Prop:=
 ∀(pins:List (Addr×Obj)) (s:Shared) (σ:St) (H:Hp) (vs:List V) (us:List Value) (Q:St→Hp→Prop),Inv X pins σ H s→Vals vs us→t vs σ H Q→
  wpAny (model X.prog X.w) X.A (assignInOrder ((assignEach ts X.env).map (·.2)) us) (fun _ s'=> ∃ah H',Inv X pins ah H' s'∧Q ah H') X.xe s
abbrev ve:=V→V→V→Hp→(Hp→Prop)→Prop
def zP (X:Cx) (t:ve):Prop:=
 ∀(pins:List (Addr×Obj)) (s:Shared) (σ:St) (H:Hp) (o i v:V) (ov iv u:Value) (Q:Hp→Prop),Inv X pins σ H s→RelV o ov→RelV i iv→RelV v u→t o i v H Q→
  wpAny (model X.prog X.w) X.A (setItem ov iv u) (fun _ s'=> ∃H',Inv X pins σ H' s'∧Q H') X.xe s
section
variable {X:Cx}{pos:Pos}
def bR (i:Nat):TG:=fun v σ H Q=>Q (σ.set i (some v)) H
theorem Zz {i:Nat}{x:Str}(hN:X.N.Nodup) (hi:X.N[i]? =some x) (hx:Loc X.env.scope x) (hf:X.fn x=true∨X.env.scope.names.lookup x=some .local:=by first |exact .inl rfl |exact .inr rfl |assumption):PG X (.Name x pos) (bR i):=by
 intro pins s σ H v u Q I r h
 exact wpAny_assign_Name (Y7 I hN hi hx r (fun s' I'=> ⟨_,H,I',h⟩) hf)
def gX:kb:=fun vs σ H Q=>vs=[]∧Q σ H
def cj (t:TG) (u:kb):kb:=fun vs σ H Q=> ∃v r,vs=v::r∧t v σ H fun ah H'=>u r ah H' Q
theorem ZK:qf X [] gX:=by
 intro pins s σ H vs us Q I r h
 obtain⟨e,h⟩:=h
 subst e
 cases r
 exact assignInOrder_nil ⟨σ,H,I,h⟩
theorem Zm {e:Expr}{es:List Expr}{t:TG}{u:kb}(h1:PG X e t) (h2:qf X es u)
  (hs:(assignEach (e::es) X.env).map (·.2)=assign e X.env::(assignEach es X.env).map (·.2):=by rfl):qf X (e::es) (cj t u):=by
 intro pins s σ H vs us Q I r h
 obtain⟨v,vr,e1,h⟩:=h
 subst e1
 cases r with
 |cons r rr=>
  rw[hs]
  refine assignInOrder_cons (au (h1 pins s σ H _ _ _ I r h) fun _ s1 ⟨Ag,H1,I1,q1⟩=> ?_)
  exact h2 pins s1 Ag H1 _ _ Q I1 rr q1
def gW (K:PySem.W.Frag) (n:Nat) (t:kb):TG:=fun v σ H Q=> ∃a xs,v=.ref a∧af K H a xs∧xs.length=n∧t xs σ H Q
theorem ZS {es:List Expr}{k:Nat}{t:kb}{n:Nat}(hc:X.calm=true) (h:qf X es t)
  (hn:(assignEach es X.env).length=n:=by rfl) (tq:(assignEach es X.env).findIdx? (·.1)=none:=by rfl):PG X (.Tuple es k pos) (gW X.K n t):=by
 intro pins s σ H v u Q I r hw
 obtain⟨a,xs,e1,hq,hl,hw⟩:=hw
 subst e1
 cases r
 obtain⟨its,rv,ht,hz⟩:=I.tuple hq
 refine assign_Tuple_tuple (I.ok.hd hc) ht (by simp[hn,←hl,rv.length]) tq fun h' hx=> ?_
 have I1:Inv X pins σ H {s with heap:=h'} :=I.kept (t':=s.toks) fun b o e=>hx b o (Nat.ne_of_lt (Heap.lt_size e)) e
 exact h pins _ σ H xs _ Q I1 (by simpa using rv) hw
def ET (to ti:TE) (t:ve):TG:=fun v σ H Q=>to σ H fun o H1=>ti σ H1 fun i H2=>t o i v H2 fun H3=>Q σ H3
theorem u6 {o i:Expr}{to ti:TE}{t:ve}(ho:PE X o to) (hi:PE X i ti) (hs:zP X t)
    (ha:∀v,assign (.Subscript o i pos) X.env v=(do
      let ov ←holding [v] (eval o X.env)
      let iv ←holding [v,ov] (eval i X.env)
      standAt pos
      holding [v,ov,iv] (setItem ov iv v)
      release [v,ov,iv] []):=by intro _;rfl):PG X (.Subscript o i pos) (ET to ti t):=by
  intro pins s σ H v u Q I r h
  rw[ha]
  refine wpAny_bind (wpAny_holding (au (ho pins s σ H _ I h) fun ov s1 ⟨x,H1,I1,r1,q1⟩=> ?_))
  refine wpAny_bind (wpAny_holding (au (hi pins s1 σ H1 _ I1 q1) fun iv s2 ⟨y,H2,I2,r2,q2⟩=> ?_))
  refine wpAny_bind (wpAny_standAt (wpAny_bind (wpAny_holding (au (hs pins s2 σ H2 x y v ov iv u _ I2 r1 r2 r q2) fun _ s3 ⟨H3,I3,q3⟩=> ?_))))
  exact wpAny_release ⟨σ,H3,I3,q3⟩
def nW (te:TE) (g:TG):TS:=fun D σ H=>te σ H fun x H1=>g x σ H1 D.nx
theorem Yk {tg e:Expr}{te:TE}{g:TG}(he:PE X e te) (hg:PG X tg g) (hs:swapsWithSole [tg] e pos.line X.env=pure false:=by rfl) (hw:swappedStores [tg] e X.env=pure none:=by rfl)
  (h1:(assignEach [tg] X.env).map (·.2)=[assign tg X.env]:=by rfl):PS X (.Assign [tg] e pos) (nW te g):=by
 intro pins s σ H D I h
 refine wpAny_Assign_stores (au (he pins s σ H _ I h) fun v s1 ⟨x,H1,I1,r1,q1⟩=> ?_) hs hw
 rw[h1]
 exact au (hg pins s1 σ H1 x v _ I1 r1 q1) fun _ s2 q=>q
theorem ZF {i:Nat}{x:Str}{e:Expr}{te:TE}{pos':Pos}(hN:X.N.Nodup) (hi:X.N[i]? =some x) (hx:Loc X.env.scope x) (he:PE X e te) (hs:swapsWith e (some (.Name x pos')) pos.line X.env=pure false:=by rfl) (hf:X.fn x=true∨X.env.scope.names.lookup x=some .local:=by first |exact .inl rfl |exact .inr rfl |assumption):
  PS X (.Assign [.Name x pos'] e pos) (nW te (bR i)):=by
 intro pins s σ H D I h
 refine wpAny_Assign_Name (au (he pins s σ H _ I h) fun v s1 ⟨y,H1,I1,r1,q1⟩=> ?_) hs
 exact Y7 I1 hN hi hx r1 (fun s2 I2=> ⟨_,H1,I2,q1⟩) hf
def AF (i j:Nat) (ta:TA):TS:=fun D σ H=>ta σ H fun vs H1=> ∃v w,vs=[v,w]∧D.nx ((σ.set i (some v)).set j (some w)) H1
theorem zh {i j:Nat}{x y:Str}{a b:Expr}{ta:TA}{px py pt:Pos}{kt k2 sG} (hc:X.calm=true) (hN:X.N.Nodup) (hi:X.N[i]? =some x) (hj:X.N[j]? =some y) (bJ:i≠j)
  (hx:X.env.scope.names.lookup x=some .local) (hy:X.env.scope.names.lookup y=some .local) (ha:PA X [a,b] ta)
  (hw:swappedStores [.Tuple [.Name x px,.Name y py] kt pt] (.Tuple [a,b] k2 sG) X.env=pure (some [x,y]))
  (hs:swapsWithSole [.Tuple [.Name x px,.Name y py] kt pt] (.Tuple [a,b] k2 sG) pos.line X.env=pure false:=by rfl):
  PS X (.Assign [.Tuple [.Name x px,.Name y py] kt pt] (.Tuple [a,b] k2 sG) pos) (AF i j ta):=by
 intro pins s σ H D I h
 rw[exec_Assign_arm]
 refine wpAny_bind (wpAny_standAt ?_)
 rw[hs]
 refine wpAny_bind (wpAny_pure ?_)
 rw[if_neg (by decide)]
 refine wpAny_bind (Tuple_ (au (ha _ pins s σ H _ I h) fun us s1 ⟨vs,H1,I1,r1,q1⟩=> ?_))
 obtain⟨v,w,e1,q1⟩:=q1
 subst e1
 obtain⟨u1,u2,rfl,rv,jx⟩:∃u1 u2,us=[u1,u2]∧RelV v u1∧RelV w u2:=by
  cases r1 with
  |cons p q=>
   cases q with
   |cons p' q'=>
    cases q'
    exact⟨_,_,rfl,p,p'⟩
 refine wpAny_newObj_type ?_ (by show 2≤sizeLine;decide)
 have I2:Inv X pins σ H1 {s1 with heap:=s1.heap.push {cls:=.type "tuple",data:=.seq [u1,u2].toArray} } :=I1.kept (t':=s1.toks) fun b o e=>Heap.get?_push_of_some _ e
 rw[hw]
 refine wpAny_bind (wpAny_pure ?_)
 show wpAny (model X.prog X.w) X.A (do rule "assign.swapped-stores";let items ←unpackItems (.ref s1.heap.objs.size) 2 none;assignInOrder [fun v=>bindName X.env y v,fun v=>bindName X.env x v] items.reverse;pure Flow.next) _ _ _
 refine wpAny_bind (wpAny_rule (wpAny_bind (unpackItems_tuple (items:= #[u1,u2]) (I.ok.hd hc) (IsTup.new s1.heap _) fun h' jJ=> ?_)))
 have I3:=I2.kept (h':=h') (t':=s1.toks) fun b o e=>jJ b o (Nat.ne_of_lt (Heap.lt_size e)) e
 show wpAny _ _ (assignInOrder [fun v=>bindName X.env y v,fun v=>bindName X.env x v] [u2,u1] >>=fun _=>pure Flow.next) _ _ _
 refine wpAny_bind (assignInOrder_cons (wpAny_bindName (Y7 I3 hN hj (.inl hy) jx (fun s2 I4=> ?_) (.inr hy))))
 refine assignInOrder_cons (wpAny_bindName (Y7 I4 hN hi (.inl hx) rv (fun s3 I5=>assignInOrder_nil (wpAny_pure ?_)) (.inr hx)))
 rw[List.set_comm _ _ (Ne.symm bJ)]at I5
 exact⟨_,H1,I5,q1⟩
end
structure It where
 go:Nat→Hp→Prop
 kz:Nat→Hp→V→Hp→Prop
 stop:Nat→Hp→Prop
def bX (X:Cx) (pins:List (Addr×Obj)) (H:Hp) (b:Addr):Prop:=
 H b=none∧b≠X.env.locals∧b∉X.fs∧(b∈X.ex∨X.cb.heap.objs.size≤b)∧(∀x c,X.env.cells.lookup x=some c→c≠b)∧∀p∈X.pn++pins,p.1≠b
theorem Inv.jf {X:Cx}{pins:List (Addr×Obj)}{σ:St}{H H':Hp}{s:Shared}{b:Addr}(I:Inv X pins σ H s) (hb:s.heap.objs.size≤b) (hn:H' b=none):bX X pins H' b:=by
 refine⟨hn,Nat.ne_of_gt (Nat.lt_of_lt_of_le I.lt hb),I.Cs hb,.inr (Nat.le_trans I.sz hb),fun x c e z=> ?_,fun p hp z=> ?_⟩
 ·obtain⟨v,q⟩:=I.cell x c e
  exact absurd (Nat.lt_of_lt_of_le q.lt (by rw[z];exact hb)) (Nat.lt_irrefl _)
 ·exact absurd (Nat.lt_of_lt_of_le (Heap.lt_size (I.pin p hp).1) (by rw[z];exact hb)) (Nat.lt_irrefl _)
structure Turn (P:Program) (w:World) (K:PySem.W.Frag) (tg:Expr) (J:It) (fp:List Addr) (it:Addr) (tn:Nat→Heap→Prop):Prop where
 mem:it∈fp
 obj:∀i h,tn i h→∀b∈fp,∃o,h.get? b=some o∧∀v,o.data≠.cell v
 keep:∀i h h',tn i h→(∀b∈fp,∀o,h.get? b=some o→h'.get? b=some o)→tn i h'
 item:∀(X:Cx),X.prog=P→X.w=w→X.K=K→X.calm=true→∀(i:Nat) (pins:List (Addr×Obj)) (s:Shared) (σ:St) (H:Hp) (E:Value→Shared→Prop),Inv X pins σ H s→(∀b∈fp,bX X pins H b)→tn i s.heap→J.go i H→
  wpAny (model P w) X.A (pyNext (.ref it)) (fun r s1=> ∃u,r=some u∧
   wpAny (model P w) X.A (letOwnedTupleGo tg (.ref it) u) (fun _ s2=> ∃x H',Inv X pins σ H' s2∧RelV x u∧J.kz i H x H'∧tn (i+1) s2.heap∧∀b∈fp,H' b=none) E s1) E s
 done:∀(X:Cx),X.prog=P→X.w=w→X.K=K→X.calm=true→∀(i:Nat) (pins:List (Addr×Obj)) (s:Shared) (σ:St) (H:Hp) (E:Value→Shared→Prop),Inv X pins σ H s→(∀b∈fp,bX X pins H b)→tn i s.heap→J.stop i H→
  wpAny (model P w) X.A (pyNext (.ref it)) (fun r s1=>r=none∧Inv X pins σ H s1) E s
 self:∀(A:Around) (i:Nat) (s:Shared) (Q:Value→Shared→Prop) (E:Value→Shared→Prop),tn i s.heap→Q (.ref it) s→wpAny (model P w) A (pyIter (.ref it)) Q E s
abbrev TI:=St→Hp→(It→Hp→Prop)→Prop
def zQ (X:Cx) (pins:List (Addr×Obj)) (σ:St) (tg:Expr) (R:It→Hp→Prop) (jG:Value) (s2:Shared):Prop:=
 ∃(it:Addr) (fp:List Addr) (tn:Nat→Heap→Prop) (J:It) (H':Hp),jG=.ref it∧Inv X pins σ H' s2∧Turn X.prog X.w X.K tg J fp it tn∧tn 0 s2.heap∧(∀b∈fp,bX X pins H' b)∧R J H'
def PI (X:Cx) (tg iter:Expr) (wi:TI):Prop:=
 ∀(pins:List (Addr×Obj)) (s:Shared) (σ:St) (H:Hp) (R:It→Hp→Prop),Inv X pins σ H s→wi σ H R→
  wpAny (model X.prog X.w) X.A (eval iter X.env) (fun v s1=>wpAny (model X.prog X.w) X.A (pyIter v) (zQ X pins σ tg R) X.xe s1) X.xe s
theorem uW {M:Model}{A:Around}{E:Value→Shared→Prop}{s:Shared}{tg:Expr}{it:Addr}{u:Value}{o:Obj}{n:String}{vs:Array Value}{Q:Unit→Shared→Prop}(ho:s.heap.get? it=some o) (hc:o.cls=.type n) (hd:o.data=.fields vs)
    (hn:["enumerate", "zip", "dict_itemiterator", "dict_reverseitemiterator", "odict_iterator", "itertools.zip_longest", "itertools.pairwise"].contains n=false) (hQ:Q () s):wpAny M A (letOwnedTupleGo tg (.ref it) u) Q E s:=by
  unfold letOwnedTupleGo
  cases tg<;>first
    |exact wpAny_pure hQ
    |(cases u<;>first
        |exact wpAny_pure hQ
        |(refine wpAny_bind (wpAny_load ho ?_)
          rw[hc,hd]
          show wpAny M A (if (["enumerate", "zip", "dict_itemiterator", "dict_reverseitemiterator", "odict_iterator", "itertools.zip_longest", "itertools.pairwise"].contains n&&vs[0]? ==some (rawInt _))=true then _ else _) Q E s
          rw[if_neg (by intro h;rw[hn,Bool.false_and]at h;cases h)]
          exact wpAny_pure hQ))
def lF (K:PySem.W.Frag) (a:Addr):It:=
 ⟨fun i H=> ∃xs x,ag K H a xs∧xs[i]? =some x,fun i H x H'=>H'=H∧∀xs,ag K H a xs→xs[i]? =some x,fun i H=> ∃xs,ag K H a xs∧xs.length≤i⟩
def vj (K:PySem.W.Frag) (a:Addr):It:=
 ⟨fun i H=> ∃xs x,af K H a xs∧xs[i]? =some x,fun i H x H'=>H'=H∧∀xs,af K H a xs→xs[i]? =some x,fun i H=> ∃xs,af K H a xs∧xs.length≤i⟩
def ko (lo:Int) (n:Nat):It:=⟨fun i _=>i<n,fun i H x H'=>H'=H∧x=.int (lo+i),fun i _=>n≤i⟩
theorem Lj {P:Program}{w:World}{K:PySem.W.Frag}{tg:Expr}(a it:Addr):Turn P w K tg (lF K a) [it] it (fun i h=>h.IsListIter it a i) where
 mem:=by simp
 obj:=fun i h st b hb=>by
  have e:b=it:=by simpa using hb
  subst e
  obtain⟨o,e,c,d⟩:=st
  exact⟨o,e,fun v z=>by rw[d]at z;cases z⟩
 keep:=fun i h h' st k=>st.at fun o e=>k it (by simp) o e
 item:=by
  intro X hP hw hK hc i pins s σ H E I hf st hg
  subst hP hw hK
  obtain⟨xs,x,hq,hx⟩:=hg
  obtain⟨its,rv,p,hz⟩:=I.list hq
  obtain⟨u,hu,ru⟩:=rv.get hx
  obtain⟨f0,f1,f2,f3,f4,f5⟩:=hf it (by simp)
  refine wpAny_pyNext_list_item st p.isList (x:=u) (by simpa using hu) fun h' aa sb=> ?_
  have I1:Inv X pins σ H {s with heap:=h'} :=I.turned (t':=s.toks) (fun b o hb e=> (sb.2 b hb).trans e) f0 f1 f3 f4 f5
  obtain⟨o,e,c,d⟩:=id aa
  exact⟨u,rfl,uW (s:= {s with heap:=h'}) e c d (by decide) ⟨x,H,I1,ru,⟨rfl,fun ys hy=>by rw[I.oV hy hq];exact hx⟩,aa,fun b hb=> (hf b hb).1⟩⟩
 done:=by
  intro X hP hw hK hc i pins s σ H E I hf st hg
  subst hP hw hK
  obtain⟨xs,hq,hx⟩:=hg
  obtain⟨its,rv,p,hz⟩:=I.list hq
  obtain⟨f0,f1,f2,f3,f4,f5⟩:=hf it (by simp)
  have hl:=rv.length
  exact wpAny_pyNext_list_end (I.ok.hd hc) st p.isList (by simp;omega) fun h' eb=> ⟨rfl,I.turned (t':=s.toks) (fun b o hb e=>eb b o hb e) f0 f1 f3 f4 f5⟩
 self:=fun _ _ _ _ _ st h=>wpAny_pyIter_listiter st h
theorem U6 {P:Program}{w:World}{K:PySem.W.Frag}{tg:Expr}(a it:Addr):Turn P w K tg (vj K a) [it] it (fun i h=>h.IsTupleIter it a i) where
 mem:=by simp
 obj:=fun i h st b hb=>by
  have e:b=it:=by simpa using hb
  subst e
  obtain⟨o,e,c,d⟩:=st
  exact⟨o,e,fun v z=>by rw[d]at z;cases z⟩
 keep:=fun i h h' st k=>st.at fun o e=>k it (by simp) o e
 item:=by
  intro X hP hw hK hc i pins s σ H E I hf st hg
  subst hP hw hK
  obtain⟨xs,x,hq,hx⟩:=hg
  obtain⟨its,rv,p,hz⟩:=I.tuple hq
  obtain⟨u,hu,ru⟩:=rv.get hx
  obtain⟨f0,f1,f2,f3,f4,f5⟩:=hf it (by simp)
  refine wpAny_pyNext_tuple_item st (show s.heap.IsTuple a its.toArray from p) (x:=u) (by simpa using hu) fun h' aa sb=> ?_
  have I1:Inv X pins σ H {s with heap:=h'} :=I.turned (t':=s.toks) (fun b o hb e=> (sb.2 b hb).trans e) f0 f1 f3 f4 f5
  obtain⟨o,e,c,d⟩:=id aa
  exact⟨u,rfl,uW (s:= {s with heap:=h'}) e c d (by decide) ⟨x,H,I1,ru,⟨rfl,fun ys hy=>by rw[I.nR hy hq];exact hx⟩,aa,fun b hb=> (hf b hb).1⟩⟩
 done:=by
  intro X hP hw hK hc i pins s σ H E I hf st hg
  subst hP hw hK
  obtain⟨xs,hq,hx⟩:=hg
  obtain⟨its,rv,p,hz⟩:=I.tuple hq
  obtain⟨f0,f1,f2,f3,f4,f5⟩:=hf it (by simp)
  have hl:=rv.length
  exact wpAny_pyNext_tuple_end (I.ok.hd hc) st (show s.heap.IsTuple a its.toArray from p) (by simp;omega) fun h' eb=> ⟨rfl,I.turned (t':=s.toks) (fun b o hb e=>eb b o hb e) f0 f1 f3 f4 f5⟩
 self:=fun _ _ _ _ _ st h=>wpAny_pyIter_tupleiter st h
theorem U7 {P:Program}{w:World}{K:PySem.W.Frag}{tg:Expr}(it:Addr) (lo:Int) (n:Nat):Turn P w K tg (ko lo n) [it] it (fun i h=>IsRangeIter h it (lo+(i:Nat)*1) ((n:Int) - (i:Nat)) 1) where
 mem:=by simp
 obj:=fun i h st b hb=>by
  have e:b=it:=by simpa using hb
  subst e
  exact⟨_,st,fun v z=>by
   have z':Data.fields _=Data.cell v:=z
   cases z'⟩
 keep:=fun i h h' st k=>k it (by simp) _ st
 item:=by
  intro X hP hw hK hc i pins s σ H E I hf st hg
  subst hP hw hK
  obtain⟨f0,f1,f2,f3,f4,f5⟩:=hf it (by simp)
  have W:=Walks.range (prog:=X.prog) (w:=X.w) (I.ok.hd hc) it lo 1 n
  refine W.item i s _ _ hg st fun v h' tk hv aa kk=> ?_
  obtain⟨t,rfl⟩:=hv
  have I1:Inv X pins σ H {s with heap:=h',toks:=tk} :=I.turned (fun b o hb e=>kk b o (by simpa using hb) e) f0 f1 f3 f4 f5
  refine⟨_,rfl,uW (s:= {s with heap:=h',toks:=tk}) (n:= "range_iterator") aa rfl rfl (by decide) ⟨.int (lo+i),H,I1,⟨t,?_⟩,⟨rfl,rfl⟩,aa,fun b hb=> (hf b hb).1⟩⟩
  rw[Int.mul_one]
 done:=by
  intro X hP hw hK hc i pins s σ H E I hf st hg
  subst hP hw hK
  obtain⟨f0,f1,f2,f3,f4,f5⟩:=hf it (by simp)
  exact wpAny_pyNext_range_end (I.ok.hd hc) st (by have:n≤i:=hg;omega) fun h' eb=> ⟨rfl,I.turned (t':=s.toks) (fun b o hb e=>eb b o hb e) f0 f1 f3 f4 f5⟩
 self:=fun _ _ _ _ _ st h=>wpAny_pyIter_rangeiter st h
section
variable {X:Cx}{tg:Expr}
def xp (K:PySem.W.Frag) (tl:TE):TI:=fun σ H R=>tl σ H fun x H1=> ∃a,x=.ref a∧(∃xs,ag K H1 a xs)∧R (lF K a) H1
def Dg (K:PySem.W.Frag) (tl:TE):TI:=fun σ H R=>tl σ H fun x H1=> ∃a,x=.ref a∧(∃xs,af K H1 a xs)∧R (vj K a) H1
theorem Z9 {l:Expr}{tl:TE}(hl:PE X l tl):PI X tg l (xp X.K tl):=by
 intro pins s σ H R I h
 refine au (hl pins s σ H _ I h) fun v s1 ⟨x,H1,I1,r1,q1⟩=> ?_
 obtain⟨a,e,⟨xs,hq⟩,q⟩:=q1
 subst e
 cases r1
 obtain⟨its,rv,p,hz⟩:=I1.list hq
 refine wpAny_pyIter_list p.isList ?_
 refine⟨s1.heap.objs.size,[s1.heap.objs.size],_,_,H1,rfl,I1.kept (t':=s1.toks) fun b o e=>Heap.get?_push_of_some _ e,Lj a _,⟨_,Heap.get?_push_size _ rfl,rfl,rfl⟩,fun b hb=> ?_,q⟩
 have e:b=s1.heap.objs.size:=by simpa using hb
 subst e
 exact I1.jf (Nat.le_refl _) (I1.aj.fresh (Nat.le_refl _))
theorem JS {l:Expr}{tl:TE}(hl:PE X l tl):PI X tg l (Dg X.K tl):=by
 intro pins s σ H R I h
 refine au (hl pins s σ H _ I h) fun v s1 ⟨x,H1,I1,r1,q1⟩=> ?_
 obtain⟨a,e,⟨xs,hq⟩,q⟩:=q1
 subst e
 cases r1
 obtain⟨its,rv,p,hz⟩:=I1.tuple hq
 refine wpAny_pyIter_tuple (show s1.heap.IsTuple a its.toArray from p) ?_
 refine⟨s1.heap.objs.size,[s1.heap.objs.size],_,_,H1,rfl,I1.kept (t':=s1.toks) fun b o e=>Heap.get?_push_of_some _ e,U6 a _,⟨_,Heap.get?_push_size _ rfl,rfl,rfl⟩,fun b hb=> ?_,q⟩
 have e:b=s1.heap.objs.size:=by simpa using hb
 subst e
 exact I1.jf (Nat.le_refl _) (I1.aj.fresh (Nat.le_refl _))
theorem Kr {pins:List (Addr×Obj)}{σ:St}{H:Hp}{s:Shared}{R:It→Hp→Prop}{E:Value→Shared→Prop}{lo hi:Int}{t u v:Tok}{tk:Nat}(I:Inv X pins σ H s) (h1: -(2^62)≤lo) (h2:lo<2^62) (h3: -(2^62)≤hi) (h4:hi<2^62)
  (q:R (ko lo (hi - lo).toNat) H):wpAny (model X.prog X.w) X.A (pyIter (.ref s.heap.objs.size)) (zQ X pins σ tg R) E {s with heap:=s.heap.push {cls:=.type "range",data:=.fields #[.int lo t,.int hi u,.int 1 v]},toks:=tk} :=by
 refine wpAny_pyIter_range (IsRange.new ..) (small_one h1 h2 h3 h4) ?_
 have I1:Inv X pins σ H {s with heap:=s.heap.push {cls:=.type "range",data:=.fields #[.int lo t,.int hi u,.int 1 v]},toks:=tk} :=I.kept fun b o e=>Heap.get?_push_of_some _ e
 refine⟨(s.heap.push {cls:=.type "range",data:=.fields #[.int lo t,.int hi u,.int 1 v]}).objs.size,[(s.heap.push {cls:=.type "range",data:=.fields #[.int lo t,.int hi u,.int 1 v]}).objs.size],_,_,H,rfl,
  I1.kept (t':=tk) fun b o e=>Heap.get?_push_of_some _ e,U7 _ lo (hi - lo).toNat,?_,fun b hb=> ?_,q⟩
 ·have e1:lo+((0:Nat):Int)*1=lo:=by simp
  have e2:(((hi - lo).toNat:Nat):Int) - ((0:Nat):Int)=Builtin.Range.rangeSize lo hi 1:=by rw[rangeSize_one];split<;>omega
  show IsRangeIter _ _ (lo+((0:Nat):Int)*1) ((((hi - lo).toNat:Nat):Int) - ((0:Nat):Int)) 1
  rw[e1,e2]
  exact Heap.get?_push_size _ rfl
 ·have e:b=(s.heap.push {cls:=.type "range",data:=.fields #[.int lo t,.int hi u,.int 1 v]}).objs.size:=by simpa using hb
  subst e
  exact I1.jf (Nat.le_refl _) (I1.aj.fresh (Nat.le_refl _))
def Dh (ta:TA):TI:=fun σ H R=>ta σ H fun vs H1=> ∃j:Int,vs=[.int j]∧ -(2^62)≤j∧j<2^62∧R (ko 0 j.toNat) H1
theorem Z0 {a:Expr}{ta:TA}{p pos:Pos}(hg:Gl X "range") (hm:X.mg "range" =none) (ha:PA X [a] ta) (hs:starEach [a] X.env=[(false,eval a X.env)]:=by rfl):PI X tg (.Call (.Name "range" p) [a] [] pos) (Dh ta):=by
 intro pins s σ H R I h
 refine Call_ (Z6 I hg hm boot_range (PyProof.Rows.callWith_type1 (au (ha pos pins s σ H _ I h) fun us s1 ⟨vs,H1,I1,r1,q1⟩=> ?_) hs rfl))
 obtain⟨j,e,q1,q2,q⟩:=q1
 subst e
 cases r1 with
 |cons r rr=>
  cases rr
  obtain⟨t,rfl⟩:=r
  exact call_range_1 (Kr I1 (by omega) (by omega) q1 q2 (by simpa using q))
def AW (wi:TI) (g:TG) (tb:TS):TS:=fun D σ H=>wi σ H fun J H1=> ∃W:Nat→Nat→St→Hp→Prop,(∃m,W 0 m σ H1)∧∀i m σ H,W i m σ H→
 (J.stop i H∧D.nx σ H)∨(J.go i H∧∃N:St→Hp→Prop,(∀ah H',N ah H'→∃m',m'<m∧W (i+1) m' ah H')∧∀x H',J.kz i H x H'→g x σ H' fun aU H2=>tb {D with nx:=N,ct:=N,bk:=D.nx} aU H2)
def ik (fp:List Addr) (h:Heap):List (Addr×Obj):=fp.filterMap fun b=> (h.get? b).map fun o=> (b,o)
theorem ZQ {fp:List Addr}{h:Heap}{b:Addr}{o:Obj}(hb:b∈fp) (e:h.get? b=some o):(b,o)∈ik fp h:=List.mem_filterMap.mpr ⟨b,hb,by rw[e];rfl⟩
theorem Jr {fp:List Addr}{h:Heap}{p:Addr×Obj}(hp:p∈ik fp h):p.1∈fp∧h.get? p.1=some p.2:=by
 obtain⟨b,hb,e⟩:=List.mem_filterMap.mp hp
 cases q:h.get? b with
 |none=>rw[q]at e;cases e
 |some o=>
  rw[q]at e
  have e':(b,o)=p:=Option.some.inj e
  subst e'
  exact⟨hb,q⟩
theorem Inv.pinned {pins:List (Addr×Obj)}{σ:St}{H:Hp}{s:Shared}{fp:List Addr}(I:Inv X pins σ H s) (hf:∀b∈fp,bX X pins H b) (ho:∀b∈fp,∃o,s.heap.get? b=some o∧∀v,o.data≠.cell v):Inv X (pins++ik fp s.heap) σ H s:=
 I.wC fun p hp=> (List.mem_append.mp hp).elim (fun z=>I.pin p (List.mem_append_right _ z)) fun z=>by
  obtain⟨hb,e⟩:=Jr z
  obtain⟨f0,f1,f2,_⟩:=hf p.1 hb
  obtain⟨o,e',d⟩:=ho p.1 hb
  rw[e]at e';cases e'
  exact⟨e,f0,f1,f2,d⟩
theorem Inv.gF {pins pl:List (Addr×Obj)}{σ:St}{H:Hp}{s:Shared}(I:Inv X (pins++pl) σ H s):Inv X pins σ H s:=I.wC fun p hp=>I.pin p (List.mem_append_right _ (List.mem_append_left _ hp))
theorem YZ {iter:Expr}{body:List Stmt}{wi:TI}{g:TG}{tb:TS}{pos:Pos}(hp:PassesOwn (model X.prog X.w) X.A X.env X.xe) (hc:X.calm=true) (hi:PI X tg iter wi) (hg:PG X tg g) (hb:fe X body tb)
  (hs:∀x,foldedSetIterable iter X.env x=pure x:=by intro _;rfl):PS X (.For tg iter body [] pos) (AW wi g tb):=by
 intro pins s σ H D I h
 refine wpAny_For (au (hi pins s σ H _ I h) fun v s1 h1=>au h1 fun jG s2 h2=> ?_) hs
 obtain⟨it,fp,tn,J,H2,e,I2,T,ai,f2,W,⟨m0,w0⟩,turn⟩:=h2
 subst e
 have stat:∀{H':Hp},(∀b∈fp,H' b=none)→∀b∈fp,bX X pins H' b:=fun hn b hb=> ⟨hn b hb,(f2 b hb).2⟩
 refine codeAny_forLoop_any (fun n s'=> ∃i ah H',Inv X pins ah H' s'∧tn i s'.heap∧(∀b∈fp,H' b=none)∧W i n ah H') ?_ m0 ⟨0,σ,H2,I2,ai,fun b hb=> (f2 b hb).1,w0⟩
 rintro n s3 ⟨i,fH,H3,I3,aK,pT,w3⟩
 rcases turn i n fH H3 w3 with ⟨stop,qn⟩ |⟨go,N,hN,step⟩
 ·refine wpAny_passesOwn hp (au (T.done X rfl rfl rfl hc i pins s3 fH H3 X.xe I3 (stat pT) aK stop) fun r s4 ⟨hr,I4⟩=> ?_)
  subst hr
  exact wpAny_execs_nil ⟨fH,H3,I4,qn⟩
 ·refine wpAny_passesOwn hp (au (T.item X rfl rfl rfl hc i pins s3 fH H3 X.xe I3 (stat pT) aK go) fun r s4 ⟨u,hr,h4⟩=> ?_)
  subst hr
  refine wpAny_passesOwn hp (au h4 fun _ s5 ⟨x,H5,I5,r5,y5,da,uG⟩=> ?_)
  have vn:=I5.pinned (stat uG) (T.obj _ _ da)
  refine wpAny_passesOwn hp (au (hg _ s5 fH H5 x u _ vn r5 (step x H5 y5)) fun _ s6 ⟨lN,H6,I6,q6⟩=> ?_)
  refine wpAny_passesOwn hp (au (hb _ s6 lN H6 _ I6 q6) fun f s7 q7=> ?_)
  have again:∀{dm:St}{H7:Hp},Inv X (pins++ik fp s5.heap) dm H7 s7→N dm H7→∃m,m<n∧∃i ah H',Inv X pins ah H' s7∧tn i s7.heap∧(∀b∈fp,H' b=none)∧W i m ah H':=fun {dm H7} I7 n7=>by
   obtain⟨m',hm,w7⟩:=hN dm H7 n7
   refine⟨m',hm,i+1,dm,H7,I7.gF,T.keep _ _ _ da fun b hb o e=> (I7.pin (b,o) (List.mem_append_right _ (List.mem_append_right _ (ZQ hb e)))).1,fun b hb=> ?_,w7⟩
   obtain⟨o,e,d⟩:=T.obj _ _ da b hb
   exact(I7.pin (b,o) (List.mem_append_right _ (List.mem_append_right _ (ZQ hb e)))).2.1
  cases f with
  |next=>obtain⟨dm,H7,I7,n7⟩:=q7;exact again I7 n7
  |cont=>obtain⟨dm,H7,I7,n7⟩:=q7;exact again I7 n7
  |brk=>obtain⟨dm,H7,I7,q7⟩:=q7;exact⟨dm,H7,I7.gF,q7⟩
  |ret v=>obtain⟨x7,dm,H7,I7,r7,q7⟩:=q7;exact⟨x7,dm,H7,I7.gF,r7,q7⟩
end
theorem Iz {K:PySem.W.Frag}{a:Addr}{xs:List V}{g:TG}{tb:TS}{D:Ends}{σ:St}{H:Hp}(Pv:Nat→St→Hp→Prop) (h0:Pv 0 σ H) (hl:∀i σ H,i≤xs.length→Pv i σ H→ag K H a xs)
  (hs:∀i x σ H,xs[i]? =some x→Pv i σ H→g x σ H fun aU H2=>tb {D with nx:=Pv (i+1),ct:=Pv (i+1),bk:=D.nx} aU H2) (hd:∀σ H,Pv xs.length σ H→D.nx σ H):
  ∃W:Nat→Nat→St→Hp→Prop,(∃m,W 0 m σ H)∧∀i m σ H,W i m σ H→
   ((lF K a).stop i H∧D.nx σ H)∨((lF K a).go i H∧∃N:St→Hp→Prop,(∀ah H',N ah H'→∃m',m'<m∧W (i+1) m' ah H')∧∀x H',(lF K a).kz i H x H'→g x σ H' fun aU H2=>tb {D with nx:=N,ct:=N,bk:=D.nx} aU H2):=by
 refine⟨fun i m σ H=>m=xs.length - i∧i≤xs.length∧Pv i σ H,⟨xs.length,by simp,Nat.zero_le _,h0⟩,?_⟩
 rintro i m σ H ⟨rfl,hi,p⟩
 have q:=hl i σ H hi p
 by_cases ak:i<xs.length
 ·refine .inr ⟨⟨xs,xs[i],q,by simp[ak]⟩,Pv (i+1),fun ah H' p'=> ⟨xs.length - (i+1),by omega,rfl,ak,p'⟩,fun x H' y=> ?_⟩
  obtain⟨e,y⟩:=y
  subst e
  exact hs i x σ _ (y xs q) p
 ·have e:i=xs.length:=by omega
  subst e
  exact .inl ⟨⟨xs,q,Nat.le_refl _⟩,hd σ H p⟩
theorem Yq {lo:Int}{n:Nat}{g:TG}{tb:TS}{D:Ends}{σ:St}{H:Hp}(Pv:Nat→St→Hp→Prop) (h0:Pv 0 σ H)
  (hs:∀i σ H,i<n→Pv i σ H→g (.int (lo+i)) σ H fun aU H2=>tb {D with nx:=Pv (i+1),ct:=Pv (i+1),bk:=D.nx} aU H2) (hd:∀σ H,Pv n σ H→D.nx σ H):
  ∃W:Nat→Nat→St→Hp→Prop,(∃m,W 0 m σ H)∧∀i m σ H,W i m σ H→
   ((ko lo n).stop i H∧D.nx σ H)∨((ko lo n).go i H∧∃N:St→Hp→Prop,(∀ah H',N ah H'→∃m',m'<m∧W (i+1) m' ah H')∧∀x H',(ko lo n).kz i H x H'→g x σ H' fun aU H2=>tb {D with nx:=N,ct:=N,bk:=D.nx} aU H2):=by
 refine⟨fun i m σ H=>m=n - i∧i≤n∧Pv i σ H,⟨n,by simp,Nat.zero_le _,h0⟩,?_⟩
 rintro i m σ H ⟨rfl,hi,p⟩
 by_cases ak:i<n
 ·refine .inr ⟨ak,Pv (i+1),fun ah H' p'=> ⟨n - (i+1),by omega,rfl,ak,p'⟩,fun x H' y=> ?_⟩
  obtain⟨e,y⟩:=y
  subst e y
  exact hs i σ _ ak p
 ·have e:i=n:=by omega
  subst e
  exact .inl ⟨Nat.le_refl _,hd σ H p⟩
abbrev R2:=V→V→Hp→VK→Prop
def aY (X:Cx) (f:Value→Value→Sem Value) (r:R2):Prop:=
 ∀(pins:List (Addr×Obj)) (s:Shared) (σ:St) (H:Hp) (x y:V) (v u:Value) (Q:VK),Inv X pins σ H s→RelV x v→RelV y u→r x y H Q→
  wpAny (model X.prog X.w) X.A (f v u) (EP X pins σ Q) X.xe s
def fg (X:Cx) (f:Value) (r:List V→Hp→VK→Prop):Prop:=
 ∀(pins:List (Addr×Obj)) (s:Shared) (σ:St) (H:Hp) (xs:List V) (us:List Value) (Q:VK),Inv X pins σ H s→Vals xs us→r xs H Q→
  wpAny (model X.prog X.w) X.A (call f us) (EP X pins σ Q) X.xe s
def nU (r:R2) (ta tb:TE):TE:=fun σ H Q=>ta σ H fun x H1=>tb σ H1 fun y H2=>r x y H2 Q
def rI (C:Int→Int→Prop) (g:Int→Int→V):R2:=fun x y H Q=> ∃i j,x=.int i∧y=.int j∧C i j∧Q (g i j) H
def iU (g:Int→Int→V):R2:=fun x y H Q=> ∃i j,x=.int i∧y=.int j∧Q (g i j) H
section
variable {X:Cx}{a b c:Expr}{ta tb tc:TE}{pos:Pos}
theorem uQ (ha:PE X a ta) (hb:PE X b tb) {pins:List (Addr×Obj)}{s:Shared}{σ:St}{H:Hp}{R:V→V→Hp→Prop}(I:Inv X pins σ H s)
  (h:ta σ H fun x H1=>tb σ H1 fun y H2=>R x y H2) {Q:Value→Shared→Prop}{f:Value→Value→Sem Value}
  (hf:∀v u s2 x y H2,Inv X pins σ H2 s2→RelV x v→RelV y u→R x y H2→wpAny (model X.prog X.w) X.A (f v u) Q X.xe s2):
  wpAny (model X.prog X.w) X.A (eval a X.env) (fun v aA=>wpAny (model X.prog X.w) X.A (eval b X.env) (fun u h9=>wpAny (model X.prog X.w) X.A (f v u) Q X.xe h9) X.xe aA) X.xe s:=by
 refine au (ha pins s σ H _ I h) fun v s1 ⟨x,H1,I1,r1,q1⟩=> ?_
 refine au (hb pins s1 σ H1 _ I1 q1) fun u s2 ⟨y,H2,I2,r2,q2⟩=> ?_
 exact hf v u s2 x y H2 I2 r1 r2 q2
theorem Zo {op:Operator}{r:R2}(ho:aY X (binaryOp op) r) (ha:PE X a ta) (hb:PE X b tb):PE X (.BinOp a op b pos) (nU r ta tb):=by
 intro pins s σ H Q I h
 exact wpAny_BinOp (uQ ha hb I h fun v u s2 x y H2 I2 rx ry q=>ho pins s2 σ H2 x y v u Q I2 rx ry q)
theorem oM {f:Value→Value→Sem Value}{C:Int→Int→Prop}{g:Int→Int→Int}
  (rule:∀(i j:Int) (t u:Tok) (s:Shared) (Q:Value→Shared→Prop) (E:Value→Shared→Prop),C i j→Q (.int (g i j) s.toks) {s with toks:=s.toks+1}→wpAny (model X.prog X.w) X.A (f (.int i t) (.int j u)) Q E s):
  aY X f (rI C fun i j=> .int (g i j)):=by
 intro pins s σ H x y v u Q I rx ry h
 obtain⟨i,j,rfl,rfl,hc,q⟩:=h
 obtain⟨t,rfl⟩:=rx
 obtain⟨t',rfl⟩:=ry
 exact rule i j t t' s _ _ hc ⟨.int (g i j),H,I.tok _,⟨_,rfl⟩,q⟩
theorem wJ {f:Value→Value→Sem Value}{g:Int→Int→Int}
  (rule:∀(i j:Int) (t u:Tok) (s:Shared) (Q:Value→Shared→Prop) (E:Value→Shared→Prop),Q (.int (g i j) s.toks) {s with toks:=s.toks+1}→wpAny (model X.prog X.w) X.A (f (.int i t) (.int j u)) Q E s):
  aY X f (iU fun i j=> .int (g i j)):=by
 intro pins s σ H x y v u Q I rx ry h
 obtain⟨i,j,rfl,rfl,q⟩:=h
 obtain⟨t,rfl⟩:=rx
 obtain⟨t',rfl⟩:=ry
 exact rule i j t t' s _ _ ⟨.int (g i j),H,I.tok _,⟨_,rfl⟩,q⟩
theorem oN {f:Value→Value→Sem Value}{g:Int→Int→Bool}
  (rule:∀(i j:Int) (t u:Tok) (s:Shared) (Q:Value→Shared→Prop) (E:Value→Shared→Prop),Q (.bool (g i j)) s→wpAny (model X.prog X.w) X.A (f (.int i t) (.int j u)) Q E s):
  aY X f (iU fun i j=> .bl (g i j)):=by
 intro pins s σ H x y v u Q I rx ry h
 obtain⟨i,j,rfl,rfl,q⟩:=h
 obtain⟨t,rfl⟩:=rx
 obtain⟨t',rfl⟩:=ry
 exact rule i j t t' s _ _ ⟨.bl (g i j),H,I,rfl,q⟩
def Mg (i j:Int):Prop:=0<j∧j<1073741824
def Mf (i j:Int):Prop:=0≤j∧j≤1000000∧i.natAbs<2^64
def vB (i j:Int):Prop:=(-(2^64)<i∧i<2^64)∨(-(2^64)<j∧j<2^64)
theorem vB.ok {i j:Int}(h:vB i j):IntMulOk i j:=by
 rcases h with ⟨h1,h2⟩ |⟨h1,h2⟩
 ·exact .of_left (intBits_le_64 h1 h2)
 ·exact .of_right (intBits_le_64 h1 h2)
theorem ZO:aY X (binaryOp .Add) (iU fun i j=> .int (i+j)):=wJ fun _ _ _ _ _ _ _ q=>add_int q
theorem ZP:aY X (binaryOp .Sub) (iU fun i j=> .int (i - j)):=wJ fun _ _ _ _ _ _ _ q=>sub_int q
theorem Jp:aY X (binaryOp .Mult) (rI vB fun i j=> .int (i*j)):=oM fun _ _ _ _ _ _ _ hc q=>mul_int q hc.ok
theorem zC:aY X (binaryOp .FloorDiv) (rI Mg fun i j=> .int (i/j)):=oM fun i j _ _ _ _ _ hc q=>by
 have h1:(0:Int)<j:=hc.1
 have h2:j<1073741824:=hc.2
 exact floordiv_int (by omega) (by rw[Int.fdiv_eq_ediv_of_nonneg i (by omega)];exact q) (.inl (PyProof.noPylong_small (by omega)))
theorem Yu:aY X (binaryOp .Mod) (rI (fun _ j=>0<j) fun i j=> .int (i%j)):=oM fun i j _ _ _ _ _ hc q=>by
 have h1:(0:Int)<j:=hc
 exact mod_int' (by omega) (by rw[Int.fmod_eq_emod_of_nonneg i (by omega)];exact q)
theorem G9:aY X (binaryOp .Pow) (rI Mf fun i j=> .int (i^j.toNat)):=oM fun _ _ _ _ _ _ _ hc q=>pow_int_small hc.1 hc.2.1 hc.2.2 q
end
def vV:V→V→Bool
 | .ab,.ab=>true | .ab,.int _=>true | .int _,.ab=>true | .ab,.bl _=>true | .bl _,.ab=>true | .ab,.str _=>true | .str _,.ab=>true
 | .int _,.int _=>true | .bl _,.bl _=>true | .str _,.str _=>true | .fA _,.fA _=>true
 | .int _,.str _=>true | .str _,.int _=>true | .bl _,.str _=>true | .str _,.bl _=>true
 |_,_=>false
def BZ:R2:=fun x y H Q=>vV x y=true∧Q (.bl (decide (x=y))) H
def BW:R2:=fun x y H Q=>vV x y=true∧Q (.bl (!decide (x=y))) H
theorem Uj {i j:Int} :decide (V.int i=V.int j)=(i==j):=by
 rw[Bool.eq_iff_iff]
 simp
theorem za {i j:Bool} :decide (V.bl i=V.bl j)=(i==j):=by
 rw[Bool.eq_iff_iff]
 simp
theorem zq {i j:Str} :decide (V.str i=V.str j)=(i==j):=by
 rw[Bool.eq_iff_iff]
 simp
theorem zp {i j:Array UInt8} :decide (V.fA i=V.fA j)=(i.toList==j.toList):=by
 rw[Bool.eq_iff_iff]
 cases i
 cases j
 simp
section
variable {X:Cx}{a b c:Expr}{ta tb tc:TE}{pos:Pos}
theorem ZB {pins:List (Addr×Obj)}{σ:St}{H:Hp}{s:Shared}{Q:VK}{k k':Bool}(I:Inv X pins σ H s) (q:Q (.bl k) H) (e:k=k'):EP X pins σ Q (.bool k') s:=by
 subst e
 exact⟨.bl k,H,I,rfl,q⟩
theorem JX:aY X (compareOp .Eq) BZ:=by
 intro pins s σ H x y v u Q I rx ry h
 obtain⟨hs,q⟩:=h
 cases x with
 |ab=>
  cases rx
  cases y with
  |ab=>cases ry;exact PySem.EqNone.eq_none_none (ZB I q (by simp))
  |bl j=>cases ry;exact PySem.EqNone.eq_none_bool (ZB I q (by simp))
  |int j=>obtain⟨t',rfl⟩:=ry;exact PySem.EqNone.eq_none_int (ZB I q (by simp))
  |str j=>obtain⟨t',rfl⟩:=ry;exact PySem.EqNone.eq_none_str (ZB I q (by simp))
  |_=>exact absurd (show false=true from hs) Bool.false_ne_true
 |bl i=>
  cases rx
  cases y with
  |ab=>cases ry;exact PySem.EqNone.eq_bool_none (ZB I q (by simp))
  |bl j=>cases ry;exact eq_bool (ZB I q za)
  |str j=>obtain⟨t',rfl⟩:=ry;exact PySem.EqMixed.eq_bool_str (ZB I q (by simp))
  |_=>exact absurd (show false=true from hs) Bool.false_ne_true
 |int i=>
  obtain⟨t,rfl⟩:=rx
  cases y with
  |ab=>cases ry;exact PySem.EqNone.eq_int_none (ZB I q (by simp))
  |int j=>obtain⟨t',rfl⟩:=ry;exact eq_int (ZB I q Uj)
  |str j=>obtain⟨t',rfl⟩:=ry;exact PySem.EqMixed.eq_int_str (ZB I q (by simp))
  |_=>exact absurd (show false=true from hs) Bool.false_ne_true
 |str i=>
  obtain⟨t,rfl⟩:=rx
  cases y with
  |ab=>cases ry;exact PySem.EqNone.eq_str_none (ZB I q (by simp))
  |bl j=>cases ry;exact PySem.EqMixed.eq_str_bool (ZB I q (by simp))
  |int j=>obtain⟨t',rfl⟩:=ry;exact PySem.EqMixed.eq_str_int (ZB I q (by simp))
  |str j=>obtain⟨t',rfl⟩:=ry;exact eq_str (ZB I q zq)
  |_=>exact absurd (show false=true from hs) Bool.false_ne_true
 |fA i=>
  obtain⟨t,rfl⟩:=rx
  cases y with
  |fA j=>obtain⟨t',rfl⟩:=ry;exact PySem.W.eq_bytes (ZB I q zp)
  |_=>exact absurd (show false=true from hs) Bool.false_ne_true
 |_=>cases y<;>exact absurd (show false=true from hs) Bool.false_ne_true
theorem uZ:aY X (compareOp .NotEq) BW:=by
 intro pins s σ H x y v u Q I rx ry h
 obtain⟨hs,q⟩:=h
 cases x with
 |ab=>
  cases rx
  cases y with
  |ab=>cases ry;exact PySem.EqNone.ne_none_none (ZB I q (by simp))
  |bl j=>cases ry;exact PySem.EqNone.ne_none_bool (ZB I q (by simp))
  |int j=>obtain⟨t',rfl⟩:=ry;exact PySem.EqNone.ne_none_int (ZB I q (by simp))
  |str j=>obtain⟨t',rfl⟩:=ry;exact PySem.EqNone.ne_none_str (ZB I q (by simp))
  |_=>exact absurd (show false=true from hs) Bool.false_ne_true
 |bl i=>
  cases rx
  cases y with
  |ab=>cases ry;exact PySem.EqNone.ne_bool_none (ZB I q (by simp))
  |bl j=>cases ry;exact ne_bool (ZB I q (congrArg not za))
  |str j=>obtain⟨t',rfl⟩:=ry;exact PySem.EqMixed.ne_bool_str (ZB I q (by simp))
  |_=>exact absurd (show false=true from hs) Bool.false_ne_true
 |int i=>
  obtain⟨t,rfl⟩:=rx
  cases y with
  |ab=>cases ry;exact PySem.EqNone.ne_int_none (ZB I q (by simp))
  |int j=>obtain⟨t',rfl⟩:=ry;exact ne_int (ZB I q (congrArg not Uj))
  |str j=>obtain⟨t',rfl⟩:=ry;exact PySem.EqMixed.ne_int_str (ZB I q (by simp))
  |_=>exact absurd (show false=true from hs) Bool.false_ne_true
 |str i=>
  obtain⟨t,rfl⟩:=rx
  cases y with
  |ab=>cases ry;exact PySem.EqNone.ne_str_none (ZB I q (by simp))
  |bl j=>cases ry;exact PySem.EqMixed.ne_str_bool (ZB I q (by simp))
  |int j=>obtain⟨t',rfl⟩:=ry;exact PySem.EqMixed.ne_str_int (ZB I q (by simp))
  |str j=>obtain⟨t',rfl⟩:=ry;exact ne_str (ZB I q (congrArg not zq))
  |_=>exact absurd (show false=true from hs) Bool.false_ne_true
 |fA i=>
  obtain⟨t,rfl⟩:=rx
  cases y with
  |fA j=>obtain⟨t',rfl⟩:=ry;exact PySem.W.ne_bytes (ZB I q (congrArg not zp))
  |_=>exact absurd (show false=true from hs) Bool.false_ne_true
 |_=>cases y<;>exact absurd (show false=true from hs) Bool.false_ne_true
theorem UC:aY X (compareOp .Lt) (iU fun i j=> .bl (decide (i<j))):=oN fun _ _ _ _ _ _ _ q=>lt_int q
theorem yT:aY X (compareOp .LtE) (iU fun i j=> .bl (decide (i≤j))):=oN fun _ _ _ _ _ _ _ q=>le_int q
theorem uY:aY X (compareOp .Gt) (iU fun i j=> .bl (decide (j<i))):=oN fun _ _ _ _ _ _ _ q=>gt_int q
theorem Gn:aY X (compareOp .GtE) (iU fun i j=> .bl (decide (j≤i))):=oN fun _ _ _ _ _ _ _ q=>ge_int q
theorem aY.or {f:Value→Value→Sem Value}{r r':R2}(h:aY X f r) (h':aY X f r'):aY X f (fun x y H Q=>r x y H Q∨r' x y H Q):=by
 intro pins s σ H x y v u Q I rx ry q
 rcases q with q |q
 ·exact h pins s σ H x y v u Q I rx ry q
 ·exact h' pins s σ H x y v u Q I rx ry q
theorem bM (b:Expr) {op:CmpOp}(h:op≠.In:=by decide) (h2:op≠.NotIn:=by decide):behindInMarks op b=false:=by
 have e1:(op==CmpOp.In)=false:=by cases op<;>first |rfl |exact absurd rfl h
 have e2:(op==CmpOp.NotIn)=false:=by cases op<;>first |rfl |exact absurd rfl h2
 cases b<;>simp[behindInMarks,e1,e2]
theorem Jb {op:CmpOp}{r:R2}(ho:aY X (compareOp op) r) (ha:PE X a ta) (hb:PE X b tb) (hm:behindInMarks op b=false):PE X (.Compare a [op] [b] pos) (nU r ta tb):=by
 intro pins s σ H Q I h
 exact wpAny_Compare1 (uQ ha hb I h fun v u s2 x y H2 I2 rx ry q=>ho pins s2 σ H2 x y v u Q I2 rx ry q) hm
def Az (t:TE):TT:=fun σ H Q=>t σ H fun x H'=> ∃k,x=.bl k∧Q k H'
theorem Zx {op:CmpOp}{r:R2}(ho:aY X (compareOp op) r) (ha:PE X a ta) (hb:PE X b tb) (hm:behindInMarks op b=false):PT X (.Compare a [op] [b] pos) (Az (nU r ta tb)):=by
 intro pins s σ H Q I h
 refine wpAny_isTrue_Compare1 (au (ha pins s σ H _ I h) fun v s1 ⟨x,H1,I1,r1,q1⟩=>au (hb pins s1 σ H1 _ I1 q1) fun u s2 ⟨y,H2,I2,r2,q2⟩=>
  au (ho pins s2 σ H2 x y v u _ I2 r1 r2 q2) fun c s3 ⟨z,H3,I3,r3,k,e,q3⟩=> ?_) hm
 subst e
 cases r3
 exact wpAny_truthy_bool ⟨H3,I3,q3⟩
def AZ (r r':R2) (ta tb tc:TE):TE:=fun σ H Q=>ta σ H fun x H1=>tb σ H1 fun y H2=>r x y H2 fun z H3=> ∃k,z=.bl k∧
 (if k=true then tc σ H3 fun w' H4=>r' y w' H4 Q else Q (.bl false) H3)
theorem KQ {op sI:CmpOp}{r r':R2}(ho:aY X (compareOp op) r) (dF:aY X (compareOp sI) r') (ha:PE X a ta) (hb:PE X b tb) (hc:PE X c tc)
  (hm:lastMarks [op,sI] [b,c]=false:=by with_unfolding_all rfl):PE X (.Compare a [op,sI] [b,c] pos) (AZ r r' ta tb tc):=by
 intro pins s σ H Q I h
 refine Compare_chain (au (ha pins s σ H _ I h) fun v s1 ⟨x,H1,I1,r1,q1⟩=>chain_link (au (hb pins s1 σ H1 _ I1 q1) fun u s2 ⟨y,H2,I2,r2,q2⟩=>
  au (ho pins s2 σ H2 x y v u _ I2 r1 r2 q2) fun d s3 ⟨z,H3,I3,r3,k,e,q3⟩=> ?_)) hm
 subst e
 cases r3
 refine wpAny_truthy_bool ?_
 cases k with
 |false=>exact ite_ff ⟨.bl false,H3,I3,rfl,q3⟩
 |true=>exact ite_tt (chain_last (au (hc pins s3 σ H3 _ I3 q3) fun w' s4 ⟨z',H4,I4,r4,q4⟩=>dF pins s4 σ H4 y z' u w' Q I4 r2 r4 q4))
theorem oW:(sizeLine:Nat)<2^63:=by rw[sizeLine_eq];decide
theorem vals1 {x:V}{us:List Value}(r:Vals [x] us):∃u,us=[u]∧RelV x u:=by
 cases r with
 |cons r1 r2=>cases r2;exact⟨_,rfl,r1⟩
theorem vals2 {x y:V}{us:List Value}(r:Vals [x,y] us):∃u w',us=[u,w']∧RelV x u∧RelV y w':=by
 cases r with
 |cons r1 r2=>
  cases r2 with
  |cons r3 r4=>cases r4;exact⟨_,_,rfl,r1,r3⟩
theorem WT (hc:X.calm=true):fg X (.builtin "max") (fun xs H Q=> ∃i j,xs=[.int i,.int j]∧Q (.int (if j>i then j else i)) H):=by
 intro pins s σ H xs us Q I r h
 obtain⟨i,j,rfl,q⟩:=h
 obtain⟨u,w',rfl,⟨t,rfl⟩,⟨t',rfl⟩⟩:=vals2 r
 refine max_two_ints (I.ok.hd hc) fun h' tk k=> ⟨_,H,I.kept k,?_,q⟩
 by_cases hj:j>i
 ·rw[if_pos hj,if_pos hj];exact⟨_,rfl⟩
 ·rw[if_neg hj,if_neg hj];exact⟨_,rfl⟩
theorem KG (hc:X.calm=true):fg X (.builtin "min") (fun xs H Q=> ∃i j,xs=[.int i,.int j]∧Q (.int (if j<i then j else i)) H):=by
 intro pins s σ H xs us Q I r h
 obtain⟨i,j,rfl,q⟩:=h
 obtain⟨u,w',rfl,⟨t,rfl⟩,⟨t',rfl⟩⟩:=vals2 r
 refine min_two_ints (I.ok.hd hc) fun h' tk k=> ⟨_,H,I.kept k,?_,q⟩
 by_cases hj:j<i
 ·rw[if_pos hj,if_pos hj];exact⟨_,rfl⟩
 ·rw[if_neg hj,if_neg hj];exact⟨_,rfl⟩
end
structure vg (h:Heap) (x dx C:Addr) (mA:Str→Option Value):Prop where
 obj:h.get? x=some (PySem.W.instObj C dx)
 ns:h.Ns1 dx mA
 ne:dx≠x
theorem IY {h:Heap}{dx:Addr}{mA:Str→Option Value}(n:h.Ns1 dx mA):∃od,h.get? dx=some od∧∀name,PySem.W.lookIn name od=some (mA name):=by
 obtain⟨o,es,ep,ho,hd,hk,_,hm⟩:=n
 refine⟨o,ho,fun name=> ?_⟩
 have e:=hm name
 unfold nsFind findBy at e
 rw[←Array.find?_toList]at e
 unfold PySem.W.lookIn
 rw[hd]
 dsimp only
 split
 ·rename_i y q
  rw[q]at e
  exact congrArg some e
 ·rename_i q
  rw[q]at e
  have a:es.toList.any (·.refKey)=false:=by
   rw[List.any_eq_false]
   intro y hy
   obtain⟨z,t,pI⟩:=hk y (Array.mem_toList_iff.mp hy)
   simp[DictEntry.refKey,pI]
  have a':¬es.toList.any (·.refKey)=true:=by rw[a];exact Bool.false_ne_true
  rw[if_neg a']
  exact congrArg some e
theorem vg.look {h:Heap}{x dx C:Addr}{mA:Str→Option Value}(I:vg h x dx C mA):∃od,PySem.W.InstAt h x (PySem.W.instObj C dx) C (some od)∧∀name,PySem.W.lookIn name od=some (mA name):=
 let ⟨od,ho,hl⟩:=IY I.ns
 ⟨od,⟨I.obj,rfl,rfl,ho⟩,hl⟩
section
variable {P:Program}{w:World}{H H':Hp}{h h':Heap}{a C dx:Addr}{fs nk:List (Str×V)}
theorem GK (aj:bW P w H h) (e:H a=some (.ins C dx fs)):∃mA,vg h a dx C mA∧(∀f,vf (fs.lookup f) (mA f))∧PySem.Within mA (fs.map (·.1))∧fs.length≤1000∧H dx=some (.own a):=by
 obtain⟨d,z,ne,ob,mA,n,r,q⟩:=(show bV P w H h a (.ins C dx fs) from aj a _ e)
 exact⟨mA,⟨ob,n,ne⟩,r,q,z,d⟩
end
structure vA (K:PySem.W.Frag) (C:Addr):Prop where
 pg:PySem.W.plainGet K C Str.empty=true
 hd:PySem.W.hasDictIn K C=true
 po:PySem.W.plainOver K C=true
 sa:PySem.W.findIn K (.ref C) "__setattr__" =some (some (.builtin "object.__setattr__"))
theorem vA.get {K:PySem.W.Frag}{C:Addr}(c:vA K C) (f:Str):PySem.W.plainGet K C f=true:=c.pg
structure MP (K:PySem.W.Frag) (C:Addr) (f:Str) (v:V) (u:Value):Prop where
 at_:PySem.W.findIn K (.ref C) f=some (some u)
 rel:RelV v u
 get:PySem.W.specialIn K u "__get__" =some none
 cp:PySem.W.copiedNames.contains f=false
structure Meth (K:PySem.W.Frag) (C:Addr) (m:Str) (f:Addr):Prop where
 at_:PySem.W.findIn K (.ref C) m=some (some (.ref f))
 fn:PySem.W.isFn K (.ref f)=true
 kp:PySem.W.keepIn K (.ref f)=true
section
variable {X:Cx}{pins:List (Addr×Obj)}{σ:St}{H:Hp}{s:Shared}{A:Around}{E:Value→Shared→Prop}{Q:Value→Shared→Prop}{c:Value}{b:Bool}
inductive dI (K:PySem.W.Frag) (H:Hp):V→Value→Prop where
 |ab:dI K H .ab (.type "NoneType")
 |bl (x:Bool):dI K H (.bl x) (.type "bool")
 |int (i:Int):dI K H (.int i) (.type "int")
 |str (x:Str):dI K H (.str x) (.type "str")
 |iF (x:UInt64):dI K H (.iF x) (.type "float")
 |lst {a:Addr}{xs:List V} (e:H a=some (.lst xs)):dI K H (.ref a) (.type "list")
 |cQ {a:Addr}{o:Obj}{xs:List V} (e:H a=some (.cQ o (.lst xs))):dI K H (.ref a) (.type "list")
 |tup {a:Addr}{xs:List V} (e:H a=some (.tup xs)):dI K H (.ref a) (.type "tuple")
 |dK {a:Addr}{kvs:List (Key×V)} (e:H a=some (.dK kvs)):dI K H (.ref a) (.type "dict")
 |dT {a:Addr}{kvs:List (List Key×V)} (e:H a=some (.dT kvs)):dI K H (.ref a) (.type "dict")
 |ins {a C dx:Addr}{fs:List (Str×V)} (e:H a=some (.ins C dx fs)) (cl:vA K C) (ha:PySem.W.findIn K (.ref C) "__class__" =some (some (.builtin "object.__class__")))
  (hn:PySem.W.specialIn K (.builtin "object.__class__") "__get__" =some (some (.builtin "getset_descriptor.__get__"))) (xx:PySem.W.takesIn K (.builtin "object.__class__")=some true)
  (hm:PySem.W.mroIn K C (.type "object")=some true):dI K H (.ref a) (.ref C)
theorem IS {x:V}{u t:Value}(I:Inv X pins σ H s) (rx:RelV x u) (ty:dI X.K H x t) (e:PySem.W.kitOne X.K t c=some b) (h:∀tk,Q (.bool b) {s with toks:=tk}):
  wpAny (model X.prog X.w) A (call (.builtin "isinstance") [u,c]) Q E s:=by
 cases ty with
 |ab=>cases (show u=Value.none from rx);exact PySem.W.kia_one PySem.W.kitx_none I.dB True.intro e (fun z=>nomatch z) h
 |bl y=>cases (show u=Value.bool y from rx);exact PySem.W.kia_one PySem.W.kitx_bool I.dB True.intro e (fun z=>nomatch z) h
 |int i=>obtain⟨t,q⟩:=(show ∃t,u=Value.int i t from rx);cases q;exact PySem.W.kia_one PySem.W.kitx_int I.dB True.intro e (fun z=>nomatch z) h
 |str y=>obtain⟨t,q⟩:=(show ∃t,u=Value.str y t from rx);cases q;exact PySem.W.kia_one PySem.W.kitx_str I.dB True.intro e (fun z=>nomatch z) h
 |iF y=>obtain⟨t,q⟩:=(show ∃t,u=Value.float y t from rx);cases q;exact PySem.W.kia_one PySem.W.kitx_float I.dB True.intro e (fun z=>nomatch z) h
 | @lst a xs ea=>
  cases (show u=Value.ref a from rx)
  obtain⟨_,_,n,_,h1⟩:=(show bV X.prog X.w H s.heap a (.lst xs) from I.aj a _ ea)
  exact PySem.W.kia_one PySem.W.kitx_list I.dB ⟨_,h1,rfl⟩ e (fun z=>nomatch z) h
 | @cQ a ob xs ea=>
  cases (show u=Value.ref a from rx)
  obtain⟨_,_,_,n,_,h1⟩:=(show bV X.prog X.w H s.heap a (.cQ ob (.lst xs)) from I.aj a _ ea)
  exact PySem.W.kia_one PySem.W.kitx_list I.dB ⟨_,h1,rfl⟩ e (fun z=>nomatch z) h
 | @tup a xs ea=>
  cases (show u=Value.ref a from rx)
  obtain⟨_,_,_,p,_⟩:=(show bV X.prog X.w H s.heap a (.tup xs) from I.aj a _ ea)
  obtain⟨o,h1,h2,_⟩:=p
  exact PySem.W.kia_one PySem.W.kitx_tuple I.dB ⟨o,h1,h2⟩ e (fun z=>nomatch z) h
 | @dK a kvs ea=>
  cases (show u=Value.ref a from rx)
  obtain⟨_,_,vs,_,p⟩:=(show bV X.prog X.w H s.heap a (.dK kvs) from I.aj a _ ea)
  obtain⟨o,es,ep,h1,h2,_⟩:=p
  exact PySem.W.kia_one PySem.W.kitx_dict I.dB ⟨o,h1,h2.1⟩ e (fun z=>nomatch z) h
 | @dT a kvs ea=>
  cases (show u=Value.ref a from rx)
  obtain⟨_,_,xs,_,o,es,ep,h1,h2,_⟩:=(show bV X.prog X.w H s.heap a (.dT kvs) from I.aj a _ ea)
  exact PySem.W.kia_one PySem.W.kitx_dict I.dB ⟨o,h1,h2.1⟩ e (fun z=>nomatch z) h
 | @ins a C dx fs ea cl ha hn xx hm=>
  cases (show u=Value.ref a from rx)
  obtain⟨mA,O,_⟩:=GK I.aj ea
  obtain⟨od,J,_⟩:=O.look
  exact PySem.W.kia_one (PySem.W.kitx_own (cl.get _) cl.hd ha hn xx hm) I.dB J e (fun z=>nomatch z) h
end
structure cK (k:Nat) (A:Around):Prop where
 hd:A.handled=none
 dp:A.depth+3*k+5<recursionLimit
 un:A.units+16*k+200<cLine
 gd:A.guards=some []
theorem cK.mono {j k:Nat}{A:Around}(r:cK k A) (h:j≤k):cK j A:=⟨r.hd,by have:=r.dp;omega,by have:=r.un;omega,r.gd⟩
theorem cK.deeper {k:Nat}{A:Around}(r:cK (k+1) A) (env:Env):cK k (A.deeper env):=
 ⟨r.hd,by have:=r.dp;show A.depth+1+3*k+5<_;omega,by have:=r.un;show A.units+3+16*k+200<_;omega,r.gd⟩
theorem cK.depth {k:Nat}{A:Around}(r:cK k A):A.depth<recursionLimit:=by have:=r.dp;omega
theorem cK.units {k:Nat}{A:Around}(r:cK k A):A.units+64<cLine:=by have:=r.un;omega
theorem cK.qt {k:Nat}{A:Around}(r:cK k A):A.units<cLine:=by have:=r.un;omega
def kC:TA:=fun _ H Q=>Q [] H
def kD (ta:TE) (tr:TA):TA:=fun σ H Q=>ta σ H fun x H1=>tr σ H1 fun xs H2=>Q (x::xs) H2
section
variable {X:Cx}{e:Expr}{es:List Expr}{te:TE}{t:TA}{pos:Pos}
theorem Zb:PA X [] kC:=fun _ _ _ _ H Q I h=>Calls.spliced_nil ⟨[],H,I,.nil,h⟩
theorem Za (ha:PE X e te) (hr:PA X es t) (hs:starEach (e::es) X.env=(false,eval e X.env)::starEach es X.env:=by rfl):PA X (e::es) (kD te t):=by
 intro pos pins s σ H Q I h
 rw[hs]
 show wpAny _ _ (spliced ((false,eval e X.env)::backTo pos (starEach es X.env))) _ _ s
 refine Calls.spliced_cons (au (ha pins s σ H _ I h) fun u s1 ⟨x,H1,I1,r1,q1⟩=> ?_)
 exact au (hr pos pins s1 σ H1 _ I1 q1) fun us s2 ⟨xs,H2,I2,r2,q2⟩=> ⟨x::xs,H2,I2,.cons r1 r2,q2⟩
def Ay (t:TA):TE:=fun σ H Q=>t σ H fun xs H1=>xs.length≤sizeLine∧∀p,H1 p=none→Q (.ref p) (upd H1 p (.tup xs))
def AQ (t:TA):TE:=fun σ H Q=>t σ H fun xs H1=>xs.length≤sizeLine∧∀p,H1 p=none→Q (.ref p) (upd H1 p (.lst xs))
theorem ZA {x1} (h:PA X es t):PE X (.Tuple es x1 pos) (Ay t):=by
 intro pins s σ H Q I hq
 refine wpAny_Tuple_spliced (au (h pos pins s σ H _ I hq) fun us s1 ⟨xs,H1,I1,r,z,q⟩=> ⟨by rw[←r.length];exact z,?_⟩)
 have hf:H1 s1.heap.objs.size=none:=I1.aj.fresh (Nat.le_refl _)
 refine⟨.ref s1.heap.objs.size,upd H1 s1.heap.objs.size (.tup xs),I1.laid (t':=s1.toks) (fun b u e=>Heap.get?_push_of_some _ e) (Nat.le_refl _) ?_,rfl,q _ hf⟩
 exact⟨z,us,r,⟨_,Heap.get?_push_size _ rfl,rfl,_,rfl⟩,_,Heap.get?_push_size _ rfl,rfl⟩
theorem Jn (h:PA X es t):PE X (.List es pos) (AQ t):=by
 intro pins s σ H Q I hq
 refine wpAny_List_spliced (au (h pos pins s σ H _ I hq) fun us s1 ⟨xs,H1,I1,r,z,q⟩=> ⟨by rw[←r.length];exact z,?_⟩)
 have hf:H1 s1.heap.objs.size=none:=I1.aj.fresh (Nat.le_refl _)
 refine⟨.ref s1.heap.objs.size,upd H1 s1.heap.objs.size (.lst xs),I1.laid (t':=s1.toks) (fun b u e=>Heap.get?_push_of_some _ e) (Nat.le_refl _) ?_,rfl,q _ hf⟩
 exact⟨z,us,0,r,Heap.get?_push_size _ rfl⟩
end
abbrev Sp:=List V→Hp→VK→XK→Prop
abbrev iL:=List Env→Hp→Shared→XK→Value→Shared→Prop
structure qj (P:Program) (w:World) (K:PySem.W.Frag) (mg:Str→Option Value) (base:Heap) (A:Around) (outer:List Env) (s:Shared) (H:Hp):Prop where
 frames:A.frames=some outer
 mod:Mod K mg base
 bs:∀b o,base.get? b=some o→s.heap.get? b=some o∧H b=none
 j9:base.objs.size≤s.heap.objs.size
 gr:s.heap.FunFrames base outer
 lu:∀b∈eK outer,H b=none
 aj:bW P w H s.heap
 bare:AllBare s.gens
def CE (outer:List Env) (P:Program) (w:World) (H:Hp) (s:Shared) (Q:VK) (u:Value) (s':Shared):Prop:=
 ∃v H',s'.os=s.os∧AllBare s'.gens∧Un (eK outer) [] H H' s.heap s'.heap∧bW P w H' s'.heap∧RelV v u∧Q v H'
def CR (CX:iL) (outer:List Env) (P:Program) (w:World) (H:Hp) (s:Shared) (Q:VK) (E:XK) (r:Result) (s':Shared):Prop:=
 match r with
 | .ok (.ret u)=>CE outer P w H s Q u s'
 | .ok _=>False
 | .error e=>CX outer H s E e s'
structure aG (P:Program) (w:World) (K:PySem.W.Frag) (mg:Str→Option Value) (base:Heap) (CX:iL) (k:Nat) (f:Addr) (fd:FuncData) (ps:List Str) (sp:Sp):Prop where
 len:∀vs H Q E,sp vs H Q E→vs.length=ps.length
 run:∀(A:Around) (outer:List Env) (s:Shared) (H:Hp) (args:Args) (us:List Value) (vs:List V) (Q:VK) (E:XK),cK k A→qj P w K mg base A outer s H→BindsTo s fd args (ps.zip us)→Vals vs us→sp vs H Q E→
  codeAny (model P w) A (.call (.ref f) args) (CR CX outer P w H s Q E) s
section
variable {X:Cx}{pins:List (Addr×Obj)}{σ:St}{H:Hp}{s s':Shared}
theorem Inv.E1 (I:Inv X pins σ H s):qj X.prog X.w X.K X.mg X.base X.A X.stack s H:=
 ⟨I.ok.frames,I.ok.mod,I.bs,Nat.le_trans I.ok.j9 I.sz,I.stack,I.vN,I.aj,I.bare⟩
theorem Inv.after {Q:VK}{u:Value}(I:Inv X pins σ H s) (h:CE X.stack X.prog X.w H s Q u s'):EP X pins σ Q u s':=by
 obtain⟨v,H',os,bare,un,aj,r,q⟩:=h
 obtain⟨hh,g,d,t,jA⟩:=s'
 obtain rfl:jA=s.os:=os
 exact⟨v,H',I.call (h':=hh) (g':=g) (d':=d) (t':=t) (ch:=[]) un aj bare (fun b z=>absurd z (by simp)),r,q⟩
end
def vK (sp:Sp) (ji:List V) (E:XK) (t:TA):TE:=fun σ H Q=>t σ H fun vs H1=>sp (vs++ji) H1 Q E
def Binds (K:PySem.W.Frag) (fd:FuncData) (ps:List Str) (ds:List Value):Prop:=
 ∀(s:Shared) (us:List Value),K.In s.heap→(us++ds).length=ps.length→BindsTo s fd ⟨us,[]⟩ (ps.zip (us++ds))
theorem Binds.all {K:PySem.W.Frag}{fd:FuncData}{ps:List Str}(h:∀us:List Value,us.length=ps.length→bindArgs fd ⟨us,[]⟩=pure (ps.zip us)):Binds K fd ps []:=fun s us _ hl=>by
 rw[List.append_nil]at hl ⊢
 exact .of_eq (h us hl)
def Passes (CX:iL) (X:Cx) (E:XK):Prop:=∀(pins:List (Addr×Obj)) (σ:St) (H:Hp) (s:Shared) (e:Value) (s':Shared),Inv X pins σ H s→CX X.stack H s E e s'→X.xe e s'
section
variable {X:Cx}{CX:iL}{k:Nat}{f C:Addr}{fd:FuncData}{ps:List Str}{sp:Sp}{ji:List V}{ds:List Value}{E:XK}{x m:Str}{p pos apos:Pos}{e o:Expr}{es:List Expr}{ta:TE}{t:TA}
theorem Hj {pins:List (Addr×Obj)}{σ:St}{H:Hp}{s:Shared}{Q:VK}{us:List Value}{vs:List V}(F:aG X.prog X.w X.K X.mg X.base CX k f fd ps sp) (hr:cK k X.A) (hb:Binds X.K fd ps ds) (hd:Vals ji ds) (hx:Passes CX X E)
  (I:Inv X pins σ H s) (r:Vals vs us) (h:sp (vs++ji) H Q E):wpAny (model X.prog X.w) X.A (call (.ref f) us) (EP X pins σ Q) X.xe s:=by
 have r2:Vals (vs++ji) (us++ds):=r.append hd
 have hl:(us++ds).length=ps.length:=by rw[←r2.length];exact F.len _ _ _ _ h
 refine wpAny_call (codeAny_mono (F.run X.A X.stack s H ⟨us,[]⟩ (us++ds) (vs++ji) Q E hr I.E1 (hb s us I.dB hl) r2 h) fun r s' hq=> ?_)
 cases r with
 |error e=>exact hx pins σ H s e s' I hq
 |ok fl=>
  cases fl with
  |ret u=>exact I.after hq
  |next=>exact False.elim hq
  |brk=>exact False.elim hq
  |cont=>exact False.elim hq
theorem IF (F:aG X.prog X.w X.K X.mg X.base CX k f fd ps sp) (hr:cK k X.A) (hg:Gl X x) (hm:X.mg x=some (.ref f)) (hk:PySem.W.keepIn X.K (.ref f)=true) (hb:Binds X.K fd ps ds) (hd:Vals ji ds) (hx:Passes CX X E)
  (ha:PA X (e::es) t) (iC:(x==("__debug__" :Str))=false:=by decide) (he:starEach (e::es) X.env=(false,eval e X.env)::starEach es X.env:=by rfl) (fv:(backTo pos (starEach es X.env)).any (·.1)=false:=by rfl):
  PE X (.Call (.Name x p) (e::es) [] pos) (vK sp ji E t):=by
 intro pins s σ H Q I h
 refine wpAny_Call_Name_kw (zx I hg hm ?_ iC)
 refine PySem.W.callWith_K (h₀:=X.base) I.ok.mod.sU hk (au (ha pos pins s σ H _ I h) fun us s1 ⟨vs,H1,I1,r,q⟩=> ⟨I1.dB,?_⟩) he fv
 exact Hj F hr hb hd hx I1 r q
structure Mk (K:PySem.W.Frag) (C f:Addr):Prop where
 makes:PySem.W.makesIn K C=true
 init:PySem.W.findIn K (.ref C) "__init__" =some (some (.ref f))
 fn:PySem.W.isFn K (.ref f)=true
 kp:PySem.W.keepIn K (.ref C)=true
end
def PK (X:Cx) (mn:List Keyword) (t:TA):Prop:=
 ∀(pos:Pos) (pins:List (Addr×Obj)) (s:Shared) (σ:St) (H:Hp) (Q:List V→Hp→Prop),Inv X pins σ H s→t σ H Q→wpAny (model X.prog X.w) X.A (evalAll ((backToKw pos (keywordEach mn X.env)).map (·.2))) (AP X pins σ Q) X.xe s
section
variable {X:Cx}{CX:iL}{k:Nat}{f C:Addr}{fd:FuncData}{ps ks:List Str}{sp:Sp}{E:XK}{x m:Str}{p pos apos mv:Pos}{e o:Expr}{es:List Expr}{mn:List Keyword}{te ta:TE}{t tk:TA}{nm:Option Str}
theorem Hf:PK X [] kC:=fun _ _ _ _ H Q I h=>wpAny_evalAll_nil ⟨[],H,I,.nil,h⟩
theorem IJ (ha:PE X e te) (hr:PK X mn t):PK X (⟨nm,e,mv⟩::mn) (kD te t):=by
 intro pos pins s σ H Q I h
 show wpAny _ _ (evalAll ((do let v ←eval e X.env;standAt pos;pure v)::(backToKw pos (keywordEach mn X.env)).map (·.2))) _ _ s
 refine wpAny_evalAll_cons (wpAny_bind (au (ha pins s σ H _ I h) fun u s1 ⟨x,H1,I1,r1,q1⟩=>wpAny_bind (wpAny_standAt (wpAny_pure ?_))))
 exact au (hr pos pins s1 σ H1 _ I1 q1) fun us s2 ⟨xs,H2,I2,r2,q2⟩=> ⟨x::xs,H2,I2,.cons r1 r2,q2⟩
structure MJ (K:PySem.W.Frag) (fd:FuncData) (ps ks:List Str) (g:List Value→List Value→List Value) (gV:List V→List V→List V):Prop where
 to:∀(s:Shared) (us ws:List Value),K.In s.heap→(g us ws).length=ps.length→BindsTo s fd ⟨us,ks.zip ws⟩ (ps.zip (g us ws))
 rel:∀{vs:List V}{us:List Value}{zs:List V}{ws:List Value},Vals vs us→Vals zs ws→Vals (gV vs zs) (g us ws)
variable {g:List Value→List Value→List Value}{gV:List V→List V→List V}
end
structure aV (N P:List Str) (sc:Scope):Prop where
 kind:sc.kind=.function
 co:sc.isCoroutine=false
 gen:sc.isGenerator=false
 nd:N.Nodup
 pre:N.take P.length=P
 par:∀x∈P,sc.names.lookup x=some .local∨sc.names.lookup x=some .cell
 Ct:∀y∈sc.names,y.2≠.free
theorem WU {kindOf:Str→Option NameKind}{x:Str} :∀{binds:List (Str×Value)}{m:Str→Option Value},(∀v,(x,v)∉binds)→bindL kindOf binds m x=m x
 | [],_,_=>rfl
 |(n,v)::r,m,h=>by
  unfold bindL
  rw[WU fun w hw=>h w (List.mem_cons_of_mem _ hw)]
  split
  ·have:x≠n:=by rintro rfl;exact h v List.mem_cons_self
   simp[this]
  ·rfl
theorem WW {kindOf:Str→Option NameKind}{x:Str} :∀{binds:List (Str×Value)}{m:Str→Option Value},(∀v,(x,v)∉binds)→bindC kindOf binds m x=m x
 | [],_,_=>rfl
 |(n,v)::r,m,h=>by
  unfold bindC
  rw[WW fun w hw=>h w (List.mem_cons_of_mem _ hw)]
  split
  ·rfl
  ·have:x≠n:=by rintro rfl;exact h v List.mem_cons_self
   simp[this]
theorem WV {kindOf:Str→Option NameKind}{x:Str}{v:Value} :∀{P:List Str}{vs:List Value}{i:Nat}{m:Str→Option Value},P.Nodup→P[i]? =some x→vs[i]? =some v→kindOf x=some .local→
  bindL kindOf (P.zip vs) m x=some v
 | [],_,_,_,_,h,_,_=>by simp at h
 |_::_,[],_,_,_,_,h,_=>by simp at h
 |p::P,w::vs,0,m,nd,h1,h2,hk=>by
  simp at h1 h2;subst h1;subst h2
  show bindL kindOf ((p,w)::P.zip vs) m p=_
  unfold bindL
  rw[WU fun v hv=> (List.nodup_cons.mp nd).1 (List.of_mem_zip hv).1,if_pos hk]
  simp
 |p::P,w::vs,i+1,m,nd,h1,h2,hk=>by
  show bindL kindOf ((p,w)::P.zip vs) m x=_
  unfold bindL
  exact WV (i:=i) (List.nodup_cons.mp nd).2 (by simpa using h1) (by simpa using h2) hk
theorem WX {kindOf:Str→Option NameKind}{x:Str}{v:Value} :∀{P:List Str}{vs:List Value}{i:Nat}{m:Str→Option Value},P.Nodup→P[i]? =some x→vs[i]? =some v→kindOf x≠some .local→
  bindC kindOf (P.zip vs) m x=some v
 | [],_,_,_,_,h,_,_=>by simp at h
 |_::_,[],_,_,_,_,h,_=>by simp at h
 |p::P,w::vs,0,m,nd,h1,h2,hk=>by
  simp at h1 h2;subst h1;subst h2
  show bindC kindOf ((p,w)::P.zip vs) m p=_
  unfold bindC
  rw[WW fun v hv=> (List.nodup_cons.mp nd).1 (List.of_mem_zip hv).1,if_neg hk]
  simp
 |p::P,w::vs,i+1,m,nd,h1,h2,hk=>by
  show bindC kindOf ((p,w)::P.zip vs) m x=_
  unfold bindC
  exact WX (i:=i) (List.nodup_cons.mp nd).2 (by simpa using h1) (by simpa using h2) hk
def start (N:List Str) (vs:List V):St:=vs.map some++List.replicate (N.length - vs.length) none
def j7 (CX:iL) (P:Program) (w:World) (K:PySem.W.Frag) (mg:Str→Option Value) (base:Heap) (N:List Str) (qual:Str) (scope:Scope) (f:Addr) (cd:Value) (A:Around) (outer:List Env) (s:Shared) (H:Hp) (E:XK):Cx where
 prog:=P
 w:=w
 K:=K
 mg:=mg
 base:=base
 A:=A.deeper (envOfC qual scope s.heap.objs.size f cd)
 N:=N
 cb:=s
 nK:=H
 env:=envOfC qual scope s.heap.objs.size f cd
 outer:=outer
 stack:=envOfC qual scope s.heap.objs.size f cd::outer
 ex:=[]
 calm:=true
 fn:=fun _=>true
 pn:=[]
 xe:=fun e s'=>wpAny (model P w) (A.deeper (envOfC qual scope s.heap.objs.size f cd)) (leaving (envOfC qual scope s.heap.objs.size f cd) e) (fun _ ig=>CX outer H s E e ig) (fun e' ig=>CX outer H s E e' ig) s'
theorem UX {sc:Scope}{n:Nat}{x:Str}(h:sc.names.lookup x=some .cell):∃c,(cellsFrom n sc.names []).lookup x=some c:=by
 have q:=PySem.W.cellsFrom_some sc.names n [] (.inl h)
 exact Option.isSome_iff_exists.mp q
theorem IQ {CX:iL}{P:Program}{w:World}{K:PySem.W.Frag}{mg:Str→Option Value}{base:Heap}{N ps:List Str}{qual:Str}{scope:Scope}{f:Addr}{cd:Value}{A:Around}{outer:List Env}{s s1:Shared}{H:Hp}{E:XK}{us:List Value}{vs:List V}
  (S:aV N ps scope) (hd:A.handled=none) (e0:qj P w K mg base A outer s H) (hl:vs.length=ps.length) (r:Vals vs us)
  (x:InCallC s s.heap.objs.size (bindL (envOfC qual scope s.heap.objs.size f cd).kindOf (ps.zip us) fun _=>none) (cellsFrom (s.heap.objs.size+1) scope.names []) (bindC (envOfC qual scope s.heap.objs.size f cd).kindOf (ps.zip us) fun _=>none) s1):
  Inv (j7 CX P w K mg base N qual scope f cd A outer s H E) [] (start N vs) H s1:=by
 have fv:ps.length≤N.length:=by have:=congrArg List.length S.pre;rw[List.length_take]at this;omega
 obtain⟨h1,tk,rfl,hk⟩:=x.done
 have kP:∀b:Addr,b∉(j7 CX P w K mg base N qual scope f cd A outer s H E).ex:=fun b z=>absurd (show b∈([]:List Addr) from z) (by simp)
 refine⟨⟨e0.mod,S.kind,rfl,rfl,Nat.le_refl _,fun y z c h1 h2=> ?_,fun y hy=> ?_,fun y c _ h=> ?_,fun _=>hd,Around.frames_deeper e0.frames,.inr ⟨rfl,rfl⟩,fun b z=>absurd z (kP b),e0.bs,e0.j9,fun b _ _=>kP b,fun b z=>absurd z (kP b),e0.gr,e0.lu⟩,
  rfl,e0.bare,Un.kept hk,⟨_,x.toInCall.ns,fun i y v h1 h2 h3=> ?_⟩,fun y c h=> ⟨_,x.cell y c h⟩,e0.aj.fresh (Nat.le_refl _),fun y c h=> ?_,fun p hp=>absurd (show p∈([]:List (Addr×Obj)) from hp) (by simp),e0.aj.kept hk,?_⟩
 ·exact name_of_addr x.apart (PySem.mem_of_lookup h1) (PySem.mem_of_lookup h2)
 ·have hy:scope.names.lookup y=some .cell∨scope.names.lookup y=some .free:=hy
  rcases hy with hy |hy
  ·exact UX hy
  ·exact absurd rfl (S.Ct _ (PySem.mem_of_lookup hy))
 ·exact Nat.le_of_lt (x.above y c (PySem.mem_of_lookup h))
 ·have hi:i<vs.length:=by
   unfold start at h2
   by_cases hi:i<vs.length
   ·exact hi
   ·rw[List.getElem?_append_right (by simpa using hi)]at h2
    rw[List.getElem?_replicate]at h2
    split at h2<;>cases h2
  have ha:vs[i]? =some v:=by
   unfold start at h2
   rw[List.getElem?_append_left (by simpa using hi),List.getElem?_map]at h2
   cases e:vs[i]? with
   |none=>rw[e]at h2;cases h2
   |some a=>rw[e]at h2;cases h2;rfl
  obtain⟨u,hu,rv⟩:=r.get ha
  have hp:ps[i]? =some y:=by
   rw[←S.pre,List.getElem?_take_of_lt (by omega)];exact h1
  have wW:ps.Nodup:=by rw[←S.pre];exact S.nd.sublist (List.take_sublist _ _)
  refine⟨u,rv,?_⟩
  rcases S.par y (List.mem_of_getElem? hp) with k |k
  ·exact .inl ⟨k,WV wW hp hu k⟩
  ·obtain⟨c,e⟩:=UX (n:=s.heap.objs.size+1) k
   refine .inr ⟨.inl k,c,e,?_⟩
   have q:=x.cell y c e
   rw[WX wW hp hu (by show scope.names.lookup y≠_;rw[k];decide)]at q
   exact q
 ·exact e0.aj.fresh (Nat.le_of_lt (x.above y c (PySem.mem_of_lookup h)))
 ·unfold start
  show _=N.length
  rw[List.length_append,List.length_map,List.length_replicate]
  omega
theorem GB {CX:iL}{P:Program}{w:World}{K:PySem.W.Frag}{mg:Str→Option Value}{base:Heap}{k:Nat}{f:Addr}{name qual:Str}{params:Arguments}{body:List Stmt}{scope:Scope}{dV kV doc pm ao ct oc:Value}{an od:Option Addr}
    {fO:Array (Option Value)}{N ps:List Str}{sp:Sp} (lk:K.lookup f=some ⟨oc,od,.func (PySem.W.fnOf name qual params body scope dV kV doc pm an ao ct),fO⟩) (fw:PySem.W.codeIn K ao qual=true) (S:aV N ps scope)
    (len:∀vs H Q E,sp vs H Q E→vs.length=ps.length)
    (ui:∀(A:Around) (outer:List Env) (s:Shared) (H:Hp) (vs:List V) (Q:VK) (E:XK),cK k (A.deeper (envOfC qual scope s.heap.objs.size f ao))→sp vs H Q E→
      ∃t,fe (j7 CX P w K mg base N qual scope f ao A outer s H E) body t∧t {nx:=fun _ H'=>Q .ab H',rt:=Q} (start N vs) H):
    aG P w K mg base CX (k+1) f (PySem.W.fnOf name qual params body scope dV kV doc pm an ao ct) ps sp:=by
  refine⟨len,fun A outer s H args us vs Q E hr e0 hb r i8=> ?_⟩
  have hl:=len _ _ _ _ i8
  have KX:K.In s.heap:=e0.mod.sU.keeps fun b o e=> (e0.bs b o e).1
  have lim:s.heap.NoLimit:=e0.mod.nolimit.keeps fun b o e=> (e0.bs b o e).1
  have Ed:∀y∈ps.zip us,scope.names.lookup y.1=some .local∨(scope.names.lookup y.1=some .cell∧((cellsFrom (s.heap.objs.size+1) scope.names []).lookup y.1).isSome=true):=fun⟨n,v⟩ hy=>by
    rcases S.par n (List.of_mem_zip hy).1 with q |q
    · exact .inl q
    · exact .inr ⟨q,PySem.W.cellsFrom_some _ _ _ (.inl q)⟩
  refine codeAny_call_function hr.depth (KX _ _ lk) rfl S.co S.gen rfl (PySem.W.codeRec_of KX fw) (hb _ _ _ _ ?_)
  refine wpAny_newFunctionEnv_cells S.kind Ed fun env he s1 x=> ?_
  subst he
  refine⟨lim.keeps x.toInCall.keep,codeAny_func ?_⟩
  obtain⟨t,ht,hq⟩:=ui A outer s H vs Q E (hr.deeper _) i8
  have I:Inv (j7 CX P w K mg base N qual scope f ao A outer s H E) [] (start N vs) H s1:=IQ S hr.hd e0 hl r x
  refine wpAny_mono (ht [] s1 (start N vs) H _ I hq) (fun fl s' hs=> ?_) fun e s' hs=>hs
  have fin:∀{ah:St}{H':Hp}{v:V}{u:Value},Inv (j7 CX P w K mg base N qual scope f ao A outer s H E) [] ah H' s'→RelV v u→Q v H'→CE outer P w H s Q u s':=
    fun {ah H' v u} J rv q=> ⟨v,H',J.os,J.bare,J.base,J.aj,rv,q⟩
  cases fl with
  |ret u=>
   obtain⟨v,ah,H',J,rv,q⟩:=hs
   exact fin J rv q
  |next=>
   obtain⟨ah,H',J,q⟩:=hs
   exact fin (v:=V.ab) (u:=Value.none) J rfl q
  |brk=>
   obtain⟨_,_,_,q⟩:=hs
   exact False.elim q
  |cont=>
   obtain⟨_,_,_,q⟩:=hs
   exact False.elim q
section
variable {X:Cx}{x:Str}{p pos:Pos}{e:Expr}{es:List Expr}{t:TA}{id T:String}{r:List V→Hp→VK→Prop}
def vL (r:List V→Hp→VK→Prop) (t:TA):TE:=fun σ H Q=>t σ H fun vs H1=>r vs H1 Q
theorem Zv (hc:fg X (.builtin id) r) (hg:Gl X x) (hm:X.mg x=none) (hv:bootBuiltins x=some (.builtin id)) (ha:PA X (e::es) t) (hn:x≠ "__name__" :=by decide) (iC:(x==("__debug__" :Str))=false:=by decide)
  (he:starEach (e::es) X.env=(false,eval e X.env)::starEach es X.env:=by rfl) (fv:(backTo pos (starEach es X.env)).any (·.1)=false:=by rfl):PE X (.Call (.Name x p) (e::es) [] pos) (vL r t):=by
 intro pins s σ H Q I h
 refine wpAny_Call_Name_kw (Z6 I hg hm hv ?_ hn iC)
 exact PyProof.Rows.callWith_builtin1 (au (ha pos pins s σ H _ I h) fun us s1 ⟨vs,H1,I1,r1,q1⟩=>hc pins s1 σ H1 vs us Q I1 r1 q1) he fv
theorem Yc (hc:fg X (.type T) r) (hg:Gl X x) (hm:X.mg x=none) (hv:bootBuiltins x=some (.type T)) (ha:PA X (e::es) t) (hn:x≠ "__name__" :=by decide) (iC:(x==("__debug__" :Str))=false:=by decide)
  (he:starEach (e::es) X.env=(false,eval e X.env)::starEach es X.env:=by rfl) (fv:(backTo pos (starEach es X.env)).any (·.1)=false:=by rfl):PE X (.Call (.Name x p) (e::es) [] pos) (vL r t):=by
 intro pins s σ H Q I h
 refine wpAny_Call_Name_kw (Z6 I hg hm hv ?_ hn iC)
 exact PyProof.Rows.callWith_type1 (au (ha pos pins s σ H _ I h) fun us s1 ⟨vs,H1,I1,r1,q1⟩=>hc pins s1 σ H1 vs us Q I1 r1 q1) he fv
end
end L2
namespace HT
open PySem PyProof.Rows
def lexLt:List Int→List Int→Bool
 | [],[]=>false
 | [],_::_=>true
 |_::_,[]=>false
 |x::xs,y::ys=>if x=y then lexLt xs ys else decide (x<y)
theorem xg (x y:Int) (xs ys:List Int):lexLt (x::xs) (y::ys)=if x=y then lexLt xs ys else decide (x<y):=rfl
theorem Ws:lexLt [] []=false:=rfl
theorem J9 (y:Int) (ys:List Int):lexLt [] (y::ys)=true:=rfl
theorem Wb (x:Int) (xs:List Int):lexLt (x::xs) []=false:=rfl
theorem Iw (A:Around) (s:Shared) (a:Int) (t:Tok) (c:Int) (u:Tok):∃e,SeqAt.EqAt A s (.int a t) (.int c u) e∧(e=true↔a=c):=
 ⟨(a==c),SeqAt.EqAt.int_int a t c u,by simp⟩
theorem Ks (A:Around) (s:Shared) (a:Int) (t:Tok) (c:Int) (u:Tok) (prog:Program) (w:World) (E:Value→Shared→Prop) (Q:Value→Shared→Prop) (h:Q (.bool (decide (a<c))) s):
  wpAny (model prog w) A (richCompare .Lt (.int a t) (.int c u)) Q E s:=
 (PyProof.Rows.lt_int h:wpAny (model prog w) A (compareOp .Lt (.int a t) (.int c u)) Q E s)
section
open PySem.SeqAt
open PySem.AutoSeq1 (wpAny_loadPart')
open PySem.MeetsSeq PySem.MeetsSeq2 PySem.MeetsSeq3
theorem Wp (l b:Addr) (items items2:Array Value) (n n2:Nat) (dd jj:Option Addr) (sl gJ:Array (Option Value)) (ns ms:List Int) (hi:IntsAre items.toList ns) (hj:IntsAre items2.toList ms):
  Meets (Builtin.«tuple.__lt__» ⟨[.ref l,.ref b],[]⟩)
   (fun _ R s=>s.heap.get? l=some {cls:=.type "tuple",dict:=dd,data:=.seq items n,slots:=sl}∧s.heap.get? b=some {cls:=.type "tuple",dict:=jj,data:=.seq items2 n2,slots:=gJ}∧
    R (.ok (.ret (.bool (lexLt ns ms)))) s):=
 .of_wp fun prog w A R s h=>by
  obtain⟨hp,g,d,tk,os⟩:=s;obtain⟨hl,hb,h⟩:=h
  have f2:=AutoSeq1.sub_tuple_tuple
  have z1:items.size=ns.length:=by rw[←hi.length];simp
  have z2:items2.size=ms.length:=by rw[←hj.length];simp
  wp_walk using wpAny_loadPart' hl,wpAny_loadPart' hb,wpAny_forIn_list _ (fun rest b s'=>b.1=none∧s'=⟨hp,g,d,tk,os⟩∧∃(vs ws:List Value) (br kR:List Int),rest=vs.zip ws∧
   IntsAre vs br∧IntsAre ws kR∧br.length+items2.size=kR.length+items.size∧R (.ok (.ret (.bool (lexLt br kR)))) ⟨hp,g,d,tk,os⟩) _
  case turn=>
   rintro⟨y,x⟩ rest b s' ⟨dY,rfl,vs,ws,br,kR,hz,td,o9,hlen,hR⟩
   cases td with
   |nil=>rw[List.zip_nil_left]at hz;cases hz
   |cons a t Dm=>
    cases o9 with
    |nil=>rw[List.zip_nil_right]at hz;cases hz
    |cons c u Dl=>
     rw[List.zip_cons_cons]at hz
     injection hz with Dk DM
     injection Dk with hy hx
     subst hy hx
     rw[xg]at hR
     simp only[List.length_cons]at hlen
     obtain⟨e,he,xZ⟩:=Iw A.in1 ⟨hp,g,d,tk,os⟩ a t c u
     refine wpAny_bind (he prog w _ _ ?_)
     cases e with
     |true=>
      rw[if_pos (xZ.mp rfl)]at hR
      wp_walk
      exact⟨rfl,rfl,_,_,_,_,DM,Dm,Dl,by omega,hR⟩
     |false=>
      rw[if_neg (fun q=>absurd (xZ.mpr q) Bool.false_ne_true)]at hR
      have DJ:=Ks A.in1 ⟨hp,g,d,tk,os⟩ a t c u prog w
      wp_walk using DJ
      exact⟨_,rfl,by simpa using hR⟩
  case fin=>
   rintro⟨b1,b2⟩ s' ⟨dY,rfl,vs,ws,br,kR,hz,td,o9,hlen,hR⟩
   simp only at dY
   subst dY
   have hv:lexLt br kR=decide (items.size<items2.size):=by
    cases td with
    |nil=>
     cases o9 with
     |nil=>
      simp only[List.length_nil]at hlen
      rw[Ws]
      exact(decide_eq_false (by omega)).symm
     |cons c u hw=>
      simp only[List.length_nil,List.length_cons]at hlen
      rw[J9]
      exact(decide_eq_true (by omega)).symm
    |cons a t hv=>
     cases o9 with
     |nil=>
      simp only[List.length_nil,List.length_cons]at hlen
      rw[Wb]
      exact(decide_eq_false (by omega)).symm
     |cons c u hw=>
      rw[List.zip_cons_cons]at hz
      cases hz
   rw[hv]at hR
   wp_walk
   exact⟨_,rfl,by simpa[Builtin.Tuple.tupleCompareSizes] using hR⟩
  case h=>
   exact⟨rfl,rfl,items.toList,items2.toList,ns,ms,rfl,hi,hj,by omega,h⟩
end
section
variable {prog:Program}{w:World}{A:Around}{E:Value→Shared→Prop}{s:Shared}
theorem xc {l b:Addr}{items items2:Array Value}{ns ms:List Int}{Q:Value→Shared→Prop}(hl:IsTup s.heap l items) (hb:IsTup s.heap b items2) (hi:IntsAre items.toList ns) (hj:IntsAre items2.toList ms)
  (hu:A.units<cLine) (h:Q (.bool (lexLt ns ms)) s):wpAny (model prog w) A (compareOp .Lt (.ref l) (.ref b)) Q E s:=by
 obtain⟨⟨cls,dd,data,sl⟩,ho,hc,n,hd⟩:=id hl
 obtain⟨⟨yP,jj,data2,gJ⟩,gP,gm,n2,hd2⟩:=id hb
 simp only at hc hd gm hd2
 subst hc hd gm hd2
 exact richCompare_meets_room (op:=.Lt) ⟨_,ho,rfl⟩ ⟨_,gP,rfl⟩ PySem.F.slot_tuple_lt PySem.F.entry_tuple_lt (PySem.F.args_tuple_lt_2 _ _) (Wp l b items items2 n n2 dd jj sl gJ ns ms hi hj)
  ⟨ho,gP,show Value.bool (lexLt ns ms)≠Value.notImplemented∧Q (.bool (lexLt ns ms)) s from ⟨(fun x=>nomatch x),h⟩⟩ hu
theorem FR {t b:Addr}{vs ws:List Value}{Q:Value→Shared→Prop}(ht:IsTup s.heap t vs.toArray) (hb:IsTup s.heap b ws.toArray) (hv:vs≠[])
  (h1:ws=[]→Q (.ref t) s) (h2:ws≠[]→Q (.ref s.heap.objs.size) {s with heap:=s.heap.push {cls:=.type "tuple",data:=.seq (vs++ws).toArray} })
  (bY:vs.length+ws.length≤sizeLine):wpAny (model prog w) A (binaryOp .Add (.ref t) (.ref b)) Q E s:=by
 obtain⟨⟨cls,dd,data,sl⟩,ho,hc,n,hd⟩:=id ht
 obtain⟨⟨yP,jj,data2,gJ⟩,gP,gm,n2,hd2⟩:=id hb
 simp only at hc hd gm hd2
 subst hc hd gm hd2
 have e:vs.toArray++ws.toArray=(vs++ws).toArray:=by simp
 by_cases hw:ws=[]
 ·exact concat_meets ⟨_,ho,rfl⟩ ⟨_,gP,rfl⟩ noFill_tuple_add seq_tuple_add PySem.F.slot_tuple_add PySem.F.entry_tuple_add (PySem.F.args_tuple_add_2 _ _)
   (tuple_addW1 t b vs.toArray ws.toArray n n2 dd jj sl gJ (by simpa using hv) (by simp[hw])) ⟨ho,gP,h1 hw⟩
 ·refine concat_meets ⟨_,ho,rfl⟩ ⟨_,gP,rfl⟩ noFill_tuple_add seq_tuple_add PySem.F.slot_tuple_add PySem.F.entry_tuple_add (PySem.F.args_tuple_add_2 _ _)
   (tuple_addW2 t b vs.toArray ws.toArray n n2 dd jj sl gJ (by simpa using hv) (by simpa using hw) (by rw[List.size_toArray,List.size_toArray];exact bY)) ⟨ho,gP,?_⟩
  rw[e]
  exact h2 hw
def ax (n d:Nat):Option Int→Nat
 |none=>d
 |some v=>if v<0 then (v+(n:Int)).toNat else min v.toNat n
theorem l6 (n d:Nat):ax n d none=d:=rfl
theorem l8 (n d k:Nat):ax n d (some (k:Int))=min k n:=by
 show(if (k:Int)<0 then ((k:Int)+(n:Int)).toNat else min (k:Int).toNat n)=min k n
 rw[if_neg (by omega),Int.toNat_natCast]
theorem Hl (n d:Nat) (hd:d≤n) (o:Option Int):ax n d o≤n:=by
 cases o with
 |none=>exact hd
 |some v=>
  show(if v<0 then (v+(n:Int)).toNat else min v.toNat n)≤n
  by_cases hv:v<0
  ·rw[if_pos hv];omega
  ·rw[if_neg hv];exact Nat.min_le_right _ _
theorem zm (v:Int) (n d:Nat):(if v<0 then max (v+(n:Int)) 0 else min v (n:Int))=((ax n d (some v):Nat):Int):=by
 show(if v<0 then max (v+(n:Int)) 0 else min v (n:Int))=(((if v<0 then (v+(n:Int)).toNat else min v.toNat n):Nat):Int)
 by_cases hv:v<0
 ·simp only[if_pos hv];omega
 ·simp only[if_neg hv];omega
theorem KY (lo hi:Option Int) (n:Nat):Builtin.Slice.sliceAdjust lo hi 1 (n:Int)=(((ax n 0 lo:Nat):Int),((ax n n hi:Nat):Int)):=by
 have h1:¬((1:Int)<0):=by omega
 unfold Builtin.Slice.sliceAdjust
 simp only[h1,if_false]
 refine Prod.ext ?_ ?_
 ·cases lo with
  |none=>rfl
  |some v=>exact zm v n 0
 ·cases hi with
  |none=>rfl
  |some v=>exact zm v n n
theorem La (i j:Nat):Builtin.Slice.slicePlaces (i:Int) (j:Int) 1=j - i:=by
 unfold Builtin.Slice.slicePlaces
 have h1:(1:Int)>0:=by omega
 simp only[h1,if_true,Int.ediv_one]
 split<;>omega
theorem JP {v:Value}{o:Option Int}{Q:Option Int→Shared→Prop}(p:IsPart v o) (h:Q o s):wpAny (model prog w) A (Builtin.Slice.slicePartIndex v) Q E s:=by
 cases p with
 |none=>exact slicePart_none h
 |int i t=>exact slicePart_int h
theorem vR {sl:Addr}{vl vu:Value}{lo hi:Option Int}{n:Nat}{Q:Int×Int×Nat→Shared→Prop}(hs:s.heap.IsSliceOf sl vl vu .none) (pl:IsPart vl lo) (pu:IsPart vu hi)
  (h:Q (((ax n 0 lo:Nat):Int),1,ax n n hi - ax n 0 lo) s):wpAny (model prog w) A (Builtin.Slice.sliceApplied (.ref sl) (pure (n:Int))) Q E s:=by
 obtain⟨os,jM,pN,mU⟩:=id hs
 unfold Builtin.Slice.sliceApplied Builtin.Slice.sliceFields
 refine wpAny_bind (wpAny_bind (wpAny_field jM mU (x:=vl) rfl (wpAny_bind (wpAny_field jM mU (x:=vu) rfl (wpAny_bind (wpAny_field jM mU (x:=.none) rfl (wpAny_pure ?_)))))))
 refine wpAny_bind (slicePart_none ?_)
 show wpAny _ _ (if ((1:Int)==0)=true then _ else _) _ _ s
 rw[if_neg (by decide)]
 refine wpAny_bind (JP pl (wpAny_bind (JP pu (wpAny_bind (wpAny_pure ?_)))))
 show wpAny _ _ (match Builtin.Slice.sliceAdjust lo hi 1 (n:Int) with |(lo,hi)=>pure (lo,(1:Int),Builtin.Slice.slicePlaces lo hi 1)) _ _ s
 rw[KY lo hi n]
 show wpAny _ _ (pure (((ax n 0 lo:Nat):Int),(1:Int),Builtin.Slice.slicePlaces ((ax n 0 lo:Nat):Int) ((ax n n hi:Nat):Int) 1)) _ _ s
 rw[La]
 exact wpAny_pure h
theorem KS (xs:Array Value) (i k:Nat):((List.range k).filterMap fun(m:Nat)=>xs[((i:Int)+(m:Int)*1).toNat]?).toArray=((xs.toList.drop i).take k).toArray:=by
 have e:(fun(m:Nat)=>xs[((i:Int)+(m:Int)*1).toNat]?)=fun m=>xs[i+m]? :=by
  funext m
  have:((i:Int)+(m:Int)*1).toNat=i+m:=by omega
  rw[this]
 rw[e]
 have:=pick_run xs i k
 rw[List.filterMap_map]at this
 have e2:((fun x=>xs[x]?)∘fun x=>i+x)=fun m=>xs[i+m]? :=rfl
 rw[e2]at this
 rw[this]
theorem ER {t sl:Addr}{items:Array Value}{vl vu:Value}{lo hi:Option Int}{Q:Value→Shared→Prop}(ht:IsTup s.heap t items) (hs:s.heap.IsSliceOf sl vl vu .none) (pl:IsPart vl lo) (pu:IsPart vu hi)
  (hw:¬(ax items.size 0 lo=0∧ax items.size items.size hi=items.size))
  (h:Q (.ref s.heap.objs.size) {s with heap:=s.heap.push {cls:=.type "tuple",data:=.seq ((items.toList.drop (ax items.size 0 lo)).take (ax items.size items.size hi - ax items.size 0 lo)).toArray} })
  (bY:items.size≤sizeLine):wpAny (model prog w) A (getItem (.ref t) (.ref sl)) Q E s:=by
 have pf:sizeOk (.seq ((items.toList.drop (ax items.size 0 lo)).take (ax items.size items.size hi - ax items.size 0 lo)).toArray):=by
  show((items.toList.drop (ax items.size 0 lo)).take (ax items.size items.size hi - ax items.size 0 lo)).toArray.size≤sizeLine
  rw[List.size_toArray,List.length_take,List.length_drop,Array.length_toList]
  omega
 have hj:ax items.size items.size hi≤items.size:=Hl _ _ (Nat.le_refl _) hi
 obtain⟨os,jM,pN,mU⟩:=id hs
 have dP:s.TypeIs (.ref sl) "slice" :=⟨os,jM,pN⟩
 unfold getItem
 try with_reducible refine wpAny_holding ?_
 first |refine wpAny_bind (wpAny_pure ?_) |skip
 refine wpAny_bind (wpAny_sequenceKey ht.typeIs (by decide) ?_)
 refine wpAny_bind (wpAny_callSpecial?_slot (name:=Str.ofString "__getitem__") ht.typeIs PyProof.Rows.slot_tuple_getitem
  (wpAny_call_entry PyProof.Rows.slot_tuple_getitem ht.typeIs entry_tuple_getitem ?_ (args_tuple_getitem _ _)))
 show wpAny _ _ (Builtin.Tuple.tupleItemsOf (.ref t) >>=_) _ _ s
 refine wpAny_bind (tupleItemsOf_ ht ?_)
 refine wpAny_bind (wpAny_typeOf dP ?_)
 rw[if_pos (by decide)]
 refine wpAny_bind (vR hs pl pu ?_)
 have DW:¬((((ax items.size 0 lo:Nat):Int)==0&&(1:Int)==1&&(ax items.size items.size hi - ax items.size 0 lo)==items.size)=true):=by
  intro q
  rw[Bool.and_eq_true,Bool.and_eq_true]at q
  have q1:((ax items.size 0 lo:Nat):Int)=0:=eq_of_beq q.1.1
  have q2:ax items.size items.size hi - ax items.size 0 lo=items.size:=eq_of_beq q.2
  exact hw ⟨by omega,by omega⟩
 show wpAny _ _ (if (((ax items.size 0 lo:Nat):Int)==0&&(1:Int)==1&&(ax items.size items.size hi - ax items.size 0 lo)==items.size)=true then _ else _) _ _ s
 rw[if_neg DW,KS]
 first
  |exact wpAny_bind (m:=Builtin.Tuple.tupleExact _) (wpAny_newObj_type (wpAny_pure ⟨_,rfl,wpAny_pure h⟩) pf)
  |exact wpAny_bind (m:=Builtin.Tuple.tupleExact _) (wpAny_newObj_type (wpAny_bind (wpAny_pure (wpAny_pure ⟨_,rfl,wpAny_pure h⟩))) pf)
  |exact wpAny_bind (wpAny_bind (m:=Builtin.Tuple.tupleExact _) (wpAny_newObj_type (wpAny_pure (wpAny_pure ⟨_,rfl,wpAny_pure h⟩)) pf))
  |exact wpAny_bind (wpAny_bind (m:=Builtin.Tuple.tupleExact _) (wpAny_newObj_type (wpAny_pure ⟨_,rfl,wpAny_pure h⟩) pf))
end
end HT
namespace L2
open PySem PySem.Spec PyProof.Rows
abbrev TO:=St→Hp→(Option Int→Hp→Prop)→Prop
def PO (X:Cx) (e:Option Expr) (t:TO):Prop:=
 ∀(pins:List (Addr×Obj)) (s:Shared) (σ:St) (H:Hp) (Q:Option Int→Hp→Prop),Inv X pins σ H s→t σ H Q→
  wpAny (model X.prog X.w) X.A (evalPart e X.env) (fun u s'=> ∃o H',Inv X pins σ H' s'∧IsPart u o∧Q o H') X.xe s
def AK:TO:=fun _ H Q=>Q none H
def AE (t:TE):TO:=fun σ H Q=>t σ H fun x H1=> ∃i,x=.int i∧Q (some i) H1
theorem Y4 {ns:List Int} :∀{us:List Value},Vals (ns.map V.int) us→IntsAre us ns:=by
 induction ns with
 |nil=>intro us r;rw[List.map_nil]at r;cases r;exact .nil
 |cons n ns ih=>
  intro us r
  rw[List.map_cons]at r
  cases r with
  |cons r1 r2=>
   obtain⟨t,e⟩:=r1
   subst e
   exact .cons n t (ih r2)
section
variable {X:Cx}{e:Expr}{te:TE}{lo hi:Option Expr}{tl th:TO}{pos p2:Pos}
theorem YM:PO X none AK:=by
 intro pins s σ H Q I h
 rw[evalPart_none]
 exact wpAny_pure ⟨none,H,I,.none,h⟩
theorem YL (h:PE X e te):PO X (some e) (AE te):=by
 intro pins s σ H Q I hw
 rw[evalPart_some]
 refine au (h pins s σ H _ I hw) fun u s1 ⟨x,H1,I1,r1,q1⟩=> ?_
 obtain⟨i,rfl,q⟩:=q1
 obtain⟨t,rfl⟩:=r1
 exact⟨some i,H1,I1,.int i t,q⟩
def qd (X:Cx) (r:V→Option Int→Option Int→Hp→VK→Prop):Prop:=
 ∀(pins:List (Addr×Obj)) (s:Shared) (σ:St) (H:Hp) (x:V) (v vl vu:Value) (lo hi:Option Int) (sl:Addr) (Q:VK),Inv X pins σ H s→RelV x v→s.heap.IsSliceOf sl vl vu .none→IsPart vl lo→IsPart vu hi→r x lo hi H Q→
  ∃T id,typeLookup (.type T) "__getitem__" =pure (some (.builtin id))∧s.TypeIs v T∧wpAny (model X.prog X.w) X.A (getItem v (.ref sl)) (EP X pins σ Q) X.xe s
def AB (r:V→Option Int→Option Int→Hp→VK→Prop) (te:TE) (tl th:TO):TE:=fun σ H Q=>te σ H fun x H1=>tl σ H1 fun l H2=>th σ H2 fun u H3=>r x l u H3 Q
theorem Yn {r:V→Option Int→Option Int→Hp→VK→Prop}(hr:qd X r) (he:PE X e te) (hl:PO X lo tl) (hu:PO X hi th):PE X (.Subscript e (.Slice lo hi none p2) pos) (AB r te tl th):=by
 intro pins s σ H Q I h
 refine Subscript_ (au (he pins s σ H _ I h) fun v s1 ⟨x,H1,I1,r1,q1⟩=> ?_)
 refine wpAny_Slice (au (hl pins s1 σ H1 _ I1 q1) fun vl s2 ⟨l,H2,I2,pl,q2⟩=>au (hu pins s2 σ H2 _ I2 q2) fun vu s3 ⟨u,H3,I3,pu,q3⟩=> ?_)
 rw[evalPart_none]
 refine wpAny_pure ?_
 have I4:Inv X pins σ H3 {s3 with heap:=s3.heap.push {cls:=.type "slice",data:=.fields #[vl,vu,.none]} } :=I3.kept (t':=s3.toks) fun b ob q=>Heap.get?_push_of_some _ q
 obtain⟨T,id,hT,ht,hg⟩:=hr pins {s3 with heap:=s3.heap.push {cls:=.type "slice",data:=.fields #[vl,vu,.none]} } σ H3 x v vl vu l u s3.heap.objs.size Q I4 r1 (Heap.IsSliceOf.new ..) pl pu q3
 show wpAny (model X.prog X.w) X.A (subscriptTail e (.Slice lo hi none p2) v (.ref s3.heap.objs.size)) (EP X pins σ Q) X.xe {s3 with heap:=s3.heap.push {cls:=.type "slice",data:=.fields #[vl,vu,.none]} }
 exact tail_any (ops:=[.ref s3.heap.objs.size,v]) ht hT hg (by with_unfolding_all rfl)
def ck (xs:List V) (lo hi:Option Int):List V:=(xs.drop (HT.ax xs.length 0 lo)).take (HT.ax xs.length xs.length hi - HT.ax xs.length 0 lo)
theorem Yi (xs:List V) (lo hi:Option Int):(ck xs lo hi).length≤xs.length:=by
 unfold ck
 rw[List.length_take,List.length_drop]
 omega
def BP (K:PySem.W.Frag):V→Option Int→Option Int→Hp→VK→Prop:=fun x lo hi H Q=> ∃a xs,x=.ref a∧af K H a xs∧
 ¬(HT.ax xs.length 0 lo=0∧HT.ax xs.length xs.length hi=xs.length)∧∀p,H p=none→Q (.ref p) (upd H p (.tup (ck xs lo hi)))
theorem Hm:qd X (BP X.K):=by
 intro pins s σ H x v vl vu lo hi sl Q I rx hs pl pu h
 obtain⟨a,xs,rfl,hx,hw,q⟩:=h
 cases rx
 obtain⟨its,r,ht,hz⟩:=I.tuple hx
 have hlen:its.toArray.size=xs.length:=by rw[List.size_toArray];exact r.length.symm
 refine⟨"tuple",_,PyProof.Rows.slot_tuple_getitem.lookup,ht.typeIs,?_⟩
 refine HT.ER ht hs pl pu (by rw[hlen];exact hw) ?_ (by rw[hlen];exact hz)
 rw[hlen]
 refine⟨.ref s.heap.objs.size,_,I.laid (t':=s.toks) (o:=.tup (ck xs lo hi)) (fun b ob q=>Heap.get?_push_of_some _ q) (Nat.le_refl _) ?_,rfl,q _ (I.aj.fresh (Nat.le_refl _))⟩
 exact⟨Nat.le_trans (Yi xs lo hi) hz,_,(r.drop (HT.ax xs.length 0 lo)).take (HT.ax xs.length xs.length hi - HT.ax xs.length 0 lo),IsTup.new _ _,_,Heap.get?_push_size _ rfl,rfl⟩
def sD (K:PySem.W.Frag):R2:=fun x y H Q=> ∃a b xs ys,x=.ref a∧y=.ref b∧af K H a xs∧af K H b ys∧xs≠[]∧xs.length+ys.length≤sizeLine∧
 (ys=[]→Q (.ref a) H)∧(ys≠[]→∀p,H p=none→Q (.ref p) (upd H p (.tup (xs++ys))))
theorem Vals.sP {xs:List V}{us:List Value}(r:Vals xs us):us=[]↔xs=[]:=by
 cases r with
 |nil=>simp
 |cons _ _=>simp
theorem zB:aY X (binaryOp .Add) (sD X.K):=by
 intro pins s σ H x y v u Q I rx ry h
 obtain⟨a,b,xs,ys,rfl,rfl,ha,hb,hx,hz,q1,q2⟩:=h
 cases rx
 cases ry
 obtain⟨its,r1,p1,_⟩:=I.tuple ha
 obtain⟨ir,r2,p2,_⟩:=I.tuple hb
 refine HT.FR p1 p2 (fun z=>hx (r1.sP.mp z)) (fun z=> ⟨.ref a,H,I,rfl,q1 (r2.sP.mp z)⟩) (fun z=> ?_) (by rw[←r1.length,←r2.length];exact hz)
 refine⟨.ref s.heap.objs.size,_,I.laid (t':=s.toks) (o:=.tup (xs++ys)) (fun b ob q=>Heap.get?_push_of_some _ q) (Nat.le_refl _) ?_,rfl,q2 (fun w=>z (r2.sP.mpr w)) _ (I.aj.fresh (Nat.le_refl _))⟩
 exact⟨by rw[List.length_append];exact hz,_,r1.append r2,IsTup.new _ _,_,Heap.get?_push_size _ rfl,rfl⟩
end
def iq (n:Nat) (i:Int):Option Nat:=if 0≤i then (if i<n then some i.toNat else none) else if -(n:Int)≤i then some (i+n).toNat else none
def dQ {α:Type} (xs:List α) (i:Int):Option α:=(iq xs.length i).bind fun j=>xs[j]?
theorem zv {n:Nat}{i:Int}{j:Nat}(h:iq n i=some j):seqIndex? i n=some j∧j<n∧ -(n:Int)≤i∧i<n:=by
 unfold iq at h
 by_cases h0:0≤i
 ·rw[if_pos h0]at h
  by_cases h1:i<n
  ·rw[if_pos h1]at h
   have e:i.toNat=j:=Option.some.inj h
   exact⟨by rw[seqIndex_of h0 h1,e],by omega,by omega,h1⟩
  ·rw[if_neg h1]at h;cases h
 ·rw[if_neg h0]at h
  by_cases h1: -(n:Int)≤i
  ·rw[if_pos h1]at h
   have e:(i+n).toNat=j:=Option.some.inj h
   exact⟨by rw[seqIndex_neg (by omega) h1,e],by omega,h1,by omega⟩
  ·rw[if_neg h1]at h;cases h
theorem zN {α:Type}{xs:List α}{i:Int}{v:α}(h:dQ xs i=some v):∃j,seqIndex? i xs.length=some j∧xs[j]? =some v∧j<xs.length∧ -(xs.length:Int)≤i∧i<xs.length:=by
 unfold dQ at h
 cases e:iq xs.length i with
 |none=>rw[e]at h;cases h
 |some j=>
  rw[e]at h
  obtain⟨h1,h2,h3,h4⟩:=zv e
  exact⟨j,h1,h,h2,h3,h4⟩
theorem YS {α:Type}{xs:List α}{j:Nat}{v:α}(h:xs[j]? =some v):dQ xs (j:Int)=some v:=by
 have hj:j<xs.length:=(List.getElem?_eq_some_iff.mp h).1
 have e:iq xs.length (j:Int)=some j:=by
  unfold iq
  rw[if_pos (by omega),if_pos (by omega)];simp
 unfold dQ;rw[e];exact h
def Ls (b:Expr):Prop:=∀o i,subscripted b false o i=operate [o,i] (getItem o i)
def km (X:Cx) (r:R2):Prop:=
 ∀(value slice:Expr) (pins:List (Addr×Obj)) (s:Shared) (σ:St) (H:Hp) (x y:V) (v u:Value) (Q:VK),Inv X pins σ H s→RelV x v→RelV y u→r x y H Q→
  subscripted slice false v u=operate [v,u] (getItem v u)→wpAny (model X.prog X.w) X.A (subscriptTail value slice v u) (EP X pins σ Q) X.xe s
def Lv (X:Cx) (id:String) (r:V→List V→Hp→VK→Prop):Prop:=
 ∀(pins:List (Addr×Obj)) (s:Shared) (σ:St) (H:Hp) (x:V) (xs:List V) (v:Value) (us:List Value) (Q:VK),Inv X pins σ H s→RelV x v→Vals xs us→r x xs H Q→
  wpAny (model X.prog X.w) X.A (call (.builtin id) (v::us)) (EP X pins σ Q) X.xe s
section
variable {X:Cx}{a b:Expr}{ta tb:TE}{pos:Pos}
theorem ZG {r:R2}(hr:km X r) (ha:PE X a ta) (hb:PE X b tb) (hs:Ls b):PE X (.Subscript a b pos) (nU r ta tb):=by
 intro pins s σ H Q I h
 exact Subscript_ (uQ ha hb I h fun v u s2 x y H2 I2 rx ry q=>hr a b pins s2 σ H2 x y v u Q I2 rx ry q (hs _ _))
def BX (K:PySem.W.Frag):R2:=fun x y H Q=> ∃p xs i v,x=.ref p∧y=.int i∧ag K H p xs∧dQ xs i=some v∧Q v H
def l9 (K:PySem.W.Frag):R2:=fun x y H Q=> ∃p xs i v,x=.ref p∧y=.int i∧af K H p xs∧dQ xs i=some v∧Q v H
theorem Z4:km X (BX X.K):=by
 intro value slice pins s σ H x y v u Q I rx ry h hs
 obtain⟨p,xs,i,z,rfl,rfl,hq,he,q⟩:=h
 cases rx
 obtain⟨t,rfl⟩:=ry
 obtain⟨its,r,pl,hz⟩:=I.list hq
 obtain⟨j,h1,h2,h3,h4,h5⟩:=zN he
 obtain⟨w,ew,jx⟩:=r.get h2
 have hl:=r.length
 have hn:=oW
 have fin:EP X pins σ Q w s:=⟨z,H,I,jx,q⟩
 by_cases h0:0≤i
 ·have hj:i.toNat=j:=by
   rw[seqIndex_of h0 h5]at h1
   exact Option.some.inj h1
  exact item_listR pl.isList h0 (by omega) (by rw[hj];simpa using ew) fin hs
 ·have hj:(i+(its.toArray.size:Int)).toNat=j:=by
   rw[seqIndex_neg (by omega) h4]at h1
   rw[List.size_toArray,←hl]
   exact Option.some.inj h1
  exact subscriptTail_builtinR (x:=w) pl.isList.typeIs slot_list_getitem.lookup
   (wpAny_getItem_list_neg (Q:=fun r s'=>r=w∧EP X pins σ Q r s') pl.isList (by omega) (by rw[List.size_toArray]<;>omega) (by omega) (by rw[hj];simpa using ew) ⟨rfl,fin⟩) hs
theorem ZH:km X (l9 X.K):=by
 intro value slice pins s σ H x y v u Q I rx ry h hs
 obtain⟨p,xs,i,z,rfl,rfl,hq,he,q⟩:=h
 cases rx
 obtain⟨t,rfl⟩:=ry
 obtain⟨its,r,pl,hz⟩:=I.tuple hq
 obtain⟨j,h1,h2,h3,h4,h5⟩:=zN he
 obtain⟨w,ew,jx⟩:=r.get h2
 have hl:=r.length
 have hn:=oW
 have fin:EP X pins σ Q w s:=⟨z,H,I,jx,q⟩
 exact subscriptTail_builtinR (x:=w) pl.typeIs slot_tuple_getitem.lookup
  (getItem_tuple (j:=j) (Q:=fun r s'=>r=w∧EP X pins σ Q r s') pl (by omega) (by omega) (by rw[List.size_toArray,←hl];exact h1) (by simpa using ew) ⟨rfl,fin⟩) hs
theorem K7 (its:List Value) (n j:Nat) (u:Value):Obj.mapSeq (·.setIfInBounds j u) {cls:=.type "list",data:=.seq its.toArray n} = {cls:=.type "list",data:=.seq (its.set j u).toArray n} :=by
 simp[Obj.mapSeq]
theorem Inv.lst {pins:List (Addr×Obj)}{σ:St}{H:Hp}{s:Shared}{p:Addr}{xs:List V}(I:Inv X pins σ H s) (h:H p=some (.lst xs)):
  ∃(its:List Value) (n:Nat),Vals xs its∧s.heap.get? p=some {cls:=.type "list",data:=.seq its.toArray n}∧xs.length≤sizeLine:=by
 obtain⟨z,its,n,r,e⟩:=I.aj p _ h
 exact⟨its,n,r,e,z⟩
theorem Inv.CV {pins:List (Addr×Obj)}{σ:St}{H:Hp}{s:Shared}{p:Addr}{xs ys:List V}{its its':List Value}{n n':Nat}{f:Obj→Obj}(I:Inv X pins σ H s) (h:H p=some (.lst xs))
  (ho:s.heap.get? p=some {cls:=.type "list",data:=.seq its.toArray n}) (hf:f {cls:=.type "list",data:=.seq its.toArray n} = {cls:=.type "list",data:=.seq its'.toArray n'}) (r:Vals ys its') (hz:ys.length≤sizeLine) (t:Nat):
  Inv X pins σ (upd H p (.lst ys)) {s with heap:=s.heap.update p f,toks:=t} :=by
 have e:(s.heap.update p f).get? p=some {cls:=.type "list",data:=.seq its'.toArray n'} :=by
  rw[Heap.get?_update_self f ho (by rw[hf]<;>rfl),hf]
 refine I.write (x:=p) (e:=p) (by rw[h];trivial) (.inl rfl) (fun b u hb q=> (Heap.get?_update_other _ _ (Ne.symm hb)).trans q) ⟨_,e⟩ ?_
 exact⟨hz,its',n',r,e⟩
def BS:V→V→V→Hp→(Hp→Prop)→Prop:=fun o i v H Q=> ∃p xs k j,o=.ref p∧i=.int k∧H p=some (.lst xs)∧iq xs.length k=some j∧Q (upd H p (.lst (xs.set j v)))
theorem JQ:zP X BS:=by
 intro pins s σ H o i v ov iv u Q I ro ri rv h
 obtain⟨p,xs,k,j,rfl,rfl,hp,hj,q⟩:=h
 cases ro
 obtain⟨t,rfl⟩:=ri
 obtain⟨its,n,r,ho,hz⟩:=I.lst hp
 obtain⟨h1,h2,h3,h4⟩:=zv hj
 have hl:=r.length
 have hn:=oW
 have I':Inv X pins σ (upd H p (.lst (xs.set j v))) {s with heap:=s.heap.update p (Obj.mapSeq (·.setIfInBounds j u))} :=
  I.CV hp ho (K7 its n j u) (r.set rv j) (by rw[List.length_set];exact hz) s.toks
 by_cases h0:0≤k
 ·have hk:k.toNat=j:=by
   rw[seqIndex_of h0 h4]at h1
   exact Option.some.inj h1
  exact PySem.W.ki_setAt ho h0 (by omega) (by rw[List.size_toArray,←hl];exact h4) (by rw[hk];exact⟨_,I',q⟩)
 ·have hk:(k+(its.toArray.size:Int)).toNat=j:=by
   rw[seqIndex_neg (by omega) h3]at h1
   rw[List.size_toArray,←hl]
   exact Option.some.inj h1
  exact PySem.W.ki_setBack ho (by omega) (by rw[List.size_toArray,←hl];exact h3) (by omega) (by rw[hk];exact⟨_,I',q⟩)
theorem W1 (lo hi:Option Int) (n:Nat):(sliceBounds lo hi none n).1=((HT.ax n 0 lo:Nat):Int)∧(sliceBounds lo hi none n).2.1=((HT.ax n n hi:Nat):Int)∧(sliceBounds lo hi none n).2.2=1:=by
 refine⟨?_,?_,rfl⟩
 ·cases lo with
  |none=>simp[sliceBounds,HT.ax]
  |some i=>
   simp only[sliceBounds,HT.ax,Option.getD_none,show(1:Int)>0 by decide,if_true]
   by_cases h:i<0
   ·simp only[h,if_true]<;>omega
   ·simp only[h,if_false]<;>omega
 ·cases hi with
  |none=>simp[sliceBounds,HT.ax]
  |some i=>
   simp only[sliceBounds,HT.ax,Option.getD_none,show(1:Int)>0 by decide,if_true]
   by_cases h:i<0
   ·simp only[h,if_true]<;>omega
   ·simp only[h,if_false]<;>omega
theorem Wq (its:List Value) (lo hi:Option Int):slicePick its.toArray lo hi none=((its.drop (HT.ax its.length 0 lo)).take (HT.ax its.length its.length hi - HT.ax its.length 0 lo)).toArray:=by
 obtain⟨h1,h2,h3⟩:=W1 lo hi its.toArray.size
 unfold slicePick
 rw[h1,h2,h3]
 simp only[sliceRange_one,pick_run,List.size_toArray]<;>rfl
def BQ (K:PySem.W.Frag):V→Option Int→Option Int→Hp→VK→Prop:=fun x lo hi H Q=> ∃a xs,x=.ref a∧ag K H a xs∧∀p,H p=none→Q (.ref p) (upd H p (.lst (ck xs lo hi)))
theorem zl:qd X (BQ X.K):=by
 intro pins s σ H x v vl vu lo hi sl Q I rx hs pl pu h
 obtain⟨a,xs,rfl,hx,q⟩:=h
 cases rx
 obtain⟨its,r,ht,hz⟩:=I.list hx
 have hlen:=r.length
 refine⟨"list",_,slot_list_getitem.lookup,ht.isList.typeIs,?_⟩
 refine wpAny_getItem_list_slice ht.isList hs pl pu .none (by simp) ?_ (by rw[List.size_toArray]<;>omega)
 rw[Wq,←hlen]
 refine⟨.ref s.heap.objs.size,_,I.laid (t':=s.toks) (o:=.lst (ck xs lo hi)) (fun b ob q=>Heap.get?_push_of_some _ q) (Nat.le_refl _) ?_,rfl,q _ (I.aj.fresh (Nat.le_refl _))⟩
 exact⟨Nat.le_trans (Yi xs lo hi) hz,_,0,(r.drop (HT.ax xs.length 0 lo)).take (HT.ax xs.length xs.length hi - HT.ax xs.length 0 lo),Heap.get?_push_size _ rfl⟩
def g9:V→Bool
 | .ab=>true
 | .bl _=>true
 | .int _=>true
 | .str _=>true
 |_=>false
def eY:V→V→Bool
 | .ab,.ab=>true
 | .bl a,.bl b=>a==b
 | .bl a,.int b=> (if a then 1 else 0)==b
 | .int a,.bl b=>a==(if b then 1 else 0)
 | .int a,.int b=>a==b
 | .str a,.str b=>a==b
 |_,_=>false
theorem Gy {A:Around}{s:Shared}{y x:V}{u v:Value}(ry:RelV y u) (rx:RelV x v) (fy:g9 y=true) (fx:g9 x=true):SeqAt.EqAt A s u v (eY y x):=by
 cases y with
 |ab=>
  cases ry
  cases x with
  |ab=>cases rx;exact SeqAt.EqAt.same _
  |bl b=>cases rx;exact SeqAt.EqAt.none_bool b
  |int b=>obtain⟨t,rfl⟩:=rx;exact SeqAt.EqAt.none_int b t
  |str b=>obtain⟨t,rfl⟩:=rx;exact SeqAt.EqAt.none_str b t
  |_=>exact absurd (show false=true from fx) Bool.false_ne_true
 |bl a=>
  cases ry
  cases x with
  |ab=>cases rx;exact SeqAt.EqAt.bool_none a
  |bl b=>cases rx;exact SeqAt.EqAt.bool_bool a b
  |int b=>obtain⟨t,rfl⟩:=rx;exact SeqAt.EqAt.bool_int a b t
  |str b=>obtain⟨t,rfl⟩:=rx;exact SeqAt.EqAt.bool_str a b t
  |_=>exact absurd (show false=true from fx) Bool.false_ne_true
 |int a=>
  obtain⟨t',rfl⟩:=ry
  cases x with
  |ab=>cases rx;exact SeqAt.EqAt.int_none a t'
  |bl b=>cases rx;exact SeqAt.EqAt.int_bool a t' b
  |int b=>obtain⟨t,rfl⟩:=rx;exact SeqAt.EqAt.int_int a t' b t
  |str b=>obtain⟨t,rfl⟩:=rx;exact SeqAt.EqAt.int_str a t' b t
  |_=>exact absurd (show false=true from fx) Bool.false_ne_true
 |str a=>
  obtain⟨t',rfl⟩:=ry
  cases x with
  |ab=>cases rx;exact SeqAt.EqAt.str_none a t'
  |bl b=>cases rx;exact SeqAt.EqAt.str_bool a t' b
  |int b=>obtain⟨t,rfl⟩:=rx;exact SeqAt.EqAt.str_int a t' b t
  |str b=>obtain⟨t,rfl⟩:=rx;exact SeqAt.EqAt.str_str a t' b t
  |_=>exact absurd (show false=true from fx) Bool.false_ne_true
 |_=>exact absurd (show false=true from fy) Bool.false_ne_true
def dZ (x:V) (u:Value):Bool:=match u with
 | .none=>eY .ab x
 | .bool b=>eY (.bl b) x
 | .int i _=>eY (.int i) x
 | .str z _=>eY (.str z) x
 |_=>false
theorem zb {x y:V}{u:Value}(r:RelV y u) (f:g9 y=true):dZ x u=eY y x:=by
 cases y with
 |ab=>cases r;rfl
 |bl b=>cases r;rfl
 |int i=>obtain⟨t,rfl⟩:=r;rfl
 |str z=>obtain⟨t,rfl⟩:=r;rfl
 |_=>exact absurd (show false=true from f) Bool.false_ne_true
theorem Jk {x:V} :∀{xs:List V}{us:List Value},Vals xs us→xs.all g9=true→us.any (dZ x)=xs.any fun y=>eY y x
 |_,_,.nil,_=>rfl
 |y::xs,u::us,.cons r t,f=>by
  rw[List.all_cons,Bool.and_eq_true]at f
  rw[List.any_cons,List.any_cons,zb r f.1,Jk t f.2]
theorem YD {A:Around}{s:Shared}{x:V}{v:Value}(rx:RelV x v) (fx:g9 x=true):∀{xs:List V}{us:List Value},Vals xs us→xs.all g9=true→∀u∈us,SeqAt.EqAt A s u v (dZ x u)
 |_,_,.nil,_=>fun u hu=>by cases hu
 |y::xs,u::us,.cons r t,f=>fun u' hu=>by
  rw[List.all_cons,Bool.and_eq_true]at f
  rcases List.mem_cons.mp hu with rfl |hu
  ·rw[zb r f.1];exact Gy r rx f.1 fx
  ·exact YD rx fx t f.2 u' hu
def cH (x:V) (xs:List V):Bool:=xs.any fun y=>eY y x
def sy (K:PySem.W.Frag) (neg:Bool):R2:=fun x y H Q=> ∃p xs,y=.ref p∧(ag K H p xs∨af K H p xs)∧g9 x=true∧xs.all g9=true∧Q (.bl (if neg then !cH x xs else cH x xs)) H
theorem Jq:aY X (compareOp .In) (sy X.K false):=by
 intro pins s σ H x y v u Q I rx ry h
 obtain⟨p,xs,rfl,hq,fx,fs,q⟩:=h
 cases ry
 rcases hq with hq |hq
 ·obtain⟨its,r,pl,hz⟩:=I.list hq
  refine SeqAt.in_listAt (dZ x) pl.isList (fun w hw=>YD rx fx r fs w (by simpa using hw)) ⟨.bl _,H,I,rfl,?_⟩
  rw[show its.toArray.any (dZ x)=its.any (dZ x) by simp,Jk r fs]
  exact q
 ·obtain⟨its,r,pl,hz⟩:=I.tuple hq
  refine SeqAt.in_tupleAt (dZ x) pl (fun w hw=>YD rx fx r fs w (by simpa using hw)) ⟨.bl _,H,I,rfl,?_⟩
  rw[show its.toArray.any (dZ x)=its.any (dZ x) by simp,Jk r fs]
  exact q
theorem W9:aY X (compareOp .NotIn) (sy X.K true):=by
 intro pins s σ H x y v u Q I rx ry h
 obtain⟨p,xs,rfl,hq,fx,fs,q⟩:=h
 cases ry
 rcases hq with hq |hq
 ·obtain⟨its,r,pl,hz⟩:=I.list hq
  refine SeqAt.notIn_listAt (dZ x) pl.isList (fun w hw=>YD rx fx r fs w (by simpa using hw)) ⟨.bl _,H,I,rfl,?_⟩
  rw[show its.toArray.any (dZ x)=its.any (dZ x) by simp,Jk r fs]
  exact q
 ·obtain⟨its,r,pl,hz⟩:=I.tuple hq
  refine SeqAt.notIn_tupleAt (dZ x) pl (fun w hw=>YD rx fx r fs w (by simpa using hw)) ⟨.bl _,H,I,rfl,?_⟩
  rw[show its.toArray.any (dZ x)=its.any (dZ x) by simp,Jk r fs]
  exact q
theorem ZI:fg X (.builtin "len") (fun xs H Q=> ∃p ys,xs=[.ref p]∧(ag X.K H p ys∨af X.K H p ys)∧Q (.int ys.length) H):=by
 intro pins s σ H xs us Q I r h
 obtain⟨p,ys,rfl,hq,q⟩:=h
 obtain⟨u,rfl,rx⟩:=vals1 r
 cases rx
 have hn:=oW
 rcases hq with hq |hq
 ·obtain⟨its,r',pl,hz⟩:=I.list hq
  have hlen:=r'.length
  exact Calls.call_len_list pl.isList (by simp only[List.size_toArray]<;>omega) ⟨.int ys.length,H,I.tok _,⟨s.toks+1,by rw[List.size_toArray,hlen]⟩,q⟩
 ·obtain⟨its,r',pl,hz⟩:=I.tuple hq
  have hlen:=r'.length
  exact len_tuple pl (by simp only[List.size_toArray]<;>omega) ⟨.int ys.length,H,I.tok _,⟨s.toks+1,by rw[List.size_toArray,hlen]⟩,q⟩
theorem Yl:fg X (.type "tuple") (fun xs H Q=> ∃p ys,xs=[.ref p]∧((ag X.K H p ys∧∀l,H l=none→Q (.ref l) (upd H l (.tup ys)))∨(af X.K H p ys∧Q (.ref p) H))):=by
 intro pins s σ H xs us Q I r h
 obtain⟨p,ys,rfl,h⟩:=h
 obtain⟨u,rfl,rx⟩:=vals1 r
 cases rx
 rcases h with ⟨hq,q⟩ |⟨hq,q⟩
 ·obtain⟨its,r',pl,hz⟩:=I.list hq
  have hlen:=r'.length
  refine call_tuple_list pl.isList (fun h' kp=> ?_) (by simp only[List.size_toArray]<;>omega)
  have I1:Inv X pins σ H {s with heap:=h'} :=I.kept (t':=s.toks) kp
  have I2:Inv X pins σ (upd H h'.objs.size (.tup ys)) {s with heap:=h'.push {cls:=.type "tuple",data:=.seq its.toArray} } :=
   I1.laid (t':=s.toks) (fun b o e=>Heap.get?_push_of_some _ e) (Nat.le_refl _) (show bV X.prog X.w _ _ _ (.tup ys) from ⟨hz,its,r',IsTup.new _ _,_,Heap.get?_push_size _ rfl,rfl⟩)
  exact⟨.ref h'.objs.size,_,I2,rfl,q _ (I1.aj.fresh (Nat.le_refl _))⟩
 ·obtain⟨its,r',pl,hz⟩:=I.tuple hq
  exact call_tuple_same pl ⟨.ref p,H,I,rfl,q⟩
def vG (K:PySem.W.Frag) (T:String) (x:V) (H:Hp):Prop:=match x with
 | .str _=>T= "str"
 | .int _=>T= "int"
 | .ref p=> (T= "list" ∧∃xs,ag K H p xs)∨(T= "tuple" ∧((∃o,K.lookup p=some o∧o.cls=.type "tuple" ∧o.dict=none)∨∃xs,H p=some (.tup xs)))∨
   (T= "dict" ∧((∃kvs,H p=some (.dK kvs))∨∃kvs,H p=some (.dT kvs)))∨(T= "set" ∧∃S n,H p=some (.set S n))
 |_=>False
theorem Ho {pins:List (Addr×Obj)}{σ:St}{H:Hp}{s:Shared}{T:String}{x:V}{v:Value}(I:Inv X pins σ H s) (r:RelV x v) (ty:vG X.K T x H):
  s.TypeIs v T∧∀a,v=.ref a→∃ob,s.heap.get? a=some ob∧ob.dict=none:=by
 cases x with
 |str z=>
  obtain⟨t,rfl⟩:=r
  cases (show T= "str" from ty)
  exact⟨typeIs_str s z t,fun _ e=>nomatch e⟩
 |int i=>
  obtain⟨t,rfl⟩:=r
  cases (show T= "int" from ty)
  exact⟨typeIs_int s i t,fun _ e=>nomatch e⟩
 |ref p=>
  cases r
  rcases ty with ⟨rfl,xs,hq⟩ |⟨rfl,⟨o,hk,hc,hd⟩ |⟨xs,hx⟩⟩ |⟨rfl,hk⟩ |⟨rfl,S,n,hk⟩
  ·obtain⟨its,_,pl,_⟩:=I.list hq
   refine⟨pl.isList.typeIs,fun a e=> ?_⟩
   cases e
   obtain⟨o,n,e,c,hd,_⟩:=pl
   exact⟨o,e,hd⟩
  ·refine⟨⟨o,I.dB p o hk,hc⟩,fun a e=> ?_⟩
   cases e
   exact⟨o,I.dB _ o hk,hd⟩
  ·obtain⟨_,_,_,⟨o,e,c,_⟩,o2,e2,hd⟩:=(show bV X.prog X.w H s.heap p (.tup xs) from I.aj p _ hx)
   refine⟨⟨o,e,c⟩,fun a e3=> ?_⟩
   cases e3
   exact⟨o2,e2,hd⟩
  ·have z:∃o,s.heap.get? p=some o∧o.ExactDict:=by
    rcases hk with ⟨kvs,hk⟩ |⟨kvs,hk⟩
    ·obtain⟨_,_,_,_,o,_,_,e,ex,_⟩:=I.aj p _ hk
     exact⟨o,e,ex⟩
    ·obtain⟨_,_,_,_,o,_,_,e,ex,_⟩:=I.aj p _ hk
     exact⟨o,e,ex⟩
   obtain⟨o,e,ex⟩:=z
   refine⟨⟨o,e,ex.1⟩,fun a e2=> ?_⟩
   cases e2
   exact⟨o,e,ex.2.1⟩
  ·obtain⟨o,_,_,_,e,ex,_⟩:=I.aj p _ hk
   refine⟨⟨o,e,ex.1⟩,fun a e2=> ?_⟩
   cases e2
   exact⟨o,e,ex.2.1⟩
 |_=>exact False.elim ty
def A0 (K:PySem.W.Frag) (T:String) (r:V→List V→Hp→VK→Prop) (to:TE) (t:TA):TE:=fun σ H Q=>to σ H fun x H1=>vG K T x H1∧t σ H1 fun xs H2=>r x xs H2 Q
variable {o e:Expr}{es:List Expr}{to:TE}{t:TA}{name:Str}{apos dH:Pos}{T id:String}{r:V→List V→Hp→VK→Prop}
theorem yU (pa:PlainAttrs T) (slot:Slot T name id) (Dt:typeOf (.builtin id)=pure (.type "method_descriptor")) (hm:Lv X id r) (ho:PE X o to) (ha:PA X (e::es) t)
    (Ey:attributeBase o name X.env (eval o X.env)=eval o X.env:=by rfl)
    (El:((backTo dH (starEach (e::es) X.env)).all (fun x=> !x.1)&&(backToKw dH (keywordEach [] X.env)).all (fun x=>x.1.isSome)
      &&decide ((e::es).length+([]:List Keyword).length+(if ([]:List Keyword).isEmpty then 0 else 1)<30))=true:=by rfl)
    (D8:(apos.endLine==dH.line)=true:=by rfl) (hs:starEach (e::es) X.env=(false,eval e X.env)::starEach es X.env:=by rfl) (DQ:(backTo dH (starEach es X.env)).any (·.1)=false:=by rfl):
    PE X (.Call (.Attribute o name apos) (e::es) [] dH) (A0 X.K T r to t):=by
  intro pins s σ H Q I h
  refine wpAny_Call_method_late Ey El D8 rfl (au (ho pins s σ H _ I h) fun v s1 ⟨x,H1,I1,r1,ty,q1⟩=> ?_)
  obtain⟨h1,h2⟩:=Ho I1 r1 ty
  refine⟨T,id,pa,slot,Dt,h1,h2,?_⟩
  have hA:=ha dH pins s1 σ H1 _ I1 q1
  rw[hs]at hA ⊢
  refine Calls.callWith_builtin (by show(false||(backTo dH (starEach es X.env)).any (·.1))=false;rw[DQ]<;>rfl) (Calls.evalArgs_plain ?_)
  exact au hA fun us s2 ⟨vs,H2,I2,r2,q2⟩=>hm pins s2 σ H2 x vs v us Q I2 r1 r2 q2
end
def zR (X:Cx) (id:String) (r:V→List V→Hp→VK→Prop):Prop:=
 ∀(pins:List (Addr×Obj)) (s:Shared) (σ:St) (H:Hp) (x:V) (xs:List V) (v:Value) (us:List Value) (Q:VK),Inv X pins σ H s→RelV x v→Vals xs us→r x xs H Q→
  wpAny (model X.prog X.w) X.A (call (.builtin id) (v::us)) (EP X pins σ Q) X.xe s
theorem Vals.one:∀{x:V}{us:List Value},Vals [x] us→∃u,us=[u]∧RelV x u
 |_,_,.cons r .nil=> ⟨_,rfl,r⟩
theorem Vals.eraseIdx:∀{xs:List V}{us:List Value}(i:Nat),Vals xs us→Vals (xs.eraseIdx i) (us.eraseIdx i)
 |_,_,_,.nil=> .nil
 |_,_,0,.cons _ t=>t
 |_,_,i+1,.cons r t=> .cons r (Vals.eraseIdx i t)
theorem Vals.rep {xs:List V}{us:List Value}(h:Vals xs us):∀k:Nat,Vals (List.replicate k xs).flatten (List.replicate k us).flatten
 |0=> .nil
 |k+1=>by
  rw[List.replicate_succ,List.replicate_succ,List.flatten_cons,List.flatten_cons]
  exact Vals.append h (Vals.rep h k)
theorem WJ {α:Type} :∀(l:List α) (i:Nat),(l.eraseIdx i).length≤l.length
 | [],_=>Nat.le_refl _
 |_::_,0=>Nat.le_succ _
 |_::r,i+1=>Nat.succ_le_succ (WJ r i)
theorem WP (its:List Value):∀(k:Nat) (acc:List Value),
  List.foldl (fun x1 x2=>x1++x2) acc.toArray (List.replicate k its.toArray)=(acc++(List.replicate k its).flatten).toArray
 |0,acc=>by simp
 |k+1,acc=>by
  have e:acc.toArray++its.toArray=(acc++its).toArray:=by simp
  have e2:(acc++its)++(List.replicate k its).flatten=acc++(List.replicate (k+1) its).flatten:=by
   rw[List.replicate_succ,List.flatten_cons,List.append_assoc]
  rw[←e2,←WP its k (acc++its),←e,List.replicate_succ,List.foldl_cons]
section
variable {X:Cx}{pins:List (Addr×Obj)}{σ:St}{H:Hp}{s:Shared}{l b:Addr}{xs ys zs:List V}
theorem Inv.xf {its its':List Value}{n:Nat}{f:Array Value→Array Value}{t':Nat}(I:Inv X pins σ H s) (hH:H l=some (.lst xs))
  (e:s.heap.get? l=some {cls:=.type "list",data:=.seq its.toArray n}) (hf:f its.toArray=its'.toArray) (hv:Vals ys its') (hz:ys.length≤sizeLine):
  Inv X pins σ (upd H l (.lst ys)) {s with heap:=s.heap.update l (Obj.mapSeq f),toks:=t'} :=by
 have q:=PySem.IsL.update e f
 rw[hf]at q
 refine I.write (x:=l) (e:=l) (by rw[hH];exact trivial) (.inl rfl) (fun b' u hb hu=> (Heap.get?_update_other s.heap (Obj.mapSeq f) (Ne.symm hb)).trans hu) ⟨_,q⟩ ?_
 exact⟨hz,its',_,hv,q⟩
theorem Inv.C0 {its:List Value}{t':Nat}(I:Inv X pins σ H s) (hv:Vals ys its) (hz:ys.length≤sizeLine):
  Inv X pins σ (upd H s.heap.objs.size (.lst ys)) {s with heap:=s.heap.push {cls:=.type "list",data:=.seq its.toArray},toks:=t'} :=
 I.laid (fun _ _ q=>Heap.get?_push_of_some _ q) (Nat.le_refl _) ⟨hz,its,0,hv,Heap.get?_push_size _ rfl⟩
theorem Inv.fresh (I:Inv X pins σ H s):H s.heap.objs.size=none:=I.aj.fresh (Nat.le_refl _)
theorem Inv.oT (I:Inv X pins σ H s) (hH:H l=some (.lst xs)):xs.length≤sizeLine∧∃(its:List Value) (n:Nat),Vals xs its∧xs.length=its.length∧s.heap.get? l=some {cls:=.type "list",data:=.seq its.toArray n} :=by
 obtain⟨z,its,n,r,e⟩:=I.aj l _ hH
 exact⟨z,its,n,r,r.length,e⟩
theorem wM {n:Nat}(h:n≤sizeLine):Builtin.List.listTooLong n=false:=by
 unfold Builtin.List.listTooLong
 exact decide_eq_false (by omega)
end
section
variable {X:Cx}
def BY:V→List V→Hp→VK→Prop:=fun x vs H Q=> ∃l b xs zs,x=.ref l∧vs=[.ref b]∧H l=some (.lst xs)∧H b=some (.lst zs)∧xs.length+zs.length≤sizeLine∧Q .ab (upd H l (.lst (xs++zs)))
theorem I0:zR X "list.extend" BY:=by
 intro pins s σ H x vs v us Q I rx rv h
 obtain⟨l,b,xs,zs,rfl,rfl,hH,hB,hz,q⟩:=h
 cases rx
 obtain⟨u,rfl,ru⟩:=rv.one
 cases ru
 obtain⟨z,its,n,r,hl,e⟩:=I.oT hH
 obtain⟨z2,ir,n2,r2,iA,e2⟩:=I.oT hB
 have bY:its.toArray.size+ir.toArray.size≤sizeLine:=by rw[List.size_toArray,List.size_toArray];omega
 have tR:¬(!its.toArray.isEmpty&&Builtin.List.listTooLong (its.toArray.size+ir.toArray.size))=true:=by
  rw[wM bY,Bool.and_false]
  exact Bool.false_ne_true
 refine call_meets F.slot_list_extend ⟨_,e,rfl⟩ F.entry_list_extend (F.args_list_extend_2 _ _)
  (AutoSeq1.list_extend_list_list_0 l its.toArray n b ir.toArray n2 tR (by rw[List.size_toArray];omega) (by omega)) ⟨e,e2,?_⟩
 refine⟨.ab,_,I.xf (its':=its++ir) hH e (by simp) (r.append r2) ?_,rfl,q⟩
 rw[List.length_append]
 omega
def BV:V→List V→Hp→VK→Prop:=fun x vs H Q=> ∃l xs i k y,x=.ref l∧vs=[.int i]∧H l=some (.lst xs)∧ -(2^63)≤i∧i<2^63∧seqIndex? i xs.length=some k∧xs[k]? =some y∧Q y (upd H l (.lst (xs.eraseIdx k)))
theorem HR:zR X "list.pop" BV:=by
 intro pins s σ H x vs v us Q I rx rv h
 obtain⟨l,xs,i,k,y,rfl,rfl,hH,h1,h2,hk,hy,q⟩:=h
 cases rx
 obtain⟨u,rfl,ru⟩:=rv.one
 obtain⟨t,rfl⟩:=ru
 obtain⟨z,its,n,r,hl,e⟩:=I.oT hH
 obtain⟨w,hw,jx⟩:=r.get hy
 refine call_meets F.slot_list_pop ⟨_,e,rfl⟩ F.entry_list_pop (F.args_list_pop_2 _ _)
  (MeetsSeq.list_pop_at l its.toArray n i t k w (fitsIndex_both h1 h2) (by rw[List.size_toArray,←hl];exact hk) (by rw[←Array.getElem?_toList];exact hw) (by rw[List.size_toArray];omega)) ⟨e,?_⟩
 refine⟨y,_,I.xf (its':=its.eraseIdx k) hH e ?_ (r.eraseIdx k) ?_,jx,q⟩
 ·show its.toArray.eraseIdxIfInBounds k=(its.eraseIdx k).toArray
  rw[List.eraseIdxIfInBounds_toArray]
 ·have:=WJ xs k
  omega
def BU:R2:=fun x y H Q=> ∃l k xs,x=.ref l∧y=.int k∧H l=some (.lst xs)∧ -(2^63)≤k∧k<2^63∧xs.length*k.toNat≤sizeLine∧
 ∀p,H p=none→Q (.ref p) (upd H p (.lst (List.replicate k.toNat xs).flatten))
theorem GR {α:Type}(xs:List α) (k:Nat):(List.replicate k xs).flatten.length=k*xs.length:=by
 induction k with
 |zero=>simp
 |succ k ih=>rw[List.replicate_succ,List.flatten_cons,List.length_append,ih,Nat.succ_mul,Nat.add_comm]
theorem Ha:aY X (binaryOp .Mult) BU:=by
  intro pins s σ H x y v u Q I rx ry h
  obtain⟨l,k,xs,rfl,rfl,hH,h1,h2,hz,q⟩:=h
  cases rx
  obtain⟨t,rfl⟩:=ry
  obtain⟨z,its,n,r,hl,e⟩:=I.oT hH
  have hlen:its.toArray.size*k.toNat≤sizeLine:=by rw[List.size_toArray,←hl];exact hz
  have Es:¬its.toArray.size*k.toNat> (2^63 - 1)/8:=by
    have:(sizeLine:Nat)≤(2^63 - 1)/8:=by decide
    omega
  have jc:¬(!Builtin.List.listFitsIndex k)=true:=by
    rw[fitsIndex_both h1 h2]
    exact Bool.false_ne_true
  have tR:¬Builtin.List.listTooLong (its.toArray.size*k.toNat)=true:=by
    rw[wM hlen]
    exact Bool.false_ne_true
  have DY:List.foldl (fun x1 x2=>x1++x2) #[] (List.replicate (if its.toArray.isEmpty=true then 0 else k.toNat) its.toArray)=(List.replicate k.toNat its).flatten.toArray:=by
    have f0:∀m:Nat,List.foldl (fun x1 x2=>x1++x2) #[] (List.replicate m its.toArray)=(List.replicate m its).flatten.toArray:=fun m=>by
      have:=WP its m []
      rw[List.nil_append]at this
      exact this
    rw[f0]
    cases its with
    |nil=>simp
    |cons a r'=>rw[if_neg (by simp)]
  refine wpAny_binaryOp_repeat_ref (T:= "list") (U:= "int") (by decide) ⟨_,e,rfl⟩ (fun s'=>typeIs_int s' k t) noFill_list_mul F.fills_int_mul F.slot_int_rmul repeat_list F.slot_int_index.lookup
    (call_meets F.slot_int_rmul (typeIs_int s k t) F.entry_int_rmul (F.args_int_rmul_2 _ _) (int___rmul___int_list k t l its.toArray n)
      ⟨e,rfl,⟨_,e,rfl⟩,call_meets F.slot_list_mul ⟨_,e,rfl⟩ F.entry_list_mul (F.args_list_mul_2 _ _) (AutoListH.list___mul___list_int_3 l its.toArray n k t jc Es tR) ⟨e,?_⟩⟩)
  rw[DY]
  exact⟨.ref _,_,I.C0 (t':=s.toks) (r.rep k.toNat) (by rw[GR,Nat.mul_comm];exact hz),rfl,q _ I.fresh⟩
end
end L2
namespace Ae
open PySem PySem.W PySem.Calls PyProof.Rows
theorem JE {P:Params}{h:Heap} :∀(ns:List Int) (vs:List Value),WellAll P h vs (ns.map WData.int)→IntsAre vs ns:=by
 intro ns
 induction ns with
 |nil=>
  intro vs w
  rw[List.map_nil]at w
  cases w
  exact .nil
 |cons n ns ih=>
  intro vs w
  rw[List.map_cons]at w
  cases w with
  |cons a b=>
   cases a
   exact .cons _ _ (ih _ b)
theorem Kl {l:OpenLaw}{n:Nat}(hn:l.most=some n) {P:Params}{h:Heap}{args:List WData}{vals:List Value}
  (pz:l.row.toRowW.claim.pre args=true) (sZ:WellAll P h vals args):
  ∃a vs ns,vals=[Value.ref a]∧args=[WData.list (ns.map WData.int)]∧h.get? a=some {cls:=.type "list",data:=.seq vs.toArray}∧IntsAre vs ns∧ns.length≤n:=by
 have DH:WShape.hasAll [] args [.list .int]=true:=(pre_splitW pz).1
 have hc:l.pre.holds [] {args:=args} =true:=(pre_splitW pz).2
 obtain⟨d,r,rfl,h1,h2⟩:=hasAllW_cons DH
 obtain rfl:=hasAllW_nil h2
 obtain⟨xs,rfl,h3⟩:=hasW_list h1
 obtain⟨ns,rfl⟩:=items_int h3
 have hlen:ns.length≤n:=by
  unfold OpenLaw.pre at hc
  have h4:(WTm.not (.lt (.lit (.int (n:Int))) (.len (.arg 0)))).holds [] {args:=[.list (ns.map .int)]} =true:=by
   have h4:=(holds_andW hc).1
   rw[hn]at h4
   exact h4
  have h5:=condW_of h4 (w_not (w_lt w_lit (w_len_list (w_arg rfl))))
  rw[List.length_map]at h5
  refine Nat.le_of_not_lt fun q=> ?_
  have q':(n:Int)< ((ns.length:Nat):Int):=by omega
  first
   |(rw[decide_eq_true q']at h5;exact absurd h5 (by decide))
   |(simp at h5;omega)
 cases sZ with
 |cons w1 w2=>
  cases w2
  cases w1 with
  |list ho cz=>exact⟨_,_,ns,rfl,rfl,ho,JE ns _ cz,hlen⟩
theorem Ki (l:OpenLaw) (args:List WData):l.row.toRowW.claim.post args (.bool true) args=true:=
 postW_of (r:=l.row.toRowW) (X:=(true==true))
  (show WShape.has [] (.bool true) .bool=true by first |rfl |decide |simp[WShape.has,WShape.arms,WShape.armsAll])
  (show(WTm.eq .res (.lit (.bool true))).value [] {args:=args,res:=some (.bool true),after:=args} =some (.bool (true==true)) from w_eq_bool (w_res rfl) w_lit) rfl
theorem F0 {l:OpenLaw}{n:Nat}{q:Program}{loose:List Str}{XP:(Str→Option Value)→Heap→Prop}{YP:World→Heap→Prop}{d:DefRec}
    (hn:l.most=some n) (uf:d.params.defaults=[])
    (call:∀(w:World) (cb aA:Shared) (mg mb:Str→Option Value) (fa:Addr) (o:Obj) (pm cd doc:Value) (a:Addr) (vs:List Value) (ns:List Int),
      Ground q loose [] XP w cb mg mb aA.heap→YP w aA.heap→
      aA.heap.get? fa=some o→o.data=.func (docDef d.name d.params d.body d.scope pm cd doc)→aA.heap.CodeRec cd d.name→mg d.name=some (.ref fa)→
      aA.heap.get? a=some {cls:=.type "list",data:=.seq vs.toArray}→IntsAre vs ns→ns.length≤n→aA.gens= #[]→
      codeAny (model l.prog w) callerA (.call (.ref fa) ⟨[.ref a],[]⟩) (fun r s'=>r=.ok (.ret (.bool true))∧OldK aA.heap s'.heap∧s'.os=aA.os∧AllBare s'.gens) aA):
    WalkO q loose XP YP l.row.toRowW d [] (fun f vs=>PySem.call f vs):=by
  intro w cb aA mg mb G Y fa o pm cd doc dV kV ho hd fw hD hmg hg args vals as pz MC Mv sZ MA
  obtain rfl:dV=.none:=Dflts.none hD uf
  obtain rfl:kV=.none:=Dflts.noKw hD
  obtain⟨a,vs,ns,rfl,rfl,tM,hints,hlen⟩:=Kl hn pz sZ
  refine enter_call (codeAny_mono (call w cb aA mg mb fa o pm cd doc a vs ns G Y ho (fd_plain hd) fw hmg tM hints hlen hg) fun r s' hq=> ?_)
  obtain⟨rfl,h2,h3,h4⟩:=hq
  exact⟨.inl ⟨.bool true,.bool true,[],rfl,fun _=>rfl,.bool true,Ki l _,fun _=> ⟨List.Pairwise.nil,fun _ hm=> (nomatch hm)⟩⟩,h2,h3,h4⟩
end Ae
namespace L2
open PySem PySem.Spec PyProof.Rows
theorem Wy:∀{vs:List Value}{ns:List Int},IntsAre vs ns→Vals (ns.map V.int) vs
 |_,_,.nil=> .nil
 |_,_,.cons n t h=> .cons ⟨t,rfl⟩ (Wy h)
def iG (s:Stmt):Arguments:=match s with
 | .FunctionDef _ a _ _ _ _ _ _ _ _=>a
 |_=> {posonlyargs:=[],args:=[],vararg:=none,kwonlyargs:=[],kw_defaults:=[],kwarg:=none,defaults:=[]}
def hJ (s:Stmt):List Stmt:=match s with
 | .FunctionDef _ _ b _ _ _ _ _ _ _=>b
 |_=> []
def aC (s:Stmt):Scope:=match s with
 | .FunctionDef _ _ _ _ _ _ sc _ _ _=>sc
 |_=> {kind:=.function,names:=[],isGenerator:=false,isCoroutine:=false}
abbrev aH:iL:=fun _ _ _ _ _ _=>False
abbrev E0:XK:=fun _ _ _=>False
theorem Cc {X:Cx} :Passes aH X E0:=fun _ _ _ _ _ _ _ h=>h.elim
structure aM (K:PySem.W.Frag) (x qual:Str) (st:Stmt) (f:Addr) (fd:FuncData):Prop where
 ex:∃(oc:Value) (od:Option Addr) (kV doc pm:Value) (an:Option Addr) (ao ct:Value) (fO:Array (Option Value)),
  fd=PySem.W.fnOf x qual (iG st) (hJ st) (aC st) .none kV doc pm an ao ct∧K.lookup f=some ⟨oc,od,.func fd,fO⟩∧PySem.W.codeIn K ao qual=true
 kp:PySem.W.keepIn K (.ref f)=true
section
variable {P:Program}{w:World}{K:PySem.W.Frag}{mg:Str→Option Value}{base:Heap}
theorem aM.ok {x qual:Str}{st:Stmt}{f:Addr}{fd:FuncData}{N ps:List Str}{k:Nat}{sp:Sp}(F:aM K x qual st f fd) (S:aV N ps (aC st)) (len:∀vs H Q E,sp vs H Q E→vs.length=ps.length)
    (ui:∀(ao:Value) (A:Around) (outer:List Env) (s:Shared) (H:Hp) (vs:List V) (Q:VK) (E:XK),cK k (A.deeper (envOfC qual (aC st) s.heap.objs.size f ao))→sp vs H Q E→
      ∃t,fe (j7 aH P w K mg base N qual (aC st) f ao A outer s H E).mf (hJ st) t∧t {nx:=fun _ H'=>Q .ab H',rt:=Q} (start N vs) H):aG P w K mg base aH (k+1) f fd ps sp:=by
  obtain⟨oc,od,kV,doc,pm,an,ao,ct,fO,rfl,lk,fw⟩:=F.ex
  refine GB lk fw S len fun A outer s H vs Q E hr i8=> ?_
  obtain⟨t,h,q⟩:=ui ao A outer s H vs Q E hr i8
  exact⟨t,h.mf,q⟩
theorem aM.binds {x qual:Str}{st:Stmt}{f:Addr}{fd:FuncData}{ps:List Str}(F:aM K x qual st f fd)
  (h:∀(kV doc pm:Value) (an:Option Addr) (ao ct:Value) (us:List Value),us.length=ps.length→bindArgs (PySem.W.fnOf x qual (iG st) (hJ st) (aC st) .none kV doc pm an ao ct) ⟨us,[]⟩=pure (ps.zip us)):Binds K fd ps []:=by
 obtain⟨oc,od,kV,doc,pm,an,ao,ct,fO,rfl,lk,fw⟩:=F.ex
 exact .all (h kV doc pm an ao ct)
theorem Hq {x qual:Str}{st:Stmt}{f:Addr}{oc:Value}{od an:Option Addr}{fO:Array (Option Value)}{kV doc pm ao ct:Value}(l:K.lookup f=some ⟨oc,od,.func (PySem.W.fnOf x qual (iG st) (hJ st) (aC st) .none kV doc pm an ao ct),fO⟩)
  (c:PySem.W.codeIn K ao qual=true) (k:PySem.W.keepIn K (.ref f)=true):aM K x qual st f (PySem.W.fnOf x qual (iG st) (hJ st) (aC st) .none kV doc pm an ao ct):=⟨⟨oc,od,kV,doc,pm,an,ao,ct,fO,rfl,l,c⟩,k⟩
end
theorem uX {A:Around}{k:Nat}(hr:cK k A):A.units+1<cLine:=Nat.lt_of_le_of_lt (Nat.add_le_add_left (by decide:1≤64) _) hr.units
section
variable {X:Cx}
theorem pv (i:Nat) {x:Str}{pos:Pos}(hN:X.N[i]? =some x:=by rfl) (hv:qb X.env.scope x:=by first |exact Or.inl rfl |exact Or.inr (Or.inl rfl) |exact Or.inr (Or.inr rfl)) (hd:(x==("__debug__" :Str))=false:=by decide)
  (fw:(x==("__classdict__" :Str))=false:=by decide):PE X (.Name x pos) (qv i):=He hN hv hd fw
end
theorem aw {A B:Prop}(h:B):if false=true then A else B:=by
 rw[if_neg Bool.false_ne_true]
 exact h
theorem bf {A B:Prop}(h:A):if true=true then A else B:=by
 rw[if_pos rfl]
 exact h
def ae (H H':Hp):Prop:=∀b o,H b=some o→H' b=some o
theorem ae.refl (H:Hp):ae H H:=fun _ _ h=>h
theorem ae.trans {H H1 H2:Hp}(a:ae H H1) (b:ae H1 H2):ae H H2:=fun c o h=>b c o (a c o h)
theorem ae.free {H H':Hp}(e:ae H H') {l:Addr}(h:H' l=Option.none):H l=Option.none:=by
 cases q:H l with
 |none=>rfl
 |some o=>
  rw[e l o q]at h
  cases h
structure M1 (X:Cx) (o:Expr) (m:Str) (apos:Pos) (e:Expr) (dH:Pos):Prop where
 base:attributeBase o m X.env (eval o X.env)=eval o X.env
 EY:((backTo dH (starEach [e] X.env)).all (fun x=> !x.1)&&(backToKw dH (keywordEach [] X.env)).all (fun x=>x.1.isSome)
  &&decide (([e]:List Expr).length+([]:List Keyword).length+(if ([]:List Keyword).isEmpty then 0 else 1)<30))=true
 line:(apos.endLine==dH.line)=true
 trees:backTo dH (starEach [e] X.env)=[(false,eval e X.env)]
structure M2 (X:Cx) (o:Expr) (m:Str) (apos:Pos) (e f:Expr) (dH:Pos):Prop where
 base:attributeBase o m X.env (eval o X.env)=eval o X.env
 EY:((backTo dH (starEach [e,f] X.env)).all (fun x=> !x.1)&&(backToKw dH (keywordEach [] X.env)).all (fun x=>x.1.isSome)
  &&decide (([e,f]:List Expr).length+([]:List Keyword).length+(if ([]:List Keyword).isEmpty then 0 else 1)<30))=true
 line:(apos.endLine==dH.line)=true
 trees:backTo dH (starEach [e,f] X.env)=[(false,eval e X.env),(false,eval f X.env)]
def iH (scope:Scope) (env:Env):List (Str×Addr):=scope.names.foldl (fun cs y=>if y.2==.free then (y.1,(env.cells.lookup y.1).getD 0)::cs else cs) []
theorem YX {scope:Scope}{env:Env}(h:∀y∈scope.names,y.2=.free→∃c,env.cells.lookup y.1=some c):closureFor scope env=pure (iH scope env):=by
 unfold closureFor iH
 have key:∀(l:List (Str×NameKind)) (cs:List (Str×Addr)),(∀y∈l,y.2=.free→∃c,env.cells.lookup y.1=some c)→
   (forIn l cs (fun x r=>match x with |(name,kind)=>if (kind==NameKind.free)=true then do let c ←cellOf env name;pure (ForInStep.yield ((name,c)::r)) else pure (ForInStep.yield r)):Sem (List (Str×Addr)))
    =pure (l.foldl (fun cs y=>if y.2==.free then (y.1,(env.cells.lookup y.1).getD 0)::cs else cs) cs):=by
  intro l
  induction l with
  |nil=>intro cs _;rfl
  |cons y l ih=>
   intro cs hl
   obtain⟨n,k⟩:=y
   rw[List.forIn_cons,List.foldl_cons]
   by_cases hk:k=.free
   ·subst hk
    obtain⟨c,hc⟩:=hl (n,.free) List.mem_cons_self rfl
    have bF:env.cells.lookup n=some c:=hc
    have e1:cellOf env n=pure c:=by unfold cellOf;rw[bF]
    simp only[beq_self_eq_true,if_true,e1,bF,Option.getD_some,pure_bind]
    exact ih _ fun y hy=>hl y (List.mem_cons_of_mem _ hy)
   ·have hb:(k==NameKind.free)=false:=by simpa using hk
    simp only[hb,Bool.false_eq_true,if_false,pure_bind]
    exact ih _ fun y hy=>hl y (List.mem_cons_of_mem _ hy)
 simp only[key scope.names [] h,pure_bind]
 all_goals rfl
theorem UV {scope:Scope}{env:Env}{x:Str}{c:Addr}(h:(iH scope env).lookup x=some c):c=(env.cells.lookup x).getD 0∧(x,NameKind.free)∈scope.names:=by
 unfold iH at h
 have key:∀(l:List (Str×NameKind)) (cs:List (Str×Addr)),(l.foldl (fun cs y=>if y.2==.free then (y.1,(env.cells.lookup y.1).getD 0)::cs else cs) cs).lookup x=some c→
   (c=(env.cells.lookup x).getD 0∧(x,NameKind.free)∈l)∨cs.lookup x=some c:=by
  intro l
  induction l with
  |nil=>intro cs h;exact .inr h
  |cons y l ih=>
   intro cs h
   obtain⟨n,k⟩:=y
   rw[List.foldl_cons]at h
   rcases ih _ h with ⟨h1,h2⟩ |h'
   ·exact .inl ⟨h1,List.mem_cons_of_mem _ h2⟩
   ·by_cases hk:k=.free
    ·subst hk
     simp only[beq_self_eq_true,if_true]at h'
     rw[List.lookup_cons]at h'
     cases hx:x==n with
     |true=>
      rw[hx]at h'
      have e:x=n:=by simpa using hx
      subst e
      have e':(env.cells.lookup x).getD 0=c:=Option.some.inj h'
      exact .inl ⟨e'.symm,List.mem_cons_self⟩
     |false=>rw[hx]at h';exact .inr h'
    ·have hb:(k==NameKind.free)=false:=by simpa using hk
     simp only[hb,Bool.false_eq_true,if_false]at h'
     exact .inr h'
 rcases key _ _ h with h |h
 ·exact h
 ·simp at h
theorem UW {scope:Scope}{env:Env}{x:Str}(h:(x,NameKind.free)∈scope.names):∃c,(iH scope env).lookup x=some c:=by
 unfold iH
 have key:∀(l:List (Str×NameKind)) (cs:List (Str×Addr)),((x,NameKind.free)∈l∨∃c,cs.lookup x=some c)→∃c,(l.foldl (fun cs y=>if y.2==.free then (y.1,(env.cells.lookup y.1).getD 0)::cs else cs) cs).lookup x=some c:=by
  intro l
  induction l with
  |nil=>
   intro cs h
   rcases h with h |h
   ·simp at h
   ·exact h
  |cons y l ih=>
   intro cs h
   obtain⟨n,k⟩:=y
   rw[List.foldl_cons]
   refine ih _ ?_
   by_cases hk:k=.free
   ·subst hk
    simp only[beq_self_eq_true,if_true]
    rw[List.lookup_cons]
    cases hx:x==n with
    |true=>exact .inr ⟨_,rfl⟩
    |false=>
     rcases h with h |h
     ·rcases List.mem_cons.mp h with e |h
      ·have e1:x=n:=congrArg Prod.fst e
       simp[e1]at hx
      ·exact .inl h
     ·exact .inr h
   ·have hb:(k==NameKind.free)=false:=by simpa using hk
    simp only[hb,Bool.false_eq_true,if_false]
    rcases h with h |h
    ·rcases List.mem_cons.mp h with e |h
     ·exact absurd (congrArg Prod.snd e).symm hk
     ·exact .inl h
    ·exact .inr h
 exact key _ _ (.inl h)
def rl (env:Env) (y:Str×NameKind):Str×NameKind:=if (y.2==NameKind.free&&env.scope.kind==.function&&env.kindOf y.1==some .cell) then (y.1,NameKind.cell) else y
theorem zg (env:Env) (y:Str×NameKind):(rl env y).1=y.1:=by unfold rl;split<;>rfl
theorem Ih {env:Env}{y:Str×NameKind}(h:y.2=.free):(rl env y).2=.cell∨(rl env y).2=.free:=by
 unfold rl;split
 ·exact .inl rfl
 ·exact .inr h
theorem Hi {env:Env}{y:Str×NameKind}(h:y.2≠.free):rl env y=y:=by
 have hb:(y.2==NameKind.free)=false:=by simpa using h
 unfold rl;rw[hb];simp
theorem YU (scope:Scope) (env:Env):(relabel scope env).names=scope.names.map (rl env):=rfl
theorem W3 {scope:Scope}{env:Env}{x:Str}(hc:∀y∈scope.names,y.2≠.cell) (h:(relabel scope env).names.lookup x=some .cell∨(relabel scope env).names.lookup x=some .free):(x,NameKind.free)∈scope.names:=by
 rw[YU]at h
 have key:∀(l:List (Str×NameKind)),(∀y∈l,y.2≠.cell)→(∃k,(k=NameKind.cell∨k=.free)∧(l.map (rl env)).lookup x=some k)→(x,NameKind.free)∈l:=by
  intro l
  induction l with
  |nil=>rintro _ ⟨k,_,h⟩;simp at h
  |cons y l ih=>
   rintro hl ⟨k',aQ,h⟩
   obtain⟨n,k⟩:=y
   have e1:(rl env (n,k))=(n,(rl env (n,k)).2):=Prod.ext (zg env _) rfl
   rw[List.map_cons,e1,List.lookup_cons]at h
   cases hx:x==n with
   |true=>
    have e:x=n:=by simpa using hx
    subst e
    by_cases hk:k=.free
    ·subst hk;exact List.mem_cons_self
    ·rw[hx]at h
     rw[Hi (env:=env) (y:=(x,k)) hk]at h
     have e:k=k':=Option.some.inj h
     subst e
     rcases aQ with z |z
     ·exact absurd z (hl _ List.mem_cons_self)
     ·exact absurd z hk
   |false=>
    rw[hx]at h
    exact List.mem_cons_of_mem _ (ih (fun y hy=>hl y (List.mem_cons_of_mem _ hy)) ⟨k',aQ,h⟩)
 refine key _ hc ?_
 rcases h with h |h
 ·exact⟨_,.inl rfl,h⟩
 ·exact⟨_,.inr rfl,h⟩
theorem YT {scope:Scope}{env:Env}{x:Str}(h:scope.names.lookup x=some .free):(relabel scope env).names.lookup x=some .cell∨(relabel scope env).names.lookup x=some .free:=by
 rw[YU]
 have key:∀(l:List (Str×NameKind)),l.lookup x=some .free→(l.map (rl env)).lookup x=some .cell∨(l.map (rl env)).lookup x=some .free:=by
  intro l
  induction l with
  |nil=>intro h;simp at h
  |cons y l ih=>
   intro h
   obtain⟨n,k⟩:=y
   have e1:(rl env (n,k))=(n,(rl env (n,k)).2):=Prod.ext (zg env _) rfl
   rw[List.map_cons,e1,List.lookup_cons]
   rw[List.lookup_cons]at h
   cases hx:x==n with
   |true=>
    rw[hx]at h
    have e:k=.free:=Option.some.inj h
    rcases Ih (env:=env) (y:=(n,k)) e with z |z
    ·exact .inl (congrArg some z)
    ·exact .inr (congrArg some z)
   |false=>rw[hx]at h;exact ih h
 exact key _ h
def bj (X:Cx) (N':List Str) (scope:Scope) (C:Addr) (s2:Shared) (H2:Hp) (fp:List Addr):Cx:=
 {X with N:=N',cb:=s2,nK:=H2,env:=compEnvC scope (iH scope X.env) C X.env,outer:=X.stack,stack:=X.stack,ex:=fp,fn:=fun _=>false,pn:=[],xe:=fun _ _=>False}
def pW (so si:Scope) (N N':List Str) (ts:Nat) (bu:List Nat):Bool:=
 decide (si.kind=.function)&&si.names.all (fun y=>y.2 !=.cell)&&si.names.all (fun y=>y.2 !=.local||si.names.lookup y.1==some .local)
 &&si.names.all (fun y=>y.2 !=.free||so.names.lookup y.1==some .cell||so.names.lookup y.1==some .free)
 &&decide N'.Nodup&&decide (N'.length=ts+bu.length)
 &&(List.range bu.length).all (fun k=> (N'[ts+k]? ==(bu[k]?.bind fun j=>N[j]?))&&(N'[ts+k]?.isSome)&&(N'[ts+k]?.all fun x=>so.names.lookup x !=some .local&&si.names.lookup x==some .free))
def jk (ts:Nat) (bu:List Nat) (σ:St):St:=List.replicate ts none++bu.map fun j=> (σ[j]?).join
structure vw (X:Cx) (N':List Str) (ts:Nat) (bu:List Nat) (scope:Scope):Prop where
 kind:scope.kind=.function
 jC:∀y∈scope.names,y.2≠.cell
 names:∀y∈scope.names,y.2=.local→scope.names.lookup y.1=some .local
 free:∀y∈scope.names,y.2=.free→X.env.kindOf y.1=some .cell∨X.env.kindOf y.1=some .free
 nd:N'.Nodup
 len:N'.length=ts+bu.length
 yR:∀k j,bu[k]? =some j→∃x,N'[ts+k]? =some x∧X.N[j]? =some x∧X.env.kindOf x≠some .local∧scope.names.lookup x=some .free
theorem Y3 {x:Str}{k:NameKind} :∀{l:List (Str×NameKind)},l.lookup x=some k→(x,k)∈l
 | [],h=>by simp at h
 |(n,j)::l,h=>by
  rw[List.lookup_cons]at h
  cases hx:x==n with
  |true=>
   rw[hx]at h
   have e:x=n:=by simpa using hx
   have e':j=k:=Option.some.inj h
   subst e e'
   exact List.mem_cons_self
  |false=>rw[hx]at h;exact List.mem_cons_of_mem _ (Y3 h)
theorem UU {X:Cx}{N':List Str}{ts:Nat}{bu:List Nat}{scope:Scope}(h:pW X.env.scope scope X.N N' ts bu=true):vw X N' ts bu scope:=by
 unfold pW at h
 simp only[Bool.and_eq_true]at h
 obtain⟨⟨⟨⟨⟨⟨h1,h2⟩,h3⟩,h4⟩,h5⟩,h6⟩,h7⟩:=h
 refine⟨of_decide_eq_true h1,fun y hy z=> ?_,fun y hy z=> ?_,fun y hy z=> ?_,of_decide_eq_true h5,of_decide_eq_true h6,fun k j hk=> ?_⟩
 ·have q:=List.all_eq_true.mp h2 y hy
  rw[z]at q;exact absurd q (by decide)
 ·have q:=List.all_eq_true.mp h3 y hy
  rw[z]at q
  simpa using q
 ·have q:=List.all_eq_true.mp h4 y hy
  rw[z]at q
  simpa[Env.kindOf] using q
 ·have ak:k<bu.length:=(List.getElem?_eq_some_iff.mp hk).1
  have q:=List.all_eq_true.mp h7 k (List.mem_range.mpr ak)
  simp only[Bool.and_eq_true]at q
  obtain⟨⟨q1,q2⟩,q3⟩:=q
  obtain⟨x,hx⟩:=Option.isSome_iff_exists.mp q2
  rw[hx]at q1 q3
  rw[hk]at q1
  have e1:some x=X.N[j]? :=by simpa using q1
  have sE:(X.env.scope.names.lookup x !=some .local&&scope.names.lookup x==some .free)=true:=q3
  simp only[Bool.and_eq_true]at sE
  refine⟨x,hx,e1.symm,?_,by simpa using sE.2⟩
  have z:=sE.1
  intro e
  have e':X.env.scope.names.lookup x=some .local:=e
  rw[e']at z
  exact absurd z (by decide)
section
variable {X:Cx}{pins:List (Addr×Obj)}{σ:St}{H:Hp}{s:Shared}
theorem GL {N':List Str}{ts:Nat}{bu:List Nat}{scope:Scope}{fp:List Addr}{h':Heap}{t':Nat}{m:Str→Option Value}{C:Addr}(S:vw X N' ts bu scope) (I:Inv X pins σ H s) (hf:∀b∈fp,bX X pins H b)
  (ho:∀b∈fp,∃o,s.heap.get? b=some o) (hC:s.heap.objs.size≤C) (hn:h'.Ns C m) (k:∀b o,s.heap.get? b=some o→h'.get? b=some o):
  Inv (bj X N' scope C s H fp) [] (jk ts bu σ) H {s with heap:=h',toks:=t'} :=by
 have sub:∀x c,(iH scope X.env).lookup x=some c→X.env.cells.lookup x=some c:=fun x c e=>by
  obtain⟨e1,e2⟩:=UV e
  obtain⟨c',bF⟩:=I.ok.has x (S.free _ e2 rfl)
  rw[bF]at e1
  rw[bF,e1];rfl
 have fj:∀b o,s.heap.get? b=some o→b≠C:=fun b o e=>Nat.ne_of_lt (Nat.lt_of_lt_of_le (Heap.lt_size e) hC)
 refine⟨⟨I.ok.mod,?_,I.ok.glob,I.ok.blt,hC,fun x y c e1 e2=>I.ok.inj x y c (sub x c e1) (sub y c e2),fun x hx=> ?_,fun x c z _=>absurd z Bool.false_ne_true,I.ok.hd,I.ok.frames,.inl rfl,fun b hb=> ?_,fun b o e=>I.bs b o e,Nat.le_trans I.ok.j9 I.sz,fun b o e hb=> ?_,fun b hb=> ?_,I.stack,I.vN⟩,
  rfl,I.bare,Un.kept k,⟨m,hn,fun i x v e1 e2 e3=> ?_⟩,fun x c e=> ?_,I.aj.fresh hC,fun x c e=>I.g8 x c (sub x c e),fun p hp=>absurd (show p∈([]:List (Addr×Obj)) from hp) (by simp),I.aj.kept k,?_⟩
 ·show(relabel scope X.env).kind=.function
  exact S.kind
 ·exact UW (W3 S.jC hx)
 ·obtain⟨o,e⟩:=ho b hb
  refine⟨fj b o e,fun x c ec=> ?_⟩
  exact(hf b hb).2.2.2.2.1 x c (sub x c ec)
 ·obtain⟨e1,e2⟩:=I.bs b o e
  obtain⟨f0,f1,f2,f3,f4,f5⟩:=hf b hb
  rcases f3 with z |z
  ·exact I.ok.mh b o e z
  ·exact absurd (Nat.lt_of_lt_of_le (Heap.lt_size (I.ok.bs b o e).1) z) (Nat.lt_irrefl _)
 ·intro z
  obtain⟨f0,f1,f2,f3,f4,f5⟩:=hf b hb
  rcases List.mem_cons.mp (I.qy b z) with q |q
  ·exact f1 q
  ·exact f2 q
 ·-- the Mq values
  have hlen:¬i<ts:=fun ak=>by
   unfold jk at e2
   rw[List.getElem?_append_left (by simpa using ak),List.getElem?_replicate]at e2
   split at e2<;>cases e2
  have nC:(bu.map fun j=> (σ[j]?).join)[i - ts]? =some (some v):=by
   unfold jk at e2
   rw[List.getElem?_append_right (by simpa using hlen),List.length_replicate]at e2
   exact e2
  rw[List.getElem?_map]at nC
  cases hc:bu[i - ts]? with
  |none=>rw[hc]at nC;cases nC
  |some j=>
   rw[hc]at nC
   have pV:(σ[j]?).join=some v:=Option.some.inj nC
   have e4:σ[j]? =some (some v):=by
    cases q:σ[j]? with
    |none=>rw[q]at pV;cases pV
    |some o=>rw[q]at pV;exact congrArg some pV
   obtain⟨x',n1,n2,n3,n4⟩:=S.yR _ _ hc
   have ei:ts+(i - ts)=i:=by omega
   rw[ei]at n1
   have ex:x=x':=by
    have lx:N'[i]? =some x:=e1
    rw[n1]at lx;exact(Option.some.inj lx).symm
   subst ex
   obtain⟨mX,Mz,hl⟩:=I.loc
   have Al:qb X.env.scope x:=by
    rcases S.free _ (Y3 n4) rfl with z |z
    ·exact .inr (.inl z)
    ·exact .inr (.inr z)
   obtain⟨u,ru,lk⟩:=hl j x v n2 e4 Al
   refine⟨u,ru,?_⟩
   rcases lk with ⟨z,_⟩ |⟨z,c,ec,pO⟩
   ·exact absurd z n3
   ·obtain⟨c',bF⟩:=UW (env:=X.env) (Y3 n4)
    have:=sub x c' bF
    rw[ec]at this
    cases this
    refine .inr ⟨?_,c,bF,pO.keeps k⟩
    exact YT n4
 ·obtain⟨v,z⟩:=I.cell x c (sub x c e)
  exact⟨v,z.keeps k⟩
 ·show(jk ts bu σ).length=N'.length
  unfold jk
  rw[List.length_append,List.length_replicate,List.length_map,S.len]
end
def AccAt (h:Heap) (D:Addr) (ys:List V):Prop:=ys.length≤sizeLine∧∃(its:List Value) (n:Nat),Vals ys its∧h.get? D=some {cls:=.type "list",data:=.seq its.toArray n}
theorem AccAt.keep {h h':Heap}{D:Addr}{ys:List V}(a:AccAt h D ys) (k:∀o,h.get? D=some o→h'.get? D=some o):AccAt h' D ys:=by
 obtain⟨z,its,n,r,e⟩:=a
 exact⟨z,its,n,r,k _ e⟩
abbrev TC:=List V→St→Hp→(List V→St→Hp→Prop)→Prop
def ki (Y:Cx) (D:Addr) (m:Sem PySem.Fin→Sem PySem.Fin) (t:TC):Prop:=
 ∀(pins:List (Addr×Obj)) (s:Shared) (σ:St) (H:Hp) (ys:List V) (Q:List V→St→Hp→Prop) (k:Sem PySem.Fin) (R:PySem.Fin→Shared→Prop),Inv Y pins σ H s→bX Y pins H D→AccAt s.heap D ys→t ys σ H Q→
  (∀s' bN ah H',Inv Y pins ah H' s'→bX Y pins H' D→AccAt s'.heap D bN→Q bN ah H'→wpAny (model Y.prog Y.w) Y.A k R (fun _ _=>False) s')→wpAny (model Y.prog Y.w) Y.A (m k) R (fun _ _=>False) s
def vH (ifs:List Expr) (env:Env):Sem Bool:=forIn ifs true fun c r=>if r=true then do let ok ←isTrue c env (eval c env);pure (ForInStep.yield ok) else pure (ForInStep.yield r)
def kh (Y:Cx) (ifs:List Expr) (t:TT):Prop:=
 ∀(pins:List (Addr×Obj)) (s:Shared) (σ:St) (H:Hp) (Q:Bool→Hp→Prop),Inv Y pins σ H s→t σ H Q→wpAny (model Y.prog Y.w) Y.A (vH ifs Y.env) (TP Y pins σ Q) Y.xe s
def qw:TT:=fun _ H Q=>Q true H
section
variable {Y:Cx}{D:Addr}
theorem ZZ:kh Y [] qw:=fun pins s σ H Q I h=>wpAny_tests_nil ⟨H,I,h⟩
theorem Yg {c:Expr}{t:TT}(hc:PT Y c t):kh Y [c] t:=fun pins s σ H Q I h=>wpAny_tests_one (hc pins s σ H Q I h)
def AX (te:TE):TC:=fun ys σ H Q=>te σ H fun v H1=>ys.length<sizeLine∧Q (ys++[v]) σ H1
theorem AccAt.jC {h:Heap}{ys:List V}(a:AccAt h D ys):∀b∈[D],∃o,h.get? b=some o∧∀v,o.data≠.cell v:=fun b hb=>by
 have e:b=D:=by simpa using hb
 subst e
 obtain⟨z,its,n,r,e⟩:=a
 exact⟨_,e,fun v z=>by
  have z':Data.seq its.toArray n=Data.cell v:=z
  cases z'⟩
theorem AccAt.through {h:Heap}{pins:List (Addr×Obj)}{ah:St}{H':Hp}{s':Shared}{ys:List V}(a:AccAt h D ys) (I:Inv Y (pins++ik [D] h) ah H' s'):AccAt s'.heap D ys∧H' D=none:=by
 obtain⟨z,its,n,r,e⟩:=a
 have q:=I.pin (D,_) (List.mem_append_right _ (List.mem_append_right _ (ZQ (List.mem_singleton.mpr rfl) e)))
 exact⟨⟨z,its,n,r,q.1⟩,q.2.1⟩
theorem ZE {elt:Expr}{te:TE}(hx:Y.xe=fun _ _=>False) (he:PE Y elt te):
    ki Y D (fun k=> (do let _ ←call (.builtin "list.append") [.ref D,←eval elt Y.env]) >>=fun _=>k) (AX te):=by
  intro pins s σ H ys Q k R I f a h hk
  refine wpAny_bind (wpAny_mono (Q:=fun _ s'=> ∃bN ah H',Inv Y pins ah H' s'∧bX Y pins H' D∧AccAt s'.heap D bN∧Q bN ah H') ?_ (fun _ s' ⟨bN,ah,H',q1,q2,q3,q4⟩=>hk s' bN ah H' q1 q2 q3 q4) fun _ _ z=>z)
  have I':=I.pinned (fp:=[D]) (fun b hb=>by have e:b=D:=by simpa using hb
                                            subst e;exact f) a.jC
  refine wpAny_bind (wpAny_mono (he _ s σ H _ I' h) (fun u s1 ⟨v,H1,I1,ru,hz,q⟩=> ?_) fun e s1 z=>by rw[hx]at z;exact z)
  obtain⟨a1,n1⟩:=a.through I1
  have f1:bX Y pins H1 D:=⟨n1,f.2⟩
  obtain⟨z,its,n,r,e⟩:=a1
  have hl:=r.length
  refine wpAny_bind (call_meets F.slot_list_append ⟨_,e,rfl⟩ F.entry_list_append (F.args_list_append_2 _ _) (PySem.list_append D its.toArray n u (by rw[List.size_toArray];omega)) ⟨e,wpAny_pure ?_⟩)
  have q2:=PySem.IsL.update e (·.push u)
  obtain⟨f0,g1,g2,g3,g4,g5⟩:=f1
  have I2:Inv Y pins σ H1 {s1 with heap:=s1.heap.update D (Obj.mapSeq (·.push u))} :=I1.gF.turned (t':=s1.toks) (it:=D) (fun b o hb eb=> (Heap.get?_update_other s1.heap _ (Ne.symm hb)).trans eb) f0 g1 g3 g4 g5
  refine⟨ys++[v],σ,H1,I2,⟨f0,g1,g2,g3,g4,g5⟩,⟨by rw[List.length_append,List.length_singleton];omega,its++[u],(if ((its.toArray.push u).size==its.toArray.size)=true then n else n+1),r.append (.cons ru .nil),?_⟩,q⟩
  have e3:its.toArray.push u=(its++[u]).toArray:=by simp
  rw[←e3]
  exact q2
def inner (elt:Expr) (gens:List Comprehension) (scope:Scope) (pos:Pos) (d:Nat) (acc:Value) (env:Env) (k:Sem PySem.Fin):Sem PySem.Fin:=
 match gens[d+1]? with
 |some g'=>eval g'.iter env >>=fun x=>standAt g'.iter.pos >>=fun _=>foldedSetIterable g'.iter env x >>=fun x=>holding [x] (pyIter x) >>=fun jG=>
  runOwn (.compStart (.ListComp elt gens scope pos) (d+1) jG acc env) env >>=fun _=>k
 |none=> (do let _ ←call (.builtin "list.append") [acc,←eval elt env]) >>=fun _=>k
set_option maxHeartbeats 400000 in
theorem UT (elt tg iter:Expr) (ifs:List Expr) (gens:List Comprehension) (scope:Scope) (pos:Pos) (d:Nat) (it acc:Value) (env:Env) (hg:gens[d]? =some ⟨tg,iter,ifs,0⟩) (h2:∀g',gens[d+1]? =some g'→g'.is_async=0):
  compTurn (.ListComp elt gens scope pos) d it acc env=(standAt iter.pos >>=fun _=>pyNext it >>=fun r=>match r with
   |none=>pure (.done .next)
   |some v=>letOwnedTupleGo tg it v >>=fun _=>assign tg env v >>=fun _=>vH ifs env >>=fun ok=>
    if ok=true then inner elt gens scope pos d acc env (again (.compLoop (.ListComp elt gens scope pos) d it acc env)) else again (.compLoop (.ListComp elt gens scope pos) d it acc env)):=by
 unfold compTurn inner
 dsimp only
 rw[hg]
 generalize hn:gens[d+1]? =o
 cases o with
 |none=>rfl
 |some g'=>
  have e:=h2 g' hn
  obtain⟨t',i',f',a'⟩:=g'
  have e':a'=0:=e
  subst e'
  rfl
def gH (g:TG) (tt:TT) (ti:TC) (J:It):TC:=fun ys σ H Q=> ∃W:Nat→Nat→List V→St→Hp→Prop,(∃m,W 0 m ys σ H)∧∀i m ys σ H,W i m ys σ H→
 (J.stop i H∧Q ys σ H)∨(J.go i H∧∃N:List V→St→Hp→Prop,(∀bN ah H',N bN ah H'→∃m',m'<m∧W (i+1) m' bN ah H')∧
  ∀x H',J.kz i H x H'→g x σ H' fun aU H2=>tt aU H2 fun b H3=>if b=true then ti ys aU H3 N else N ys aU H3)
theorem WS {elt tg iter:Expr}{ifs:List Expr}{gens:List Comprehension}{scope:Scope}{pos:Pos}{d:Nat}{it:Addr}{fp:List Addr}{tn:Nat→Heap→Prop}{J:It}{g:TG}{tt:TT}{ti:TC}{pins:List (Addr×Obj)}{s:Shared}{σ:St}{H:Hp}{ys:List V}{Q:List V→St→Hp→Prop}
    (hx:Y.xe=fun _ _=>False) (hc:Y.calm=true) (hg:gens[d]? =some ⟨tg,iter,ifs,0⟩) (T:Turn Y.prog Y.w Y.K tg J fp it tn) (hf:∀b∈fp,bX Y pins H b) (st:tn 0 s.heap) (hD:D∉fp)
    (h2:∀g',gens[d+1]? =some g'→g'.is_async=0) (pg:PG Y tg g) (pt:kh Y ifs tt) (pi:ki Y D (inner elt gens scope pos d (.ref D) Y.env) ti)
    (I:Inv Y pins σ H s) (f:bX Y pins H D) (a:AccAt s.heap D ys) (h:gH g tt ti J ys σ H Q):
    codeAny (model Y.prog Y.w) Y.A (.compLoop (.ListComp elt gens scope pos) d (.ref it) (.ref D) Y.env) (fun r s'=>match r with
      | .ok _=> ∃bN ah H',Inv Y pins ah H' s'∧bX Y pins H' D∧AccAt s'.heap D bN∧Q bN ah H'
      | .error _=>False) s:=by
  obtain⟨W,⟨m0,w0⟩,turn⟩:=h
  have stat:∀{H':Hp},(∀b∈fp,H' b=none)→∀b∈fp,bX Y pins H' b:=fun hn b hb=> ⟨hn b hb,(hf b hb).2⟩
  refine codeAny_loop rfl (fun n s'=> ∃i bN ah H',Inv Y pins ah H' s'∧bX Y pins H' D∧AccAt s'.heap D bN∧tn i s'.heap∧(∀b∈fp,H' b=none)∧W i n bN ah H') (fun n s3 hI=> ?_) m0 ⟨0,ys,σ,H,I,f,a,st,fun b hb=> (hf b hb).1,w0⟩
  obtain⟨i,lO,fH,H3,I3,f3,a3,aK,pT,w3⟩:=hI
  show wpAny _ Y.A ((compTurn (.ListComp elt gens scope pos) d (.ref it) (.ref D) Y.env).onRaise (fun x=>do noteFrame x Y.env;theTreesLotGoes x)) _ _ s3
  refine wpAny_noted (wpAny_mono (E:=fun _ _=>False) ?_ (fun _ _ q=>q) fun _ _ z=>z.elim)
  rw[UT elt tg iter ifs gens scope pos d (.ref it) (.ref D) Y.env hg h2]
  refine wpAny_bind (wpAny_standAt (wpAny_bind ?_))
  have aD:∀{h h':Heap},(∀b o,b∉fp→h.get? b=some o→h'.get? b=some o)→∀{zs},AccAt h D zs→AccAt h' D zs:=fun k _ q=>q.keep fun o e=>k D o hD e
  have zT:=I3.pinned (fp:=[D]) (fun b hb=>by have e:b=D:=by simpa using hb
                                             subst e;exact f3) a3.jC
  have vO:∀b∈fp,bX Y (pins++ik [D] s3.heap) H3 b:=fun b hb=>by
    obtain⟨g0,g1,g2,g3,g4,g5⟩:=stat pT b hb
    refine⟨g0,g1,g2,g3,g4,fun p hp=> ?_⟩
    rcases List.mem_append.mp hp with z |z
    · exact g5 p (List.mem_append_left _ z)
    · rcases List.mem_append.mp z with z |z
      · exact g5 p (List.mem_append_right _ z)
      · intro q
        have e:p.1=D:=by simpa using (Jr z).1
        exact hD (by rw[←e,q];exact hb)
  rcases turn i n lO fH H3 w3 with ⟨stop,qn⟩ |⟨go,N,hN,step⟩
  · refine wpAny_mono (T.done Y rfl rfl rfl hc i _ s3 fH H3 (fun _ _=>False) zT vO aK stop) (fun r s4 ⟨hr,I4⟩=> ?_) fun _ _ z=>z
    subst hr
    obtain⟨a4,n4⟩:=a3.through I4
    exact wpAny_pure ⟨lO,fH,H3,I4.gF,f3,a4,qn⟩
  · refine wpAny_mono (T.item Y rfl rfl rfl hc i _ s3 fH H3 (fun _ _=>False) zT vO aK go) (fun r s4 ⟨u,hr,h4⟩=> ?_) fun _ _ z=>z
    subst hr
    refine wpAny_bind (wpAny_mono h4 (fun _ s5 ⟨x,H5,I5,r5,y5,da,uG⟩=> ?_) fun _ _ z=>z)
    obtain⟨a5,n5⟩:=a3.through I5
    have f5:bX Y pins H5 D:=⟨n5,f3.2⟩
    have DV:∀b∈D::fp,∃o,s5.heap.get? b=some o∧∀v,o.data≠.cell v:=fun b hb=>by
      rcases List.mem_cons.mp hb with e |hb
      · exact a5.jC b (by simp[e])
      · exact T.obj _ _ da b hb
    have vn:=I5.gF.pinned (fp:=D::fp) (fun b hb=>by
      rcases List.mem_cons.mp hb with e |hb
      · rw[e];exact f5
      · exact stat uG b hb) DV
    refine wpAny_bind (wpAny_mono (pg _ s5 fH H5 x u _ vn r5 (step x H5 y5)) (fun _ s6 ⟨lN,H6,I6,q6⟩=> ?_) fun _ _ z=>by rw[hx]at z;exact z)
    refine wpAny_bind (wpAny_mono (pt _ s6 lN H6 _ I6 q6) (fun b s7 ⟨H7,I7,q7⟩=> ?_) fun _ _ z=>by rw[hx]at z;exact z)
    have wG:∀{dm:St}{H7:Hp}{s7:Shared},Inv Y (pins++ik (D::fp) s5.heap) dm H7 s7→AccAt s7.heap D lO∧H7 D=none:=fun {dm H7 s7} J=>by
      obtain⟨z,its,n,r,e⟩:=id a5
      have q:=J.pin (D,_) (List.mem_append_right _ (List.mem_append_right _ (ZQ List.mem_cons_self e)))
      exact⟨⟨z,its,n,r,q.1⟩,q.2.1⟩
    have wF:∀{dm:St}{H7:Hp}{s7:Shared},Inv Y (pins++ik (D::fp) s5.heap) dm H7 s7→tn (i+1) s7.heap∧∀b∈fp,H7 b=none:=fun {dm H7 s7} J=>by
      refine⟨T.keep _ _ _ da fun b hb o e=> (J.pin (b,o) (List.mem_append_right _ (List.mem_append_right _ (ZQ (List.mem_cons_of_mem _ hb) e)))).1,fun b hb=> ?_⟩
      obtain⟨o,e,dd⟩:=T.obj _ _ da b hb
      exact(J.pin (b,o) (List.mem_append_right _ (List.mem_append_right _ (ZQ (List.mem_cons_of_mem _ hb) e)))).2.1
    cases b with
    |false=>
     simp only[Bool.false_eq_true,if_false]at q7 ⊢
     obtain⟨m',hm,w7⟩:=hN _ _ _ q7
     obtain⟨a7,n7⟩:=wG I7
     obtain⟨t7,r7⟩:=wF I7
     exact wpAny_pure ⟨rfl,m',hm,i+1,lO,lN,H7,I7.gF,⟨n7,f3.2⟩,a7,t7,r7,w7⟩
    |true=>
     simp only[if_true]at q7 ⊢
     obtain⟨a7,n7⟩:=wG I7
     obtain⟨t7,r7⟩:=wF I7
     have Lx:=I7.gF.pinned (fp:=fp) (stat r7) (T.obj _ _ t7)
     have f7:bX Y (pins++ik fp s7.heap) H7 D:=by
       obtain⟨g0,g1,g2,g3,g4,g5⟩:=f3
       refine⟨n7,g1,g2,g3,g4,fun p hp=> ?_⟩
       rcases List.mem_append.mp hp with z |z
       · exact g5 p (List.mem_append_left _ z)
       · rcases List.mem_append.mp z with z |z
         · exact g5 p (List.mem_append_right _ z)
         · intro q
           exact hD (by rw[←q];exact(Jr z).1)
     refine pi _ s7 lN H7 lO N _ _ Lx f7 a7 q7 fun s8 Ah Af H8 I8 f8 a8 q8=> ?_
     obtain⟨m',hm,w8⟩:=hN _ _ _ q8
     refine wpAny_pure ⟨rfl,m',hm,i+1,Ah,Af,H8,I8.gF,⟨f8.1,f3.2⟩,a8,T.keep _ _ _ t7 fun b hb o e=> (I8.pin (b,o) (List.mem_append_right _ (List.mem_append_right _ (ZQ hb e)))).1,fun b hb=> ?_,w8⟩
     obtain⟨o,e,dd⟩:=T.obj _ _ t7 b hb
     exact(I8.pin (b,o) (List.mem_append_right _ (List.mem_append_right _ (ZQ hb e)))).2.1
theorem Wj {elt tg iter:Expr}{ifs:List Expr}{gens:List Comprehension}{scope:Scope}{pos:Pos}{d:Nat}{it:Addr}{R:Result→Shared→Prop}{s:Shared}{A:Around}{prog:Program}{w:World}{env:Env}{acc:Value}{fp:List Addr}{tn:Nat→Heap→Prop}{J:It}{K:PySem.W.Frag}
  (hg:gens[d]? =some ⟨tg,iter,ifs,0⟩) (T:Turn prog w K tg J fp it tn) {i:Nat} (st:tn i s.heap) (h:codeAny (model prog w) A (.compLoop (.ListComp elt gens scope pos) d (.ref it) acc env) R s):
  codeAny (model prog w) A (.compStart (.ListComp elt gens scope pos) d (.ref it) acc env) R s:=by
 refine codeAny_of_tree ?_
 show wpAny _ _ ((compStart (.ListComp elt gens scope pos) d (.ref it) acc env).onRaise (fun x=>do noteFrame x env;standAt theWindowsPlace)) _ _ s
 refine wpAny_notedAt ?_
 have Eg:(clausesOf (.ListComp elt gens scope pos))[d]? =some ⟨tg,iter,ifs,0⟩:=hg
 unfold compStart
 rw[Eg]
 show wpAny _ _ (ask >>=_) _ _ s
 refine wpAny_bind (wpAny_askSetting (wpAny_ite ?_))
 split
 ·first
   |exact wpAny_bind (wpAny_pure (wpAny_pure (And.intro rfl h)))
   |exact wpAny_pure (And.intro rfl h)
 ·refine wpAny_bind (wpAny_rule ?_)
  show wpAny _ _ (standAt iter.pos >>=_) _ _ s
  exact wpAny_bind (wpAny_standAt (wpAny_bind (T.self A i s _ _ st (wpAny_pure (And.intro rfl h)))))
def AM (wi:TI) (g:TG) (tt:TT) (ti:TC):TC:=fun ys σ H Q=>wi σ H fun J H1=>gH g tt ti J ys σ H1 Q
theorem KU {elt tg iter:Expr}{ifs:List Expr}{gens:List Comprehension}{scope:Scope}{pos:Pos}{d:Nat}{wi:TI}{g:TG}{tt:TT}{ti:TC}
    (hx:Y.xe=fun _ _=>False) (hc:Y.calm=true) (hg:gens[d+1]? =some ⟨tg,iter,ifs,0⟩) (hi:PI Y tg iter wi) (pg:PG Y tg g) (pt:kh Y ifs tt) (pi:ki Y D (inner elt gens scope pos (d+1) (.ref D) Y.env) ti)
    (hs:∀x,foldedSetIterable iter Y.env x=pure x) (h2:∀g',gens[d+1+1]? =some g'→g'.is_async=0):ki Y D (inner elt gens scope pos d (.ref D) Y.env) (AM wi g tt ti):=by
  intro pins s σ H ys Q k R I f a h hk
  unfold inner
  rw[hg]
  have I':=I.pinned (fp:=[D]) (fun b hb=>by have e:b=D:=by simpa using hb
                                            subst e;exact f) a.jC
  refine wpAny_bind (wpAny_mono (hi _ s σ H _ I' h) (fun v s1 h1=> ?_) fun _ _ z=>by rw[hx]at z;exact z)
  refine wpAny_bind (wpAny_standAt (wpAny_bind (wpAny_of_eq (hs v) (wpAny_bind (wpAny_holding (wpAny_mono h1 (fun jG s2 h2=> ?_) fun _ _ z=>by rw[hx]at z;exact z))))))
  obtain⟨it,fp,tn,J,H2,e,I2,T,ai,f2,q2⟩:=h2
  subst e
  obtain⟨a2,n2⟩:=a.through I2
  have fD:bX Y pins H2 D:=⟨n2,f.2⟩
  have hD:D∉fp:=fun z=>by
    obtain⟨z1,its,n,r,e⟩:=a
    exact(f2 D z).2.2.2.2.2 (D,_) (List.mem_append_right _ (List.mem_append_right _ (ZQ (List.mem_singleton.mpr rfl) e))) rfl
  have yB:∀b∈fp,bX Y pins H2 b:=fun b hb=>by
    obtain⟨g0,g1,g2,g3,g4,g5⟩:=f2 b hb
    exact⟨g0,g1,g2,g3,g4,fun p hp=>g5 p (by
      rcases List.mem_append.mp hp with z |z
      · exact List.mem_append_left _ z
      · exact List.mem_append_right _ (List.mem_append_left _ z))⟩
  refine wpAny_bind (wpAny_runOwn (codeAny_mono (Wj hg T ai (WS (Q:=Q) hx hc hg T yB ai hD h2 pg pt pi I2.gF fD a2 q2)) fun r s' hr=> ?_))
  cases r with
  |ok fl=>
   obtain⟨bN,ah,H',q1,q2,q3,q4⟩:=hr
   exact hk s' bN ah H' q1 q2 q3 q4
  |error e=>exact hr.elim
end
section
variable {X:Cx}{pins:List (Addr×Obj)}{σ:St}{H H':Hp}{s s':Shared}
theorem U0 {N':List Str}{scope:Scope}{C D:Addr}{fp:List Addr}{ah:St}{ys:List V}{pl:List (Addr×Obj)}{h':Heap}(I:Inv X pins σ H s) (hf:∀b∈fp,bX X pins H b) (hC:s.heap.objs.size≤C) (hD:s.heap.objs.size≤D) (jZ:D≠C)
  (J:Inv (bj X N' scope C s H fp) pl ah H' s') (n:H' D=none) (a:AccAt s'.heap D ys) (sb:Heap.SameBut C s'.heap h'):Inv X pins σ (upd H' D (.lst ys)) {s' with heap:=h'} :=by
 have fj:∀b o,s.heap.get? b=some o→b≠C:=fun b o e=>Nat.ne_of_lt (Nat.lt_of_lt_of_le (Heap.lt_size e) hC)
 have CC:∀b o,s.heap.get? b=some o→b≠D:=fun b o e=>Nat.ne_of_lt (Nat.lt_of_lt_of_le (Heap.lt_size e) hD)
 have sQ:∀b o,H b=some o→b≠D:=fun b o e=>Nat.ne_of_lt (Nat.lt_of_lt_of_le (I.aj.lt e) hD)
 have fC:H' C=none:=J.free
 have u:Un (eK X.stack) fp H H' s.heap s'.heap:=J.base
 refine I.FV (s':= {s' with heap:=h'}) (ch:=fp) J.os ⟨fun b o e nb hb hx=> (sb.2 b (fj b o e)).trans (u.keep b o e nb hb hx),fun b o e nb hb hx=> ?_,fun b o e nb hx=>by rw[Zh (CC b o e)];exact u.free b o e nb hx,fun b o e hx=> ?_,
  fun b xs e=>by rw[Zh (sQ b _ e)];exact u.hX b xs e,fun b o xs e=>by rw[Zh (sQ b _ e)];exact u.gZ b o xs e,fun b ps e=>by rw[Zh (sQ b _ e)];exact u.gG b ps e⟩ (fun b v e=> ?_) J.bare fun b hb=> ?_
 ·obtain⟨sl,q⟩:=u.slot b o e nb hb hx
  exact⟨sl,(sb.2 b (fj b o e)).trans q⟩
 ·obtain⟨o',q⟩:=u.there b o e hx
  exact⟨o',(sb.2 b (fj b o e)).trans q⟩
 ·by_cases hb:b=D
  ·subst hb
   rw[Zd]at e
   cases e
   obtain⟨z,its,k,r,q⟩:=a
   exact⟨z,its,k,r,(sb.2 b jZ).trans q⟩
  ·rw[Zh hb]at e
   refine(J.aj b v e).bL (fun c w hc q=> (sb.2 c ?_).trans q) (fun c q=>by rw[Zh (Zi q n)];exact q) fun c xs q=>by rw[Zh (Zi q n)];exact q
   rcases hc with z |z
   ·rw[z];exact Zi e fC
   ·exact Zi z fC
 ·obtain⟨f0,f1,f2,f3,f4,f5⟩:=hf b hb
  exact⟨f3,f1,f4,f5⟩
theorem Wk {elt tg iter:Expr}{ifs:List Expr}{rest:List Comprehension}{scope:Scope}{pos:Pos}{N':List Str}{ts:Nat}{bu:List Nat}{it:Addr}{fp:List Addr}{tn:Nat→Heap→Prop}{J:It}{g:TG}{tt:TT}{ti:TC}{Q:List V→Hp→Prop}{E:Value→Shared→Prop}{RR:Value→Addr→Result→Shared→Prop}
  (S:vw X N' ts bu scope) (hc:X.calm=true) (I:Inv X pins σ H s) (T:Turn X.prog X.w X.K tg J fp it tn) (st:tn 0 s.heap) (hf:∀b∈fp,bX X pins H b)
  (h2:∀g',(Comprehension.mk tg iter ifs 0::rest)[0+1]? =some g'→g'.is_async=0)
  (pg:∀C,PG (bj X N' scope C s H fp) tg g) (pt:∀C,kh (bj X N' scope C s H fp) ifs tt)
  (pi:∀C D,ki (bj X N' scope C s H fp) D (inner elt (⟨tg,iter,ifs,0⟩::rest) scope pos 0 (.ref D) (bj X N' scope C s H fp).env) ti)
  (h:gH g tt ti J [] (jk ts bu σ) H fun ys _ H2=>Q ys H2)
  (EE:∀C D s' ah H' ys fl,s.heap.objs.size≤C→s.heap.objs.size≤D→D≠C→Inv (bj X N' scope C s H fp) [] ah H' s'→H' D=none→AccAt s'.heap D ys→Q ys H'→RR (.ref D) C (.ok fl) s'):
  wpAny (model X.prog X.w) X.A (newList []) (fun acc A4=>wpAny (model X.prog X.w) X.A (newFunctionEnv scope X.env.globals (iH scope X.env) [] X.env.qual none .none (some X.env)) (fun yQ A3=>
   codeAny (model X.prog X.w) X.A (.compStart (.ListComp elt (⟨tg,iter,ifs,0⟩::rest) scope pos) 0 (.ref it) acc {yQ with scope:=relabel scope X.env}) (RR acc yQ.locals) A3) E A4) E s:=by
 refine wpAny_newObj_type (wpAny_newFunctionEnv S.jC (by intro y hy;simp at hy) (fun mD tN ph=> ?_) S.kind)
 dsimp only at tN ph ⊢
 generalize lq:s.heap.push {cls:=.type "list",dict:=none,data:=.seq ([]:List Value).toArray} =h0 at tN ph ⊢
 have hC:h0.objs.size=s.heap.objs.size+1:=by rw[←lq,Heap.size_push]
 have jZ:s.heap.objs.size≠h0.objs.size:=by rw[hC];exact Nat.ne_of_lt (Nat.lt_succ_self _)
 have uB:s.heap.objs.size≤h0.objs.size:=by rw[hC];exact Nat.le_succ _
 have fj:∀b o,s.heap.get? b=some o→b≠h0.objs.size:=fun b o e=>Nat.ne_of_lt (Nat.lt_of_lt_of_le (Heap.lt_size e) uB)
 have old:∀b o,s.heap.get? b=some o→mD.get? b=some o:=fun b o e=>ph.extBut b o (fj b o e) (Heap.get?_push_of_some _ (lq▸Heap.get?_push_of_some _ e))
 have mZ:mD.get? s.heap.objs.size=some {cls:=.type "list",data:=.seq ([]:List Value).toArray 0} :=ph.extBut _ _ jZ (Heap.get?_push_of_some _ (lq▸Heap.get?_push_size _ rfl))
 have ho:∀b∈fp,∃o,s.heap.get? b=some o:=fun b hb=>let ⟨o,e,_⟩:=T.obj _ _ st b hb;⟨o,e⟩
 have I1:Inv (bj X N' scope h0.objs.size s H fp) [] (jk ts bu σ) H {s with heap:=mD,toks:=s.toks+([]:List (Str×Value)).length} :=GL S I hf ho uB tN old
 have fresh:=I.aj.fresh (a:=s.heap.objs.size) (Nat.le_refl _)
 have EW:∀b∈fp,bX (bj X N' scope h0.objs.size s H fp) [] H b:=fun b hb=>by
  obtain⟨f0,f1,f2,f3,f4,f5⟩:=hf b hb
  refine⟨f0,(I1.ok.pU b hb).1,I1.ok.nq b hb,.inl hb,(I1.ok.pU b hb).2,fun p hp=>absurd (show p∈([]:List (Addr×Obj)) from hp) (by simp)⟩
 have fD:bX (bj X N' scope h0.objs.size s H fp) [] H s.heap.objs.size:=by
  refine⟨fresh,jZ,fun z=> ?_,.inr (Nat.le_refl _),fun x c e z=> ?_,fun p hp=>absurd (show p∈([]:List (Addr×Obj)) from hp) (by simp)⟩
  ·obtain⟨_,o,dF,_⟩:=I.stack.mem z
   exact absurd (Heap.lt_size dF) (Nat.lt_irrefl _)
  ·obtain⟨e1,e2⟩:=UV e
   obtain⟨c',bF⟩:=I.ok.has x (S.free _ e2 rfl)
   obtain⟨v,q⟩:=I.cell x c' bF
   rw[bF]at e1
   have e3:c=c':=e1
   have l:=q.lt
   rw[←e3,z]at l
   exact absurd l (Nat.lt_irrefl _)
 have aD:AccAt mD s.heap.objs.size []:=⟨Nat.zero_le _,[],0,.nil,mZ⟩
 have EK:s.heap.objs.size∉fp:=fun z=>by obtain⟨o,e⟩:=ho _ z;exact absurd (Heap.lt_size e) (Nat.lt_irrefl _)
 have av:tn 0 mD:=T.keep _ _ _ st fun b _ o e=>old b o e
 have run:=Wj (elt:=elt) (gens:=⟨tg,iter,ifs,0⟩::rest) (scope:=scope) (pos:=pos) (d:=0) rfl T av
  (WS (Y:=bj X N' scope h0.objs.size s H fp) (D:=s.heap.objs.size) (Q:=fun ys _ H2=>Q ys H2) (elt:=elt) (gens:=⟨tg,iter,ifs,0⟩::rest) (scope:=scope) (pos:=pos) (d:=0) rfl hc rfl T EW av EK h2 (pg _) (pt _) (pi _ _) I1 fD aD h)
 refine codeAny_mono run fun r s' hr=> ?_
 cases r with
 |error e=>exact hr.elim
 |ok fl=>
  obtain⟨bN,ah,H',q1,q2,q3,q4⟩:=hr
  exact EE _ _ s' ah H' bN fl uB (Nat.le_refl _) jZ q1 q2.1 q3 q4
end
def vJ (wi:TI) (ts:Nat) (bu:List Nat) (g:TG) (tt:TT) (ti:TC):TE:=fun σ H Q=>wi σ H fun J H1=>gH g tt ti J [] (jk ts bu σ) H1 fun ys _ H2=> ∀p,H2 p=none→Q (.ref p) (upd H2 p (.lst ys))
section
variable {X:Cx}{elt tg iter:Expr}{ifs:List Expr}{rest:List Comprehension}{scope:Scope}{pos:Pos}{wi:TI}{g:TG}{tt:TT}{ti:TC}
theorem ZT (N':List Str) (ts:Nat) (bu:List Nat) (hi:PI X tg iter wi) (pg:∀C s H fp,PG (bj X N' scope C s H fp) tg g) (pt:∀C s H fp,kh (bj X N' scope C s H fp) ifs tt)
  (pi:∀C s H fp D,ki (bj X N' scope C s H fp) D (inner elt (⟨tg,iter,ifs,0⟩::rest) scope pos 0 (.ref D) (bj X N' scope C s H fp).env) ti)
  (ok:pW X.env.scope scope X.N N' ts bu=true:=by rfl) (hc:X.calm=true:=by rfl) (h2:∀g',(Comprehension.mk tg iter ifs 0::rest)[0+1]? =some g'→g'.is_async=0:=by(intro g' h;cases h<;>rfl))
  (hs:∀x,foldedSetIterable iter X.env x=pure x:=by intro _;rfl):
  PE X (.ListComp elt (⟨tg,iter,ifs,0⟩::rest) scope pos) (vJ wi ts bu g tt ti):=by
 intro pins s σ H Q I h
 have S:=UU ok
 rw[eval_ListComp]
 refine wpAny_comprehension_free (use:=none) rfl hs (YX fun y hy e=>I.ok.has _ (S.free y hy e)) S.kind S.names (au (hi pins s σ H _ I h) fun v s1 h1=>au h1 fun jG s2 nj=> ?_)
 obtain⟨it,fp,tn,J,H2,e,I2,T,ai,f2,q2⟩:=nj
 subst e
 refine Wk (RR:=fun acc C=>compPost (model X.prog X.w) X.A X.xe none _ acc C) S hc I2 T ai f2 h2 (fun C=>pg C _ _ _) (fun C=>pt C _ _ _) (fun C D=>pi C _ _ _ D) q2 ?_
 intro C D s' ah H' ys fl hC hD jZ J' n a q
 obtain⟨m,hn,_⟩:=J'.loc
 exact⟨m,hn,fun h' sb=> ⟨.ref D,_,U0 I2 f2 hC hD jZ J' n a sb,rfl,q D n⟩⟩
theorem Y9 (N':List Str) (ts:Nat) (bu:List Nat) {i:Nat}{x:Str}{px vQ:Pos}(hN:X.N.Nodup) (Ef:X.N[i]? =some x) (hx:Loc X.env.scope x) (hi:PI X tg iter wi) (pg:∀C s H fp,PG (bj X N' scope C s H fp) tg g) (pt:∀C s H fp,kh (bj X N' scope C s H fp) ifs tt)
  (pi:∀C s H fp D,ki (bj X N' scope C s H fp) D (inner elt (⟨tg,iter,ifs,0⟩::rest) scope pos 0 (.ref D) (bj X N' scope C s H fp).env) ti)
  (DG:swapsWith (.ListComp elt (⟨tg,iter,ifs,0⟩::rest) scope pos) (some (.Name x px)) vQ.line X.env=pure true:=by rfl)
  (ok:pW X.env.scope scope X.N N' ts bu=true:=by rfl) (hc:X.calm=true:=by rfl) (h2:∀g',(Comprehension.mk tg iter ifs 0::rest)[0+1]? =some g'→g'.is_async=0:=by(intro g' h;cases h<;>rfl))
  (hs:∀x,foldedSetIterable iter X.env x=pure x:=by intro _;rfl) (gk:X.fn x=true∨X.env.scope.names.lookup x=some .local:=by first |exact .inl rfl |exact .inr rfl |assumption):
  PS X (.Assign [.Name x px] (.ListComp elt (⟨tg,iter,ifs,0⟩::rest) scope pos) vQ) (nW (vJ wi ts bu g tt ti) (bR i)):=by
 intro pins s σ H D I h
 have S:=UU ok
 rw[exec_Assign_Name_used _ _ _ _ DG]
 refine wpAny_bind (wpAny_standAt (wpAny_bind ?_))
 show wpAny _ X.A (do let _ ←comprehension (.ListComp elt (⟨tg,iter,ifs,0⟩::rest) scope pos) scope X.env _ (newList []) false (eval iter X.env) (some (assign (.Name x px) X.env))) _ _ s
 refine wpAny_bind (wpAny_mono (wpAny_comprehension_free (use:=some (assign (.Name x px) X.env)) (Q:=fun _ s'=> ∃ah H',Inv X pins ah H' s'∧D.nx ah H') rfl hs (YX fun y hy e=>I.ok.has _ (S.free y hy e)) S.kind S.names
  (au (hi pins s σ H _ I h) fun v s1 h1=>au h1 fun jG s2 nj=> ?_)) (fun _ s' hq=>wpAny_pure (wpAny_pure hq)) fun _ _ e=>e)
 obtain⟨it,fp,tn,J,H2,e,I2,T,ai,f2,q2⟩:=nj
 subst e
 refine Wk (RR:=fun acc C=>compPost (model X.prog X.w) X.A X.xe (some (assign (.Name x px) X.env)) _ acc C) S hc I2 T ai f2 h2 (fun C=>pg C _ _ _) (fun C=>pt C _ _ _) (fun C D=>pi C _ _ _ D) q2 ?_
 intro C B s' ah H' ys fl hC hB yr J' n a q
 obtain⟨m,hn,_⟩:=J'.loc
 have IX:Inv X pins σ (upd H' B (.lst ys)) s':=U0 I2 f2 hC hB yr J' n a (Heap.SameBut.refl C s'.heap)
 have fC:=I2.jf (H':=upd H' B (.lst ys)) (b:=C) hC (by rw[Zh (Ne.symm yr)];exact J'.free)
 obtain⟨f0,f1,yB,f3,f4,f5⟩:=fC
 show wpAny _ X.A (assign (.Name x px) X.env (.ref B)) _ _ s'
 refine wpAny_assign_Name (WA (v:=.ref B) (u:=.ref B) IX hN Ef hx rfl (fun ig Ly ⟨c,sb,pP⟩=> ?_) gk)
 have EM:C≠c:=by
  rcases pP with z |z
  ·rw[z];exact f1
  ·exact(f4 x c z).symm
 refine⟨m,Heap.Ns.sameBut hn sb EM,fun h' BD=> ?_⟩
 refine⟨σ.set i (some (.ref B)),_,Ly.turned (t':=ig.toks) (it:=C) (fun b o hb e=> (BD.2 b hb).trans e) f0 f1 f3 f4 f5,q B n⟩
end
section
variable {X:Cx}
theorem Yj {c:String} :fg X (.builtin "isinstance") (fun xs H Q=> ∃x t b,xs=[x,.ty c]∧dI X.K H x t∧PySem.W.kitOne X.K t (.type c)=some b∧Q (.bl b) H):=by
 intro pins s σ H xs us Q I r h
 obtain⟨x,t,b,rfl,ty,e,q⟩:=h
 obtain⟨u,v,rfl,ru,rv⟩:=vals2 r
 cases rv
 exact IS I ru ty e fun tk=> ⟨.bl b,H,I.tok tk,rfl,q⟩
theorem YI (hc:X.calm=true:=by rfl):fg X (.builtin "all") (fun xs H Q=> ∃(p:Addr) (bs:List Bool),xs=[.ref p]∧ag X.K H p (bs.map V.bl)∧Q (.bl (bs.all id)) H):=by
 intro pins s σ H xs us Q I r h
 obtain⟨p,bs,rfl,hp,q⟩:=h
 obtain⟨u,rfl,ru⟩:=vals1 r
 cases ru
 obtain⟨its,rv,pl,hz⟩:=I.list hp
 have hb:∀(i:Nat) (v:Value),its.toArray[i]? =some v→v=.bool (bs.getD i false):=fun i v e=>by
  have e':its[i]? =some v:=by simpa using e
  have hl:=rv.length
  have hi:i<its.length:=(List.getElem?_eq_some_iff.mp e').1
  have aR:i< (bs.map V.bl).length:=by omega
  obtain⟨u,hu,ru⟩:=rv.get (i:=i) (x:=(bs.map V.bl)[i]) (by simp)
  rw[e']at hu
  cases hu
  rw[List.getElem_map]at ru
  have eV:i<bs.length:=by simpa using aR
  have e2:bs.getD i false=bs[i]:=by simp[List.getD_eq_getElem?_getD,eV]
  rw[e2]
  exact ru
 refine call_all_walk (wpAny_pyIter_list pl.isList ?_)
 have cw:p≠s.heap.objs.size:=Nat.ne_of_lt (by obtain⟨o,n,e,_⟩:=pl;exact Heap.lt_size e)
 refine⟨s.heap.objs.size,_,_,_,_,_,fun i=>bs.getD i false,rfl,Walks.list (A:=X.A.in1) (show X.A.in1.handled=none from I.ok.hd hc) s.heap.objs.size p cw its.toArray,⟨⟨_,Heap.get?_push_size _ rfl,rfl,rfl⟩,pl.isList.at fun o e=>Heap.get?_push_of_some _ e⟩,fun i v s' Q' E' hP hQ=> ?_,fun h' tk hk=> ?_⟩
 ·rw[hb i v hP]
  exact wpAny_truthy_bool hQ
 ·have e:(List.range its.toArray.size).all (fun i=>bs.getD i false)=bs.all id:=by
   have hl:its.toArray.size=bs.length:=by have:=rv.length;rw[List.length_map]at this;simpa using this.symm
   rw[hl,Bool.eq_iff_iff,List.all_eq_true,List.all_eq_true]
   constructor
   ·intro h b hb
    obtain⟨i,hi,e⟩:=List.mem_iff_getElem.mp hb
    have:=h i (List.mem_range.mpr hi)
    rw[List.getD_eq_getElem?_getD,List.getElem?_eq_getElem hi,Option.getD_some,e]at this
    exact this
   ·intro h i hi
    have aR:=List.mem_range.mp hi
    rw[List.getD_eq_getElem?_getD,List.getElem?_eq_getElem aR,Option.getD_some]
    exact h _ (List.getElem_mem aR)
  rw[e]
  refine⟨.bl (bs.all id),H,I.kept fun b o eb=>hk b o ?_ (Heap.get?_push_of_some _ eb),rfl,q⟩
  intro z
  have e1:b=s.heap.objs.size:=by simpa using z
  exact absurd (Heap.lt_size eb) (by rw[e1];exact Nat.lt_irrefl _)
def kG (ns:List Int):Nat:=(PyProof.Rows.firstMet (fun i=>ns.getD i 0) ns.length).length
theorem Wt (hc:X.calm=true:=by rfl):fg X (.type "set") (fun xs H Q=> ∃(p:Addr) (ns:List Int),xs=[.ref p]∧ag X.K H p (ns.map V.int)∧ns.length≤1000∧∀q S,H q=none→Q (.ref q) (upd H q (.set S (kG ns)))):=by
 intro pins s σ H xs us Q I r h
 obtain⟨p,ns,rfl,hp,hn,q⟩:=h
 obtain⟨u,rfl,ru⟩:=vals1 r
 cases ru
 obtain⟨its,rv,pl,hz⟩:=I.list hp
 have hl:=rv.length
 rw[List.length_map]at hl
 refine call_set_list (I.ok.hd hc) pl.isList (Y4 rv) (by rw[List.size_toArray,←hl];unfold scanBound;omega) fun h' tk hs hk=> ?_
 have e:its.toArray.size=ns.length:=by simp[hl]
 rw[e]at hs
 exact⟨.ref s.heap.objs.size,_,I.laid (a:=s.heap.objs.size) (o:=.set _ (kG ns)) (fun b o eb=>hk b o (Heap.lt_size eb) eb) (Nat.le_refl _) hs,rfl,q _ _ I.fresh⟩
theorem Wv:fg X (.builtin "len") (fun xs H Q=> ∃p S n,xs=[.ref p]∧H p=some (.set S n)∧Q (.int n) H):=by
 intro pins s σ H xs us Q I r h
 obtain⟨p,S,n,rfl,hp,q⟩:=h
 obtain⟨u,rfl,ru⟩:=vals1 r
 cases ru
 obtain⟨o,es,ep,t,h1,h2,h3,h4,h5,h6,h7,h8⟩:=(show bV X.prog X.w H s.heap p (.set S n) from I.aj p _ hp)
 refine call_len_set h1 h2 h3 h7 (by have:scanBound=4096:=rfl;omega) ⟨.int n,H,I.tok _,⟨_,by rw[h8]⟩,q⟩
theorem UY:fg X (.type "range") (fun xs H Q=> ∃j:Int,xs=[.int j]∧∀q,H q=none→Q (.ref q) (upd H q (.fK 0 j))):=by
 intro pins s σ H xs us Q I r h
 obtain⟨j,rfl,q⟩:=h
 obtain⟨u,rfl,ru⟩:=vals1 r
 obtain⟨t,rfl⟩:=ru
 refine call_range_1 ?_
 exact⟨.ref s.heap.objs.size,_,I.laid (a:=s.heap.objs.size) (o:=.fK 0 j) (fun b o eb=>Heap.get?_push_of_some _ eb) (Nat.le_refl _) ⟨_,_,_,Heap.get?_push_size _ rfl⟩,rfl,q _ I.fresh⟩
def upTo (n:Nat):List V:=(List.range n).map fun(i:Nat)=>V.int (i:Int)
theorem Ug {acc:Array Value}{n:Nat}(h:ItemsOf (fun i v=> ∃t,v=.int (0+i*1) t) acc n):Vals (upTo n) acc.toList:=by
 obtain⟨h1,h2⟩:=h
 obtain⟨l⟩:=acc
 have h1:l.length=n:=h1
 have h2:∀(j:Nat) (v:Value),l[j]? =some v→∃t,v=.int (j:Int) t:=fun j v e=>by
  obtain⟨t,q⟩:=h2 j v (by simpa using e)
  exact⟨t,by rw[q];congr 1;omega⟩
 have key:∀(l:List Value) (k:Nat),(∀(j:Nat) (v:Value),l[j]? =some v→∃t,v=.int ((k+j:Nat):Int) t)→Vals ((List.range' k l.length).map fun(i:Nat)=>V.int (i:Int)) l:=by
  intro l
  induction l with
  |nil=>intro k _;exact .nil
  |cons v l ih=>
   intro k h
   rw[List.length_cons,List.range'_succ,List.map_cons]
   obtain⟨t,e⟩:=h 0 v rfl
   refine .cons ⟨t,by rw[e];simp⟩ (ih (k+1) fun j w q=> ?_)
   obtain⟨t',e'⟩:=h (j+1) w (by simpa using q)
   exact⟨t',by rw[e'];congr 1;omega⟩
 have:=key l 0 (fun j v e=>by simpa using h2 j v e)
 unfold upTo
 rw[←h1,List.range_eq_range']
 exact this
theorem Wu (hc:X.calm=true:=by rfl):fg X (.type "list") (fun xs H Q=> ∃(p:Addr) (j:Int),xs=[.ref p]∧H p=some (.fK 0 j)∧0≤j∧j≤1000∧∀q,H q=none→Q (.ref q) (upd H q (.lst (upTo j.toNat)))):=by
 intro pins s σ H xs us Q I r h
 obtain⟨p,j,rfl,hp,h0,h1,q⟩:=h
 obtain⟨u,rfl,ru⟩:=vals1 r
 cases ru
 obtain⟨t,u,v,e⟩:=(show bV X.prog X.w H s.heap p (.fK 0 j) from I.aj p _ hp)
 refine call_list_range (n:=j.toNat) (I.ok.hd hc) e (small_one (by omega) (by omega) (by omega) (by omega)) (by rw[rangeSize_one];split<;>omega) (by omega) fun h' tk acc c' hk hS mZ=> ?_
 have r2:=Ug mZ
 have hlen:(upTo j.toNat).length≤sizeLine:=by unfold upTo;rw[List.length_map,List.length_range,sizeLine_eq];omega
 exact⟨.ref s.heap.objs.size,_,I.laid (a:=s.heap.objs.size) (o:=.lst (upTo j.toNat)) hk (Nat.le_refl _) ⟨hlen,acc.toList,c',r2,by simpa using hS⟩,rfl,q _ I.fresh⟩
theorem UD:aY X (binaryOp .Add) (fun x y H Q=> ∃a b ys,x=.ref a∧y=.ref b∧af X.K H a []∧af X.K H b ys∧Q (.ref b) H):=by
 intro pins s σ H x y u v Q I rx ry h
 obtain⟨a,b,ys,rfl,rfl,ha,hb,q⟩:=h
 cases rx
 cases ry
 obtain⟨its,rv,pl,hz⟩:=I.tuple ha
 obtain⟨ir,dR,cE,aJ⟩:=I.tuple hb
 cases rv
 obtain⟨⟨cls,dd,data,sl⟩,ho,je,n,hd⟩:=id pl
 obtain⟨⟨yP,jj,data2,gJ⟩,gP,gm,n2,hd2⟩:=id cE
 simp only at je hd gm hd2
 subst je hd gm hd2
 exact concat_meets ⟨_,ho,rfl⟩ ⟨_,gP,rfl⟩ noFill_tuple_add seq_tuple_add PySem.F.slot_tuple_add PySem.F.entry_tuple_add (PySem.F.args_tuple_add_2 _ _)
   (tuple_addW0 a b #[] ir.toArray n n2 dd jj sl gJ rfl) ⟨ho,gP,⟨.ref b,H,I,rfl,q⟩⟩
end
theorem YC {K:PySem.W.Frag}{a:Addr}{xs:List V}{g:TG}{tt:TT}{ti:TC}{ys:List V}{σ:St}{H:Hp}{Q:List V→St→Hp→Prop}(Pv:Nat→List V→St→Hp→Prop) (h0:Pv 0 ys σ H)
  (hl:∀i ys σ H,i≤xs.length→Pv i ys σ H→af K H a xs)
  (hs:∀i x ys σ H,xs[i]? =some x→Pv i ys σ H→g x σ H fun aU H2=>tt aU H2 fun b H3=>if b=true then ti ys aU H3 (Pv (i+1)) else Pv (i+1) ys aU H3)
  (hd:∀ys σ H,Pv xs.length ys σ H→Q ys σ H):gH g tt ti (vj K a) ys σ H Q:=by
 refine⟨fun i m ys σ H=>m=xs.length - i∧i≤xs.length∧Pv i ys σ H,⟨xs.length,by simp,Nat.zero_le _,h0⟩,?_⟩
 rintro i m ys σ H ⟨rfl,hi,p⟩
 have q:=hl i ys σ H hi p
 by_cases ak:i<xs.length
 ·refine .inr ⟨⟨xs,xs[i],q,by simp[ak]⟩,Pv (i+1),fun bN ah H' p'=> ⟨xs.length - (i+1),by omega,rfl,ak,p'⟩,fun x H' y=> ?_⟩
  obtain⟨e,y⟩:=y
  subst e
  exact hs i x ys σ _ (y xs q) p
 ·have e:i=xs.length:=by omega
  subst e
  exact .inl ⟨⟨xs,q,Nat.le_refl _⟩,hd ys σ H p⟩
theorem Z1 {K:PySem.W.Frag}{a:Addr}{xs:List V}{g:TG}{tt:TT}{ti:TC}{ys:List V}{σ:St}{H:Hp}{Q:List V→St→Hp→Prop}(Pv:Nat→List V→St→Hp→Prop) (h0:Pv 0 ys σ H)
  (hl:∀i ys σ H,i≤xs.length→Pv i ys σ H→ag K H a xs)
  (hs:∀i x ys σ H,xs[i]? =some x→Pv i ys σ H→g x σ H fun aU H2=>tt aU H2 fun b H3=>if b=true then ti ys aU H3 (Pv (i+1)) else Pv (i+1) ys aU H3)
  (hd:∀ys σ H,Pv xs.length ys σ H→Q ys σ H):gH g tt ti (lF K a) ys σ H Q:=by
 refine⟨fun i m ys σ H=>m=xs.length - i∧i≤xs.length∧Pv i ys σ H,⟨xs.length,by simp,Nat.zero_le _,h0⟩,?_⟩
 rintro i m ys σ H ⟨rfl,hi,p⟩
 have q:=hl i ys σ H hi p
 by_cases ak:i<xs.length
 ·refine .inr ⟨⟨xs,xs[i],q,by simp[ak]⟩,Pv (i+1),fun bN ah H' p'=> ⟨xs.length - (i+1),by omega,rfl,ak,p'⟩,fun x H' y=> ?_⟩
  obtain⟨e,y⟩:=y
  subst e
  exact hs i x ys σ _ (y xs q) p
 ·have e:i=xs.length:=by omega
  subst e
  exact .inl ⟨⟨xs,q,Nat.le_refl _⟩,hd ys σ H p⟩
theorem Y2 {lo:Int}{n:Nat}{g:TG}{tt:TT}{ti:TC}{ys:List V}{σ:St}{H:Hp}{Q:List V→St→Hp→Prop}(Pv:Nat→List V→St→Hp→Prop) (h0:Pv 0 ys σ H)
  (hs:∀i ys σ H,i<n→Pv i ys σ H→g (.int (lo+i)) σ H fun aU H2=>tt aU H2 fun b H3=>if b=true then ti ys aU H3 (Pv (i+1)) else Pv (i+1) ys aU H3)
  (hd:∀ys σ H,Pv n ys σ H→Q ys σ H):gH g tt ti (ko lo n) ys σ H Q:=by
 refine⟨fun i m ys σ H=>m=n - i∧i≤n∧Pv i ys σ H,⟨n,by simp,Nat.zero_le _,h0⟩,?_⟩
 rintro i m ys σ H ⟨rfl,hi,p⟩
 by_cases ak:i<n
 ·refine .inr ⟨ak,Pv (i+1),fun bN ah H' p'=> ⟨n - (i+1),by omega,rfl,ak,p'⟩,fun x H' y=> ?_⟩
  obtain⟨e,y⟩:=y
  subst e y
  exact hs i ys σ _ ak p
 ·have e:i=n:=by omega
  subst e
  exact .inl ⟨Nat.le_refl _,hd ys σ H p⟩
theorem pb {X:Cx}{N':List Str}{scope:Scope}{C:Addr}{s:Shared}{H:Hp}{fp:List Addr}(i:Nat) {x:Str}{pos:Pos}(hN:N'.Nodup:=by decide+kernel) (hi:N'[i]? =some x:=by rfl) (hx:(relabel scope X.env).names.lookup x=some .local:=by rfl):
  PG (bj X N' scope C s H fp) (.Name x pos) (bR i):=Zz (X:=bj X N' scope C s H fp) hN hi (.inl hx) (.inr hx)
def Def (P:Program) (w:World) (K:PySem.W.Frag) (mg:Str→Option Value) (base:Heap) (k:Nat) (x:Str) (ps:List Str) (sp:Sp):Prop:=
 ∃f fd,aG P w K mg base aH k f fd ps sp∧mg x=some (.ref f)∧PySem.W.keepIn K (.ref f)=true∧Binds K fd ps []
section
variable {X:Cx}{k:Nat}{x:Str}{ps:List Str}{sp:Sp}{e:Expr}{es:List Expr}{t:TA}{p pos:Pos}
theorem Zf (d:Def X.prog X.w X.K X.mg X.base k x ps sp) (hr:cK k X.A) (ha:PA X (e::es) t) (hg:Gl X x:=by rfl) (iC:(x==("__debug__" :Str))=false:=by decide)
  (he:starEach (e::es) X.env=(false,eval e X.env)::starEach es X.env:=by rfl) (fv:(backTo pos (starEach es X.env)).any (·.1)=false:=by rfl):
  PE X (.Call (.Name x p) (e::es) [] pos) (vK sp [] E0 t):=by
 obtain⟨f,fd,F,hm,hk,hb⟩:=d
 exact IF F hr hg hm hk hb .nil Cc ha iC he fv
end
def jn (K:PySem.W.Frag) (H:Hp) (x:V):Prop:=∃T,dI K H x (.type T)
def whole:V→Bool
 | .int _=>true
 |_=>false
def bq:V→Int→Int→Bool
 | .int i,a,b=>decide (a≤i)&&decide (i≤b)
 |_,_,_=>false
def qu:Option HO→Option (List V)
 |some (.tup xs)=>some xs
 |_=>none
def bS (H:Hp):V→Option (List V)
 | .ref a=>qu (H a)
 |_=>none
theorem Z8 {H:Hp}{a:Addr} :bS H (.ref a)=qu (H a):=rfl
theorem Zt {H:Hp}{a:Addr}{xs:List V}(h:H a=some (.tup xs)):bS H (.ref a)=some xs:=by rw[Z8,h];rfl
theorem Lh {o:Option HO}{xs:List V}(h:qu o=some xs):o=some (.tup xs):=by
 cases o with
 |none=>cases h
 |some o=>cases o<;>first |(cases h;rfl) |cases h
theorem Zp {H:Hp}{x:V}{xs:List V}(h:bS H x=some xs):∃a,x=.ref a∧H a=some (.tup xs):=by
 cases x with
 |ref a=>exact⟨a,rfl,Lh h⟩
 |_=>cases h
theorem ae.bS {H H':Hp}(s:ae H H') {x:V}{xs:List V}(h:L2.bS H x=some xs):L2.bS H' x=some xs:=by
 obtain⟨a,rfl,q⟩:=Zp h
 exact Zt (s _ _ q)
theorem ae.wB {K:PySem.W.Frag}{H H':Hp}(s:ae H H') {x:V}(h:jn K H x):jn K H' x:=by
 obtain⟨T,t⟩:=h
 cases t with
 |ab=>exact⟨_,.ab⟩
 |bl y=>exact⟨_,.bl y⟩
 |int i=>exact⟨_,.int i⟩
 |str y=>exact⟨_,.str y⟩
 |iF y=>exact⟨_,.iF y⟩
 |lst e=>exact⟨_,.lst (s _ _ e)⟩
 |cQ e=>exact⟨_,.cQ (s _ _ e)⟩
 |tup e=>exact⟨_,.tup (s _ _ e)⟩
 |dK e=>exact⟨_,.dK (s _ _ e)⟩
 |dT e=>exact⟨_,.dT (s _ _ e)⟩
def sV:V→Bool
 | .int _=>true
 | .bl _=>true
 |_=>false
def xl:V→Bool
 | .bl _=>true
 |_=>false
theorem GN {K:PySem.W.Frag}{H:Hp}{x:V}{T:String}(t:dI K H x (.type T)):PySem.W.kitOne K (.type T) (.type "int")=some (sV x):=by cases t<;>rfl
theorem HH {K:PySem.W.Frag}{H:Hp}{x:V}{T:String}(t:dI K H x (.type T)):PySem.W.kitOne K (.type T) (.type "bool")=some (xl x):=by cases t<;>rfl
theorem IU {K:PySem.W.Frag}{H:Hp}{x:V}{T:String}(t:dI K H x (.type T)):PySem.W.kitOne K (.type T) (.type "tuple")=some (bS H x).isSome:=by
 cases t with
 |tup e=>rw[Zt e];rfl
 |lst e=>rw[Z8,e];rfl
 |cQ e=>rw[Z8,e];rfl
 |dK e=>rw[Z8,e];rfl
 |dT e=>rw[Z8,e];rfl
 |_=>rfl
theorem UN (x:V):whole x=(sV x&& !xl x):=by cases x<;>rfl
def bz (p:Addr) (H H':Hp):Prop:=∀b o,H b=some o→b≠p→H' b=some o
theorem bz.trans {p:Addr}{H H1 H2:Hp}(a:bz p H H1) (b:bz p H1 H2):bz p H H2:=fun c o h n=>b c o (a c o h n) n
theorem ae.x {p:Addr}{H H1:Hp}(a:ae H H1):bz p H H1:=fun c o h _=>a c o h
theorem bz.upd {p:Addr}{H:Hp}{o:HO} :bz p H (L2.upd H p o):=fun b u h n=>by rw[Zh n];exact h
theorem G6 {X:Cx}(hu:X.A.units<cLine):aY X (compareOp .Eq) (fun x y H Q=> ∃(a b:Addr) (xs:List V),x=.ref a∧y=.ref b∧ag X.K H a xs∧ag X.K H b []∧Q (.bl xs.isEmpty) H):=by
 intro pins s σ H x y u v Q I rx ry h
 obtain⟨a,b,xs,rfl,rfl,ha,hb,q⟩:=h
 cases rx
 cases ry
 obtain⟨its,rv,pl,hz⟩:=I.list ha
 obtain⟨ir,dR,cE,aJ⟩:=I.list hb
 cases dR
 cases rv with
 |nil=>exact SeqAt.eq_listAt (e:=fun _=>true) pl.isList cE.isList rfl hu (fun j h1 h2=>absurd h2 (by simp)) ⟨.bl true,H,I,rfl,q⟩
 |cons r t=>exact SeqAt.eq_list_lengthsAt pl.isList cE.isList (by simp) hu ⟨.bl false,H,I,rfl,q⟩
theorem G8 {X:Cx}(hu:X.A.units<cLine):aY X (compareOp .NotEq) (fun x y H Q=> ∃(a b:Addr) (xs:List V),x=.ref a∧y=.ref b∧ag X.K H a xs∧ag X.K H b []∧Q (.bl (!xs.isEmpty)) H):=by
 intro pins s σ H x y u v Q I rx ry h
 obtain⟨a,b,xs,rfl,rfl,ha,hb,q⟩:=h
 cases rx
 cases ry
 obtain⟨its,rv,pl,hz⟩:=I.list ha
 obtain⟨ir,dR,cE,aJ⟩:=I.list hb
 cases dR
 cases rv with
 |nil=>exact SeqAt.RcNeAt.lists (e:=fun _=>true) pl.isList cE.isList rfl hu (fun j h1 h2=>absurd h2 (by simp)) _ _ _ _ ⟨.bl false,H,I,rfl,q⟩
 |cons r t=>exact SeqAt.RcNeAt.lists_lengths pl.isList cE.isList (by simp) hu _ _ _ _ ⟨.bl true,H,I,rfl,q⟩
section
variable {prog:Program}{w:World}{A:Around}{E:Value→Shared→Prop}{s:Shared}
theorem K8 {j t:Addr}{i:Nat}{its:Array Value}{x:Value}{Q:Value→Shared→Prop}(h1:s.heap.IsTupleIter j t i) (h2:s.heap.IsTuple t its) (hx:its[i]? =some x)
  (k:∀h',h'.IsTupleIter j t (i+1)→Heap.SameBut j s.heap h'→Q x {s with heap:=h'}):wpAny (model prog w) A (Builtin.SmallTypes.nextOf (.ref j)) Q E s:=by
 obtain⟨o,eo,co,dO⟩:=id h1
 obtain⟨ot,et,_,nt,dt⟩:=h2
 unfold Builtin.SmallTypes.nextOf
 refine wpAny_bind (wpAny_callSpecial?_slot (name:=Str.ofString "__next__") h1.typeIs F.slot_tuple_iterator_next (wpAny_call_entry F.slot_tuple_iterator_next h1.typeIs F.entry_tuple_iterator_next ?_ (F.args_tuple_iterator_next_1 _)))
 show wpAny _ _ (field (.ref j) 0 >>=_) _ _ s
 refine wpAny_bind (wpAny_field eo dO (x:=.ref t) rfl ?_)
 show wpAny _ _ (if (Value.ref t==Value.none)=true then _ else _) _ _ s
 rw[if_neg (show ¬((Value.ref t==Value.none)=true) from Bool.false_ne_true)]
 show wpAny _ _ (field (.ref j) 1 >>=_) _ _ s
 refine wpAny_bind (wpAny_field eo dO (x:=.int i 0) rfl ?_)
 show wpAny _ _ (seqItems? (.ref t) >>=_) _ _ s
 refine wpAny_bind (wpAny_seqItems et dt ?_)
 simp only[Int.toNat_natCast,hx]
 refine wpAny_bind (wpAny_setField eo dO (by simp) (wpAny_pure ⟨x,rfl,wpAny_pure (k _ ⟨_,Heap.get?_update_self _ eo (Obj.isFreed_of_fields (Obj.data_mapFields dO _)),(Obj.cls_mapFields ..).trans co,?_⟩ (Heap.SameBut.update ..))⟩))
 rw[Obj.data_mapFields dO]
 simp[rawInt]
theorem Kb {j t:Addr}{i:Nat}{its:Array Value}{Q:Value→Shared→Prop}(hh:A.handled=none) (h1:s.heap.IsTupleIter j t i) (h2:s.heap.IsTuple t its) (hx:its[i]? =none)
  (k:∀h' e,Heap.ExtBut j s.heap h'→(∃o,h'.get? e=some o∧o.cls=.type "StopIteration")→E (.ref e) {s with heap:=h'}):wpAny (model prog w) A (Builtin.SmallTypes.nextOf (.ref j)) Q E s:=by
 obtain⟨o,eo,co,dO⟩:=id h1
 obtain⟨ot,et,_,nt,dt⟩:=h2
 unfold Builtin.SmallTypes.nextOf
 refine wpAny_bind (wpAny_callSpecial?_slot (name:=Str.ofString "__next__") h1.typeIs F.slot_tuple_iterator_next (wpAny_call_entry F.slot_tuple_iterator_next h1.typeIs F.entry_tuple_iterator_next ?_ (F.args_tuple_iterator_next_1 _)))
 show wpAny _ _ (field (.ref j) 0 >>=_) _ _ s
 refine wpAny_bind (wpAny_field eo dO (x:=.ref t) rfl ?_)
 show wpAny _ _ (if (Value.ref t==Value.none)=true then _ else _) _ _ s
 rw[if_neg (show ¬((Value.ref t==Value.none)=true) from Bool.false_ne_true)]
 show wpAny _ _ (field (.ref j) 1 >>=_) _ _ s
 refine wpAny_bind (wpAny_field eo dO (x:=.int i 0) rfl ?_)
 show wpAny _ _ (seqItems? (.ref t) >>=_) _ _ s
 refine wpAny_bind (wpAny_seqItems et dt ?_)
 simp only[Int.toNat_natCast,hx]
 refine wpAny_bind (wpAny_rule (wpAny_bind (wpAny_setField eo dO (by simp) ?_)))
 show wpAny _ _ (newExc (.type "StopIteration") [] >>=_) _ _ _
 refine wpAny_bind ?_
 simp only[newExc,newTuple]
 refine wpAny_bind (wpAny_newObj_type ?_ (by size_fits))
 refine wpAny_bind (m:=firstArgMember _ _) (wpAny_of_eq (a:=Value.none) (by first |rfl |(simp only[firstArgMember];rfl)) (wpAny_newObj_type ?_ (by size_fits)))
 simp only[raiseNew]
 refine wpAny_bind (wpAny_handled ?_)
 first |rw[show A.in1.handled=none from hh] |rw[hh]
 exact wpAny_bind (wpAny_pure (wpAny_throw (k _ _ (((Heap.SameBut.update ..).extBut.push _).push _) ⟨_,Heap.get?_push_size _ rfl,rfl⟩)))
end
theorem yM {prog:Program}{w:World}{A:Around}(hh:A.handled=none) (j t:Addr) (cw:t≠j) (its:Array Value):
  Draws prog w A j [j,t] its.size (fun i v=>its[i]? =some v) (fun i h=>h.IsTupleIter j t i∧h.IsTuple t its) where
 live:=fun _ _ st=>let ⟨o,ho,_⟩:=st.1;⟨o,ho⟩
 frame:=fun _ _ _ st hk=> ⟨st.1.at fun o e=>hk j (by simp) o e,st.2.at fun o e=>hk t (by simp) o e⟩
 item:=fun i s Q E hi st hQ=>K8 st.1 st.2 (x:=its[i]) (by simp[hi]) fun h' a b=>hQ _ h' s.toks (by simp[hi]) ⟨a,st.2.extBut b.extBut cw⟩ b
 done:=fun s Q E st hE=>Kb hh st.1 st.2 (by simp) hE
section
variable {prog:Program}{w:World}{A:Around}{E:Value→Shared→Prop}{s:Shared}
theorem KJ (l:Addr) (its:Array Value) (n:Nat) (lC:Option Addr) (sl:Array (Option Value)):
  Meets (Builtin.«enumerate.__new__» ⟨[.type "enumerate",.ref l],[]⟩) (fun _ R s=>s.heap.get? l=some {cls:=.type "tuple",dict:=lC,data:=.seq its n,slots:=sl}∧
   R (.ok (.ret (.ref (s.heap.push {cls:=.type "tuple_iterator",data:=.fields #[.ref l,.int 0 0]}).objs.size)))
    {s with heap:=(s.heap.push {cls:=.type "tuple_iterator",data:=.fields #[.ref l,.int 0 0]}).push {cls:=.type "enumerate",data:=.fields #[.none,.bool false,.ref s.heap.objs.size,rawInt 0,.none,.none]} }):=
 .of_wp fun prog w A R s h=>by
  obtain⟨hp,g,d,tk,os⟩:=s
  obtain⟨hl,h⟩:=h
  have fV:=sub_enumerate
  have hL:Heap.IsTuple (Shared.heap ⟨hp,g,d,tk,os⟩) l its:=⟨_,hl,rfl,n,rfl⟩
  wp_walk using AutoSeq1.wpAny_loadPart' hl
  refine wpAny_stack_any fun st=>wpAny_pure ?_
  split
  ·rename_i c _ _ _ _ _
   cases (c==Value.type "enumerate")<;> (wp_walk using AutoSeq1.wpAny_loadPart' hl,wpAny_pyIter_tuple hL;exact⟨_,rfl,h⟩)
  ·wp_walk using AutoSeq1.wpAny_loadPart' hl,wpAny_pyIter_tuple hL
   exact⟨_,rfl,h⟩
theorem KZ {l:Addr}{its:Array Value}{Q:Value→Shared→Prop}(hL:s.heap.IsTuple l its)
  (h:∀h',IsEnum h' (s.heap.objs.size+1) s.heap.objs.size 0 .none→h'.IsTupleIter s.heap.objs.size l 0→(∀b o,s.heap.get? b=some o→h'.get? b=some o)→Q (.ref (s.heap.objs.size+1)) {s with heap:=h'}):
  wpAny (model prog w) A (call (.type "enumerate") [.ref l]) Q E s:=by
 obtain⟨⟨c,lC,dt,sl⟩,hl,hc,n,hd⟩:=hL
 replace hc:c=.type "tuple" :=hc
 replace hd:dt=.seq its n:=hd
 subst hc hd
 refine callType_new F.called_enumerate (by decide) (F.typeCall_enumerate_1 _) (F.newCall_enumerate_1 _) (fun obj=>F.args_object_init_2 obj _) F.entry_enumerate_new (KJ l its n lC sl) ⟨hl,?_⟩
 have hz:(s.heap.push {cls:=.type "tuple_iterator",data:=.fields #[.ref l,.int 0 0]}).objs.size=s.heap.objs.size+1:=Heap.size_push ..
 show _∧_
 rw[hz]
 have he:IsEnum ((s.heap.push {cls:=.type "tuple_iterator",data:=.fields #[.ref l,.int 0 0]}).push {cls:=.type "enumerate",data:=.fields #[.none,.bool false,.ref s.heap.objs.size,rawInt 0,.none,.none]}) (s.heap.objs.size+1) s.heap.objs.size 0 .none:=by
  have q:=Heap.get?_push_size (s.heap.push {cls:=.type "tuple_iterator",data:=.fields #[.ref l,.int 0 0]}) (o:= {cls:=.type "enumerate",data:=.fields #[.none,.bool false,.ref s.heap.objs.size,rawInt 0,.none,.none]}) rfl
  rw[hz]at q
  exact q
 exact⟨⟨_,he,rfl⟩,h _ he ⟨_,Heap.get?_push_of_some _ (Heap.get?_push_size _ rfl),rfl,rfl⟩ fun b o x=>Heap.get?_push_of_some _ (Heap.get?_push_of_some _ x)⟩
end
def vk (K:PySem.W.Frag) (t:Addr):It:=
 ⟨fun i H=> ∃xs x,af K H t xs∧xs[i]? =some x,fun i H x H'=> ∃(T:Addr) (y:V),x=.ref T∧H T=none∧H'=upd H T (.par [.int (i:Int),y])∧∀xs,af K H t xs→xs[i]? =some y,fun i H=> ∃xs,af K H t xs∧xs.length=i⟩
theorem Li {P:Program}{w:World}{K:PySem.W.Frag}{elts:List Expr}{kk:Nat}{pos:Pos}(t e j:Addr) (iB:e≠j) (mH:t≠e) (mG:t≠j):
  Turn P w K (.Tuple elts kk pos) (vk K t) [e,j] e (fun i h=> (∃old,IsEnum h e j i old)∧h.IsTupleIter j t i) where
 mem:=by simp
 obj:=fun i h st b hb=>by
  obtain⟨⟨old,he⟩,o,ho,hc,hd⟩:=st
  rcases List.mem_cons.mp hb with rfl |hb
  ·exact⟨_,he,fun v z=>by cases z⟩
  ·rw[List.mem_singleton.mp hb]
   exact⟨o,ho,fun v z=>by rw[hd]at z;cases z⟩
 keep:=fun i h h' st k=> ⟨let ⟨old,he⟩:=st.1;⟨old,k e (by simp) _ he⟩,st.2.at fun o q=>k j (by simp) o q⟩
 item:=by
  intro X hP hw hK hc i pins s σ H E I hf st hg
  subst hP hw hK
  obtain⟨xs,x,hq,hx⟩:=hg
  obtain⟨its,rv,p,hz⟩:=I.tuple hq
  obtain⟨u,hu,ru⟩:=rv.get hx
  have hl:=rv.length
  have jS:i<its.toArray.size:=by
   have:=(List.getElem?_eq_some_iff.mp hu).1
   simpa using this
  have W:=WalksT.enumerateD (prog:=X.prog) (w:=X.w) (A:=X.A) (yM (A:=X.A.in1) (show X.A.in1.handled=none from I.ok.hd hc) j t mG its.toArray) e iB (by simp[iB,mH.symm]) (by simp)
  have hT:s.heap.IsTuple t its.toArray:=p
  refine W.item i s _ _ jS ⟨st.1,st.2,hT⟩ fun T vals h' tk hP dP jW gb hk=> ⟨_,rfl,W.go elts kk pos i T _ _ _ gb fun bU cM dG=> ?_⟩
  obtain⟨hZ,x2,iw,rfl⟩:=hP
  have i6:its[i]? =some x2:=by simpa using iw
  rw[hu]at i6
  cases i6
  have gp:H T=none:=I.aj.fresh dP
  have both:∀b o,b∉[e,j]→s.heap.get? b=some o→bU.get? b=some o:=fun b o hb q=>dG b o hb (hk b o hb q)
  have iE:T∉[e,j]:=W.apart _ _ _ gb
  have jX:bU.IsTuple T #[.int i hZ,u]:=jW.at fun o q=>dG T o iE q
  have neT:∀b o,s.heap.get? b=some o→b≠T:=fun b o q=>Nat.ne_of_lt (Nat.lt_of_lt_of_le (Heap.lt_size q) dP)
  have cc:∀b o,H b=some o→b≠T:=fun b o q=>Zi q gp
  have bI:∀b o,H b=some o→b∉[e,j]:=fun b o q z=>by
   have:=(hf b z).1
   rw[this]at q;cases q
  refine⟨.ref T,upd H T (.par [.int (i:Int),x]),?_,rfl,⟨T,x,rfl,gp,rfl,fun ys hy=>by rw[I.nR hy hq];exact hx⟩,⟨cM.1,cM.2.1⟩,fun b hb=> ?_⟩
  ·refine(show Inv X pins σ (upd H T (.par [.int (i:Int),x])) {s with heap:=bU,toks:=tk} from ?_)
   refine I.call (g':=s.gens) (d':=s.drawn) (t':=tk) (h':=bU) (ch:=[e,j]) ⟨fun b o q _ _ hx=>both b o hx q,fun b o q _ _ hx=> ⟨o.slots,both b o hx q⟩,fun b o q n hx=>by rw[Zh (neT b o q)];exact n,fun b o q hx=> ⟨o,both b o hx q⟩,
    fun b ys q=>by rw[Zh (cc b _ q)];exact q,fun b o u q=>by rw[Zh (cc b _ q)];exact q,fun b ps q=> ⟨#[],by rw[Zh (cc b _ q),q];simp⟩⟩ (fun b v q=> ?_) I.bare fun b hb=> ?_
   ·by_cases hb:b=T
    ·subst hb
     rw[Zd]at q
     cases q
     exact⟨by show 2≤sizeLine;decide,[.int i hZ,u],.cons ⟨hZ,rfl⟩ (.cons ru .nil),jX⟩
    ·rw[Zh hb]at q
     refine(I.aj b v q).bL (fun c z bF q'=>both c z ?_ q') (fun c q'=>by rw[Zh (cc c _ q')];exact q') fun c ys q'=>by rw[Zh (cc c _ q')];exact q'
     rcases bF with z' |z'
     ·rw[z'];exact bI b v q
     ·exact bI c _ z'
   ·obtain⟨f0,f1,f2,f3,f4,f5⟩:=hf b hb
    exact⟨f3,f1,f4,f5⟩
  ·rw[Zh (fun z=>iE (by rw[←z];exact hb))]
   exact(hf b hb).1
 done:=by
  intro X hP hw hK hc i pins s σ H E I hf st hg
  subst hP hw hK
  obtain⟨xs,hq,hx⟩:=hg
  obtain⟨its,rv,p,hz⟩:=I.tuple hq
  have hl:=rv.length
  have W:=WalksT.enumerateD (prog:=X.prog) (w:=X.w) (A:=X.A) (yM (A:=X.A.in1) (show X.A.in1.handled=none from I.ok.hd hc) j t mG its.toArray) e iB (by simp[iB,mH.symm]) (by simp)
  have hn:i=its.toArray.size:=by rw[List.size_toArray];omega
  have hT:s.heap.IsTuple t its.toArray:=p
  rw[hn]at st
  refine W.done s _ _ ⟨st.1,st.2,hT⟩ fun h' tk hk=> ⟨rfl,?_⟩
  have bI:∀b o,H b=some o→b∉[e,j]:=fun b o q z=>by
   have:=(hf b z).1
   rw[this]at q;cases q
  refine I.call (g':=s.gens) (d':=s.drawn) (t':=tk) (h':=h') (ch:=[e,j]) ⟨fun b o q _ _ hx=>hk b o hx q,fun b o q _ _ hx=> ⟨o.slots,hk b o hx q⟩,fun b o q n hx=>n,fun b o q hx=> ⟨o,hk b o hx q⟩,fun b ys q=>q,fun b o u q=>q,fun b ps q=> ⟨#[],by rw[q];simp⟩⟩ (fun b v q=> ?_) I.bare fun b hb=> ?_
  ·refine(I.aj b v q).bL (fun c z bF q'=>hk c z ?_ q') (fun _ q'=>q') fun _ _ q'=>q'
   rcases bF with z' |z'
   ·rw[z'];exact bI b v q
   ·exact bI c _ z'
  ·obtain⟨f0,f1,f2,f3,f4,f5⟩:=hf b hb
   exact⟨f3,f1,f4,f5⟩
 self:=fun A i s Q E st h=>let ⟨old,he⟩:=st.1;wpAny_pyIter_enum he h
section
variable {X:Cx}{elts:List Expr}{kk:Nat}{tp:Pos}
def Dj (K:PySem.W.Frag) (ta:TA):TI:=fun σ H R=>ta σ H fun vs H1=> ∃t,vs=[.ref t]∧(∃xs,af K H1 t xs)∧R (vk K t) H1
theorem zD {a:Expr}{ta:TA}{p pos:Pos}(hg:Gl X "enumerate") (hm:X.mg "enumerate" =none) (ha:PA X [a] ta) (hs:starEach [a] X.env=[(false,eval a X.env)]:=by rfl):PI X (.Tuple elts kk tp) (.Call (.Name "enumerate" p) [a] [] pos) (Dj X.K ta):=by
 intro pins s σ H R I h
 refine Call_ (Z6 I hg hm boot_enumerate (PyProof.Rows.callWith_type1 (au (ha pos pins s σ H _ I h) fun us s1 ⟨vs,H1,I1,r1,q1⟩=> ?_) hs rfl))
 obtain⟨t,e,⟨xs,hq⟩,q⟩:=q1
 subst e
 obtain⟨u,rfl,ru⟩:=vals1 r1
 cases ru
 obtain⟨its,rv,pl,hz⟩:=I1.tuple hq
 have hT:s1.heap.IsTuple t its.toArray:=pl
 have ht:t<s1.heap.objs.size:=by obtain⟨o,ho,_⟩:=hT;exact Heap.lt_size ho
 refine KZ hT fun h' he hj hk=>wpAny_pyIter_enum he ?_
 have I2:Inv X pins σ H1 {s1 with heap:=h'} :=I1.kept (t':=s1.toks) hk
 refine⟨s1.heap.objs.size+1,[s1.heap.objs.size+1,s1.heap.objs.size],_,_,H1,rfl,I2,Li t _ _ (Nat.succ_ne_self _) (Nat.ne_of_lt (Nat.lt_succ_of_lt ht)) (Nat.ne_of_lt ht),⟨⟨_,he⟩,hj⟩,fun b hb=> ?_,q⟩
 have gn:s1.heap.objs.size≤b:=by
  rcases List.mem_cons.mp hb with z |z
  ·rw[z];exact Nat.le_succ _
  ·rw[List.mem_singleton.mp z];exact Nat.le_refl _
 exact I1.jf gn (I1.aj.fresh gn)
end
theorem WI {K:PySem.W.Frag}{a:Addr}{xs:List V}{g:TG}{tt:TT}{ti:TC}{ys:List V}{σ:St}{H:Hp}{Q:List V→St→Hp→Prop}(Pv:Nat→List V→St→Hp→Prop) (h0:Pv 0 ys σ H)
  (hl:∀i ys σ H,i≤xs.length→Pv i ys σ H→af K H a xs)
  (hs:∀i x T ys σ H,xs[i]? =some x→H T=none→Pv i ys σ H→g (.ref T) σ (upd H T (.par [.int (i:Int),x])) fun aU H2=>tt aU H2 fun b H3=>if b=true then ti ys aU H3 (Pv (i+1)) else Pv (i+1) ys aU H3)
  (hd:∀ys σ H,Pv xs.length ys σ H→Q ys σ H):gH g tt ti (vk K a) ys σ H Q:=by
 refine⟨fun i m ys σ H=>m=xs.length - i∧i≤xs.length∧Pv i ys σ H,⟨xs.length,by simp,Nat.zero_le _,h0⟩,?_⟩
 rintro i m ys σ H ⟨rfl,hi,p⟩
 have q:=hl i ys σ H hi p
 by_cases ak:i<xs.length
 ·refine .inr ⟨⟨xs,xs[i],q,by simp[ak]⟩,Pv (i+1),fun bN ah H' p'=> ⟨xs.length - (i+1),by omega,rfl,ak,p'⟩,fun x H' y=> ?_⟩
  obtain⟨T,z,e1,e2,e3,e4⟩:=y
  subst e1 e3
  exact hs i z T ys σ H (e4 xs q) e2 p
 ·have e:i=xs.length:=by omega
  subst e
  exact .inl ⟨⟨xs,q,rfl⟩,hd ys σ H p⟩
structure Fl (P:Program) (w:World) (outer:List Env) (H:Hp) (s:Shared) (e C:Addr) (H':Hp) (s':Shared):Prop where
 os:s'.os=s.os
 bare:AllBare s'.gens
 un:Un (eK outer) [] H H' s.heap s'.heap
 aj:bW P w H' s'.heap
 MF:∃B a0,Heap.FlyingW B outer e (.ref C) a0 s'.heap∧(∀b o,s.heap.get? b=some o→b∉eK outer→∃u,B.get? b=some u)∧∀b o,H' b=some o→∃u,B.get? b=some u
end L2
namespace L2
open PySem PySem.Spec PyProof.Rows PySem.Builtin PySem.Builtin.ObjectAttr PySem.Builtin.Getset_descriptor
structure MO (K:PySem.W.Frag) (C:Addr):Prop where
 ga:PySem.W.findIn K (.ref C) "__getattribute__" =some (some (.builtin "BaseException.__getattribute__"))
 hook:PySem.W.findIn K (.ref C) "__getattr__" =some none
 cl:PySem.W.findIn K (.ref C) "__class__" =some (some (.builtin "object.__class__"))
 ob:PySem.W.mroIn K C (.type "object")=some true
 bx:PySem.W.mroIn K C (.type "BaseException")=some true
 cls:(PySem.W.clsIn K C).isSome=true
end L2
namespace L2
open PySem PySem.Spec PyProof.Rows
abbrev Cx.xK (X:Cx) (e:Value):Cx:= {X with A:=X.A.mark (some e),calm:=false,xe:=fun _ _=>False}
structure MI (X:Cx) (c P:Addr):Prop where
 code:X.env.code=.ref c
 hd:PySem.W.CodeHd X.base c P
 bm:∃bm ob,X.mg "__builtins__" =some (.ref bm)∧bm≠builtinsNs∧X.base.get? bm=some ob∧ob.cls=.type "module" ∧ob.dict=some builtinsNs∧ob.data=.plain
structure MH (base:Heap) (scope:Scope) (cl:List (Str×Addr)) (x y:Str) (vx vy:V):Prop where
 kx:scope.names.lookup x=some .free
 ky:scope.names.lookup y=some .free
 only:∀z,scope.names.lookup z=some .cell∨scope.names.lookup z=some .free→z=x∨z=y
 ne:x≠y
 cx:∃c u,cl.lookup x=some c∧base.IsCell c (some u)∧RelV vx u
 cy:∃c u,cl.lookup y=some c∧base.IsCell c (some u)∧RelV vy u
 mem:∀z c,cl.lookup z=some c→z=x∨z=y
 inj:∀c,cl.lookup x=some c→cl.lookup y=some c→False
inductive Lit where
 |sc (v:V)
 |tup (xs:List V)
 |lst (xs:List V)
 |lC
theorem Ww (n l1 l2:Nat) (h1:l1<n) (h2:l2<n):ZipApart (n+4) (n+2) (n+3) n (n+1) l1 l2:=by
 constructor<;>intro z<;>refine absurd (show @Eq Nat _ _ from z) ?_<;>omega
end L2
namespace L2
open PySem PySem.Spec PyProof.Rows SeqAt
theorem JA {α β:Type}{F:α→β→Prop} :∀{iX:List α}{iW:List β}{i:Nat}{x:α},Paired F iX iW→iX[i]? =some x→∃y,iW[i]? =some y∧F x y
 |_,_,_,_,.nil,h=>by simp at h
 |_,_,0,_,.cons r _,h=>by simp at h;subst h;exact⟨_,rfl,r⟩
 |_,_,i+1,_,.cons _ t,h=>by
  obtain⟨y,e,q⟩:=JA t (i:=i) (by simpa using h)
  exact⟨y,by simpa using e,q⟩
section
variable {X:Cx}
theorem Y5:∀{us:List Value}{ns:List Int},IntsAre us ns→Vals (ns.map V.int) us
 |_,_,.nil=> .nil
 |_,_,.cons _ _ h=> .cons ⟨_,rfl⟩ (Y5 h)
def fz (i:Int) (n:Nat):List Int:=(List.range n).map fun(k:Nat)=>i+(k:Int)
theorem Yp {ns:List Int}{us:List Value}(r:Vals (ns.map V.int) us) (j:Nat) (h:j<us.length):∃t,us[j]=.int (ns.getD j 0) t:=by
 have hl:=r.length
 rw[List.length_map]at hl
 have hj:j<ns.length:=by omega
 obtain⟨u,hu,t,ru⟩:=r.get (i:=j) (x:=.int ns[j]) (by rw[List.getElem?_map,List.getElem?_eq_getElem hj];rfl)
 rw[List.getElem?_eq_getElem h]at hu
 cases hu
 exact⟨t,by rw[ru];simp[hj]⟩
theorem G7 (hu:X.A.units<cLine):aY X (compareOp .Eq) (fun x y H Q=> ∃(a b:Addr) (ns ms:List Int),x=.ref a∧y=.ref b∧ag X.K H a (ns.map V.int)∧ag X.K H b (ms.map V.int)∧Q (.bl (decide (ns=ms))) H):=by
 intro pins s σ H x y u v Q I rx ry h
 obtain⟨a,b,ns,ms,rfl,rfl,ha,hb,q⟩:=h
 cases rx
 cases ry
 obtain⟨us,r1,p1,_⟩:=I.list ha
 obtain⟨vs,r2,p2,_⟩:=I.list hb
 have l1:=r1.length
 have l2:=r2.length
 rw[List.length_map]at l1 l2
 by_cases hl:ns.length=ms.length
 ·refine eq_listAt (e:=fun j=>ns.getD j 0==ms.getD j 0) p1.isList p2.isList (by simp;omega) hu (fun j h1 h2=> ?_) ?_
  ·obtain⟨t1,e1⟩:=Yp r1 j (by simpa using h1)
   obtain⟨t2,e2⟩:=Yp r2 j (by simpa using h2)
   rw[show us.toArray[j]=us[j]'(by simpa using h1) by simp,show vs.toArray[j]=vs[j]'(by simpa using h2) by simp,e1,e2]
   exact SeqAt.EqAt.int_int _ _ _ _
  ·have e:(List.range us.toArray.size).all (fun j=>ns.getD j 0==ms.getD j 0)=decide (ns=ms):=by
    rw[Bool.eq_iff_iff,List.all_eq_true,decide_eq_true_eq]
    constructor
    ·intro h
     refine List.ext_getElem hl fun i h1 h2=> ?_
     have:=h i (by rw[List.mem_range,List.size_toArray];omega)
     simpa[h1,h2] using this
    ·rintro rfl j _
     simp
   rw[e]
   exact⟨.bl _,H,I,rfl,q⟩
 ·refine eq_list_lengthsAt p1.isList p2.isList (by simp;omega) hu ?_
  rw[decide_eq_false (fun z=>hl (by rw[z]))]at q
  exact⟨.bl false,H,I,rfl,q⟩
end
end L2
namespace L2
open PySem PySem.Spec PyProof.Rows
structure One (base:Heap) (scope:Scope) (cl:List (Str×Addr)) (x:Str) (vx:V):Prop where
 kx:scope.names.lookup x=some .free
 only:∀z,scope.names.lookup z=some .cell∨scope.names.lookup z=some .free→z=x
 cx:∃c u,cl.lookup x=some c∧base.IsCell c (some u)∧RelV vx u
 mem:∀z c,cl.lookup z=some c→z=x
structure Src (prog:Program) (w:World) (i l:Addr) (n:Nat) (f:Nat→Value) (S:Nat→Heap→Prop):Prop where
 here:∀k h,S k h→∃o,h.get? i=some o
 bL:∀k h h',S k h→(∀c,c=i∨c=l→∀o,h.get? c=some o→h'.get? c=some o)→S k h'
 item:∀(A:Around) k (s:Shared) (Q:Value→Shared→Prop) (E:Value→Shared→Prop),k<n→S k s.heap→(∀h',S (k+1) h'→Heap.SameBut i s.heap h'→Q (f k) {s with heap:=h'})→wpAny (model prog w) A (Builtin.SmallTypes.nextOf (.ref i)) Q E s
 stop:∀(A:Around) (s:Shared) (Q:Value→Shared→Prop) (E:Value→Shared→Prop),A.handled=none→S n s.heap→(∀h' e,Heap.ExtBut i s.heap h'→(∃o,h'.get? e=some o∧o.cls=.type "StopIteration")→E (.ref e) {s with heap:=h'})→wpAny (model prog w) A (Builtin.SmallTypes.nextOf (.ref i)) Q E s
theorem YK (prog:Program) (w:World) {i l:Addr}(its:Array Value) (cw:l≠i):Src prog w i l its.size (fun k=>its.getD k .none) (fun k h=>IsTupIter h i l k∧IsTup h l its) where
 here:=fun k h ⟨⟨o,ho,_⟩,_⟩=> ⟨o,ho⟩
 bL:=fun k h h' ⟨⟨o,ho,r⟩,⟨u,hu,r'⟩⟩ st=> ⟨⟨o,st i (.inl rfl) o ho,r⟩,⟨u,st l (.inr rfl) u hu,r'⟩⟩
 item:=fun A k s Q E hk ⟨hi,ht⟩ q=>by
  obtain⟨oi,gi,ci,di⟩:=id hi
  obtain⟨ot,gt,ct,nt,dt⟩:=id ht
  have hx:its[k]? =some (its.getD k .none):=by simp[hk]
  unfold Builtin.SmallTypes.nextOf
  refine wpAny_bind (wpAny_callSpecial?_slot (name:=Str.ofString "__next__") hi.typeIs slot_tupleiter_next (wpAny_call_entry slot_tupleiter_next hi.typeIs entry_tupleiter_next ?_ (args_tupleiter_next _)))
  refine(show wpAny _ _ (field (.ref i) 0 >>=_) _ _ s from wpAny_bind (wpAny_field gi di (x:=.ref l) rfl ?_))
  refine(show wpAny _ _ (if (Value.ref l==Value.none)=true then _ else _) _ _ s from ?_)
  rw[if_neg (by exact Bool.false_ne_true)]
  refine(show wpAny _ _ (field (.ref i) 1 >>=_) _ _ s from wpAny_bind (wpAny_field gi di (x:=.int k 0) rfl ?_))
  refine(show wpAny _ _ (seqItems? (.ref l) >>=_) _ _ s from wpAny_bind (wpAny_seqItems gt dt ?_))
  simp only[Int.toNat_natCast,hx]
  refine wpAny_bind (wpAny_setField gi di (by simp) (wpAny_pure ⟨_,rfl,wpAny_pure (q _ ⟨⟨_,Heap.get?_update_self _ gi (Obj.isFreed_of_fields (Obj.data_mapFields di _)),(Obj.cls_mapFields ..).trans ci,?_⟩,?_⟩ (Heap.SameBut.update ..))⟩))
  ·rw[Obj.data_mapFields di];simp[rawInt]
  ·exact⟨ot,(Heap.SameBut.update ..).extBut _ _ cw gt,ct,nt,dt⟩
 stop:=fun A s Q E hh ⟨hi,ht⟩ q=>by
  obtain⟨oi,gi,ci,di⟩:=id hi
  obtain⟨ot,gt,ct,nt,dt⟩:=id ht
  have hx:its[its.size]? =none:=by simp
  unfold Builtin.SmallTypes.nextOf
  refine wpAny_bind (wpAny_callSpecial?_slot (name:=Str.ofString "__next__") hi.typeIs slot_tupleiter_next (wpAny_call_entry slot_tupleiter_next hi.typeIs entry_tupleiter_next ?_ (args_tupleiter_next _)))
  refine(show wpAny _ _ (field (.ref i) 0 >>=_) _ _ s from wpAny_bind (wpAny_field gi di (x:=.ref l) rfl ?_))
  refine(show wpAny _ _ (if (Value.ref l==Value.none)=true then _ else _) _ _ s from ?_)
  rw[if_neg (by exact Bool.false_ne_true)]
  refine(show wpAny _ _ (field (.ref i) 1 >>=_) _ _ s from wpAny_bind (wpAny_field gi di (x:=.int its.size 0) rfl ?_))
  refine(show wpAny _ _ (seqItems? (.ref l) >>=_) _ _ s from wpAny_bind (wpAny_seqItems gt dt ?_))
  simp only[Int.toNat_natCast,hx]
  refine wpAny_bind (wpAny_rule (wpAny_bind (wpAny_setField gi di (by simp) ?_)))
  refine(show wpAny _ _ (newExc (.type "StopIteration") [] >>=_) _ _ _ from wpAny_bind ?_)
  simp only[newExc,newTuple]
  refine wpAny_bind (wpAny_newObj_type ?_ (by size_fits))
  refine wpAny_bind (m:=firstArgMember _ _) (wpAny_of_eq (a:=Value.none) (by first |rfl |(simp only[firstArgMember];rfl)) ?_)
  refine wpAny_newObj_type ?_ (by size_fits)
  simp only[raiseNew]
  refine wpAny_bind (wpAny_handled ?_)
  first |rw[show A.in1.handled=none from hh] |rw[hh]
  refine wpAny_bind (wpAny_pure (wpAny_throw ?_))
  exact q _ _ (((Heap.SameBut.update ..).extBut.push _).push _) ⟨_,Heap.get?_push_size _ rfl,rfl⟩
section
variable {prog:Program}{w:World}{A:Around}{E:Value→Shared→Prop}{s:Shared}{z TI TO i1 i2 l1 l2:Addr}{n k:Nat}{f g:Nat→Value}{S1 S2:Nat→Heap→Prop}
theorem Iv {a b:Value}{Q:Value→Shared→Prop}(U1:Src prog w i1 l1 n f S1) (U2:Src prog w i2 l2 n g S2) (D:ZipApart z TI TO i1 i2 l1 l2) (hk:k<n) (hz:IsZip s.heap z TI TO .none) (hI:IsPair s.heap TI (.ref i1) (.ref i2)) (hO:IsPair s.heap TO a b) (h1:S1 k s.heap) (h2:S2 k s.heap)
    (q:∀h',IsZip h' z TI TO (rawInt s.heap.objs.size)→IsPair h' TO (f k) (g k)→S1 (k+1) h'→S2 (k+1) h'→IsPair h' s.heap.objs.size (f k) (g k)→h'.objs.size=s.heap.objs.size+1→
      (∀c o,c≠z→c≠TO→c≠i1→c≠i2→s.heap.get? c=some o→h'.get? c=some o)→Q (.ref s.heap.objs.size) {s with heap:=h'}):
    wpAny (model prog w) A (Builtin.«zip.__next__» ⟨[.ref z],[]⟩) (fun fin s'=> ∃v,fin=.done (.ret v)∧Q v s') E s:=by
  refine(show wpAny _ _ (field (.ref z) 2 >>=_) _ _ _ from wpAny_bind (wpAny_field hz rfl (x:=.bool false) rfl ?_))
  refine(show wpAny _ _ (field (.ref z) 3 >>=_) _ _ _ from wpAny_bind (wpAny_field hz rfl (x:=.ref TI) rfl (wpAny_bind (wpAny_seqItems hI rfl ?_))))
  refine(show wpAny _ _ (Builtin.SmallTypes.ownedTupleIsFree (.ref z) >>=_) _ _ _ from wpAny_bind ?_)
  unfold Builtin.SmallTypes.ownedTupleIsFree
  refine wpAny_bind (wpAny_field hz rfl (x:=.none) rfl (wpAny_pure ?_))
  simp only[if_true]
  refine wpAny_bind (wpAny_rule (wpAny_bind (wpAny_field hz rfl (x:=.ref TO) rfl (wpAny_bind (wpAny_setField_rec hz (by simp) fun m1 jr e1=> ?_)))))
  replace jr:IsZip m1 z TI TO .ellipsis:=jr
  have b1:=e1.extBut
  refine wpAny_bind ?_
  simp only[List.zipIdx_cons,List.zipIdx_nil,List.forIn_cons,List.forIn_nil]
  refine wpAny_bind (wpAny_bind (wpAny_onRaise ?_))
  have av:S1 k m1:=U1.bL _ _ _ h1 fun c hc o ho=>by rcases hc with rfl |rfl<;>first |exact b1 _ _ D.i1z ho |exact b1 _ _ D.l1z ho
  refine(show wpAny _ _ (Builtin.SmallTypes.nextOf (.ref i1) >>=_) _ _ _ from wpAny_bind (U1.item _ k _ _ _ hk av fun m2 ai e2=>wpAny_pure ?_))
  have b2:=e2.extBut
  have o2:IsPair m2 TO a b:=b2 _ _ D.TOi1 (b1 _ _ D.TOz hO)
  refine wpAny_bind (wpAny_seqItems o2 rfl (wpAny_bind (wpAny_updateSeq_pair o2 fun m3 o3 e3=> ?_)))
  replace o3:IsPair m3 TO (f k) b:=o3
  have b3:=e3.extBut
  refine wpAny_bind (wpAny_letGo (wpAny_pure (wpAny_bind (wpAny_bind (wpAny_onRaise ?_)))))
  have w3:S2 k m3:=U2.bL _ _ _ h2 fun c hc o ho=>by
    rcases hc with rfl |rfl
    · exact b3 _ _ D.TOi2.symm (b2 _ _ D.i12.symm (b1 _ _ D.i2z ho))
    · exact b3 _ _ D.l2TO (b2 _ _ D.l2i1 (b1 _ _ D.l2z ho))
  refine(show wpAny _ _ (Builtin.SmallTypes.nextOf (.ref i2) >>=_) _ _ _ from wpAny_bind (U2.item _ k _ _ _ hk w3 fun m4 w4 e4=>wpAny_pure ?_))
  have b4:=e4.extBut
  have o4:IsPair m4 TO (f k) b:=b4 _ _ D.TOi2 o3
  refine wpAny_bind (wpAny_seqItems o4 rfl (wpAny_bind (wpAny_updateSeq_pair o4 fun m5 o5 e5=> ?_)))
  replace o5:IsPair m5 TO (f k) (g k):=o5
  have b5:=e5.extBut
  refine wpAny_bind (wpAny_letGo (wpAny_pure (wpAny_pure (wpAny_bind (wpAny_seqItems o5 rfl (wpAny_bind (wpAny_newTuple ?_)))))))
  have sz:m5.objs.size=s.heap.objs.size:=by rw[e5.1,e4.1,e3.1,e2.1,e1.1]
  have z5:IsZip m5 z TI TO .ellipsis:=b5 _ _ D.TOz.symm (b4 _ _ D.i2z.symm (b3 _ _ D.TOz.symm (b2 _ _ D.i1z.symm jr)))
  have kp:∀c o,c≠z→c≠TO→c≠i1→c≠i2→s.heap.get? c=some o→m5.get? c=some o:=fun c o c1 c2 c3 c4 e=>b5 _ _ c2 (b4 _ _ c4 (b3 _ _ c2 (b2 _ _ c3 (b1 _ _ c1 e))))
  have da:S1 (k+1) m5:=U1.bL _ _ _ ai fun c hc o ho=>by
    rcases hc with rfl |rfl
    · exact b5 _ _ D.TOi1.symm (b4 _ _ D.i12 (b3 _ _ D.TOi1.symm ho))
    · exact b5 _ _ D.l1TO (b4 _ _ D.l1i2 (b3 _ _ D.l1TO ho))
  have w5:S2 (k+1) m5:=U2.bL _ _ _ w4 fun c hc o ho=>by rcases hc with rfl |rfl<;>first |exact b5 _ _ D.TOi2.symm ho |exact b5 _ _ D.l2TO ho
  have vD:z<m5.objs.size:=Heap.lt_size z5
  refine(show wpAny _ _ (Builtin.SmallTypes.ownedTupleHandOut (.ref z) (.ref m5.objs.size) >>=_) _ _ _ from wpAny_bind ?_)
  unfold Builtin.SmallTypes.ownedTupleHandOut
  have z6:IsZip (m5.push {cls:=.type "tuple",data:=.seq #[f k,g k]}) z TI TO .ellipsis:=Heap.get?_push_of_some _ z5
  refine wpAny_bind (wpAny_setField_rec z6 (by simp) fun m7 z7 e7=> ?_)
  replace z7:IsZip m7 z TI TO (rawInt m5.objs.size):=z7
  refine wpAny_setField_rec z7 (by simp) fun m8 z8 e8=> ?_
  replace z8:IsZip m8 z TI TO (rawInt m5.objs.size):=z8
  have up:∀c o,c≠z→m5.get? c=some o→m8.get? c=some o:=fun c o c1 e=>e8.extBut _ _ c1 (e7.extBut _ _ c1 (Heap.get?_push_of_some _ e))
  have t8:IsPair m8 m5.objs.size (f k) (g k):=e8.extBut _ _ (Nat.ne_of_gt vD) (e7.extBut _ _ (Nat.ne_of_gt vD) (Heap.get?_push_size _ rfl))
  have s8:m8.objs.size=m5.objs.size+1:=by rw[e8.1,e7.1,Heap.size_push]
  rw[sz]at z8 t8 s8
  refine wpAny_pure ⟨_,rfl,?_⟩
  show Q (.ref m5.objs.size) _
  rw[sz]
  refine q m8 z8 (up _ _ D.TOz o5) (U1.bL _ _ _ da fun c hc o ho=> ?_) (U2.bL _ _ _ w5 fun c hc o ho=> ?_) t8 s8 fun c o c1 c2 c3 c4 e=>up c o c1 (kp c o c1 c2 c3 c4 e)
  · rcases hc with rfl |rfl<;>first |exact up _ _ D.i1z ho |exact up _ _ D.l1z ho
  · rcases hc with rfl |rfl<;>first |exact up _ _ D.i2z ho |exact up _ _ D.l2z ho
theorem GF {a b:Value}{Q:PySem.Fin→Shared→Prop}(hh:A.handled=none) (U1:Src prog w i1 l1 n f S1) (D:ZipApart z TI TO i1 i2 l1 l2) (hz:IsZip s.heap z TI TO .none) (hI:IsPair s.heap TI (.ref i1) (.ref i2)) (hO:IsPair s.heap TO a b) (h1:S1 n s.heap)
  (q:∀h' e,(∀c o,c≠z→c≠TO→c≠i1→c≠i2→s.heap.get? c=some o→h'.get? c=some o)→(∃o,h'.get? e=some o∧o.cls=.type "StopIteration")→E (.ref e) {s with heap:=h'}):
  wpAny (model prog w) A (Builtin.«zip.__next__» ⟨[.ref z],[]⟩) Q E s:=by
 refine(show wpAny _ _ (field (.ref z) 2 >>=_) _ _ _ from wpAny_bind (wpAny_field hz rfl (x:=.bool false) rfl ?_))
 refine(show wpAny _ _ (field (.ref z) 3 >>=_) _ _ _ from wpAny_bind (wpAny_field hz rfl (x:=.ref TI) rfl (wpAny_bind (wpAny_seqItems hI rfl ?_))))
 refine(show wpAny _ _ (Builtin.SmallTypes.ownedTupleIsFree (.ref z) >>=_) _ _ _ from wpAny_bind ?_)
 unfold Builtin.SmallTypes.ownedTupleIsFree
 refine wpAny_bind (wpAny_field hz rfl (x:=.none) rfl (wpAny_pure ?_))
 simp only[if_true]
 refine wpAny_bind (wpAny_rule (wpAny_bind (wpAny_field hz rfl (x:=.ref TO) rfl (wpAny_bind (wpAny_setField_rec hz (by simp) fun m1 jr e1=> ?_)))))
 replace jr:IsZip m1 z TI TO .ellipsis:=jr
 have b1:=e1.extBut
 refine wpAny_bind ?_
 simp only[List.zipIdx_cons,List.zipIdx_nil,List.forIn_cons,List.forIn_nil]
 refine wpAny_bind (wpAny_bind (wpAny_onRaise ?_))
 have av:S1 n m1:=U1.bL _ _ _ h1 fun c hc o ho=>by rcases hc with rfl |rfl<;>first |exact b1 _ _ D.i1z ho |exact b1 _ _ D.l1z ho
 refine(show wpAny _ _ (Builtin.SmallTypes.nextOf (.ref i1) >>=_) _ _ _ from wpAny_bind (U1.stop _ _ _ _ hh av fun m2 e e2 he=> ?_))
 obtain⟨oe,ge,ce⟩:=he
 have z2:IsZip m2 z TI TO .ellipsis:=e2 _ _ D.i1z.symm jr
 have Cz:e≠z:=fun y=>by subst y;rw[z2]at ge;cases ge;simp at ce
 refine wpAny_setField_rec z2 (by simp) fun m3 _ e3=>q m3 e (fun c o c1 _ c3 _ x=>e3.extBut _ _ c1 (e2 _ _ c3 (b1 _ _ c1 x))) ⟨oe,e3.extBut _ _ Cz ge,ce⟩
end
section
variable {prog:Program}{w:World}{A:Around}{z TI TO i1 i2 l1 l2:Addr}{n:Nat}{f g:Nat→Value}{S1 S2:Nat→Heap→Prop}
theorem Uq (hh:A.handled=none) (U1:Src prog w i1 l1 n f S1) (U2:Src prog w i2 l2 n g S2) (D:ZipApart z TI TO i1 i2 l1 l2):
  WalksT prog w A z [z,TI,TO,i1,i2,l1,l2] [z,TO,i1,i2] n (fun k vals=>vals= #[f k,g k])
   (fun k h=>IsZip h z TI TO .none∧IsPair h TI (.ref i1) (.ref i2)∧(∃a b,IsPair h TO a b)∧S1 k h∧S2 k h)
   (fun k T h=>IsZip h z TI TO (rawInt T)∧IsPair h TI (.ref i1) (.ref i2)∧(∃a b,IsPair h TO a b)∧S1 (k+1) h∧S2 (k+1) h∧T∉[z,TO,i1,i2]) where
 sub:=fun c hc=>by
  simp only[List.mem_cons,List.not_mem_nil,or_false]at hc ⊢
  rcases hc with rfl |rfl |rfl |rfl<;>simp
 frame:=fun k h h' ⟨a1,a2,⟨a,b,a3⟩,a4,a5⟩ kp=> ⟨kp z (by simp) _ a1,kp TI (by simp) _ a2,⟨a,b,kp TO (by simp) _ a3⟩,U1.bL _ _ _ a4 fun c hc o=>kp c (by rcases hc with rfl |rfl<;>simp) o,U2.bL _ _ _ a5 fun c hc o=>kp c (by rcases hc with rfl |rfl<;>simp) o⟩
 item:=fun k s Q E hk ⟨a1,a2,⟨a,b,a3⟩,a4,a5⟩ q=>by
  have ty:s.TypeIs (.ref z) "zip" :=⟨_,a1,rfl⟩
  have ne:∀{c o},s.heap.get? c=some o→s.heap.objs.size≠c:=fun e=>Nat.ne_of_gt (Heap.lt_size e)
  obtain⟨o1,g1⟩:=U1.here _ _ a4
  obtain⟨o2,g2⟩:=U2.here _ _ a5
  unfold pyNext
  refine wpAny_bind (wpAny_attempt (wpAny_callSpecial?_slot (name:=Str.ofString "__next__") ty F.slot_zip_next (wpAny_call_entry F.slot_zip_next ty F.entry_zip_next (Iv U1 U2 D hk a1 a2 a3 a4 a5 fun h' c1 c2 c3 c4 c5 c6 c7=>wpAny_pure ?_) (F.args_zip_next_1 _))))
  refine q s.heap.objs.size #[f k,g k] h' s.toks rfl (Nat.le_refl _) ⟨_,c5,rfl,_,rfl⟩ ⟨c1,c7 _ _ D.TIz D.TITO D.TIi1 D.TIi2 a2,⟨_,_,c2⟩,c3,c4,fun m=> ?_⟩ fun c o hc e=>c7 c o (fun x=>hc (by simp[x])) (fun x=>hc (by simp[x])) (fun x=>hc (by simp[x])) (fun x=>hc (by simp[x])) e
  simp only[List.mem_cons,List.not_mem_nil,or_false]at m
  rcases m with m |m |m |m
  ·exact ne a1 m
  ·exact ne a3 m
  ·exact ne g1 m
  ·exact ne g2 m
 go:=fun elts kk pos k T s Q E ⟨a1,a2,⟨a,b,a3⟩,a4,a5,_⟩ q=>wpAny_letOwnedTupleGo_zip a1 fun h' z' s'=>by
  have ex:=s'.extBut
  refine q h' ⟨z',ex _ _ D.TIz a2,⟨a,b,ex _ _ D.TOz a3⟩,U1.bL _ _ _ a4 fun c hc o ho=> ?_,U2.bL _ _ _ a5 fun c hc o ho=> ?_⟩ fun c o hc e=>ex _ _ (fun x=>hc (by simp[x])) e
  ·rcases hc with rfl |rfl<;>first |exact ex _ _ D.i1z ho |exact ex _ _ D.l1z ho
  ·rcases hc with rfl |rfl<;>first |exact ex _ _ D.i2z ho |exact ex _ _ D.l2z ho
 apart:=fun k T h ⟨_,_,_,_,_,t⟩=>t
 done:=fun s Q E ⟨a1,a2,⟨a,b,a3⟩,a4,a5⟩ q=>by
  have ty:s.TypeIs (.ref z) "zip" :=⟨_,a1,rfl⟩
  unfold pyNext
  refine wpAny_bind (wpAny_attempt (wpAny_callSpecial?_slot (name:=Str.ofString "__next__") ty F.slot_zip_next (wpAny_call_entry F.slot_zip_next ty F.entry_zip_next (GF hh U1 D a1 a2 a3 a4 fun h' e kp he=> ?_) (F.args_zip_next_1 _))))
  obtain⟨o,ho,hc⟩:=he
  refine wpAny_bind (wpAny_isInstance (T:= "StopIteration") (b:=true) ⟨o,ho,hc⟩ isSubtype_stop (wpAny_pure (q _ s.toks fun c o hc e=> ?_)))
  exact kp c o (fun x=>hc (by simp[x])) (fun x=>hc (by simp[x])) (fun x=>hc (by simp[x])) (fun x=>hc (by simp[x])) e
 self:=fun k s Q E st q=>wpAny_pyIter_zip st.1 q
end
abbrev nQ (h:Heap) (l1:Addr):Heap:=h.push {cls:=.type "tuple_iterator",data:=.fields #[.ref l1,.int 0 0]}
abbrev nP (h:Heap) (l1 l2:Addr):Heap:=(nQ h l1).push {cls:=.type "tuple_iterator",data:=.fields #[.ref l2,.int 0 0]}
abbrev nO (h:Heap) (l1 l2:Addr):Heap:=(nP h l1 l2).push {cls:=.type "tuple",data:=.seq #[.ref h.objs.size,.ref (nQ h l1).objs.size]}
abbrev nN (h:Heap) (l1 l2:Addr):Heap:=(nO h l1 l2).push {cls:=.type "tuple",data:=.seq #[.none,.none]}
abbrev kr (h:Heap) (l1 l2:Addr):Heap:=(nN h l1 l2).push {cls:=.type "zip",data:=.fields #[.none,.bool false,.bool false,.ref (nP h l1 l2).objs.size,.ref (nO h l1 l2).objs.size]}
theorem K4 {h:Heap}{l:Addr}{xs:Array Value}(t:IsTup h l xs) (o:Obj):IsTup (h.push o) l xs:=let ⟨u,hu,r⟩:=t;⟨u,Heap.get?_push_of_some _ hu,r⟩
theorem GG (l1 l2:Addr) (xs ys:Array Value):Meets (Builtin.«zip.__new__» ⟨[.type "zip",.ref l1,.ref l2],[]⟩) (fun _ R s=>IsTup s.heap l1 xs∧IsTup s.heap l2 ys∧R (.ok (.ret (.ref (nN s.heap l1 l2).objs.size))) {s with heap:=kr s.heap l1 l2}):=
 .of_wp fun prog w A R s h=>by
  obtain⟨hp,gg,d,tk,os⟩:=s
  obtain⟨t1,t2,h⟩:=h
  have fV:=sub_zip
  have T1:IsTup (Shared.heap ⟨hp,gg,d,tk,os⟩) l1 xs:=t1
  have T2:IsTup (Shared.heap ⟨hp.push {cls:=.type "tuple_iterator",data:=.fields #[.ref l1,.int 0 0]},gg,d,tk,os⟩) l2 ys:=K4 t2 _
  wp_walk using iter_tuple T1,iter_tuple T2
  exact⟨_,rfl,h⟩
theorem GH {prog:Program}{w:World}{A:Around}{E:Value→Shared→Prop}{s:Shared}{l1 l2:Addr}{xs ys:Array Value}{Q:Value→Shared→Prop}(t1:IsTup s.heap l1 xs) (t2:IsTup s.heap l2 ys)
    (q:∀h',IsZip h' (s.heap.objs.size+4) (s.heap.objs.size+2) (s.heap.objs.size+3) .none→IsPair h' (s.heap.objs.size+2) (.ref s.heap.objs.size) (.ref (s.heap.objs.size+1))→IsPair h' (s.heap.objs.size+3) .none .none→
      IsTupIter h' s.heap.objs.size l1 0→IsTupIter h' (s.heap.objs.size+1) l2 0→(∀c o,s.heap.get? c=some o→h'.get? c=some o)→Q (.ref (s.heap.objs.size+4)) {s with heap:=h'}):
    wpAny (model prog w) A (call (.type "zip") [.ref l1,.ref l2]) Q E s:=by
  refine callType_new F.called_zip (by decide) (F.typeCall_zip_2 _ _) (F.newCall_zip_2 _ _) (fun obj=>F.args_object_init_3 obj _ _) F.entry_zip_new (GG l1 l2 xs ys) ⟨t1,t2,?_⟩
  have y1:(nQ s.heap l1).objs.size=s.heap.objs.size+1:=Heap.size_push ..
  have y2:(nP s.heap l1 l2).objs.size=s.heap.objs.size+2:=by rw[Heap.size_push,y1]
  have y3:(nO s.heap l1 l2).objs.size=s.heap.objs.size+3:=by rw[Heap.size_push,y2]
  have y4:(nN s.heap l1 l2).objs.size=s.heap.objs.size+4:=by rw[Heap.size_push,y3]
  have p:∀{h:Heap}{c:Addr}{o u:Obj},h.get? c=some o→(h.push u).get? c=some o:=fun e=>Heap.get?_push_of_some _ e
  have x5:(kr s.heap l1 l2).get? (nN s.heap l1 l2).objs.size=some _:=Heap.get?_push_size _ rfl
  have x4:(kr s.heap l1 l2).get? (nO s.heap l1 l2).objs.size=some _:=p (Heap.get?_push_size _ rfl)
  have x3:(kr s.heap l1 l2).get? (nP s.heap l1 l2).objs.size=some _:=p (p (Heap.get?_push_size _ rfl))
  have x2:(kr s.heap l1 l2).get? (nQ s.heap l1).objs.size=some _:=p (p (p (Heap.get?_push_size _ rfl)))
  have x1:(kr s.heap l1 l2).get? s.heap.objs.size=some _:=p (p (p (p (Heap.get?_push_size _ rfl))))
  show _∧_
  rw[y2,y3,y4]at x5
  rw[y1,y2]at x3
  rw[y3]at x4
  rw[y1]at x2
  rw[y4]
  exact⟨⟨_,x5,rfl⟩,q _ x5 x3 x4 ⟨_,x1,rfl,rfl⟩ ⟨_,x2,rfl,rfl⟩ fun c o x=>p (p (p (p (p x))))⟩
def vh (K:PySem.W.Frag) (l1 l2:Addr):It:=
 ⟨fun i H=> ∃xs ys x y,af K H l1 xs∧af K H l2 ys∧xs.length=ys.length∧xs[i]? =some x∧ys[i]? =some y,
  fun i H v H'=> ∃(T:Addr) (x y:V),v=.ref T∧H T=none∧H'=upd H T (.par [x,y])∧∀xs ys,af K H l1 xs→af K H l2 ys→xs[i]? =some x∧ys[i]? =some y,
  fun i H=> ∃xs ys,af K H l1 xs∧af K H l2 ys∧xs.length=i∧ys.length=i⟩
theorem Ll {P:Program}{w:World}{K:PySem.W.Frag}{elts:List Expr}{kk:Nat}{pos:Pos}(z TI TO i1 i2 l1 l2:Addr) (D:ZipApart z TI TO i1 i2 l1 l2):
  Turn P w K (.Tuple elts kk pos) (vh K l1 l2) [z,TI,TO,i1,i2] z (fun i h=>IsZip h z TI TO .none∧IsPair h TI (.ref i1) (.ref i2)∧(∃a b,IsPair h TO a b)∧IsTupIter h i1 l1 i∧IsTupIter h i2 l2 i) where
 mem:=by simp
 obj:=fun i h st b hb=>by
  obtain⟨a1,a2,⟨u,v,a3⟩,⟨o4,h4,_,d4⟩,⟨o5,h5,_,d5⟩⟩:=st
  simp only[List.mem_cons,List.not_mem_nil,or_false]at hb
  rcases hb with rfl |rfl |rfl |rfl |rfl
  ·exact⟨_,a1,fun v z=>by cases z⟩
  ·exact⟨_,a2,fun v z=>by cases z⟩
  ·exact⟨_,a3,fun v z=>by cases z⟩
  ·exact⟨_,h4,fun v z=>by rw[d4]at z;cases z⟩
  ·exact⟨_,h5,fun v z=>by rw[d5]at z;cases z⟩
 keep:=fun i h h' st k=>by
  obtain⟨a1,a2,⟨u,v,a3⟩,a4,a5⟩:=st
  exact⟨k z (by simp) _ a1,k TI (by simp) _ a2,⟨u,v,k TO (by simp) _ a3⟩,(let ⟨o,ho,r⟩:=a4;⟨o,k i1 (by simp) o ho,r⟩),let ⟨o,ho,r⟩:=a5;⟨o,k i2 (by simp) o ho,r⟩⟩
 item:=by
  intro X hP hw hK hc i pins s σ H E I hf st hg
  subst hP hw hK
  obtain⟨xs,ys,x,y,dW,bD,MB,hx,hy⟩:=hg
  obtain⟨dC,gK,de,bC⟩:=I.tuple dW
  obtain⟨dU,dR,cE,aJ⟩:=I.tuple bD
  obtain⟨u,hu,ru⟩:=gK.get hx
  obtain⟨v,hv,rv⟩:=dR.get hy
  have tD:dU.toArray.size=dC.toArray.size:=by
   have e1:=gK.length
   have e2:=dR.length
   simp only[List.size_toArray]
   omega
  have jS:i<dC.toArray.size:=by
   have e1:=(List.getElem?_eq_some_iff.mp hu).1
   simp only[List.size_toArray]
   omega
  have U2:=YK X.prog X.w dU.toArray D.l2i2
  rw[tD]at U2
  have W:=Uq (A:=X.A) (I.ok.hd hc) (YK X.prog X.w dC.toArray D.l1i1) U2 D
  obtain⟨a1,a2,a3,a4,a5⟩:=st
  refine W.item i s _ _ jS ⟨a1,a2,a3,⟨a4,de⟩,⟨a5,cE⟩⟩ fun T vals h' tk hP dP jW gb hk=> ⟨_,rfl,W.go elts kk pos i T _ _ _ gb fun bU cM dG=> ?_⟩
  have iw:dC.toArray.getD i .none=u:=by simp[List.getD_eq_getElem?_getD,hu]
  have aW:dU.toArray.getD i .none=v:=by simp[List.getD_eq_getElem?_getD,hv]
  rw[iw,aW]at hP
  subst hP
  have gp:H T=none:=I.aj.fresh dP
  have both:∀b o,b∉[z,TO,i1,i2]→s.heap.get? b=some o→bU.get? b=some o:=fun b o hb q=>dG b o hb (hk b o hb q)
  have sub:∀b,b∉[z,TI,TO,i1,i2]→b∉[z,TO,i1,i2]:=fun b hb hm=>hb (by
   simp only[List.mem_cons,List.not_mem_nil,or_false]at hm ⊢
   rcases hm with h |h |h |h
   ·exact .inl h
   ·exact .inr (.inr (.inl h))
   ·exact .inr (.inr (.inr (.inl h)))
   ·exact .inr (.inr (.inr (.inr h))))
  have iE:T∉[z,TO,i1,i2]:=W.apart _ _ _ gb
  have jX:bU.IsTuple T #[u,v]:=jW.at fun o q=>dG T o iE q
  have neT:∀b o,s.heap.get? b=some o→b≠T:=fun b o q=>Nat.ne_of_lt (Nat.lt_of_lt_of_le (Heap.lt_size q) dP)
  have cc:∀b o,H b=some o→b≠T:=fun b o q=>Zi q gp
  have bI:∀b o,H b=some o→b∉[z,TI,TO,i1,i2]:=fun b o q hm=>by
   have:=(hf b hm).1
   rw[this]at q;cases q
  refine⟨.ref T,upd H T (.par [x,y]),?_,rfl,⟨T,x,y,rfl,gp,rfl,fun as bs ha hb=>by rw[I.nR ha dW,I.nR hb bD];exact⟨hx,hy⟩⟩,⟨cM.1,cM.2.1,cM.2.2.1,cM.2.2.2.1.1,cM.2.2.2.2.1⟩,fun b hb=> ?_⟩
  ·refine(show Inv X pins σ (upd H T (.par [x,y])) {s with heap:=bU,toks:=tk} from ?_)
   refine I.call (g':=s.gens) (d':=s.drawn) (t':=tk) (h':=bU) (ch:=[z,TI,TO,i1,i2]) ⟨fun b o q _ _ hx=>both b o (sub b hx) q,fun b o q _ _ hx=> ⟨o.slots,both b o (sub b hx) q⟩,fun b o q n hx=>by rw[Zh (neT b o q)];exact n,fun b o q hx=> ⟨o,both b o (sub b hx) q⟩,
    fun b ys q=>by rw[Zh (cc b _ q)];exact q,fun b o u q=>by rw[Zh (cc b _ q)];exact q,fun b ps q=> ⟨#[],by rw[Zh (cc b _ q),q];simp⟩⟩ (fun b o q=> ?_) I.bare fun b hb=> ?_
   ·by_cases hb:b=T
    ·subst hb
     rw[Zd]at q
     cases q
     exact⟨by show 2≤sizeLine;decide,[u,v],.cons ru (.cons rv .nil),jX⟩
    ·rw[Zh hb]at q
     refine(I.aj b o q).bL (fun c ob bF q'=>both c ob ?_ q') (fun c q'=>by rw[Zh (cc c _ q')];exact q') fun c ys q'=>by rw[Zh (cc c _ q')];exact q'
     rcases bF with z' |z'
     ·rw[z'];exact sub _ (bI b o q)
     ·exact sub _ (bI c _ z')
   ·obtain⟨f0,f1,f2,f3,f4,f5⟩:=hf b hb
    exact⟨f3,f1,f4,f5⟩
  ·have cw:b≠T:=by
    obtain⟨f0,_⟩:=hf b hb
    have:∃o,s.heap.get? b=some o:=by
     obtain⟨u',v',uV⟩:=a3
     obtain⟨o4,h4,_⟩:=a4
     obtain⟨o5,h5,_⟩:=a5
     simp only[List.mem_cons,List.not_mem_nil,or_false]at hb
     rcases hb with rfl |rfl |rfl |rfl |rfl
     ·exact⟨_,a1⟩
     ·exact⟨_,a2⟩
     ·exact⟨_,uV⟩
     ·exact⟨_,h4⟩
     ·exact⟨_,h5⟩
    obtain⟨o,ho⟩:=this
    exact neT b o ho
   rw[Zh cw]
   exact(hf b hb).1
 done:=by
  intro X hP hw hK hc i pins s σ H E I hf st hg
  subst hP hw hK
  obtain⟨xs,ys,dW,bD,hx,hy⟩:=hg
  obtain⟨dC,gK,de,bC⟩:=I.tuple dW
  obtain⟨dU,dR,cE,aJ⟩:=I.tuple bD
  have e1:=gK.length
  have e2:=dR.length
  have tD:dU.toArray.size=dC.toArray.size:=by simp only[List.size_toArray];omega
  have U2:=YK X.prog X.w dU.toArray D.l2i2
  rw[tD]at U2
  have W:=Uq (A:=X.A) (I.ok.hd hc) (YK X.prog X.w dC.toArray D.l1i1) U2 D
  have hn:i=dC.toArray.size:=by simp only[List.size_toArray];omega
  obtain⟨a1,a2,a3,a4,a5⟩:=st
  rw[hn]at a4 a5
  have sub:∀b,b∉[z,TI,TO,i1,i2]→b∉[z,TO,i1,i2]:=fun b hb hm=>hb (by
   simp only[List.mem_cons,List.not_mem_nil,or_false]at hm ⊢
   rcases hm with h |h |h |h
   ·exact .inl h
   ·exact .inr (.inr (.inl h))
   ·exact .inr (.inr (.inr (.inl h)))
   ·exact .inr (.inr (.inr (.inr h))))
  refine W.done s _ _ ⟨a1,a2,a3,⟨a4,de⟩,⟨a5,cE⟩⟩ fun h' tk hk=> ⟨rfl,?_⟩
  have bI:∀b o,H b=some o→b∉[z,TI,TO,i1,i2]:=fun b o q hm=>by
   have:=(hf b hm).1
   rw[this]at q;cases q
  refine I.call (g':=s.gens) (d':=s.drawn) (t':=tk) (h':=h') (ch:=[z,TI,TO,i1,i2]) ⟨fun b o q _ _ hx=>hk b o (sub b hx) q,fun b o q _ _ hx=> ⟨o.slots,hk b o (sub b hx) q⟩,fun b o q n hx=>n,fun b o q hx=> ⟨o,hk b o (sub b hx) q⟩,fun b ys q=>q,fun b o u q=>q,fun b ps q=> ⟨#[],by rw[q];simp⟩⟩ (fun b o q=> ?_) I.bare fun b hb=> ?_
  ·refine(I.aj b o q).bL (fun c ob bF q'=>hk c ob ?_ q') (fun _ q'=>q') fun _ _ q'=>q'
   rcases bF with z' |z'
   ·rw[z'];exact sub _ (bI b o q)
   ·exact sub _ (bI c _ z')
  ·obtain⟨f0,f1,f2,f3,f4,f5⟩:=hf b hb
   exact⟨f3,f1,f4,f5⟩
 self:=fun A i s Q E st h=>wpAny_pyIter_zip st.1 h
section
variable {X:Cx}{elts:List Expr}{kk:Nat}{tp:Pos}
def De (K:PySem.W.Frag) (ta:TA):TI:=fun σ H R=>ta σ H fun vs H1=> ∃l1 l2,vs=[.ref l1,.ref l2]∧(∃xs ys,af K H1 l1 xs∧af K H1 l2 ys)∧R (vh K l1 l2) H1
theorem II {a b:Expr}{ta:TA}{p pos:Pos}(hg:Gl X "zip") (hm:X.mg "zip" =none) (ha:PA X [a,b] ta) (hs:starEach [a,b] X.env=[(false,eval a X.env),(false,eval b X.env)]:=by rfl) (fW:starEach [b] X.env=[(false,eval b X.env)]:=by rfl):
  PI X (.Tuple elts kk tp) (.Call (.Name "zip" p) [a,b] [] pos) (De X.K ta):=by
 intro pins s σ H R I h
 refine Call_ (Z6 I hg hm PyProof.Rows.Boot.«zip» (PyProof.Rows.callWith_type1 (au (ha pos pins s σ H _ I h) fun us s1 ⟨vs,H1,I1,r1,q1⟩=> ?_) (by rw[hs,fW]) (by rw[fW];rfl)))
 obtain⟨l1,l2,e,⟨xs,ys,dW,bD⟩,q⟩:=q1
 subst e
 obtain⟨u,v,rfl,ru,rv⟩:=vals2 r1
 cases ru
 cases rv
 obtain⟨dC,gK,de,bC⟩:=I1.tuple dW
 obtain⟨dU,dR,cE,aJ⟩:=I1.tuple bD
 have t1:l1<s1.heap.objs.size:=by obtain⟨o,ho,_⟩:=id de;exact Heap.lt_size ho
 have t2:l2<s1.heap.objs.size:=by obtain⟨o,ho,_⟩:=id cE;exact Heap.lt_size ho
 have D:=Ww s1.heap.objs.size l1 l2 t1 t2
 refine GH de cE fun h' b1 b2 b3 b4 b5 hk=>wpAny_pyIter_zip b1 ?_
 have I2:Inv X pins σ H1 {s1 with heap:=h'} :=I1.kept (t':=s1.toks) hk
 refine⟨s1.heap.objs.size+4,[s1.heap.objs.size+4,s1.heap.objs.size+2,s1.heap.objs.size+3,s1.heap.objs.size,s1.heap.objs.size+1],_,_,H1,rfl,I2,
  Ll _ _ _ _ _ l1 l2 D,⟨b1,b2,⟨_,_,b3⟩,b4,b5⟩,fun b hb=> ?_,q⟩
 have gn:s1.heap.objs.size≤b:=by
  simp only[List.mem_cons,List.not_mem_nil,or_false]at hb
  rcases hb with z |z |z |z |z<;>rw[z]<;>first |exact Nat.le_refl _ |exact Nat.le_add_right _ _
 exact I1.jf gn (I1.aj.fresh gn)
end
theorem Ka {K:PySem.W.Frag}{l1 l2:Addr}{xs zs:List V}{g:TG}{tt:TT}{ti:TC}{ys:List V}{σ:St}{H:Hp}{Q:List V→St→Hp→Prop}(hlen:xs.length=zs.length) (Pv:Nat→List V→St→Hp→Prop) (h0:Pv 0 ys σ H)
  (hl:∀i ys σ H,i≤xs.length→Pv i ys σ H→af K H l1 xs∧af K H l2 zs)
  (hs:∀i x y T ys σ H,xs[i]? =some x→zs[i]? =some y→H T=none→Pv i ys σ H→g (.ref T) σ (upd H T (.par [x,y])) fun aU H2=>tt aU H2 fun b H3=>if b=true then ti ys aU H3 (Pv (i+1)) else Pv (i+1) ys aU H3)
  (hd:∀ys σ H,Pv xs.length ys σ H→Q ys σ H):gH g tt ti (vh K l1 l2) ys σ H Q:=by
 refine⟨fun i m ys σ H=>m=xs.length - i∧i≤xs.length∧Pv i ys σ H,⟨xs.length,by simp,Nat.zero_le _,h0⟩,?_⟩
 rintro i m ys σ H ⟨rfl,hi,p⟩
 obtain⟨q1,q2⟩:=hl i ys σ H hi p
 by_cases ak:i<xs.length
 ·refine .inr ⟨⟨xs,zs,xs[i],zs[i]'(by omega),q1,q2,hlen,by simp[ak],by simp[hlen▸ak]⟩,Pv (i+1),fun bN ah H' p'=> ⟨xs.length - (i+1),by omega,rfl,ak,p'⟩,fun x H' y=> ?_⟩
  obtain⟨T,a,b,e1,e2,e3,e4⟩:=y
  subst e1 e3
  obtain⟨f1,f2⟩:=e4 xs zs q1 q2
  exact hs i a b T ys σ H f1 f2 e2 p
 ·have e:i=xs.length:=by omega
  subst e
  exact .inl ⟨⟨xs,zs,q1,q2,rfl,hlen.symm⟩,hd ys σ H p⟩
end L2
namespace L2
open PySem PySem.Spec PyProof.Rows SeqAt
section
variable {X:Cx}
theorem IC (hu:X.A.units<cLine):aY X (compareOp .Eq) (fun x y H Q=> ∃(a b:Addr) (ns ms:List Int),x=.ref a∧y=.ref b∧af X.K H a (ns.map V.int)∧af X.K H b (ms.map V.int)∧Q (.bl (decide (ns=ms))) H):=by
 intro pins s σ H x y u v Q I rx ry h
 obtain⟨a,b,ns,ms,rfl,rfl,ha,hb,q⟩:=h
 cases rx
 cases ry
 obtain⟨us,r1,p1,_⟩:=I.tuple ha
 obtain⟨vs,r2,p2,_⟩:=I.tuple hb
 have l1:=r1.length
 have l2:=r2.length
 rw[List.length_map]at l1 l2
 refine eq_tupleAt (e:=fun j=>ns.getD j 0==ms.getD j 0) p1 p2 hu (fun j h1 h2=> ?_) ?_
 ·obtain⟨t1,e1⟩:=Yp r1 j (by simpa using h1)
  obtain⟨t2,e2⟩:=Yp r2 j (by simpa using h2)
  rw[show us.toArray[j]=us[j]'(by simpa using h1) by simp,show vs.toArray[j]=vs[j]'(by simpa using h2) by simp,e1,e2]
  exact SeqAt.EqAt.int_int _ _ _ _
 ·have e:((List.range (min us.toArray.size vs.toArray.size)).all (fun j=>ns.getD j 0==ms.getD j 0)&&us.toArray.size==vs.toArray.size)=decide (ns=ms):=by
   rw[Bool.eq_iff_iff,Bool.and_eq_true,List.all_eq_true,decide_eq_true_eq,beq_iff_eq,List.size_toArray,List.size_toArray]
   constructor
   ·rintro⟨h,hl⟩
    refine List.ext_getElem (by omega) fun i h1 h2=> ?_
    have:=h i (by rw[List.mem_range];omega)
    simpa[h1,h2] using this
   ·rintro rfl
    exact⟨fun j _=>by simp,by omega⟩
  rw[e]
  exact⟨.bl _,H,I,rfl,q⟩
end
structure Cells (base:Heap) (scope:Scope) (cl:List (Str×Addr)) (N:List Str) (vs:List V):Prop where
 len:vs.length=N.length
 only:∀z,scope.names.lookup z=some .cell∨scope.names.lookup z=some .free→z∈N
 at_:∀(i:Nat) x v,N[i]? =some x→vs[i]? =some v→scope.names.lookup x=some .free∧∃c u,cl.lookup x=some c∧base.IsCell c (some u)∧RelV v u
 mem:∀z c,cl.lookup z=some c→z∈N
 inj:∀x y c,cl.lookup x=some c→cl.lookup y=some c→x=y
end L2
namespace L2
open PySem PySem.Spec PyProof.Rows
section
variable {prog:Program}{w:World}{A:Around}{E:Value→Shared→Prop}{s:Shared}
theorem Jh {t sl:Addr}{items:Array Value}{vl vu:Value}{lo hi:Option Int}{Q:Value→Shared→Prop}(ht:IsTup s.heap t items) (hs:s.heap.IsSliceOf sl vl vu .none) (pl:IsPart vl lo) (pu:IsPart vu hi)
  (hw:HT.ax items.size 0 lo=0∧HT.ax items.size items.size hi=items.size) (h:Q (.ref t) s):wpAny (model prog w) A (getItem (.ref t) (.ref sl)) Q E s:=by
 obtain⟨os,jM,pN,mU⟩:=id hs
 have Ap:s.TypeIs (.ref sl) "slice" :=⟨os,jM,pN⟩
 unfold getItem
 try with_reducible refine wpAny_holding ?_
 first |refine wpAny_bind (wpAny_pure ?_) |skip
 refine wpAny_bind (wpAny_sequenceKey ht.typeIs (by decide) (wpAny_bind (wpAny_callSpecial?_slot (name:=Str.ofString "__getitem__") ht.typeIs PyProof.Rows.slot_tuple_getitem (wpAny_call_entry PyProof.Rows.slot_tuple_getitem ht.typeIs entry_tuple_getitem ?_ (args_tuple_getitem _ _)))))
 refine(show wpAny _ _ (Builtin.Tuple.tupleItemsOf (.ref t) >>=_) _ _ s from wpAny_bind (tupleItemsOf_ ht (wpAny_bind (wpAny_typeOf Ap ?_))))
 rw[if_pos (by decide)]
 refine wpAny_bind (HT.vR hs pl pu ?_)
 rw[hw.1,hw.2]
 refine(show wpAny _ _ (if ((((0:Nat):Int)==0&&(1:Int)==1&&(items.size - 0)==items.size)=true) then _ else _) _ _ s from ?_)
 rw[if_pos (by simp)]
 unfold Builtin.Tuple.tupleIsExact
 refine wpAny_bind ?_
 wp_walk using wpAny_typeOf ht.typeIs
 exact⟨_,rfl,wpAny_pure h⟩
end
section
variable {X:Cx}
def BR (K:PySem.W.Frag):V→Option Int→Option Int→Hp→VK→Prop:=fun x lo hi H Q=> ∃a xs,x=.ref a∧H a=some (.tup xs)∧∀(c:Addr) H',ae H H'→H' c=some (.tup (ck xs lo hi))→Q (.ref c) H'
theorem JI:qd X (BR X.K):=by
 intro pins s σ H x v vl vu lo hi sl Q I rx hs pl pu h
 obtain⟨a,xs,rfl,ha,q⟩:=h
 have hx:af X.K H a xs:=af.of ha
 by_cases hw:HT.ax xs.length 0 lo=0∧HT.ax xs.length xs.length hi=xs.length
 ·cases rx
  obtain⟨its,r,ht,hz⟩:=I.tuple hx
  have hlen:its.toArray.size=xs.length:=by rw[List.size_toArray];exact r.length.symm
  refine⟨"tuple",_,PyProof.Rows.slot_tuple_getitem.lookup,ht.typeIs,?_⟩
  refine Jh ht hs pl pu (by rw[hlen];exact hw) ⟨.ref a,H,I,rfl,q a H (ae.refl _) ?_⟩
  rw[ha]
  unfold ck
  rw[hw.1,hw.2,List.drop_zero,Nat.sub_zero,List.take_length]
 ·exact Hm pins s σ H (.ref a) v vl vu lo hi sl Q I rx hs pl pu ⟨a,xs,rfl,hx,hw,fun p hp=>q p _ (fun b u hb=>by rw[Zh (Zi hb hp)];exact hb) Zd⟩
end
end L2
namespace PyProof.Rows.fb
open PySem
def ES:Bool→Keyed→Array Keyed→Nat→Nat→Nat→StateT SortSt Sem (Option Nat):=sortPriv%PySem.Builtin.gallop
def pZ (left:Bool) (key:Keyed) (arr:Array Keyed) (base:Nat) (i:Nat):StateT SortSt Sem (Option Bool):=
 elem' arr (base+i) >>=fun x=>if left=true then lt' x key else lt' key x >>=fun c=>pure (c.map fun z=> !z)
structure Ord (r:Keyed→Keyed→Bool):Prop where
 bG:∀x y,r x y=true→r y x=false
 cG:∀x y z,r y x=false→r z y=false→r z x=false
theorem Ord.iZ {r:Keyed→Keyed→Bool}(o:Ord r) (x:Keyed):r x x=false:=by
 cases h:r x x with
 |false=>rfl
 |true=>have:=o.bG x x h;rw[h]at this;cases this
section
variable {prog:Program}{w:World}{A:Around}{E:Value→Shared→Prop}{s:Shared}{κ:SortKind}{a₀:Array Keyed}{r:Keyed→Keyed→Bool}
def gC (prog:Program) (w:World) (A:Around) (E:Value→Shared→Prop) (s:Shared) (κ:SortKind) (a₀:Array Keyed) (r:Keyed→Keyed→Bool):Prop:=
 ∀(x y:Keyed) (st:SortSt) (Q:Option Bool→SortSt→Prop),x∈a₀.toList→y∈a₀.toList→kindOf st=κ→Q (some (r x y)) st→wpS (model prog w) A E s (lt' x y) Q st
theorem Zj {arr:Array Keyed}{i:Nat}{x:Keyed}{Q:Keyed→SortSt→Prop}{st:SortSt}(hx:arr[i]? =some x) (h:Q x st):wpS (model prog w) A E s (elem' arr i) Q st:=by
 rw[elem'_eq,hx]
 exact wpS_pure h
def bp (r:Keyed→Keyed→Bool) (left:Bool) (key x:Keyed):Bool:=if left=true then r x key else !r key x
theorem U4 {left:Bool}{key:Keyed}{arr:Array Keyed}{base i:Nat}{x:Keyed}{Q:Option Bool→SortSt→Prop}{st:SortSt}(hc:gC prog w A E s κ a₀ r) (hk:kindOf st=κ) (hx:arr[base+i]? =some x) (mx:x∈a₀.toList) (mk:key∈a₀.toList) (h:Q (some (bp r left key x)) st):
  wpS (model prog w) A E s (pZ left key arr base i) Q st:=by
 unfold pZ
 refine wpS_bind (Zj hx ?_)
 cases left with
 |true=>
  rw[if_pos rfl]
  exact hc _ _ _ _ mx mk hk h
 |false=>
  rw[if_neg Bool.false_ne_true]
  exact wpS_bind (hc _ _ _ _ mk mx hk (wpS_pure h))
theorem ZC {left:Bool}{key:Keyed}{arr:Array Keyed}{base n hint:Nat}{Q:Option Nat→SortSt→Prop}{st:SortSt}(hc:gC prog w A E s κ a₀ r) (hk:kindOf st=κ) (p:Nat→Bool)
  (hp:∀i,i<n→∃x,arr[base+i]? =some x∧x∈a₀.toList∧p i=bp r left key x) (mk:key∈a₀.toList) (mono:∀i j,i≤j→j<n→p j=true→p i=true) (hh:hint<n)
  (h:∀k,k≤n→(∀i,i<k→p i=true)→(∀i,k≤i→i<n→p i=false)→Q (some k) st):wpS (model prog w) A E s (ES left key arr base n hint) Q st:=by
 have iI:∀{i:Nat}{Q:Option Bool→SortSt→Prop},i<n→Q (some (p i)) st→wpS (model prog w) A E s (pZ left key arr base i) Q st:=fun {i Q} hi hq=>by
  obtain⟨x,e,m,ep⟩:=hp i hi
  exact U4 hc hk e m mk (by rw[←ep];exact hq)
 have down:∀i j,i≤j→j<n→p i=false→p j=false:=fun i j bJ hj hf=>by
  cases hh:p j with
  |false=>rfl
  |true=>rw[mono i j bJ hj hh]at hf;cases hf
 show wpS (model prog w) A E s (pZ left key arr base hint >>=_) _ _
 dsimp only
 refine wpS_bind (iI hh ?_)
 cases xF:p hint with
 |true=>
  dsimp only
  rw[if_pos rfl]
  refine wpS_bind (wpS_forRange (I:=fun x c aa=>aa=st∧∃cW cF,c=(none,cW,cF)∧hint+cW<n∧p (hint+cW)=true∧cW<cF∧x+1≤cF) ?A8 ?EX ⟨rfl,0,1,rfl,hh,xF,by omega,by omega⟩)
  case EX=>
   rintro c aa ⟨rfl,cW,cF,rfl,q1,q2,q3,q4⟩
   rw[Nat.max_eq_right (Nat.zero_le n)]at q4
   dsimp only
   refine wpS_bind (wpS_forRange (I:=fun x c ai=>ai=aa∧∃lo hi,c=(none,lo,hi)∧lo≤hi∧hi≤n∧(∀i,i<lo→p i=true)∧(∀i,hi≤i→i<n→p i=false)∧hi - lo≤n - x) ?_ ?_ ⟨rfl,_,_,rfl,(by omega),(by omega),(fun i hi=>mono i (hint+cW) (by omega) q1 q2),(fun i h1 h2=>by omega),by omega⟩)
   ·rintro x c ai _ hx ⟨rfl,lo,hi,rfl,h1,h2,h3,h4,h5⟩
    dsimp only
    by_cases bH:lo≥hi
    ·rw[if_pos bH]
     have e:lo=hi:=by omega
     subst e
     exact wpS_pure (wpS_pure (h lo h2 h3 h4))
    ·rw[if_neg bH]
     have hm:lo+(hi - lo)/2<hi:=by omega
     generalize em:lo+(hi - lo)/2=m at hm
     have f9:lo≤m:=by omega
     refine wpS_bind (iI (by omega) ?_)
     cases dD:p m with
     |true=>exact wpS_pure ⟨rfl,m+1,hi,rfl,by omega,h2,fun i aR=>mono i m (by omega) (by omega) dD,h4,by omega⟩
     |false=>exact wpS_pure ⟨rfl,lo,m,rfl,f9,by omega,h3,fun i h1 h2=>down m i h1 h2 dD,by omega⟩
   ·rintro c ai ⟨rfl,lo,hi,rfl,h1,h2,h3,h4,h5⟩
    rw[Nat.max_eq_right (Nat.zero_le n)]at h5
    have e:lo=hi:=by omega
    subst e
    exact wpS_pure (h lo h2 h3 h4)
  case A8=>
   rintro x c aa _ hx ⟨rfl,cW,cF,rfl,q1,q2,q3,q4⟩
   dsimp only
   by_cases bH:cF≥n - hint
   ·rw[if_pos bH]
    refine wpS_pure ?_
    dsimp only
    refine wpS_bind (wpS_forRange (I:=fun x c ai=>ai=aa∧∃lo hi,c=(none,lo,hi)∧lo≤hi∧hi≤n∧(∀i,i<lo→p i=true)∧(∀i,hi≤i→i<n→p i=false)∧hi - lo≤n - x) ?_ ?_ ⟨rfl,_,_,rfl,(by omega),(by omega),(fun i hi=>mono i (hint+cW) (by omega) q1 q2),(fun i h1 h2=>by omega),by omega⟩)
    ·rintro x c ai _ hx ⟨rfl,lo,hi,rfl,h1,h2,h3,h4,h5⟩
     dsimp only
     by_cases bH:lo≥hi
     ·rw[if_pos bH]
      have e:lo=hi:=by omega
      subst e
      exact wpS_pure (wpS_pure (h lo h2 h3 h4))
     ·rw[if_neg bH]
      have hm:lo+(hi - lo)/2<hi:=by omega
      generalize em:lo+(hi - lo)/2=m at hm
      have f9:lo≤m:=by omega
      refine wpS_bind (iI (by omega) ?_)
      cases dD:p m with
      |true=>exact wpS_pure ⟨rfl,m+1,hi,rfl,by omega,h2,fun i aR=>mono i m (by omega) (by omega) dD,h4,by omega⟩
      |false=>exact wpS_pure ⟨rfl,lo,m,rfl,f9,by omega,h3,fun i h1 h2=>down m i h1 h2 dD,by omega⟩
    ·rintro c ai ⟨rfl,lo,hi,rfl,h1,h2,h3,h4,h5⟩
     rw[Nat.max_eq_right (Nat.zero_le n)]at h5
     have e:lo=hi:=by omega
     subst e
     exact wpS_pure (h lo h2 h3 h4)
   ·rw[if_neg bH]
    refine wpS_bind (iI (by omega) ?_)
    cases mN:p (hint+cF) with
    |true=>exact wpS_pure ⟨rfl,cF,2*cF+1,rfl,by omega,mN,by omega,by omega⟩
    |false=>
     refine wpS_pure ?_
     dsimp only
     refine wpS_bind (wpS_forRange (I:=fun x c ai=>ai=aa∧∃lo hi,c=(none,lo,hi)∧lo≤hi∧hi≤n∧(∀i,i<lo→p i=true)∧(∀i,hi≤i→i<n→p i=false)∧hi - lo≤n - x) ?_ ?_ ⟨rfl,_,_,rfl,(by omega),(by omega),(fun i hi=>mono i (hint+cW) (by omega) q1 q2),(fun i h1 h2=>down (hint+cF) i (by omega) h2 mN),by omega⟩)
     ·rintro x c ai _ hx ⟨rfl,lo,hi,rfl,h1,h2,h3,h4,h5⟩
      dsimp only
      by_cases bH:lo≥hi
      ·rw[if_pos bH]
       have e:lo=hi:=by omega
       subst e
       exact wpS_pure (wpS_pure (h lo h2 h3 h4))
      ·rw[if_neg bH]
       have hm:lo+(hi - lo)/2<hi:=by omega
       generalize em:lo+(hi - lo)/2=m at hm
       have f9:lo≤m:=by omega
       refine wpS_bind (iI (by omega) ?_)
       cases dD:p m with
       |true=>exact wpS_pure ⟨rfl,m+1,hi,rfl,by omega,h2,fun i aR=>mono i m (by omega) (by omega) dD,h4,by omega⟩
       |false=>exact wpS_pure ⟨rfl,lo,m,rfl,f9,by omega,h3,fun i h1 h2=>down m i h1 h2 dD,by omega⟩
     ·rintro c ai ⟨rfl,lo,hi,rfl,h1,h2,h3,h4,h5⟩
      rw[Nat.max_eq_right (Nat.zero_le n)]at h5
      have e:lo=hi:=by omega
      subst e
      exact wpS_pure (h lo h2 h3 h4)
 |false=>
  dsimp only
  rw[if_neg Bool.false_ne_true]
  refine wpS_bind (wpS_forRange (I:=fun x c aa=>aa=st∧∃cW cF,c=(none,cW,cF)∧cW≤hint∧p (hint - cW)=false∧cW<cF∧x+1≤cF) ?A7 ?fin2 ⟨rfl,0,1,rfl,by omega,xF,by omega,by omega⟩)
  case fin2=>
   rintro c aa ⟨rfl,cW,cF,rfl,q1,q2,q3,q4⟩
   rw[Nat.max_eq_right (Nat.zero_le n)]at q4
   dsimp only
   refine wpS_bind (wpS_forRange (I:=fun x c ai=>ai=aa∧∃lo hi,c=(none,lo,hi)∧lo≤hi∧hi≤n∧(∀i,i<lo→p i=true)∧(∀i,hi≤i→i<n→p i=false)∧hi - lo≤n - x) ?_ ?_ ⟨rfl,_,_,rfl,(by omega),(by omega),(fun i hi=>by omega),(fun i h1 h2=>down (hint - cW) i (by omega) h2 q2),by omega⟩)
   ·rintro x c ai _ hx ⟨rfl,lo,hi,rfl,h1,h2,h3,h4,h5⟩
    dsimp only
    by_cases bH:lo≥hi
    ·rw[if_pos bH]
     have e:lo=hi:=by omega
     subst e
     exact wpS_pure (wpS_pure (h lo h2 h3 h4))
    ·rw[if_neg bH]
     have hm:lo+(hi - lo)/2<hi:=by omega
     generalize em:lo+(hi - lo)/2=m at hm
     have f9:lo≤m:=by omega
     refine wpS_bind (iI (by omega) ?_)
     cases dD:p m with
     |true=>exact wpS_pure ⟨rfl,m+1,hi,rfl,by omega,h2,fun i aR=>mono i m (by omega) (by omega) dD,h4,by omega⟩
     |false=>exact wpS_pure ⟨rfl,lo,m,rfl,f9,by omega,h3,fun i h1 h2=>down m i h1 h2 dD,by omega⟩
   ·rintro c ai ⟨rfl,lo,hi,rfl,h1,h2,h3,h4,h5⟩
    rw[Nat.max_eq_right (Nat.zero_le n)]at h5
    have e:lo=hi:=by omega
    subst e
    exact wpS_pure (h lo h2 h3 h4)
  case A7=>
   rintro x c aa _ hx ⟨rfl,cW,cF,rfl,q1,q2,q3,q4⟩
   dsimp only
   by_cases bH:cF≥hint+1
   ·rw[if_pos bH]
    refine wpS_pure ?_
    dsimp only
    refine wpS_bind (wpS_forRange (I:=fun x c ai=>ai=aa∧∃lo hi,c=(none,lo,hi)∧lo≤hi∧hi≤n∧(∀i,i<lo→p i=true)∧(∀i,hi≤i→i<n→p i=false)∧hi - lo≤n - x) ?_ ?_ ⟨rfl,_,_,rfl,(by omega),(by omega),(fun i hi=>by omega),(fun i h1 h2=>down (hint - cW) i (by omega) h2 q2),by omega⟩)
    ·rintro x c ai _ hx ⟨rfl,lo,hi,rfl,h1,h2,h3,h4,h5⟩
     dsimp only
     by_cases bH:lo≥hi
     ·rw[if_pos bH]
      have e:lo=hi:=by omega
      subst e
      exact wpS_pure (wpS_pure (h lo h2 h3 h4))
     ·rw[if_neg bH]
      have hm:lo+(hi - lo)/2<hi:=by omega
      generalize em:lo+(hi - lo)/2=m at hm
      have f9:lo≤m:=by omega
      refine wpS_bind (iI (by omega) ?_)
      cases dD:p m with
      |true=>exact wpS_pure ⟨rfl,m+1,hi,rfl,by omega,h2,fun i aR=>mono i m (by omega) (by omega) dD,h4,by omega⟩
      |false=>exact wpS_pure ⟨rfl,lo,m,rfl,f9,by omega,h3,fun i h1 h2=>down m i h1 h2 dD,by omega⟩
    ·rintro c ai ⟨rfl,lo,hi,rfl,h1,h2,h3,h4,h5⟩
     rw[Nat.max_eq_right (Nat.zero_le n)]at h5
     have e:lo=hi:=by omega
     subst e
     exact wpS_pure (h lo h2 h3 h4)
   ·rw[if_neg bH]
    refine wpS_bind (iI (by omega) ?_)
    cases mN:p (hint - cF) with
    |true=>
     refine wpS_pure ?_
     dsimp only
     refine wpS_bind (wpS_forRange (I:=fun x c ai=>ai=aa∧∃lo hi,c=(none,lo,hi)∧lo≤hi∧hi≤n∧(∀i,i<lo→p i=true)∧(∀i,hi≤i→i<n→p i=false)∧hi - lo≤n - x) ?_ ?_ ⟨rfl,_,_,rfl,(by omega),(by omega),(fun i hi=>mono i (hint - cF) (by omega) (by omega) mN),(fun i h1 h2=>down (hint - cW) i (by omega) h2 q2),by omega⟩)
     ·rintro x c ai _ hx ⟨rfl,lo,hi,rfl,h1,h2,h3,h4,h5⟩
      dsimp only
      by_cases bH:lo≥hi
      ·rw[if_pos bH]
       have e:lo=hi:=by omega
       subst e
       exact wpS_pure (wpS_pure (h lo h2 h3 h4))
      ·rw[if_neg bH]
       have hm:lo+(hi - lo)/2<hi:=by omega
       generalize em:lo+(hi - lo)/2=m at hm
       have f9:lo≤m:=by omega
       refine wpS_bind (iI (by omega) ?_)
       cases dD:p m with
       |true=>exact wpS_pure ⟨rfl,m+1,hi,rfl,by omega,h2,fun i aR=>mono i m (by omega) (by omega) dD,h4,by omega⟩
       |false=>exact wpS_pure ⟨rfl,lo,m,rfl,f9,by omega,h3,fun i h1 h2=>down m i h1 h2 dD,by omega⟩
     ·rintro c ai ⟨rfl,lo,hi,rfl,h1,h2,h3,h4,h5⟩
      rw[Nat.max_eq_right (Nat.zero_le n)]at h5
      have e:lo=hi:=by omega
      subst e
      exact wpS_pure (h lo h2 h3 h4)
    |false=>exact wpS_pure ⟨rfl,cF,2*cF+1,rfl,by omega,mN,by omega,by omega⟩
end
def vT:Nat→StateT SortSt Sem Unit:=sortPriv%PySem.Builtin.setMinGallop
def CQ:Array Keyed→Array Keyed→StateT SortSt Sem (Array Keyed):=sortPriv%PySem.Builtin.mergeLo
theorem Jl (g:Nat):vT g=modify fun s=>SortSt.mk' (kindOf s) (arrOf s) (pendingOf s) g (failedOf s):=rfl
abbrev Pw (r:Keyed→Keyed→Bool) (l:List Keyed):Prop:=l.Pairwise fun x y=>r y x=false
def SG (st aa:SortSt):Prop:=kindOf aa=kindOf st∧arrOf aa=arrOf st∧pendingOf aa=pendingOf st∧failedOf aa=failedOf st
theorem SG.refl (st:SortSt):SG st st:=⟨rfl,rfl,rfl,rfl⟩
def Good (r:Keyed→Keyed→Bool) (a b res:Array Keyed):Prop:=res.toList.Perm (a.toList++b.toList)∧Pw r res.toList
structure JW (r:Keyed→Keyed→Bool) (a b out:Array Keyed) (ia ib:Nat):Prop where
 perm:(out.toList++(a.toList.drop ia++b.toList.drop ib)).Perm (a.toList++b.toList)
 ic:Pw r out.toList
 eZ:∀x∈out.toList,∀y∈a.toList.drop ia++b.toList.drop ib,r y x=false
structure dJ (r:Keyed→Keyed→Bool) (a b:Array Keyed):Prop where
 o:Ord r
 sa:Pw r a.toList
 sb:Pw r b.toList
theorem YR {α:Type}{l:List α}{i:Nat}{x:α}(h:l[i]? =some x):l.drop i=x::l.drop (i+1):=by
 obtain⟨hi,e⟩:=List.getElem?_eq_some_iff.mp h
 rw[List.drop_eq_getElem_cons hi,e]
theorem Zs {xs:Array Keyed}{i:Nat}{x:Keyed}(h:xs[i]? =some x):xs.toList[i]? =some x:=by rw[Array.getElem?_toList];exact h
theorem Zc {xs:Array Keyed}{i:Nat}(h:i<xs.size):∃x,xs[i]? =some x:=⟨xs[i],getElem?_pos xs i h⟩
theorem Y8 {r:Keyed→Keyed→Bool}{l:List Keyed}{i:Nat}{x:Keyed}(o:Ord r) (p:Pw r l) (h:l[i]? =some x):∀y∈l.drop i,r y x=false:=fun y hy=>by
 rw[YR h]at hy
 rcases List.mem_cons.mp hy with rfl |hy
 ·exact o.iZ _
 ·have q:Pw r (l.drop i):=List.Pairwise.sublist (List.drop_sublist i l) p
  rw[YR h]at q
  exact(List.pairwise_cons.mp q).1 y hy
theorem Jw (xs:Array Keyed) (i j:Nat):(xs.extract i j).toList=(xs.toList.drop i).take (j - i):=by
 rw[Array.toList_extract,List.extract_eq_drop_take]
theorem JO (xs:Array Keyed) (i:Nat):(xs.extract i xs.size).toList=xs.toList.drop i:=by
 rw[Jw,List.take_of_length_le (by rw[List.length_drop,Array.length_toList];exact Nat.le_refl _)]
section
variable {r:Keyed→Keyed→Bool}{a b out:Array Keyed}{ia ib:Nat}
theorem JW.cq (C:dJ r a b) (J:JW r a b out ia ib) {x:Keyed}(hx:a[ia]? =some x) (h:∀y,b[ib]? =some y→r y x=false):JW r a b (out.push x) (ia+1) ib:=by
 have jJ:=Zs hx
 have hd:=YR jJ
 have low:∀y∈a.toList.drop (ia+1)++b.toList.drop ib,r y x=false:=fun y hy=>by
  rcases List.mem_append.mp hy with hy |hy
  ·exact Y8 C.o C.sa jJ y (by rw[hd];exact List.mem_cons_of_mem _ hy)
  ·cases e:b[ib]? with
   |none=>
    rw[←Array.getElem?_toList]at e
    rw[List.drop_eq_nil_of_le (by rw[List.getElem?_eq_none_iff]at e;exact e)]at hy
    cases hy
   |some z=>
    have h1:=Y8 C.o C.sb (Zs e) y hy
    exact C.o.cG x z y (h z e) h1
 refine⟨?_,?_,fun u hu y hy=> ?_⟩
 ·rw[Array.toList_push,List.append_assoc]
  have:=J.perm
  rw[hd]at this
  exact this
 ·rw[Array.toList_push]
  refine List.pairwise_append.mpr ⟨J.ic,List.pairwise_singleton _ _,fun u hu v hv=> ?_⟩
  rw[List.mem_singleton.mp hv]
  exact J.eZ u hu x (List.mem_append_left _ (by rw[hd];exact List.mem_cons_self))
 ·rw[Array.toList_push]at hu
  rcases List.mem_append.mp hu with hu |hu
  ·refine J.eZ u hu y ?_
   rcases List.mem_append.mp hy with hy |hy
   ·exact List.mem_append_left _ (by rw[hd];exact List.mem_cons_of_mem _ hy)
   ·exact List.mem_append_right _ hy
  ·rw[List.mem_singleton.mp hu]
   exact low y hy
theorem JW.eG (C:dJ r a b) (J:JW r a b out ia ib) {y:Keyed}(hy:b[ib]? =some y) (h:∀x,a[ia]? =some x→r x y=false):JW r a b (out.push y) ia (ib+1):=by
 have mE:=Zs hy
 have hd:=YR mE
 have low:∀z∈a.toList.drop ia++b.toList.drop (ib+1),r z y=false:=fun z hz=>by
  rcases List.mem_append.mp hz with hz |hz
  ·cases e:a[ia]? with
   |none=>
    rw[←Array.getElem?_toList]at e
    rw[List.drop_eq_nil_of_le (by rw[List.getElem?_eq_none_iff]at e;exact e)]at hz
    cases hz
   |some x=>
    have h1:=Y8 C.o C.sa (Zs e) z hz
    exact C.o.cG y x z (h x e) h1
  ·exact Y8 C.o C.sb mE z (by rw[hd];exact List.mem_cons_of_mem _ hz)
 refine⟨?_,?_,fun u hu z hz=> ?_⟩
 ·rw[Array.toList_push,List.append_assoc]
  have:=J.perm
  rw[hd]at this
  refine List.Perm.trans (List.Perm.append_left _ ?_) this
  exact(show(y::(a.toList.drop ia++b.toList.drop (ib+1))).Perm _ from List.perm_middle.symm)
 ·rw[Array.toList_push]
  refine List.pairwise_append.mpr ⟨J.ic,List.pairwise_singleton _ _,fun u hu v hv=> ?_⟩
  rw[List.mem_singleton.mp hv]
  exact J.eZ u hu y (List.mem_append_right _ (by rw[hd];exact List.mem_cons_self))
 ·rw[Array.toList_push]at hu
  rcases List.mem_append.mp hu with hu |hu
  ·refine J.eZ u hu z ?_
   rcases List.mem_append.mp hz with hz |hz
   ·exact List.mem_append_left _ hz
   ·exact List.mem_append_right _ (by rw[hd];exact List.mem_cons_of_mem _ hz)
  ·rw[List.mem_singleton.mp hu]
   exact low z hz
theorem US {xs:Array Keyed}{i k:Nat}{x:Keyed}(hx:xs[i+k]? =some x):xs.extract i (i+(k+1))=(xs.extract i (i+k)).push x:=by
 obtain⟨h,e⟩:=Array.getElem?_eq_some_iff.mp hx
 rw[←e,←Nat.add_assoc,Array.extract_succ_right (by omega) h]
theorem JW.kM (C:dJ r a b) (J:JW r a b out ia ib):∀k,ia+k≤a.size→(∀i,i<k→∀x y,a[ia+i]? =some x→b[ib]? =some y→r y x=false)→JW r a b (out++a.extract ia (ia+k)) (ia+k) ib
 |0,_,_=>by
  rw[Nat.add_zero]
  have e:a.extract ia ia= #[]:=by simp;omega
  rw[e,Array.append_empty]
  exact J
 |k+1,hk,h=>by
  obtain⟨x,hx⟩:=Zc (xs:=a) (i:=ia+k) (by omega)
  have ih:=JW.kM C J k (by omega) fun i hi=>h i (by omega)
  have:=ih.cq C hx fun y hy=>h k (by omega) x y hx hy
  rw[US hx,Array.append_push]
  exact this
theorem JW.iT (C:dJ r a b) (J:JW r a b out ia ib):∀k,ib+k≤b.size→(∀i,i<k→∀y x,b[ib+i]? =some y→a[ia]? =some x→r x y=false)→JW r a b (out++b.extract ib (ib+k)) ia (ib+k)
 |0,_,_=>by
  rw[Nat.add_zero]
  have e:b.extract ib ib= #[]:=by simp;omega
  rw[e,Array.append_empty]
  exact J
 |k+1,hk,h=>by
  obtain⟨y,hy⟩:=Zc (xs:=b) (i:=ib+k) (by omega)
  have ih:=JW.iT C J k (by omega) fun i hi=>h i (by omega)
  have:=ih.eG C hy fun x hx=>h k (by omega) y x hy hx
  rw[US hy,Array.append_push]
  exact this
theorem JW.done (C:dJ r a b) (J:JW r a b out ia ib) (h:a.size≤ia∨b.size≤ib):Good r a b (out++a.extract ia a.size++b.extract ib b.size):=by
 unfold Good
 rw[Array.toList_append,Array.toList_append,JO,JO]
 refine⟨by rw[List.append_assoc];exact J.perm,?_⟩
 have pa:Pw r (a.toList.drop ia):=List.Pairwise.sublist (List.drop_sublist _ _) C.sa
 have pb:Pw r (b.toList.drop ib):=List.Pairwise.sublist (List.drop_sublist _ _) C.sb
 rw[List.append_assoc]
 refine List.pairwise_append.mpr ⟨J.ic,?_,J.eZ⟩
 rcases h with h |h
 ·rw[List.drop_eq_nil_of_le (by rw[Array.length_toList];exact h),List.nil_append]
  exact pb
 ·rw[List.drop_eq_nil_of_le (as:=b.toList) (by rw[Array.length_toList];exact h),List.append_nil]
  exact pa
theorem JW.last (C:dJ r a b) (J:JW r a b out ia ib) (h:ia+1=a.size) (hl:∀x,a[a.size - 1]? =some x→∀y∈b.toList,r x y=false):Good r a b (out++b.extract ib b.size++a.extract ia a.size):=by
 unfold Good
 rw[Array.toList_append,Array.toList_append,JO,JO]
 obtain⟨x,hx⟩:=Zc (xs:=a) (i:=ia) (by omega)
 have ed:a.toList.drop ia=[x]:=by
  rw[YR (Zs hx),List.drop_eq_nil_of_le (by rw[Array.length_toList];omega)]
 have P:=J.perm
 have B:=J.eZ
 rw[ed]at P B ⊢
 have pb:Pw r (b.toList.drop ib):=List.Pairwise.sublist (List.drop_sublist _ _) C.sb
 refine⟨?_,?_⟩
 ·rw[List.append_assoc]
  exact List.Perm.trans (List.Perm.append_left _ List.perm_append_comm) P
 ·rw[List.append_assoc]
  refine List.pairwise_append.mpr ⟨J.ic,List.pairwise_append.mpr ⟨pb,List.pairwise_singleton _ _,fun y hy z hz=> ?_⟩,fun u hu z hz=>B u hu z ?_⟩
  ·rw[List.mem_singleton.mp hz]
   exact hl x (by rw[show a.size - 1=ia by omega];exact hx) y (List.mem_of_mem_drop hy)
  ·rcases List.mem_append.mp hz with hz |hz
   ·exact List.mem_append_right _ hz
   ·exact List.mem_append_left _ hz
end
theorem Zr {xs:Array Keyed}{i:Nat}{x:Keyed}(h:xs[i]? =some x):x∈xs.toList:=List.mem_of_getElem? (Zs h)
theorem Z7 {r:Keyed→Keyed→Bool}{l:List Keyed}{i j:Nat}{x y:Keyed}(o:Ord r) (p:Pw r l) (hx:l[i]? =some x) (hy:l[j]? =some y) (h:i≤j):r y x=false:=by
 refine Y8 o p hx y ?_
 have:(l.drop i)[j - i]? =some y:=by rw[List.getElem?_drop,show i+(j - i)=j by omega];exact hy
 exact List.mem_of_getElem? this
theorem Je {r:Keyed→Keyed→Bool}{x y z:Keyed}(o:Ord r) (h:r y z=true) (h2:r y x=false):r x z=true:=by
 cases e:r x z with
 |true=>rfl
 |false=>
  have:=o.cG z x y e h2
  rw[h]at this
  cases this
section
variable {prog:Program}{w:World}{A:Around}{E:Value→Shared→Prop}{s:Shared}{κ:SortKind}{a₀:Array Keyed}{r:Keyed→Keyed→Bool}
theorem Ym {g:Nat}{Q:Unit→SortSt→Prop}{st:SortSt}(h:Q () (SortSt.mk' (kindOf st) (arrOf st) (pendingOf st) g (failedOf st))):wpS (model prog w) A E s (vT g) Q st:=by
 rw[Jl]
 exact wpS_modify h
theorem Um {a b:Array Keyed}{Q:Array Keyed→SortSt→Prop}{st:SortSt}(hc:gC prog w A E s κ a₀ r) (hk:kindOf st=κ) (C:dJ r a b) (ma:∀x∈a.toList,x∈a₀.toList) (mb:∀x∈b.toList,x∈a₀.toList) (na:1≤a.size) (nb:1≤b.size)
  (h0:∀y,b[0]? =some y→∀x∈a.toList,r x y=false) (hl:∀x,a[a.size - 1]? =some x→∀y∈b.toList,r x y=false)
  (h:∀res aa,SG st aa→Good r a b res→Q res aa):wpS (model prog w) A E s (CQ a b) Q st:=by
 show wpS (model prog w) A E s (_ >>=_) _ _
 try dsimp only
 refine wpS_bind (wpS_lift (wpAny_rule ⟨rfl,?_⟩))
 obtain⟨y0,i5⟩:=Zc (xs:=b) (i:=0) (by omega)
 refine wpS_bind (Zj i5 ?_)
 have J0:JW r a b #[y0] 0 1:=by
  have e:JW r a b #[] 0 0:=⟨by simp,.nil,fun x hx=>by cases hx⟩
  exact e.eG C i5 fun x hx=>h0 y0 i5 x (Zr hx)
 by_cases bt:(1==b.size)=true
 ·rw[if_pos bt]
  exact wpS_pure (h _ _ (SG.refl _) (J0.done C (.inr (by have:=beq_iff_eq.mp bt;omega))))
 rw[if_neg bt]
 by_cases bC:(0+1==a.size)=true
 ·rw[if_pos bC]
  exact wpS_pure (h _ _ (SG.refl _) (J0.last C (by have:=beq_iff_eq.mp bC;omega) hl))
 rw[if_neg bC]
 have kW:¬(1=b.size):=fun z=>bt (beq_iff_eq.mpr z)
 have o7:¬(0+1=a.size):=fun z=>bC (beq_iff_eq.mpr z)
 refine wpS_bind (wpS_get ?_)
 refine wpS_bind (wpS_mono (wpS_forRange (I:=fun x c av=>SG st av∧∃out ia ib g,c=(none,out,ia,ib,g)∧JW r a b out ia ib∧ia+1<a.size∧ib<b.size∧x+1≤ia+ib) (Q:=fun c av=>SG st av∧∃res,c.fst=some res∧Good r a b res) ?step ?fin ⟨SG.refl _,_,_,_,_,rfl,J0,by omega,by omega,by omega⟩) ?post)
 case post=>
  rintro c av ⟨fJ,res,ec,gd⟩
  rw[ec]
  exact wpS_pure (h res av fJ gd)
 case fin=>
  rintro c av ⟨_,out,ia,ib,g,_,_,i1,i2,i3⟩
  rw[Nat.max_eq_right (Nat.zero_le _)]at i3
  omega
 case step=>
  rintro x c av _ hx ⟨fJ,out,ia,ib,g,rfl,J,i1,i2,i3⟩
  dsimp only
  have bE:kindOf av=κ:=by rw[fJ.1];exact hk
  refine wpS_bind (wpS_mono (wpS_forRange (I:=fun y c ai=>ai=av∧∃dw dh dg ac bc,c=(none,dw,dh,dg,ac,bc)∧JW r a b dw dh dg∧dh+1<a.size∧dg<b.size∧ia+ib+y≤dh+dg)
   (Q:=fun c ai=>ai=av∧((∃res,c.fst=some res∧Good r a b res)∨∃dw dh dg ac bc,c=(none,dw,dh,dg,ac,bc)∧JW r a b dw dh dg∧dh+1<a.size∧dg<b.size∧ia+ib+1≤dh+dg)) ?_ ?_ ⟨rfl,_,_,_,_,_,rfl,J,i1,i2,by omega⟩) ?_)
  ·rintro y c ai _ hy ⟨rfl,dw,dh,dg,ac,bc,rfl,J',j1,j2,j3⟩
   dsimp only
   obtain⟨yb,fT⟩:=Zc (xs:=b) (i:=dg) (by omega)
   obtain⟨xa,fU⟩:=Zc (xs:=a) (i:=dh) (by omega)
   refine wpS_bind (Zj fT (wpS_bind (Zj fU (wpS_bind (hc _ _ _ _ (mb _ (Zr fT)) (ma _ (Zr fU)) bE ?_)))))
   dsimp only
   cases hr:r yb xa with
   |true=>
    rw[if_pos rfl]
    refine wpS_bind (Zj fT ?_)
    have J2:=J'.eG C fT (fun x hx=>by rw[fU]at hx;cases hx;exact C.o.bG _ _ hr)
    by_cases hz:(dg+1==b.size)=true
    ·rw[if_pos hz]
     exact wpS_pure ⟨rfl,.inl ⟨_,rfl,J2.done C (.inr (by have:=beq_iff_eq.mp hz;omega))⟩⟩
    rw[if_neg hz]
    have bh:¬(dg+1=b.size):=fun z=>hz (beq_iff_eq.mpr z)
    by_cases hg:bc+1≥g
    ·rw[if_pos hg]
     exact wpS_pure ⟨rfl,.inr ⟨_,_,_,_,_,rfl,J2,by omega,by omega,by omega⟩⟩
    ·rw[if_neg hg]
     exact wpS_pure ⟨rfl,_,_,_,_,_,rfl,J2,by omega,by omega,by omega⟩
   |false=>
    rw[if_neg Bool.false_ne_true]
    refine wpS_bind (Zj fU ?_)
    have J2:=J'.cq C fU (fun x hx=>by rw[fT]at hx;cases hx;exact hr)
    by_cases hz:(dh+1+1==a.size)=true
    ·rw[if_pos hz]
     exact wpS_pure ⟨rfl,.inl ⟨_,rfl,J2.last C (by have:=beq_iff_eq.mp hz;omega) hl⟩⟩
    rw[if_neg hz]
    have bh:¬(dh+1+1=a.size):=fun z=>hz (beq_iff_eq.mpr z)
    by_cases hg:ac+1≥g
    ·rw[if_pos hg]
     exact wpS_pure ⟨rfl,.inr ⟨_,_,_,_,_,rfl,J2,by omega,by omega,by omega⟩⟩
    ·rw[if_neg hg]
     exact wpS_pure ⟨rfl,_,_,_,_,_,rfl,J2,by omega,by omega,by omega⟩
  ·rintro c ai ⟨rfl,dw,dh,dg,ac,bc,rfl,J',j1,j2,j3⟩
   rw[Nat.max_eq_right (Nat.zero_le _)]at j3
   omega
  rintro c ai ⟨rfl,⟨res,ec,gd⟩ |⟨dw,dh,dg,ac,bc,rfl,J',j1,j2,j3⟩⟩
  ·rw[ec]
   exact wpS_pure ⟨fJ,res,rfl,gd⟩
  dsimp only
  refine wpS_bind (wpS_lift (wpAny_rule ⟨rfl,?_⟩))
  refine wpS_bind (wpS_mono (wpS_forRange (I:=fun y c ai=>SG st ai∧∃out ia ib g ac bc,c=(none,out,ia,ib,g,ac,bc)∧JW r a b out ia ib∧ia+1<a.size∧ib<b.size∧dh+dg+y≤ia+ib)
   (Q:=fun c ai=>SG st ai∧((∃res,c.fst=some res∧Good r a b res)∨∃out ia ib g ac bc,c=(none,out,ia,ib,g,ac,bc)∧JW r a b out ia ib∧ia+1<a.size∧ib<b.size∧dh+dg≤ia+ib)) ?_ ?_ ⟨fJ,_,_,_,_,_,_,rfl,J',j1,j2,by omega⟩) ?_)
  ·clear J i1 i2 bE
   rintro y c ai _ hy ⟨eO,out,xo,xn,g,ac,bc,rfl,J,i1,i2,i4⟩
   dsimp only
   revert J i1 i2 i4
   have Ms:ia+ib+1≤dh+dg:=j3
   clear j3 i3
   generalize xo=ia
   generalize xn=ib
   intro J i1 i2 i4
   by_cases k9:g>1
   ·rw[if_pos k9]
    refine wpS_bind (Ym ?_)
    generalize jT:SortSt.mk' _ _ _ _ _=aK
    have aq:SG st aK:=by rw[←jT];exact eO
    have dX:kindOf aK=κ:=by rw[aq.1];exact hk
    obtain⟨y2,aW⟩:=Zc (xs:=b) (i:=ib) (by omega)
    refine wpS_bind (Zj aW ?_)
    refine wpS_bind (ZC hc dX (fun i=>match a[ia+i]? with |some x=> !r y2 x |none=>false) (fun i hi=> ?_) (mb y2 (Zr aW)) (fun i j bJ hj hp=> ?_) (by omega) fun k kn cX cf=> ?_)
    ·obtain⟨x,hx⟩:=Zc (xs:=a) (i:=ia+i) (by omega)
     refine⟨x,hx,ma x (Zr hx),?_⟩
     try dsimp only
     rw[hx]
     rfl
    ·obtain⟨xj,eI⟩:=Zc (xs:=a) (i:=ia+j) (by omega)
     obtain⟨xi,eJ⟩:=Zc (xs:=a) (i:=ia+i) (by omega)
     try dsimp only at hp ⊢
     rw[eI]at hp
     rw[eJ]
     rw[Bool.not_eq_true']at hp ⊢
     exact C.o.cG _ _ _ (Z7 C.o C.sa (Zs eJ) (Zs eI) (by omega)) hp
    try dsimp only
    by_cases gf:k>0
    ·rw[if_pos gf]
     have J1:=J.kM C k (by omega) (fun i hi x y hx hy=>by
      rw[aW]at hy
      cases hy
      have:=cX i hi
      try dsimp only at this
      rw[hx,Bool.not_eq_true']at this
      exact this)
     by_cases bt:(ia+k+1==a.size)=true
     ·rw[if_pos bt]
      exact wpS_pure ⟨aq,.inl ⟨_,rfl,J1.last C (by have:=beq_iff_eq.mp bt;omega) hl⟩⟩
     rw[if_neg bt]
     by_cases bC:(ia+k==a.size)=true
     ·rw[if_pos bC]
      exact wpS_pure ⟨aq,.inl ⟨_,rfl,J1.done C (.inl (by have:=beq_iff_eq.mp bC;omega))⟩⟩
     rw[if_neg bC]
     have kW:¬(ia+k+1=a.size):=fun z=>bt (beq_iff_eq.mpr z)
     have o7:¬(ia+k=a.size):=fun z=>bC (beq_iff_eq.mpr z)
     refine wpS_bind (Zj aW ?_)
     have J2:=J1.eG C aW (fun x hx=>by
      have:=cf k (Nat.le_refl _) (by omega)
      try dsimp only at this
      rw[hx,Bool.not_eq_false']at this
      exact C.o.bG _ _ this)
     by_cases hz:(ib+1==b.size)=true
     ·rw[if_pos hz]
      exact wpS_pure ⟨aq,.inl ⟨_,rfl,J2.done C (.inr (by have:=beq_iff_eq.mp hz;omega))⟩⟩
     rw[if_neg hz]
     have bh:¬(ib+1=b.size):=fun z=>hz (beq_iff_eq.mpr z)
     obtain⟨x3,aO⟩:=Zc (xs:=a) (i:=ia+k) (by omega)
     refine wpS_bind (Zj aO ?_)
     refine wpS_bind (ZC hc dX (fun i=>match b[ib+1+i]? with |some y=>r y x3 |none=>false) (fun i hi=> ?_) (ma x3 (Zr aO)) (fun i j bJ hj hp=> ?_) (by omega) fun k1 jF cX cf=> ?_)
     ·obtain⟨y,hy⟩:=Zc (xs:=b) (i:=ib+1+i) (by omega)
      refine⟨y,hy,mb y (Zr hy),?_⟩
      try dsimp only
      rw[hy]
      rfl
     ·obtain⟨yj,bP⟩:=Zc (xs:=b) (i:=ib+1+j) (by omega)
      obtain⟨yi,bQ⟩:=Zc (xs:=b) (i:=ib+1+i) (by omega)
      try dsimp only at hp ⊢
      rw[bP]at hp
      rw[bQ]
      exact Je C.o hp (Z7 C.o C.sb (Zs bQ) (Zs bP) (by omega))
     try dsimp only
     by_cases bE:k1>0
     ·rw[if_pos bE]
      have J3:=J2.iT C k1 (by omega) (fun i hi y x hy hx=>by
       rw[aO]at hx
       cases hx
       have:=cX i hi
       try dsimp only at this
       rw[hy]at this
       exact C.o.bG _ _ this)
      by_cases aJ:(ib+1+k1==b.size)=true
      ·rw[if_pos aJ]
       exact wpS_pure ⟨aq,.inl ⟨_,rfl,J3.done C (.inr (by have:=beq_iff_eq.mp aJ;omega))⟩⟩
      rw[if_neg aJ]
      have jH:¬(ib+1+k1=b.size):=fun z=>aJ (beq_iff_eq.mpr z)
      obtain⟨x4,ar⟩:=Zc (xs:=a) (i:=ia+k) (by omega)
      refine wpS_bind (Zj ar ?_)
      have J4:=J3.cq C ar (fun y hy=>by
       have:=cf k1 (Nat.le_refl _) (by omega)
       try dsimp only at this
       rw[hy]at this
       have e:x4=x3:=by rw[aO]at ar;exact(Option.some.inj ar).symm
       rw[e]
       exact this)
      by_cases hz:(ia+k+1+1==a.size)=true
      ·rw[if_pos hz]
       exact wpS_pure ⟨aq,.inl ⟨_,rfl,J4.last C (by have:=beq_iff_eq.mp hz;omega) hl⟩⟩
      ·rw[if_neg hz]
       have bh:¬(ia+k+1+1=a.size):=fun z=>hz (beq_iff_eq.mpr z)
       by_cases h7:(decide (k<7)&&decide (k1<7))=true
       ·rw[if_pos h7]
        exact wpS_pure ⟨aq,.inr ⟨_,_,_,_,_,_,rfl,J4,by omega,by omega,by omega⟩⟩
       ·rw[if_neg h7]
        exact wpS_pure ⟨aq,_,_,_,_,_,_,rfl,J4,by omega,by omega,by omega⟩
     ·rw[if_neg bE]
      obtain rfl:k1=0:=by omega
      obtain⟨x4,ar⟩:=Zc (xs:=a) (i:=ia+k) (by omega)
      refine wpS_bind (Zj ar ?_)
      have J4:=J2.cq C ar (fun y hy=>by
       have:=cf 0 (Nat.le_refl _) (by omega)
       try dsimp only at this
       rw[Nat.add_zero,hy]at this
       have e:x4=x3:=by rw[aO]at ar;exact(Option.some.inj ar).symm
       rw[e]
       exact this)
      by_cases hz:(ia+k+1+1==a.size)=true
      ·rw[if_pos hz]
       exact wpS_pure ⟨aq,.inl ⟨_,rfl,J4.last C (by have:=beq_iff_eq.mp hz;omega) hl⟩⟩
      ·rw[if_neg hz]
       have bh:¬(ia+k+1+1=a.size):=fun z=>hz (beq_iff_eq.mpr z)
       by_cases h7:(decide (k<7)&&decide (0<7))=true
       ·rw[if_pos h7]
        exact wpS_pure ⟨aq,.inr ⟨_,_,_,_,_,_,rfl,J4,by omega,by omega,by omega⟩⟩
       ·rw[if_neg h7]
        exact wpS_pure ⟨aq,_,_,_,_,_,_,rfl,J4,by omega,by omega,by omega⟩
    ·rw[if_neg gf]
     obtain rfl:k=0:=by omega
     refine wpS_bind (Zj aW ?_)
     have J2:=J.eG C aW (fun x hx=>by
      have:=cf 0 (Nat.le_refl _) (by omega)
      try dsimp only at this
      rw[Nat.add_zero,hx,Bool.not_eq_false']at this
      exact C.o.bG _ _ this)
     by_cases hz:(ib+1==b.size)=true
     ·rw[if_pos hz]
      exact wpS_pure ⟨aq,.inl ⟨_,rfl,J2.done C (.inr (by have:=beq_iff_eq.mp hz;omega))⟩⟩
     rw[if_neg hz]
     have bh:¬(ib+1=b.size):=fun z=>hz (beq_iff_eq.mpr z)
     obtain⟨x3,aO⟩:=Zc (xs:=a) (i:=ia) (by omega)
     refine wpS_bind (Zj aO ?_)
     refine wpS_bind (ZC hc dX (fun i=>match b[ib+1+i]? with |some y=>r y x3 |none=>false) (fun i hi=> ?_) (ma x3 (Zr aO)) (fun i j bJ hj hp=> ?_) (by omega) fun k1 jF cX cf=> ?_)
     ·obtain⟨y,hy⟩:=Zc (xs:=b) (i:=ib+1+i) (by omega)
      refine⟨y,hy,mb y (Zr hy),?_⟩
      try dsimp only
      rw[hy]
      rfl
     ·obtain⟨yj,bP⟩:=Zc (xs:=b) (i:=ib+1+j) (by omega)
      obtain⟨yi,bQ⟩:=Zc (xs:=b) (i:=ib+1+i) (by omega)
      try dsimp only at hp ⊢
      rw[bP]at hp
      rw[bQ]
      exact Je C.o hp (Z7 C.o C.sb (Zs bQ) (Zs bP) (by omega))
     try dsimp only
     by_cases bE:k1>0
     ·rw[if_pos bE]
      have J3:=J2.iT C k1 (by omega) (fun i hi y x hy hx=>by
       rw[aO]at hx
       cases hx
       have:=cX i hi
       try dsimp only at this
       rw[hy]at this
       exact C.o.bG _ _ this)
      by_cases aJ:(ib+1+k1==b.size)=true
      ·rw[if_pos aJ]
       exact wpS_pure ⟨aq,.inl ⟨_,rfl,J3.done C (.inr (by have:=beq_iff_eq.mp aJ;omega))⟩⟩
      rw[if_neg aJ]
      have jH:¬(ib+1+k1=b.size):=fun z=>aJ (beq_iff_eq.mpr z)
      obtain⟨x4,ar⟩:=Zc (xs:=a) (i:=ia) (by omega)
      refine wpS_bind (Zj ar ?_)
      have J4:=J3.cq C ar (fun y hy=>by
       have:=cf k1 (Nat.le_refl _) (by omega)
       try dsimp only at this
       rw[hy]at this
       have e:x4=x3:=by rw[aO]at ar;exact(Option.some.inj ar).symm
       rw[e]
       exact this)
      by_cases hz:(ia+1+1==a.size)=true
      ·rw[if_pos hz]
       exact wpS_pure ⟨aq,.inl ⟨_,rfl,J4.last C (by have:=beq_iff_eq.mp hz;omega) hl⟩⟩
      ·rw[if_neg hz]
       have bh:¬(ia+1+1=a.size):=fun z=>hz (beq_iff_eq.mpr z)
       by_cases h7:(decide (0<7)&&decide (k1<7))=true
       ·rw[if_pos h7]
        exact wpS_pure ⟨aq,.inr ⟨_,_,_,_,_,_,rfl,J4,by omega,by omega,by omega⟩⟩
       ·rw[if_neg h7]
        exact wpS_pure ⟨aq,_,_,_,_,_,_,rfl,J4,by omega,by omega,by omega⟩
     ·rw[if_neg bE]
      obtain rfl:k1=0:=by omega
      obtain⟨x4,ar⟩:=Zc (xs:=a) (i:=ia) (by omega)
      refine wpS_bind (Zj ar ?_)
      have J4:=J2.cq C ar (fun y hy=>by
       have:=cf 0 (Nat.le_refl _) (by omega)
       try dsimp only at this
       rw[Nat.add_zero,hy]at this
       have e:x4=x3:=by rw[aO]at ar;exact(Option.some.inj ar).symm
       rw[e]
       exact this)
      by_cases hz:(ia+1+1==a.size)=true
      ·rw[if_pos hz]
       exact wpS_pure ⟨aq,.inl ⟨_,rfl,J4.last C (by have:=beq_iff_eq.mp hz;omega) hl⟩⟩
      ·rw[if_neg hz]
       have bh:¬(ia+1+1=a.size):=fun z=>hz (beq_iff_eq.mpr z)
       by_cases h7:(decide (0<7)&&decide (0<7))=true
       ·rw[if_pos h7]
        exact wpS_pure ⟨aq,.inr ⟨_,_,_,_,_,_,rfl,J4,by omega,by omega,by omega⟩⟩
       ·rw[if_neg h7]
        exact wpS_pure ⟨aq,_,_,_,_,_,_,rfl,J4,by omega,by omega,by omega⟩
   ·rw[if_neg k9]
    refine wpS_bind (Ym ?_)
    generalize jT:SortSt.mk' _ _ _ _ _=aK
    have aq:SG st aK:=by rw[←jT];exact eO
    have dX:kindOf aK=κ:=by rw[aq.1];exact hk
    obtain⟨y2,aW⟩:=Zc (xs:=b) (i:=ib) (by omega)
    refine wpS_bind (Zj aW ?_)
    refine wpS_bind (ZC hc dX (fun i=>match a[ia+i]? with |some x=> !r y2 x |none=>false) (fun i hi=> ?_) (mb y2 (Zr aW)) (fun i j bJ hj hp=> ?_) (by omega) fun k kn cX cf=> ?_)
    ·obtain⟨x,hx⟩:=Zc (xs:=a) (i:=ia+i) (by omega)
     refine⟨x,hx,ma x (Zr hx),?_⟩
     try dsimp only
     rw[hx]
     rfl
    ·obtain⟨xj,eI⟩:=Zc (xs:=a) (i:=ia+j) (by omega)
     obtain⟨xi,eJ⟩:=Zc (xs:=a) (i:=ia+i) (by omega)
     try dsimp only at hp ⊢
     rw[eI]at hp
     rw[eJ]
     rw[Bool.not_eq_true']at hp ⊢
     exact C.o.cG _ _ _ (Z7 C.o C.sa (Zs eJ) (Zs eI) (by omega)) hp
    try dsimp only
    by_cases gf:k>0
    ·rw[if_pos gf]
     have J1:=J.kM C k (by omega) (fun i hi x y hx hy=>by
      rw[aW]at hy
      cases hy
      have:=cX i hi
      try dsimp only at this
      rw[hx,Bool.not_eq_true']at this
      exact this)
     by_cases bt:(ia+k+1==a.size)=true
     ·rw[if_pos bt]
      exact wpS_pure ⟨aq,.inl ⟨_,rfl,J1.last C (by have:=beq_iff_eq.mp bt;omega) hl⟩⟩
     rw[if_neg bt]
     by_cases bC:(ia+k==a.size)=true
     ·rw[if_pos bC]
      exact wpS_pure ⟨aq,.inl ⟨_,rfl,J1.done C (.inl (by have:=beq_iff_eq.mp bC;omega))⟩⟩
     rw[if_neg bC]
     have kW:¬(ia+k+1=a.size):=fun z=>bt (beq_iff_eq.mpr z)
     have o7:¬(ia+k=a.size):=fun z=>bC (beq_iff_eq.mpr z)
     refine wpS_bind (Zj aW ?_)
     have J2:=J1.eG C aW (fun x hx=>by
      have:=cf k (Nat.le_refl _) (by omega)
      try dsimp only at this
      rw[hx,Bool.not_eq_false']at this
      exact C.o.bG _ _ this)
     by_cases hz:(ib+1==b.size)=true
     ·rw[if_pos hz]
      exact wpS_pure ⟨aq,.inl ⟨_,rfl,J2.done C (.inr (by have:=beq_iff_eq.mp hz;omega))⟩⟩
     rw[if_neg hz]
     have bh:¬(ib+1=b.size):=fun z=>hz (beq_iff_eq.mpr z)
     obtain⟨x3,aO⟩:=Zc (xs:=a) (i:=ia+k) (by omega)
     refine wpS_bind (Zj aO ?_)
     refine wpS_bind (ZC hc dX (fun i=>match b[ib+1+i]? with |some y=>r y x3 |none=>false) (fun i hi=> ?_) (ma x3 (Zr aO)) (fun i j bJ hj hp=> ?_) (by omega) fun k1 jF cX cf=> ?_)
     ·obtain⟨y,hy⟩:=Zc (xs:=b) (i:=ib+1+i) (by omega)
      refine⟨y,hy,mb y (Zr hy),?_⟩
      try dsimp only
      rw[hy]
      rfl
     ·obtain⟨yj,bP⟩:=Zc (xs:=b) (i:=ib+1+j) (by omega)
      obtain⟨yi,bQ⟩:=Zc (xs:=b) (i:=ib+1+i) (by omega)
      try dsimp only at hp ⊢
      rw[bP]at hp
      rw[bQ]
      exact Je C.o hp (Z7 C.o C.sb (Zs bQ) (Zs bP) (by omega))
     try dsimp only
     by_cases bE:k1>0
     ·rw[if_pos bE]
      have J3:=J2.iT C k1 (by omega) (fun i hi y x hy hx=>by
       rw[aO]at hx
       cases hx
       have:=cX i hi
       try dsimp only at this
       rw[hy]at this
       exact C.o.bG _ _ this)
      by_cases aJ:(ib+1+k1==b.size)=true
      ·rw[if_pos aJ]
       exact wpS_pure ⟨aq,.inl ⟨_,rfl,J3.done C (.inr (by have:=beq_iff_eq.mp aJ;omega))⟩⟩
      rw[if_neg aJ]
      have jH:¬(ib+1+k1=b.size):=fun z=>aJ (beq_iff_eq.mpr z)
      obtain⟨x4,ar⟩:=Zc (xs:=a) (i:=ia+k) (by omega)
      refine wpS_bind (Zj ar ?_)
      have J4:=J3.cq C ar (fun y hy=>by
       have:=cf k1 (Nat.le_refl _) (by omega)
       try dsimp only at this
       rw[hy]at this
       have e:x4=x3:=by rw[aO]at ar;exact(Option.some.inj ar).symm
       rw[e]
       exact this)
      by_cases hz:(ia+k+1+1==a.size)=true
      ·rw[if_pos hz]
       exact wpS_pure ⟨aq,.inl ⟨_,rfl,J4.last C (by have:=beq_iff_eq.mp hz;omega) hl⟩⟩
      ·rw[if_neg hz]
       have bh:¬(ia+k+1+1=a.size):=fun z=>hz (beq_iff_eq.mpr z)
       by_cases h7:(decide (k<7)&&decide (k1<7))=true
       ·rw[if_pos h7]
        exact wpS_pure ⟨aq,.inr ⟨_,_,_,_,_,_,rfl,J4,by omega,by omega,by omega⟩⟩
       ·rw[if_neg h7]
        exact wpS_pure ⟨aq,_,_,_,_,_,_,rfl,J4,by omega,by omega,by omega⟩
     ·rw[if_neg bE]
      obtain rfl:k1=0:=by omega
      obtain⟨x4,ar⟩:=Zc (xs:=a) (i:=ia+k) (by omega)
      refine wpS_bind (Zj ar ?_)
      have J4:=J2.cq C ar (fun y hy=>by
       have:=cf 0 (Nat.le_refl _) (by omega)
       try dsimp only at this
       rw[Nat.add_zero,hy]at this
       have e:x4=x3:=by rw[aO]at ar;exact(Option.some.inj ar).symm
       rw[e]
       exact this)
      by_cases hz:(ia+k+1+1==a.size)=true
      ·rw[if_pos hz]
       exact wpS_pure ⟨aq,.inl ⟨_,rfl,J4.last C (by have:=beq_iff_eq.mp hz;omega) hl⟩⟩
      ·rw[if_neg hz]
       have bh:¬(ia+k+1+1=a.size):=fun z=>hz (beq_iff_eq.mpr z)
       by_cases h7:(decide (k<7)&&decide (0<7))=true
       ·rw[if_pos h7]
        exact wpS_pure ⟨aq,.inr ⟨_,_,_,_,_,_,rfl,J4,by omega,by omega,by omega⟩⟩
       ·rw[if_neg h7]
        exact wpS_pure ⟨aq,_,_,_,_,_,_,rfl,J4,by omega,by omega,by omega⟩
    ·rw[if_neg gf]
     obtain rfl:k=0:=by omega
     refine wpS_bind (Zj aW ?_)
     have J2:=J.eG C aW (fun x hx=>by
      have:=cf 0 (Nat.le_refl _) (by omega)
      try dsimp only at this
      rw[Nat.add_zero,hx,Bool.not_eq_false']at this
      exact C.o.bG _ _ this)
     by_cases hz:(ib+1==b.size)=true
     ·rw[if_pos hz]
      exact wpS_pure ⟨aq,.inl ⟨_,rfl,J2.done C (.inr (by have:=beq_iff_eq.mp hz;omega))⟩⟩
     rw[if_neg hz]
     have bh:¬(ib+1=b.size):=fun z=>hz (beq_iff_eq.mpr z)
     obtain⟨x3,aO⟩:=Zc (xs:=a) (i:=ia) (by omega)
     refine wpS_bind (Zj aO ?_)
     refine wpS_bind (ZC hc dX (fun i=>match b[ib+1+i]? with |some y=>r y x3 |none=>false) (fun i hi=> ?_) (ma x3 (Zr aO)) (fun i j bJ hj hp=> ?_) (by omega) fun k1 jF cX cf=> ?_)
     ·obtain⟨y,hy⟩:=Zc (xs:=b) (i:=ib+1+i) (by omega)
      refine⟨y,hy,mb y (Zr hy),?_⟩
      try dsimp only
      rw[hy]
      rfl
     ·obtain⟨yj,bP⟩:=Zc (xs:=b) (i:=ib+1+j) (by omega)
      obtain⟨yi,bQ⟩:=Zc (xs:=b) (i:=ib+1+i) (by omega)
      try dsimp only at hp ⊢
      rw[bP]at hp
      rw[bQ]
      exact Je C.o hp (Z7 C.o C.sb (Zs bQ) (Zs bP) (by omega))
     try dsimp only
     by_cases bE:k1>0
     ·rw[if_pos bE]
      have J3:=J2.iT C k1 (by omega) (fun i hi y x hy hx=>by
       rw[aO]at hx
       cases hx
       have:=cX i hi
       try dsimp only at this
       rw[hy]at this
       exact C.o.bG _ _ this)
      by_cases aJ:(ib+1+k1==b.size)=true
      ·rw[if_pos aJ]
       exact wpS_pure ⟨aq,.inl ⟨_,rfl,J3.done C (.inr (by have:=beq_iff_eq.mp aJ;omega))⟩⟩
      rw[if_neg aJ]
      have jH:¬(ib+1+k1=b.size):=fun z=>aJ (beq_iff_eq.mpr z)
      obtain⟨x4,ar⟩:=Zc (xs:=a) (i:=ia) (by omega)
      refine wpS_bind (Zj ar ?_)
      have J4:=J3.cq C ar (fun y hy=>by
       have:=cf k1 (Nat.le_refl _) (by omega)
       try dsimp only at this
       rw[hy]at this
       have e:x4=x3:=by rw[aO]at ar;exact(Option.some.inj ar).symm
       rw[e]
       exact this)
      by_cases hz:(ia+1+1==a.size)=true
      ·rw[if_pos hz]
       exact wpS_pure ⟨aq,.inl ⟨_,rfl,J4.last C (by have:=beq_iff_eq.mp hz;omega) hl⟩⟩
      ·rw[if_neg hz]
       have bh:¬(ia+1+1=a.size):=fun z=>hz (beq_iff_eq.mpr z)
       by_cases h7:(decide (0<7)&&decide (k1<7))=true
       ·rw[if_pos h7]
        exact wpS_pure ⟨aq,.inr ⟨_,_,_,_,_,_,rfl,J4,by omega,by omega,by omega⟩⟩
       ·rw[if_neg h7]
        exact wpS_pure ⟨aq,_,_,_,_,_,_,rfl,J4,by omega,by omega,by omega⟩
     ·rw[if_neg bE]
      obtain rfl:k1=0:=by omega
      obtain⟨x4,ar⟩:=Zc (xs:=a) (i:=ia) (by omega)
      refine wpS_bind (Zj ar ?_)
      have J4:=J2.cq C ar (fun y hy=>by
       have:=cf 0 (Nat.le_refl _) (by omega)
       try dsimp only at this
       rw[Nat.add_zero,hy]at this
       have e:x4=x3:=by rw[aO]at ar;exact(Option.some.inj ar).symm
       rw[e]
       exact this)
      by_cases hz:(ia+1+1==a.size)=true
      ·rw[if_pos hz]
       exact wpS_pure ⟨aq,.inl ⟨_,rfl,J4.last C (by have:=beq_iff_eq.mp hz;omega) hl⟩⟩
      ·rw[if_neg hz]
       have bh:¬(ia+1+1=a.size):=fun z=>hz (beq_iff_eq.mpr z)
       by_cases h7:(decide (0<7)&&decide (0<7))=true
       ·rw[if_pos h7]
        exact wpS_pure ⟨aq,.inr ⟨_,_,_,_,_,_,rfl,J4,by omega,by omega,by omega⟩⟩
       ·rw[if_neg h7]
        exact wpS_pure ⟨aq,_,_,_,_,_,_,rfl,J4,by omega,by omega,by omega⟩
  ·rintro c ai ⟨eO,out,ia,ib,g,ac,bc,rfl,J,i1,i2,i4⟩
   rw[Nat.max_eq_right (Nat.zero_le _)]at i4
   omega
  rintro c ai ⟨eO,⟨res,ec,gd⟩ |⟨out,xo,xn,g,ac,bc,rfl,J2,k1,k2,k3⟩⟩
  ·rw[ec]
   exact wpS_pure ⟨eO,res,rfl,gd⟩
  dsimp only
  refine wpS_bind (Ym (wpS_pure ⟨eO,_,_,_,_,rfl,J2,k1,k2,by omega⟩))
end
def CS:Array Keyed→Array Keyed→StateT SortSt Sem (Array Keyed):=sortPriv%PySem.Builtin.mergeHi
structure JH (r:Keyed→Keyed→Bool) (a b out:Array Keyed) (na nb:Nat):Prop where
 la:na≤a.size
 lb:nb≤b.size
 perm:((a.toList.take na++b.toList.take nb)++out.toList.reverse).Perm (a.toList++b.toList)
 ic:Pw r out.toList.reverse
 eZ:∀y∈a.toList.take na++b.toList.take nb,∀x∈out.toList,r x y=false
theorem W0 {α:Type}{l:List α}{i:Nat}{x:α}(h:l[i]? =some x):l.take (i+1)=l.take i++[x]:=by
 rw[List.take_add_one,h]
 rfl
theorem JJ {r:Keyed→Keyed→Bool}{l:List Keyed}{i:Nat}{x:Keyed}(o:Ord r) (p:Pw r l) (h:l[i]? =some x):∀y∈l.take (i+1),r x y=false:=fun y hy=>by
 obtain⟨j,hj,e⟩:=List.getElem_of_mem hy
 rw[List.length_take]at hj
 rw[List.getElem_take]at e
 exact Z7 (i:=j) o p (by rw[List.getElem?_eq_getElem (by omega),e]) h (by omega)
theorem p7 (xs:Array Keyed) (j:Nat):(xs.extract 0 j).toList=xs.toList.take j:=by
 rw[Jw,List.drop_zero,Nat.sub_zero]
section
variable {r:Keyed→Keyed→Bool}{a b out:Array Keyed}{na nb:Nat}
theorem JH.cq (C:dJ r a b) (J:JH r a b out na nb) {x:Keyed}(h1:1≤na) (hx:a[na - 1]? =some x) (h:1≤nb→∀y,b[nb - 1]? =some y→r x y=false):JH r a b (out.push x) (na - 1) nb:=by
 have la:=J.la
 have lb:=J.lb
 have jJ:=Zs hx
 have ht:=W0 jJ
 rw[Nat.sub_add_cancel h1]at ht
 have mx:x∈a.toList.take na:=by rw[ht];simp
 have low:∀y∈a.toList.take (na - 1)++b.toList.take nb,r x y=false:=fun y hy=>by
  rcases List.mem_append.mp hy with hy |hy
  ·exact JJ C.o C.sa jJ y (by rw[Nat.sub_add_cancel h1,ht];exact List.mem_append_left _ hy)
  ·have n1:1≤nb:=by
    rcases Nat.eq_zero_or_pos nb with z |z
    ·rw[z]at hy;cases hy
    ·exact z
   obtain⟨z,e⟩:=Zc (xs:=b) (i:=nb - 1) (by omega)
   have:=JJ C.o C.sb (Zs e) y (by rw[Nat.sub_add_cancel n1];exact hy)
   exact C.o.cG y z x this (h n1 z e)
 refine⟨by omega,lb,?_,?_,fun y hy u hu=> ?_⟩
 ·rw[Array.toList_push,List.reverse_append]
  have P:=J.perm
  rw[ht]at P
  refine List.Perm.trans ?_ P
  show((a.toList.take (na - 1)++b.toList.take nb)++(x::out.toList.reverse)).Perm (((a.toList.take (na - 1)++[x])++b.toList.take nb)++out.toList.reverse)
  rw[List.append_assoc,List.append_assoc,List.append_assoc]
  refine List.Perm.append_left _ ?_
  show(b.toList.take nb++x::out.toList.reverse).Perm (x::(b.toList.take nb++out.toList.reverse))
  exact List.perm_middle
 ·rw[Array.toList_push,List.reverse_append]
  refine List.pairwise_cons.mpr ⟨fun u hu=> ?_,J.ic⟩
  exact J.eZ x (List.mem_append_left _ mx) u (List.mem_reverse.mp hu)
 ·rw[Array.toList_push]at hu
  rcases List.mem_append.mp hu with hu |hu
  ·refine J.eZ y ?_ u hu
   rcases List.mem_append.mp hy with hy |hy
   ·exact List.mem_append_left _ (by rw[ht];exact List.mem_append_left _ hy)
   ·exact List.mem_append_right _ hy
  ·rw[List.mem_singleton.mp hu]
   exact low y hy
theorem JH.eG (C:dJ r a b) (J:JH r a b out na nb) {y:Keyed}(h1:1≤nb) (hy:b[nb - 1]? =some y) (h:1≤na→∀x,a[na - 1]? =some x→r y x=false):JH r a b (out.push y) na (nb - 1):=by
 have la:=J.la
 have lb:=J.lb
 have mE:=Zs hy
 have ht:=W0 mE
 rw[Nat.sub_add_cancel h1]at ht
 have my:y∈b.toList.take nb:=by rw[ht];simp
 have low:∀z∈a.toList.take na++b.toList.take (nb - 1),r y z=false:=fun z hz=>by
  rcases List.mem_append.mp hz with hz |hz
  ·have n1:1≤na:=by
    rcases Nat.eq_zero_or_pos na with q |q
    ·rw[q]at hz;cases hz
    ·exact q
   obtain⟨x,e⟩:=Zc (xs:=a) (i:=na - 1) (by omega)
   have:=JJ C.o C.sa (Zs e) z (by rw[Nat.sub_add_cancel n1];exact hz)
   exact C.o.cG z x y this (h n1 x e)
  ·exact JJ C.o C.sb mE z (by rw[Nat.sub_add_cancel h1,ht];exact List.mem_append_left _ hz)
 refine⟨la,by omega,?_,?_,fun z hz u hu=> ?_⟩
 ·rw[Array.toList_push,List.reverse_append]
  have P:=J.perm
  rw[ht]at P
  refine List.Perm.trans ?_ P
  show((a.toList.take na++b.toList.take (nb - 1))++(y::out.toList.reverse)).Perm ((a.toList.take na++(b.toList.take (nb - 1)++[y]))++out.toList.reverse)
  rw[List.append_assoc,List.append_assoc,List.append_assoc]
  exact .refl _
 ·rw[Array.toList_push,List.reverse_append]
  refine List.pairwise_cons.mpr ⟨fun u hu=> ?_,J.ic⟩
  exact J.eZ y (List.mem_append_right _ my) u (List.mem_reverse.mp hu)
 ·rw[Array.toList_push]at hu
  rcases List.mem_append.mp hu with hu |hu
  ·refine J.eZ z ?_ u hu
   rcases List.mem_append.mp hz with hz |hz
   ·exact List.mem_append_left _ hz
   ·exact List.mem_append_right _ (by rw[ht];exact List.mem_append_left _ hz)
  ·rw[List.mem_singleton.mp hu]
   exact low z hz
theorem zr {xs:Array Keyed}{i n:Nat}{x:Keyed}(hx:xs[i]? =some x) (h:i<n) (hn:n≤xs.size):(xs.extract i n).reverse=(xs.extract (i+1) n).reverse.push x:=by
 apply Array.toList_inj.mp
 rw[Array.toList_reverse,Array.toList_push,Array.toList_reverse,Jw,Jw,YR (Zs hx),show n - i=(n - (i+1))+1 by omega,List.take_succ_cons,List.reverse_cons]
theorem JH.kM (C:dJ r a b) (J:JH r a b out na nb):∀k,k≤na→(∀i,na - k≤i→i<na→∀x y,a[i]? =some x→b[nb - 1]? =some y→r x y=false)→JH r a b (out++(a.extract (na - k) na).reverse) (na - k) nb
 |0,_,_=>by
  have e:a.extract (na - 0) na= #[]:=by simp;omega
  rw[e]
  simpa using J
 |k+1,hk,h=>by
  have la:=J.la
  obtain⟨x,hx⟩:=Zc (xs:=a) (i:=na - (k+1)) (by omega)
  have ih:=JH.kM C J k (by omega) fun i h1 h2=>h i (by omega) h2
  have e1:na - k - 1=na - (k+1):=by omega
  have:=ih.cq C (x:=x) (by omega) (by rw[e1];exact hx) fun _ y hy=>h (na - (k+1)) (Nat.le_refl _) (by omega) x y hx hy
  rw[e1]at this
  rw[zr hx (by omega) la,show na - (k+1)+1=na - k by omega,Array.append_push]
  exact this
theorem JH.iT (C:dJ r a b) (J:JH r a b out na nb):∀k,k≤nb→(∀i,nb - k≤i→i<nb→∀y x,b[i]? =some y→a[na - 1]? =some x→r y x=false)→JH r a b (out++(b.extract (nb - k) nb).reverse) na (nb - k)
 |0,_,_=>by
  have e:b.extract (nb - 0) nb= #[]:=by simp;omega
  rw[e]
  simpa using J
 |k+1,hk,h=>by
  have lb:=J.lb
  obtain⟨y,hy⟩:=Zc (xs:=b) (i:=nb - (k+1)) (by omega)
  have ih:=JH.iT C J k (by omega) fun i h1 h2=>h i (by omega) h2
  have e1:nb - k - 1=nb - (k+1):=by omega
  have:=ih.eG C (y:=y) (by omega) (by rw[e1];exact hy) fun _ x hx=>h (nb - (k+1)) (Nat.le_refl _) (by omega) y x hy hx
  rw[e1]at this
  rw[zr hy (by omega) lb,show nb - (k+1)+1=nb - k by omega,Array.append_push]
  exact this
theorem JH.wu (C:dJ r a b) (J:JH r a b out na nb) {m:Nat}(hm:m≤na) (h:∀i,m≤i→i<na→∀x y,a[i]? =some x→b[nb - 1]? =some y→r x y=false):JH r a b (out++(a.extract m na).reverse) m nb:=by
 have:=J.kM C (na - m) (by omega) (fun i h1 h2=>h i (by omega) h2)
 rw[show na - (na - m)=m by omega]at this
 exact this
theorem JH.oI (C:dJ r a b) (J:JH r a b out na nb) {m:Nat}(hm:m≤nb) (h:∀i,m≤i→i<nb→∀y x,b[i]? =some y→a[na - 1]? =some x→r y x=false):JH r a b (out++(b.extract m nb).reverse) na m:=by
 have:=J.iT C (nb - m) (by omega) (fun i h1 h2=>h i (by omega) h2)
 rw[show nb - (nb - m)=m by omega]at this
 exact this
theorem JH.done (C:dJ r a b) (J:JH r a b out na nb) (h:na=0∨nb=0):Good r a b (a.extract 0 na++b.extract 0 nb++out.reverse):=by
 unfold Good
 rw[Array.toList_append,Array.toList_append,p7,p7,Array.toList_reverse]
 refine⟨J.perm,?_⟩
 have pa:Pw r (a.toList.take na):=List.Pairwise.sublist (List.take_sublist _ _) C.sa
 have pb:Pw r (b.toList.take nb):=List.Pairwise.sublist (List.take_sublist _ _) C.sb
 refine List.pairwise_append.mpr ⟨?_,J.ic,fun y hy x hx=>J.eZ y hy x (List.mem_reverse.mp hx)⟩
 rcases h with h |h
 ·rw[h,List.take_zero,List.nil_append]
  exact pb
 ·rw[h,List.take_zero,List.append_nil]
  exact pa
theorem JH.first (C:dJ r a b) (J:JH r a b out na nb) (h:nb=1) (h0:∀y,b[0]? =some y→∀x∈a.toList,r x y=false):Good r a b (b.extract 0 nb++a.extract 0 na++out.reverse):=by
 have lb:=J.lb
 subst h
 unfold Good
 obtain⟨y,hy⟩:=Zc (xs:=b) (i:=0) (by omega)
 have et:b.toList.take 1=[y]:=by rw[show(1:Nat)=0+1 from rfl,W0 (Zs hy)];rfl
 rw[Array.toList_append,Array.toList_append,p7,p7,Array.toList_reverse,et]
 have P:=J.perm
 have B:=J.eZ
 rw[et]at P B
 have pa:Pw r (a.toList.take na):=List.Pairwise.sublist (List.take_sublist _ _) C.sa
 refine⟨List.Perm.trans (List.Perm.append_right _ List.perm_append_comm) P,?_⟩
 refine List.pairwise_append.mpr ⟨?_,J.ic,fun z hz x hx=>B z ?_ x (List.mem_reverse.mp hx)⟩
 ·refine List.pairwise_cons.mpr ⟨fun z hz=>h0 y hy z (List.mem_of_mem_take hz),pa⟩
 ·rcases List.mem_append.mp hz with hz |hz
  ·exact List.mem_append_right _ hz
  ·exact List.mem_append_left _ hz
end
section
variable {prog:Program}{w:World}{A:Around}{E:Value→Shared→Prop}{s:Shared}{κ:SortKind}{a₀:Array Keyed}{r:Keyed→Keyed→Bool}
theorem Uo {a b:Array Keyed}{Q:Array Keyed→SortSt→Prop}{st:SortSt}(hc:gC prog w A E s κ a₀ r) (hk:kindOf st=κ) (C:dJ r a b) (ma:∀x∈a.toList,x∈a₀.toList) (mb:∀x∈b.toList,x∈a₀.toList) (CF:1≤a.size) (Mp:1≤b.size)
  (h0:∀y,b[0]? =some y→∀x∈a.toList,r x y=false) (hl:∀x,a[a.size - 1]? =some x→∀y∈b.toList,r x y=false)
  (h:∀res aa,SG st aa→Good r a b res→Q res aa):wpS (model prog w) A E s (CS a b) Q st:=by
 show wpS (model prog w) A E s (_ >>=_) _ _
 dsimp only
 refine wpS_bind (wpS_lift (wpAny_rule ⟨rfl,?_⟩))
 obtain⟨x0,jI⟩:=Zc (xs:=a) (i:=a.size - 1) (by omega)
 refine wpS_bind (Zj jI ?_)
 have J0:JH r a b #[x0] (a.size - 1) b.size:=by
  have e:JH r a b #[] a.size b.size:=⟨Nat.le_refl _,Nat.le_refl _,by simp[←Array.length_toList],.nil,fun y hy x hx=>by cases hx⟩
  exact e.cq C CF jI fun _ y hy=>hl x0 jI y (Zr hy)
 by_cases bt:(a.size - 1==0)=true
 ·rw[if_pos bt]
  exact wpS_pure (h _ _ (SG.refl _) (J0.done C (.inl (beq_iff_eq.mp bt))))
 rw[if_neg bt]
 by_cases bC:(b.size==1)=true
 ·rw[if_pos bC]
  exact wpS_pure (h _ _ (SG.refl _) (J0.first C (beq_iff_eq.mp bC) h0))
 rw[if_neg bC]
 have kW:¬(a.size - 1=0):=fun z=>bt (beq_iff_eq.mpr z)
 have o7:¬(b.size=1):=fun z=>bC (beq_iff_eq.mpr z)
 refine wpS_bind (wpS_get ?_)
 refine wpS_bind (wpS_mono (wpS_forRange (I:=fun x c av=>SG st av∧∃na nb out g,c=(none,na,nb,out,g)∧JH r a b out na nb∧1≤na∧2≤nb∧na+nb+x+1≤a.size+b.size) (Q:=fun c av=>SG st av∧∃res,c.fst=some res∧Good r a b res) ?step ?fin ⟨SG.refl _,_,_,_,_,rfl,J0,by omega,by omega,by omega⟩) ?post)
 case post=>
  rintro c av ⟨fJ,res,ec,gd⟩
  rw[ec]
  exact wpS_pure (h res av fJ gd)
 case fin=>
  rintro c av ⟨_,na,nb,out,g,_,_,i1,i2,i3⟩
  rw[Nat.max_eq_right (Nat.zero_le _)]at i3
  omega
 case step=>
  rintro x c av _ hx ⟨fJ,na,nb,out,g,rfl,J,i1,i2,i3⟩
  dsimp only
  have bE:kindOf av=κ:=by rw[fJ.1];exact hk
  refine wpS_bind (wpS_mono (wpS_forRange (I:=fun y c ai=>ai=av∧∃dA dz dw ac bc,c=(none,dA,dz,dw,ac,bc)∧JH r a b dw dA dz∧1≤dA∧2≤dz∧dA+dz+y≤na+nb)
   (Q:=fun c ai=>ai=av∧((∃res,c.fst=some res∧Good r a b res)∨∃dA dz dw ac bc,c=(none,dA,dz,dw,ac,bc)∧JH r a b dw dA dz∧1≤dA∧2≤dz∧dA+dz+1≤na+nb)) ?_ ?_ ⟨rfl,_,_,_,_,_,rfl,J,i1,i2,by omega⟩) ?_)
  ·rintro y c ai _ hy ⟨rfl,dA,dz,dw,ac,bc,rfl,J',j1,j2,j3⟩
   dsimp only
   have la:=J'.la
   have lb:=J'.lb
   obtain⟨yb,fT⟩:=Zc (xs:=b) (i:=dz - 1) (by omega)
   obtain⟨xa,fU⟩:=Zc (xs:=a) (i:=dA - 1) (by omega)
   refine wpS_bind (Zj fT (wpS_bind (Zj fU (wpS_bind (hc _ _ _ _ (mb _ (Zr fT)) (ma _ (Zr fU)) bE ?_)))))
   dsimp only
   cases hr:r yb xa with
   |true=>
    rw[if_pos rfl]
    refine wpS_bind (Zj fU ?_)
    have J2:=J'.cq C j1 fU (fun _ y hy=>by rw[fT]at hy;cases hy;exact C.o.bG _ _ hr)
    by_cases hz:(dA - 1==0)=true
    ·rw[if_pos hz]
     exact wpS_pure ⟨rfl,.inl ⟨_,rfl,J2.done C (.inl (beq_iff_eq.mp hz))⟩⟩
    rw[if_neg hz]
    have bh:¬(dA - 1=0):=fun z=>hz (beq_iff_eq.mpr z)
    by_cases hg:ac+1≥g
    ·rw[if_pos hg]
     exact wpS_pure ⟨rfl,.inr ⟨_,_,_,_,_,rfl,J2,by omega,by omega,by omega⟩⟩
    ·rw[if_neg hg]
     exact wpS_pure ⟨rfl,_,_,_,_,_,rfl,J2,by omega,by omega,by omega⟩
   |false=>
    rw[if_neg Bool.false_ne_true]
    refine wpS_bind (Zj fT ?_)
    have J2:=J'.eG C (by omega) fT (fun _ x hx=>by rw[fU]at hx;cases hx;exact hr)
    by_cases hz:(dz - 1==1)=true
    ·rw[if_pos hz]
     exact wpS_pure ⟨rfl,.inl ⟨_,rfl,J2.first C (beq_iff_eq.mp hz) h0⟩⟩
    rw[if_neg hz]
    have bh:¬(dz - 1=1):=fun z=>hz (beq_iff_eq.mpr z)
    by_cases hg:bc+1≥g
    ·rw[if_pos hg]
     exact wpS_pure ⟨rfl,.inr ⟨_,_,_,_,_,rfl,J2,by omega,by omega,by omega⟩⟩
    ·rw[if_neg hg]
     exact wpS_pure ⟨rfl,_,_,_,_,_,rfl,J2,by omega,by omega,by omega⟩
  ·rintro c ai ⟨rfl,dA,dz,dw,ac,bc,rfl,J',j1,j2,j3⟩
   rw[Nat.max_eq_right (Nat.zero_le _)]at j3
   have la:=J.la
   have lb:=J.lb
   omega
  rintro c ai ⟨rfl,⟨res,ec,gd⟩ |⟨dA,dz,dw,ac,bc,rfl,J',j1,j2,j3⟩⟩
  ·rw[ec]
   exact wpS_pure ⟨fJ,res,rfl,gd⟩
  dsimp only
  refine wpS_bind (wpS_lift (wpAny_rule ⟨rfl,?_⟩))
  refine wpS_bind (wpS_mono (wpS_forRange (I:=fun y c ai=>SG st ai∧∃na nb out g ac bc,c=(none,na,nb,out,g,ac,bc)∧JH r a b out na nb∧1≤na∧2≤nb∧na+nb+y≤dA+dz)
   (Q:=fun c ai=>SG st ai∧((∃res,c.fst=some res∧Good r a b res)∨∃na nb out g ac bc,c=(none,na,nb,out,g,ac,bc)∧JH r a b out na nb∧1≤na∧2≤nb∧na+nb≤dA+dz)) ?_ ?_ ⟨fJ,_,_,_,_,_,_,rfl,J',j1,j2,by omega⟩) ?_)
  ·clear J i1 i2 bE
   rintro y c ai _ hy ⟨eO,wZ,wY,out,g,ac,bc,rfl,J,i1,i2,i4⟩
   dsimp only
   revert J i1 i2 i4
   clear j3 i3
   generalize wZ=na
   generalize wY=nb
   intro J i1 i2 i4
   have la:=J.la
   have lb:=J.lb
   by_cases k9:g>1
   ·rw[if_pos k9]
    refine wpS_bind (Ym ?_)
    generalize jT:SortSt.mk' _ _ _ _ _=aK
    have aq:SG st aK:=by rw[←jT];exact eO
    have dX:kindOf aK=κ:=by rw[aq.1];exact hk
    obtain⟨y2,aW⟩:=Zc (xs:=b) (i:=nb - 1) (by omega)
    refine wpS_bind (Zj aW ?_)
    refine wpS_bind (ZC hc dX (fun i=>match a[0+i]? with |some x=> !r y2 x |none=>false) (fun i hi=> ?_) (mb y2 (Zr aW)) (fun i j bJ hj hp=> ?_) (by omega) fun at_ kn cX cf=> ?_)
    ·obtain⟨x,hx⟩:=Zc (xs:=a) (i:=0+i) (by omega)
     refine⟨x,hx,ma x (Zr hx),?_⟩
     try dsimp only
     rw[hx]
     rfl
    ·obtain⟨xj,eI⟩:=Zc (xs:=a) (i:=0+j) (by omega)
     obtain⟨xi,eJ⟩:=Zc (xs:=a) (i:=0+i) (by omega)
     try dsimp only at hp ⊢
     rw[eI]at hp
     rw[eJ]
     rw[Bool.not_eq_true']at hp ⊢
     exact C.o.cG _ _ _ (Z7 C.o C.sa (Zs eJ) (Zs eI) (by omega)) hp
    try dsimp only
    by_cases gf:na - at_>0
    ·rw[if_pos gf]
     have J1:=J.wu C (m:=at_) (by omega) (fun i gh eV x y hx hy=>by
      rw[aW]at hy
      cases hy
      have:=cf i gh eV
      try dsimp only at this
      rw[Nat.zero_add,hx,Bool.not_eq_false']at this
      exact C.o.bG _ _ this)
     by_cases bt:(at_==0)=true
     ·rw[if_pos bt]
      exact wpS_pure ⟨aq,.inl ⟨_,rfl,J1.done C (.inl (beq_iff_eq.mp bt))⟩⟩
     rw[if_neg bt]
     have kW:¬(at_=0):=fun z=>bt (beq_iff_eq.mpr z)
     refine wpS_bind (Zj aW ?_)
     have J2:=J1.eG C (by omega) aW (fun _ x hx=>by
      have:=cX (at_ - 1) (by omega)
      try dsimp only at this
      rw[Nat.zero_add,hx,Bool.not_eq_true']at this
      exact this)
     by_cases hz:(nb - 1==1)=true
     ·rw[if_pos hz]
      exact wpS_pure ⟨aq,.inl ⟨_,rfl,J2.first C (beq_iff_eq.mp hz) h0⟩⟩
     rw[if_neg hz]
     have bh:¬(nb - 1=1):=fun z=>hz (beq_iff_eq.mpr z)
     obtain⟨x3,aO⟩:=Zc (xs:=a) (i:=at_ - 1) (by omega)
     refine wpS_bind (Zj aO ?_)
     refine wpS_bind (ZC hc dX (fun i=>match b[0+i]? with |some y=>r y x3 |none=>false) (fun i hi=> ?_) (ma x3 (Zr aO)) (fun i j bJ hj hp=> ?_) (by omega) fun k1 jF fS jE=> ?_)
     ·obtain⟨y,hy⟩:=Zc (xs:=b) (i:=0+i) (by omega)
      refine⟨y,hy,mb y (Zr hy),?_⟩
      try dsimp only
      rw[hy]
      rfl
     ·obtain⟨yj,bP⟩:=Zc (xs:=b) (i:=0+j) (by omega)
      obtain⟨yi,bQ⟩:=Zc (xs:=b) (i:=0+i) (by omega)
      try dsimp only at hp ⊢
      rw[bP]at hp
      rw[bQ]
      exact Je C.o hp (Z7 C.o C.sb (Zs bQ) (Zs bP) (by omega))
     try dsimp only
     by_cases bE:nb - 1 - k1>0
     ·rw[if_pos bE]
      have J3:=J2.oI C (m:=k1) (by omega) (fun i gh eV y x hy hx=>by
       rw[aO]at hx
       cases hx
       have:=jE i gh eV
       try dsimp only at this
       rw[Nat.zero_add,hy]at this
       exact this)
      by_cases aJ:(k1==1)=true
      ·rw[if_pos aJ]
       exact wpS_pure ⟨aq,.inl ⟨_,rfl,J3.first C (beq_iff_eq.mp aJ) h0⟩⟩
      rw[if_neg aJ]
      by_cases cY:(k1==0)=true
      ·rw[if_pos cY]
       exact wpS_pure ⟨aq,.inl ⟨_,rfl,J3.done C (.inr (beq_iff_eq.mp cY))⟩⟩
      rw[if_neg cY]
      have jH:¬(k1=1):=fun z=>aJ (beq_iff_eq.mpr z)
      have sW:¬(k1=0):=fun z=>cY (beq_iff_eq.mpr z)
      obtain⟨x4,ar⟩:=Zc (xs:=a) (i:=at_ - 1) (by omega)
      refine wpS_bind (Zj ar ?_)
      have J4:=J3.cq C (by omega) ar (fun _ y hy=>by
       have:=fS (k1 - 1) (by omega)
       try dsimp only at this
       rw[Nat.zero_add,hy]at this
       have e:x4=x3:=by rw[aO]at ar;exact(Option.some.inj ar).symm
       rw[e]
       exact C.o.bG _ _ this)
      by_cases hz:(at_ - 1==0)=true
      ·rw[if_pos hz]
       exact wpS_pure ⟨aq,.inl ⟨_,rfl,J4.done C (.inl (by have:=beq_iff_eq.mp hz;omega))⟩⟩
      ·rw[if_neg hz]
       have bh:¬(at_ - 1=0):=fun z=>hz (beq_iff_eq.mpr z)
       by_cases h7:(decide (na - at_<7)&&decide (nb - 1 - k1<7))=true
       ·rw[if_pos h7]
        exact wpS_pure ⟨aq,.inr ⟨_,_,_,_,_,_,rfl,J4,by omega,by omega,by omega⟩⟩
       ·rw[if_neg h7]
        exact wpS_pure ⟨aq,_,_,_,_,_,_,rfl,J4,by omega,by omega,by omega⟩
     ·rw[if_neg bE]
      obtain rfl:k1=nb - 1:=by omega
      obtain⟨x4,ar⟩:=Zc (xs:=a) (i:=at_ - 1) (by omega)
      refine wpS_bind (Zj ar ?_)
      have J4:=J2.cq C (by omega) ar (fun _ y hy=>by
       have:=fS (nb - 1 - 1) (by omega)
       try dsimp only at this
       rw[Nat.zero_add,hy]at this
       have e:x4=x3:=by rw[aO]at ar;exact(Option.some.inj ar).symm
       rw[e]
       exact C.o.bG _ _ this)
      by_cases hz:(at_ - 1==0)=true
      ·rw[if_pos hz]
       exact wpS_pure ⟨aq,.inl ⟨_,rfl,J4.done C (.inl (by have:=beq_iff_eq.mp hz;omega))⟩⟩
      ·rw[if_neg hz]
       have bh:¬(at_ - 1=0):=fun z=>hz (beq_iff_eq.mpr z)
       by_cases h7:(decide (na - at_<7)&&decide (nb - 1 - (nb - 1)<7))=true
       ·rw[if_pos h7]
        exact wpS_pure ⟨aq,.inr ⟨_,_,_,_,_,_,rfl,J4,by omega,by omega,by omega⟩⟩
       ·rw[if_neg h7]
        exact wpS_pure ⟨aq,_,_,_,_,_,_,rfl,J4,by omega,by omega,by omega⟩
    ·rw[if_neg gf]
     obtain rfl:at_=na:=by omega
     refine wpS_bind (Zj aW ?_)
     have J2:=J.eG C (by omega) aW (fun _ x hx=>by
      have:=cX (at_ - 1) (by omega)
      try dsimp only at this
      rw[Nat.zero_add,hx,Bool.not_eq_true']at this
      exact this)
     by_cases hz:(nb - 1==1)=true
     ·rw[if_pos hz]
      exact wpS_pure ⟨aq,.inl ⟨_,rfl,J2.first C (beq_iff_eq.mp hz) h0⟩⟩
     rw[if_neg hz]
     have bh:¬(nb - 1=1):=fun z=>hz (beq_iff_eq.mpr z)
     obtain⟨x3,aO⟩:=Zc (xs:=a) (i:=at_ - 1) (by omega)
     refine wpS_bind (Zj aO ?_)
     refine wpS_bind (ZC hc dX (fun i=>match b[0+i]? with |some y=>r y x3 |none=>false) (fun i hi=> ?_) (ma x3 (Zr aO)) (fun i j bJ hj hp=> ?_) (by omega) fun k1 jF fS jE=> ?_)
     ·obtain⟨y,hy⟩:=Zc (xs:=b) (i:=0+i) (by omega)
      refine⟨y,hy,mb y (Zr hy),?_⟩
      try dsimp only
      rw[hy]
      rfl
     ·obtain⟨yj,bP⟩:=Zc (xs:=b) (i:=0+j) (by omega)
      obtain⟨yi,bQ⟩:=Zc (xs:=b) (i:=0+i) (by omega)
      try dsimp only at hp ⊢
      rw[bP]at hp
      rw[bQ]
      exact Je C.o hp (Z7 C.o C.sb (Zs bQ) (Zs bP) (by omega))
     try dsimp only
     by_cases bE:nb - 1 - k1>0
     ·rw[if_pos bE]
      have J3:=J2.oI C (m:=k1) (by omega) (fun i gh eV y x hy hx=>by
       rw[aO]at hx
       cases hx
       have:=jE i gh eV
       try dsimp only at this
       rw[Nat.zero_add,hy]at this
       exact this)
      by_cases aJ:(k1==1)=true
      ·rw[if_pos aJ]
       exact wpS_pure ⟨aq,.inl ⟨_,rfl,J3.first C (beq_iff_eq.mp aJ) h0⟩⟩
      rw[if_neg aJ]
      by_cases cY:(k1==0)=true
      ·rw[if_pos cY]
       exact wpS_pure ⟨aq,.inl ⟨_,rfl,J3.done C (.inr (beq_iff_eq.mp cY))⟩⟩
      rw[if_neg cY]
      have jH:¬(k1=1):=fun z=>aJ (beq_iff_eq.mpr z)
      have sW:¬(k1=0):=fun z=>cY (beq_iff_eq.mpr z)
      obtain⟨x4,ar⟩:=Zc (xs:=a) (i:=at_ - 1) (by omega)
      refine wpS_bind (Zj ar ?_)
      have J4:=J3.cq C (by omega) ar (fun _ y hy=>by
       have:=fS (k1 - 1) (by omega)
       try dsimp only at this
       rw[Nat.zero_add,hy]at this
       have e:x4=x3:=by rw[aO]at ar;exact(Option.some.inj ar).symm
       rw[e]
       exact C.o.bG _ _ this)
      by_cases hz:(at_ - 1==0)=true
      ·rw[if_pos hz]
       exact wpS_pure ⟨aq,.inl ⟨_,rfl,J4.done C (.inl (by have:=beq_iff_eq.mp hz;omega))⟩⟩
      ·rw[if_neg hz]
       have bh:¬(at_ - 1=0):=fun z=>hz (beq_iff_eq.mpr z)
       by_cases h7:(decide (at_ - at_<7)&&decide (nb - 1 - k1<7))=true
       ·rw[if_pos h7]
        exact wpS_pure ⟨aq,.inr ⟨_,_,_,_,_,_,rfl,J4,by omega,by omega,by omega⟩⟩
       ·rw[if_neg h7]
        exact wpS_pure ⟨aq,_,_,_,_,_,_,rfl,J4,by omega,by omega,by omega⟩
     ·rw[if_neg bE]
      obtain rfl:k1=nb - 1:=by omega
      obtain⟨x4,ar⟩:=Zc (xs:=a) (i:=at_ - 1) (by omega)
      refine wpS_bind (Zj ar ?_)
      have J4:=J2.cq C (by omega) ar (fun _ y hy=>by
       have:=fS (nb - 1 - 1) (by omega)
       try dsimp only at this
       rw[Nat.zero_add,hy]at this
       have e:x4=x3:=by rw[aO]at ar;exact(Option.some.inj ar).symm
       rw[e]
       exact C.o.bG _ _ this)
      by_cases hz:(at_ - 1==0)=true
      ·rw[if_pos hz]
       exact wpS_pure ⟨aq,.inl ⟨_,rfl,J4.done C (.inl (by have:=beq_iff_eq.mp hz;omega))⟩⟩
      ·rw[if_neg hz]
       have bh:¬(at_ - 1=0):=fun z=>hz (beq_iff_eq.mpr z)
       by_cases h7:(decide (at_ - at_<7)&&decide (nb - 1 - (nb - 1)<7))=true
       ·rw[if_pos h7]
        exact wpS_pure ⟨aq,.inr ⟨_,_,_,_,_,_,rfl,J4,by omega,by omega,by omega⟩⟩
       ·rw[if_neg h7]
        exact wpS_pure ⟨aq,_,_,_,_,_,_,rfl,J4,by omega,by omega,by omega⟩
   ·rw[if_neg k9]
    refine wpS_bind (Ym ?_)
    generalize jT:SortSt.mk' _ _ _ _ _=aK
    have aq:SG st aK:=by rw[←jT];exact eO
    have dX:kindOf aK=κ:=by rw[aq.1];exact hk
    obtain⟨y2,aW⟩:=Zc (xs:=b) (i:=nb - 1) (by omega)
    refine wpS_bind (Zj aW ?_)
    refine wpS_bind (ZC hc dX (fun i=>match a[0+i]? with |some x=> !r y2 x |none=>false) (fun i hi=> ?_) (mb y2 (Zr aW)) (fun i j bJ hj hp=> ?_) (by omega) fun at_ kn cX cf=> ?_)
    ·obtain⟨x,hx⟩:=Zc (xs:=a) (i:=0+i) (by omega)
     refine⟨x,hx,ma x (Zr hx),?_⟩
     try dsimp only
     rw[hx]
     rfl
    ·obtain⟨xj,eI⟩:=Zc (xs:=a) (i:=0+j) (by omega)
     obtain⟨xi,eJ⟩:=Zc (xs:=a) (i:=0+i) (by omega)
     try dsimp only at hp ⊢
     rw[eI]at hp
     rw[eJ]
     rw[Bool.not_eq_true']at hp ⊢
     exact C.o.cG _ _ _ (Z7 C.o C.sa (Zs eJ) (Zs eI) (by omega)) hp
    try dsimp only
    by_cases gf:na - at_>0
    ·rw[if_pos gf]
     have J1:=J.wu C (m:=at_) (by omega) (fun i gh eV x y hx hy=>by
      rw[aW]at hy
      cases hy
      have:=cf i gh eV
      try dsimp only at this
      rw[Nat.zero_add,hx,Bool.not_eq_false']at this
      exact C.o.bG _ _ this)
     by_cases bt:(at_==0)=true
     ·rw[if_pos bt]
      exact wpS_pure ⟨aq,.inl ⟨_,rfl,J1.done C (.inl (beq_iff_eq.mp bt))⟩⟩
     rw[if_neg bt]
     have kW:¬(at_=0):=fun z=>bt (beq_iff_eq.mpr z)
     refine wpS_bind (Zj aW ?_)
     have J2:=J1.eG C (by omega) aW (fun _ x hx=>by
      have:=cX (at_ - 1) (by omega)
      try dsimp only at this
      rw[Nat.zero_add,hx,Bool.not_eq_true']at this
      exact this)
     by_cases hz:(nb - 1==1)=true
     ·rw[if_pos hz]
      exact wpS_pure ⟨aq,.inl ⟨_,rfl,J2.first C (beq_iff_eq.mp hz) h0⟩⟩
     rw[if_neg hz]
     have bh:¬(nb - 1=1):=fun z=>hz (beq_iff_eq.mpr z)
     obtain⟨x3,aO⟩:=Zc (xs:=a) (i:=at_ - 1) (by omega)
     refine wpS_bind (Zj aO ?_)
     refine wpS_bind (ZC hc dX (fun i=>match b[0+i]? with |some y=>r y x3 |none=>false) (fun i hi=> ?_) (ma x3 (Zr aO)) (fun i j bJ hj hp=> ?_) (by omega) fun k1 jF fS jE=> ?_)
     ·obtain⟨y,hy⟩:=Zc (xs:=b) (i:=0+i) (by omega)
      refine⟨y,hy,mb y (Zr hy),?_⟩
      try dsimp only
      rw[hy]
      rfl
     ·obtain⟨yj,bP⟩:=Zc (xs:=b) (i:=0+j) (by omega)
      obtain⟨yi,bQ⟩:=Zc (xs:=b) (i:=0+i) (by omega)
      try dsimp only at hp ⊢
      rw[bP]at hp
      rw[bQ]
      exact Je C.o hp (Z7 C.o C.sb (Zs bQ) (Zs bP) (by omega))
     try dsimp only
     by_cases bE:nb - 1 - k1>0
     ·rw[if_pos bE]
      have J3:=J2.oI C (m:=k1) (by omega) (fun i gh eV y x hy hx=>by
       rw[aO]at hx
       cases hx
       have:=jE i gh eV
       try dsimp only at this
       rw[Nat.zero_add,hy]at this
       exact this)
      by_cases aJ:(k1==1)=true
      ·rw[if_pos aJ]
       exact wpS_pure ⟨aq,.inl ⟨_,rfl,J3.first C (beq_iff_eq.mp aJ) h0⟩⟩
      rw[if_neg aJ]
      by_cases cY:(k1==0)=true
      ·rw[if_pos cY]
       exact wpS_pure ⟨aq,.inl ⟨_,rfl,J3.done C (.inr (beq_iff_eq.mp cY))⟩⟩
      rw[if_neg cY]
      have jH:¬(k1=1):=fun z=>aJ (beq_iff_eq.mpr z)
      have sW:¬(k1=0):=fun z=>cY (beq_iff_eq.mpr z)
      obtain⟨x4,ar⟩:=Zc (xs:=a) (i:=at_ - 1) (by omega)
      refine wpS_bind (Zj ar ?_)
      have J4:=J3.cq C (by omega) ar (fun _ y hy=>by
       have:=fS (k1 - 1) (by omega)
       try dsimp only at this
       rw[Nat.zero_add,hy]at this
       have e:x4=x3:=by rw[aO]at ar;exact(Option.some.inj ar).symm
       rw[e]
       exact C.o.bG _ _ this)
      by_cases hz:(at_ - 1==0)=true
      ·rw[if_pos hz]
       exact wpS_pure ⟨aq,.inl ⟨_,rfl,J4.done C (.inl (by have:=beq_iff_eq.mp hz;omega))⟩⟩
      ·rw[if_neg hz]
       have bh:¬(at_ - 1=0):=fun z=>hz (beq_iff_eq.mpr z)
       by_cases h7:(decide (na - at_<7)&&decide (nb - 1 - k1<7))=true
       ·rw[if_pos h7]
        exact wpS_pure ⟨aq,.inr ⟨_,_,_,_,_,_,rfl,J4,by omega,by omega,by omega⟩⟩
       ·rw[if_neg h7]
        exact wpS_pure ⟨aq,_,_,_,_,_,_,rfl,J4,by omega,by omega,by omega⟩
     ·rw[if_neg bE]
      obtain rfl:k1=nb - 1:=by omega
      obtain⟨x4,ar⟩:=Zc (xs:=a) (i:=at_ - 1) (by omega)
      refine wpS_bind (Zj ar ?_)
      have J4:=J2.cq C (by omega) ar (fun _ y hy=>by
       have:=fS (nb - 1 - 1) (by omega)
       try dsimp only at this
       rw[Nat.zero_add,hy]at this
       have e:x4=x3:=by rw[aO]at ar;exact(Option.some.inj ar).symm
       rw[e]
       exact C.o.bG _ _ this)
      by_cases hz:(at_ - 1==0)=true
      ·rw[if_pos hz]
       exact wpS_pure ⟨aq,.inl ⟨_,rfl,J4.done C (.inl (by have:=beq_iff_eq.mp hz;omega))⟩⟩
      ·rw[if_neg hz]
       have bh:¬(at_ - 1=0):=fun z=>hz (beq_iff_eq.mpr z)
       by_cases h7:(decide (na - at_<7)&&decide (nb - 1 - (nb - 1)<7))=true
       ·rw[if_pos h7]
        exact wpS_pure ⟨aq,.inr ⟨_,_,_,_,_,_,rfl,J4,by omega,by omega,by omega⟩⟩
       ·rw[if_neg h7]
        exact wpS_pure ⟨aq,_,_,_,_,_,_,rfl,J4,by omega,by omega,by omega⟩
    ·rw[if_neg gf]
     obtain rfl:at_=na:=by omega
     refine wpS_bind (Zj aW ?_)
     have J2:=J.eG C (by omega) aW (fun _ x hx=>by
      have:=cX (at_ - 1) (by omega)
      try dsimp only at this
      rw[Nat.zero_add,hx,Bool.not_eq_true']at this
      exact this)
     by_cases hz:(nb - 1==1)=true
     ·rw[if_pos hz]
      exact wpS_pure ⟨aq,.inl ⟨_,rfl,J2.first C (beq_iff_eq.mp hz) h0⟩⟩
     rw[if_neg hz]
     have bh:¬(nb - 1=1):=fun z=>hz (beq_iff_eq.mpr z)
     obtain⟨x3,aO⟩:=Zc (xs:=a) (i:=at_ - 1) (by omega)
     refine wpS_bind (Zj aO ?_)
     refine wpS_bind (ZC hc dX (fun i=>match b[0+i]? with |some y=>r y x3 |none=>false) (fun i hi=> ?_) (ma x3 (Zr aO)) (fun i j bJ hj hp=> ?_) (by omega) fun k1 jF fS jE=> ?_)
     ·obtain⟨y,hy⟩:=Zc (xs:=b) (i:=0+i) (by omega)
      refine⟨y,hy,mb y (Zr hy),?_⟩
      try dsimp only
      rw[hy]
      rfl
     ·obtain⟨yj,bP⟩:=Zc (xs:=b) (i:=0+j) (by omega)
      obtain⟨yi,bQ⟩:=Zc (xs:=b) (i:=0+i) (by omega)
      try dsimp only at hp ⊢
      rw[bP]at hp
      rw[bQ]
      exact Je C.o hp (Z7 C.o C.sb (Zs bQ) (Zs bP) (by omega))
     try dsimp only
     by_cases bE:nb - 1 - k1>0
     ·rw[if_pos bE]
      have J3:=J2.oI C (m:=k1) (by omega) (fun i gh eV y x hy hx=>by
       rw[aO]at hx
       cases hx
       have:=jE i gh eV
       try dsimp only at this
       rw[Nat.zero_add,hy]at this
       exact this)
      by_cases aJ:(k1==1)=true
      ·rw[if_pos aJ]
       exact wpS_pure ⟨aq,.inl ⟨_,rfl,J3.first C (beq_iff_eq.mp aJ) h0⟩⟩
      rw[if_neg aJ]
      by_cases cY:(k1==0)=true
      ·rw[if_pos cY]
       exact wpS_pure ⟨aq,.inl ⟨_,rfl,J3.done C (.inr (beq_iff_eq.mp cY))⟩⟩
      rw[if_neg cY]
      have jH:¬(k1=1):=fun z=>aJ (beq_iff_eq.mpr z)
      have sW:¬(k1=0):=fun z=>cY (beq_iff_eq.mpr z)
      obtain⟨x4,ar⟩:=Zc (xs:=a) (i:=at_ - 1) (by omega)
      refine wpS_bind (Zj ar ?_)
      have J4:=J3.cq C (by omega) ar (fun _ y hy=>by
       have:=fS (k1 - 1) (by omega)
       try dsimp only at this
       rw[Nat.zero_add,hy]at this
       have e:x4=x3:=by rw[aO]at ar;exact(Option.some.inj ar).symm
       rw[e]
       exact C.o.bG _ _ this)
      by_cases hz:(at_ - 1==0)=true
      ·rw[if_pos hz]
       exact wpS_pure ⟨aq,.inl ⟨_,rfl,J4.done C (.inl (by have:=beq_iff_eq.mp hz;omega))⟩⟩
      ·rw[if_neg hz]
       have bh:¬(at_ - 1=0):=fun z=>hz (beq_iff_eq.mpr z)
       by_cases h7:(decide (at_ - at_<7)&&decide (nb - 1 - k1<7))=true
       ·rw[if_pos h7]
        exact wpS_pure ⟨aq,.inr ⟨_,_,_,_,_,_,rfl,J4,by omega,by omega,by omega⟩⟩
       ·rw[if_neg h7]
        exact wpS_pure ⟨aq,_,_,_,_,_,_,rfl,J4,by omega,by omega,by omega⟩
     ·rw[if_neg bE]
      obtain rfl:k1=nb - 1:=by omega
      obtain⟨x4,ar⟩:=Zc (xs:=a) (i:=at_ - 1) (by omega)
      refine wpS_bind (Zj ar ?_)
      have J4:=J2.cq C (by omega) ar (fun _ y hy=>by
       have:=fS (nb - 1 - 1) (by omega)
       try dsimp only at this
       rw[Nat.zero_add,hy]at this
       have e:x4=x3:=by rw[aO]at ar;exact(Option.some.inj ar).symm
       rw[e]
       exact C.o.bG _ _ this)
      by_cases hz:(at_ - 1==0)=true
      ·rw[if_pos hz]
       exact wpS_pure ⟨aq,.inl ⟨_,rfl,J4.done C (.inl (by have:=beq_iff_eq.mp hz;omega))⟩⟩
      ·rw[if_neg hz]
       have bh:¬(at_ - 1=0):=fun z=>hz (beq_iff_eq.mpr z)
       by_cases h7:(decide (at_ - at_<7)&&decide (nb - 1 - (nb - 1)<7))=true
       ·rw[if_pos h7]
        exact wpS_pure ⟨aq,.inr ⟨_,_,_,_,_,_,rfl,J4,by omega,by omega,by omega⟩⟩
       ·rw[if_neg h7]
        exact wpS_pure ⟨aq,_,_,_,_,_,_,rfl,J4,by omega,by omega,by omega⟩
  ·rintro c ai ⟨eO,na,nb,out,g,ac,bc,rfl,J,i1,i2,i4⟩
   rw[Nat.max_eq_right (Nat.zero_le _)]at i4
   have la:=J'.la
   have lb:=J'.lb
   omega
  rintro c ai ⟨eO,⟨res,ec,gd⟩ |⟨wZ,wY,out,g,ac,bc,rfl,J2,k1,k2,k3⟩⟩
  ·rw[ec]
   exact wpS_pure ⟨eO,res,rfl,gd⟩
  dsimp only
  refine wpS_bind (Ym (wpS_pure ⟨eO,_,_,_,_,rfl,J2,k1,k2,by omega⟩))
end
def SI (r:Keyed→Keyed→Bool) (xs:Array Keyed) (lo hi:Nat):Prop:=∀i j x y,lo≤i→i≤j→j<hi→xs[i]? =some x→xs[j]? =some y→r y x=false
def NI (r:Keyed→Keyed→Bool) (xs:Array Keyed) (lo hi:Nat):Prop:=∀i j x y,lo≤i→i≤j→j<hi→xs[i]? =some x→xs[j]? =some y→r x y=false
def EQ (r:Keyed→Keyed→Bool) (xs:Array Keyed) (lo hi:Nat):Prop:=∀i j x y,lo≤i→i<hi→lo≤j→j<hi→xs[i]? =some x→xs[j]? =some y→r x y=false
section
variable {r:Keyed→Keyed→Bool}{xs:Array Keyed}{lo hi:Nat}
theorem SI.one (o:Ord r):SI r xs lo (lo+1):=fun i j x y h1 h2 h3 hx hy=>by
 obtain rfl:i=j:=by omega
 rw[hx]at hy;cases hy;exact o.iZ _
theorem NI.one (o:Ord r):NI r xs lo (lo+1):=fun i j x y h1 h2 h3 hx hy=>by
 obtain rfl:i=j:=by omega
 rw[hx]at hy;cases hy;exact o.iZ _
theorem EQ.one (o:Ord r):EQ r xs lo (lo+1):=fun i j x y h1 h2 h3 h4 hx hy=>by
 obtain rfl:i=j:=by omega
 rw[hx]at hy;cases hy;exact o.iZ _
theorem SI.snoc (o:Ord r) (h:SI r xs lo hi) {p q:Keyed}(hl:lo<hi) (hp:xs[hi - 1]? =some p) (hq:xs[hi]? =some q) (hr:r q p=false):SI r xs lo (hi+1):=fun i j x y h1 h2 h3 hx hy=>by
 by_cases hj:j<hi
 ·exact h i j x y h1 h2 hj hx hy
 ·obtain rfl:j=hi:=by omega
  rw[hq]at hy;cases hy
  by_cases aR:i=j
  ·subst aR
   rw[hq]at hx;cases hx;exact o.iZ _
  ·exact o.cG x p q (h i (j - 1) x p h1 (by omega) (by omega) hx hp) hr
theorem NI.snoc (o:Ord r) (h:NI r xs lo hi) {p q:Keyed}(hl:lo<hi) (hp:xs[hi - 1]? =some p) (hq:xs[hi]? =some q) (hr:r p q=false):NI r xs lo (hi+1):=fun i j x y h1 h2 h3 hx hy=>by
 by_cases hj:j<hi
 ·exact h i j x y h1 h2 hj hx hy
 ·obtain rfl:j=hi:=by omega
  rw[hq]at hy;cases hy
  by_cases aR:i=j
  ·subst aR
   rw[hq]at hx;cases hx;exact o.iZ _
  ·exact o.cG q p x hr (h i (j - 1) x p h1 (by omega) (by omega) hx hp)
theorem EQ.snoc (o:Ord r) (h:EQ r xs lo hi) {p q:Keyed}(hl:lo<hi) (hp:xs[hi - 1]? =some p) (hq:xs[hi]? =some q) (hr:r p q=false) (eT:r q p=false):EQ r xs lo (hi+1):=fun i j x y h1 h2 h3 h4 hx hy=>by
 have one:∀i x,lo≤i→i<hi→xs[i]? =some x→r x q=false∧r q x=false:=fun i x h1 h2 hx=>
  ⟨o.cG q p x hr (h i (hi - 1) x p h1 h2 (by omega) (by omega) hx hp),o.cG x p q (h (hi - 1) i p x (by omega) (by omega) h1 h2 hp hx) eT⟩
 by_cases hj:j<hi
 ·by_cases aR:i<hi
  ·exact h i j x y h1 aR h3 hj hx hy
  ·obtain rfl:i=hi:=by omega
   rw[hq]at hx;cases hx
   exact(one j y h3 hj hy).2
 ·obtain rfl:j=hi:=by omega
  rw[hq]at hy;cases hy
  by_cases aR:i<j
  ·exact(one i x h1 aR hx).1
  ·obtain rfl:i=j:=by omega
   rw[hq]at hx;cases hx
   exact o.iZ _
abbrev aZ (xs:Array Keyed) (i j:Nat):Array Keyed:=mirror xs i j ((j - i)/2)
theorem J6 (hh:hi≤xs.size) (k:Nat):(aZ xs lo hi)[k]? =if lo≤k∧k<hi then xs[lo+hi - 1 - k]? else xs[k]? :=getElem?_mirror_all hh k
theorem SI.aZ (h:SI r xs lo hi) (hh:hi≤xs.size):NI r (aZ xs lo hi) lo hi:=fun i j x y h1 h2 h3 hx hy=>by
 rw[J6 hh,if_pos ⟨by omega,by omega⟩]at hx hy
 exact h _ _ y x (by omega) (by omega) (by omega) hy hx
theorem NI.aZ (h:NI r xs lo hi) (hh:hi≤xs.size):SI r (aZ xs lo hi) lo hi:=fun i j x y h1 h2 h3 hx hy=>by
 rw[J6 hh,if_pos ⟨by omega,by omega⟩]at hx hy
 exact h _ _ y x (by omega) (by omega) (by omega) hy hx
theorem NI.oS {m:Nat}(h:NI r xs lo hi) (e:EQ r xs m hi) (hm:lo≤m) (hh:hi≤xs.size):NI r (PyProof.Rows.fb.aZ xs m hi) lo hi:=fun i j x y h1 h2 h3 hx hy=>by
 rw[J6 hh]at hx hy
 by_cases hj:m≤j
 ·rw[if_pos ⟨hj,h3⟩]at hy
  by_cases aR:m≤i
  ·rw[if_pos ⟨aR,by omega⟩]at hx
   exact e _ _ x y (by omega) (by omega) (by omega) (by omega) hx hy
  ·rw[if_neg (by omega)]at hx
   exact h i _ x y h1 (by omega) (by omega) hx hy
 ·rw[if_neg (by omega)]at hx hy
  exact h i j x y h1 h2 h3 hx hy
theorem J5 {m:Nat}(hh:hi≤xs.size) (hm:m<hi) {p:Keyed}(hp:(aZ xs m hi)[hi - 1]? =some p):xs[m]? =some p:=by
 rw[J6 hh,if_pos ⟨by omega,by omega⟩,show m+hi - 1 - (hi - 1)=m by omega]at hp
 exact hp
theorem JM (hh:hi≤xs.size) {k:Nat}(h:k<lo∨hi≤k):(aZ xs lo hi)[k]? =xs[k]? :=by rw[J6 hh,if_neg (by omega)]
end
structure CB (a₀:Array Keyed) (κ:SortKind) (lo:Nat) (st aa:SortSt):Prop where
 kind:kindOf aa=κ
 pend:pendingOf aa=pendingOf st
 fail:failedOf aa=failedOf st
 perm:(arrOf aa).Perm a₀
 pre:∀k,k<lo→(arrOf aa)[k]? =(arrOf st)[k]?
theorem CB.size {a₀:Array Keyed}{κ:SortKind}{lo:Nat}{st aa:SortSt}(h:CB a₀ κ lo st aa):(arrOf aa).size=a₀.size:=h.perm.size_eq
theorem CB.mem {a₀:Array Keyed}{κ:SortKind}{lo:Nat}{st aa:SortSt}(h:CB a₀ κ lo st aa) {i:Nat}{x:Keyed}(hx:(arrOf aa)[i]? =some x):x∈a₀.toList:=(Array.perm_iff_toList_perm.mp h.perm).mem_iff.mp (Zr hx)
theorem CB.rev {a₀:Array Keyed}{κ:SortKind}{lo m hi:Nat}{st aa:SortSt}(h:CB a₀ κ lo st aa) (hm:lo≤m) (hh:hi≤a₀.size):CB a₀ κ lo st (setArr aa (aZ (arrOf aa) m hi)):=
 ⟨h.kind,h.pend,h.fail,(mirror_perm _ _ _ _).trans h.perm,fun k hk=>by
  show(aZ (arrOf aa) m hi)[k]? =_
  rw[JM (by rw[h.size];exact hh) (.inl (by omega))]
  exact h.pre k hk⟩
section
variable {prog:Program}{w:World}{A:Around}{E:Value→Shared→Prop}{s:Shared}{κ:SortKind}{a₀:Array Keyed}{r:Keyed→Keyed→Bool}
theorem Z3 {st aa:SortSt}{lo i j:Nat}{x y:Keyed}{Q:Option Bool→SortSt→Prop}(hc:gC prog w A E s κ a₀ r) (B:CB a₀ κ lo st aa) (hx:(arrOf aa)[i]? =some x) (hy:(arrOf aa)[j]? =some y) (h:Q (some (r x y)) aa):wpS (model prog w) A E s (ltAt' i j) Q aa:=by
 rw[ltAt'_eq]
 exact wpS_bind (wpS_get (wpS_bind (Zj hx (wpS_bind (Zj hy (hc _ _ _ _ (B.mem hx) (B.mem hy) B.kind h))))))
theorem Z2 {st:SortSt}{i j:Nat}{Q:Unit→SortSt→Prop}(h:Q () (setArr st (aZ (arrOf st) i j))):wpS (model prog w) A E s (reverseSlice' i j) Q st:=by
 rw[reverseSlice'_eq]
 exact wpS_modify h
theorem EQ.kO {xs:Array Keyed}{lo hi:Nat}(o:Ord r) (h:hi=lo+1):EQ r xs lo hi:=by subst h;exact EQ.one o
theorem Wo {st:SortSt}{lo bA:Nat}{Q:Option Nat→SortSt→Prop}(o:Ord r) (hc:gC prog w A E s κ a₀ r) (B0:CB a₀ κ lo st st) (h1:1≤bA) (hz:lo+bA≤a₀.size)
  (h:∀n aa,CB a₀ κ lo st aa→1≤n→n≤bA→SI r (arrOf aa) lo (lo+n)→Q (some n) aa):wpS (model prog w) A E s (countRun' lo bA) Q st:=by
 rw[countRun'_eq]
 dsimp only
 have z0:=B0.size
 refine wpS_bind (wpS_mono (wpS_forRange (I:=fun y c aa=>aa=st∧c=(none,y)∧SI r (arrOf st) lo (lo+y))
  (Q:=fun c aa=>aa=st∧∃n,c=(none,n)∧1≤n∧n≤bA∧SI r (arrOf st) lo (lo+n)∧(n=bA∨∃p q,(arrOf st)[lo+n - 1]? =some p∧(arrOf st)[lo+n]? =some q∧r q p=true)) ?_ ?_ ⟨rfl,rfl,SI.one o⟩) ?_)
 ·rintro y c aa gN aW ⟨rfl,rfl,S⟩
  dsimp only
  obtain⟨p,hp⟩:=Zc (xs:=arrOf aa) (i:=lo+y - 1) (by omega)
  obtain⟨q,hq⟩:=Zc (xs:=arrOf aa) (i:=lo+y) (by omega)
  refine wpS_bind (Z3 hc B0 hq hp ?_)
  cases hr:r q p with
  |true=>exact wpS_pure ⟨rfl,y,rfl,gN,by omega,S,.inr ⟨p,q,hp,hq,hr⟩⟩
  |false=>exact wpS_pure ⟨rfl,rfl,S.snoc (hi:=lo+y) o (by omega) hp hq hr⟩
 ·rintro c aa ⟨rfl,rfl,S⟩
  have e9:max 1 bA=bA:=Nat.max_eq_right h1
  rw[e9]at S
  exact⟨rfl,bA,by rw[e9],h1,Nat.le_refl _,S,.inl rfl⟩
 rintro c aa ⟨rfl,n,rfl,n1,n2,S,hn⟩
 dsimp only
 by_cases eU:(n==bA)=true
 ·rw[if_pos eU]
  exact wpS_pure (h n aa B0 n1 n2 S)
 rw[if_neg eU]
 have DX:¬(n=bA):=fun z=>eU (beq_iff_eq.mpr z)
 rcases hn with hn |⟨p,q,hp,hq,hr⟩
 ·exact absurd hn DX
 by_cases pF:n>1
 ·rw[if_pos pF]
  obtain⟨f,hf⟩:=Zc (xs:=arrOf aa) (i:=lo) (by omega)
  refine wpS_bind (Z3 hc B0 hf hp ?_)
  cases DL:r f p with
  |true=>exact wpS_pure (h n aa B0 n1 n2 S)
  |false=>
   dsimp only
   rw[if_neg Bool.false_ne_true]
   refine wpS_bind (Z2 ?_)
   have B1:=B0.rev (m:=lo) (hi:=lo+n) (Nat.le_refl _) (by omega)
   have N1:NI r (aZ (arrOf aa) lo (lo+n)) lo (lo+n):=S.aZ (by omega)
   obtain⟨p1,kZ⟩:=Zc (xs:=aZ (arrOf aa) lo (lo+n)) (i:=lo+n - 1) (by rw[mirror_size];omega)
   have xH:=J5 (by omega) (by omega) kZ
   rw[hf]at xH
   cases xH
   have dW:(aZ (arrOf aa) lo (lo+n))[lo+n]? =some q:=by rw[JM (by omega) (.inr (Nat.le_refl _))];exact hq
   have qg:NI r (arrOf (setArr aa (aZ (arrOf aa) lo (lo+n)))) lo (lo+(n+1)):=N1.snoc (hi:=lo+n) o (by omega) kZ dW (o.cG q p f (o.bG _ _ hr) DL)
   generalize setArr aa (aZ (arrOf aa) lo (lo+n))=av at B1 qg
   refine wpS_bind (wpS_lift (wpAny_rule ⟨rfl,?_⟩))
   refine wpS_bind (wpS_mono (wpS_forRange (I:=fun y c stx=>CB a₀ κ lo aa stx∧∃aI,c=(none,y,aI)∧NI r (arrOf stx) lo (lo+y)∧aI+1≤y∧EQ r (arrOf stx) (lo+y - (aI+1)) (lo+y))
    (Q:=fun c stx=>CB a₀ κ lo aa stx∧∃m aI,c=(none,m,aI)∧n+1≤m∧m≤bA∧NI r (arrOf stx) lo (lo+m)∧aI+1≤m∧EQ r (arrOf stx) (lo+m - (aI+1)) (lo+m)) ?_ ?_ ⟨B1,0,rfl,qg,by omega,EQ.kO o (by omega)⟩) ?_)
   ·rintro y c ai gN aW ⟨B2,aI,rfl,N2,g1,e2⟩
    dsimp only
    have z2:=B2.size
    obtain⟨p2,dE⟩:=Zc (xs:=arrOf ai) (i:=lo+y - 1) (by omega)
    obtain⟨q2,bD⟩:=Zc (xs:=arrOf ai) (i:=lo+y) (by omega)
    refine wpS_bind (Z3 hc B2 bD dE ?_)
    cases eT:r q2 p2 with
    |true=>
     dsimp only
     rw[if_pos rfl]
     by_cases fY:aI>0
     ·rw[if_pos fY]
      refine wpS_bind (Z2 ?_)
      have B3:=B2.rev (m:=lo+y - (aI+1)) (hi:=lo+y) (by omega) (by omega)
      have N3:NI r (aZ (arrOf ai) (lo+y - (aI+1)) (lo+y)) lo (lo+y):=N2.oS e2 (by omega) (by omega)
      obtain⟨p3,i9⟩:=Zc (xs:=aZ (arrOf ai) (lo+y - (aI+1)) (lo+y)) (i:=lo+y - 1) (by rw[mirror_size];omega)
      have tI:=J5 (by omega) (by omega) i9
      have tF:(aZ (arrOf ai) (lo+y - (aI+1)) (lo+y))[lo+y]? =some q2:=by rw[JM (by omega) (.inr (Nat.le_refl _))];exact bD
      have h3:r p3 q2=false:=o.cG q2 p2 p3 (o.bG _ _ eT) (e2 _ _ p3 p2 (Nat.le_refl _) (by omega) (by omega) (by omega) tI dE)
      exact wpS_pure ⟨B3,0,rfl,N3.snoc (hi:=lo+y) o (by omega) i9 tF h3,by omega,EQ.kO o (by omega)⟩
     ·rw[if_neg fY]
      exact wpS_pure ⟨B2,0,rfl,N2.snoc (hi:=lo+y) o (by omega) dE bD (o.bG _ _ eT),by omega,EQ.kO o (by omega)⟩
    |false=>
     dsimp only
     rw[if_neg Bool.false_ne_true]
     refine wpS_bind (Z3 hc B2 dE bD ?_)
     cases mL:r p2 q2 with
     |true=>exact wpS_pure ⟨B2,y,aI,rfl,by omega,by omega,N2,g1,e2⟩
     |false=>
      refine wpS_pure ⟨B2,aI+1,rfl,N2.snoc (hi:=lo+y) o (by omega) dE bD mL,by omega,?_⟩
      have:=e2.snoc (hi:=lo+y) o (by omega) dE bD mL eT
      rw[show lo+(y+1) - (aI+1+1)=lo+y - (aI+1) by omega]
      exact this
   ·rintro c ai ⟨B2,aI,rfl,N2,g1,e2⟩
    have e9:max (n+1) bA=bA:=Nat.max_eq_right (by omega)
    rw[e9]at N2 g1 e2
    exact⟨B2,bA,aI,by rw[e9],by omega,by omega,N2,g1,e2⟩
   rintro c aK ⟨B3,m,aI,rfl,m1,m2,N3,g3,e3⟩
   dsimp only
   have z3:=B3.size
   by_cases fY:aI>0
   ·rw[if_pos fY]
    refine wpS_bind (Z2 ?_)
    have B4:=B3.rev (m:=lo+m - (aI+1)) (hi:=lo+m) (by omega) (by omega)
    have N4:NI r (arrOf (setArr aK (aZ (arrOf aK) (lo+m - (aI+1)) (lo+m)))) lo (lo+m):=N3.oS e3 (by omega) (by omega)
    generalize setArr aK (aZ (arrOf aK) (lo+m - (aI+1)) (lo+m))=cm at B4 N4
    refine wpS_bind (Z2 ?_)
    have B9:=B4.rev (m:=lo) (hi:=lo+m) (Nat.le_refl _) (by omega)
    have S9:SI r (arrOf (setArr cm (aZ (arrOf cm) lo (lo+m)))) lo (lo+m):=NI.aZ N4 (by rw[B4.size];omega)
    generalize setArr cm (aZ (arrOf cm) lo (lo+m))=fI at B9 S9
    have z9:=B9.size
    refine wpS_bind (wpS_forRange (I:=fun y c stx=>stx=fI∧c=(none,y)∧SI r (arrOf fI) lo (lo+y)) ?_ ?_ ⟨rfl,rfl,S9⟩)
    ·rintro y c stx gN aW ⟨rfl,rfl,S⟩
     dsimp only
     obtain⟨p9,fZ⟩:=Zc (xs:=arrOf stx) (i:=lo+y - 1) (by omega)
     obtain⟨q9,fX⟩:=Zc (xs:=arrOf stx) (i:=lo+y) (by omega)
     refine wpS_bind (Z3 hc B9 fX fZ ?_)
     cases jL:r q9 p9 with
     |true=>exact wpS_pure (wpS_pure (h y stx B9 (by omega) (by omega) S))
     |false=>exact wpS_pure ⟨rfl,rfl,S.snoc (hi:=lo+y) o (by omega) fZ fX jL⟩
    ·rintro c stx ⟨rfl,rfl,S⟩
     rw[Nat.max_eq_right (by omega)]at S
     have e9:max m bA=bA:=Nat.max_eq_right (by omega)
     dsimp only
     rw[e9]
     exact wpS_pure (h bA stx B9 (by omega) (by omega) S)
   ·rw[if_neg fY]
    refine wpS_bind (Z2 ?_)
    have B9:=B3.rev (m:=lo) (hi:=lo+m) (Nat.le_refl _) (by omega)
    have S9:SI r (arrOf (setArr aK (aZ (arrOf aK) lo (lo+m)))) lo (lo+m):=NI.aZ N3 (by rw[B3.size];omega)
    generalize setArr aK (aZ (arrOf aK) lo (lo+m))=fI at B9 S9
    have z9:=B9.size
    refine wpS_bind (wpS_forRange (I:=fun y c stx=>stx=fI∧c=(none,y)∧SI r (arrOf fI) lo (lo+y)) ?_ ?_ ⟨rfl,rfl,S9⟩)
    ·rintro y c stx gN aW ⟨rfl,rfl,S⟩
     dsimp only
     obtain⟨p9,fZ⟩:=Zc (xs:=arrOf stx) (i:=lo+y - 1) (by omega)
     obtain⟨q9,fX⟩:=Zc (xs:=arrOf stx) (i:=lo+y) (by omega)
     refine wpS_bind (Z3 hc B9 fX fZ ?_)
     cases jL:r q9 p9 with
     |true=>exact wpS_pure (wpS_pure (h y stx B9 (by omega) (by omega) S))
     |false=>exact wpS_pure ⟨rfl,rfl,S.snoc (hi:=lo+y) o (by omega) fZ fX jL⟩
    ·rintro c stx ⟨rfl,rfl,S⟩
     rw[Nat.max_eq_right (by omega)]at S
     have e9:max m bA=bA:=Nat.max_eq_right (by omega)
     dsimp only
     rw[e9]
     exact wpS_pure (h bA stx B9 (by omega) (by omega) S)
 ·rw[if_neg pF]
  obtain rfl:n=1:=by omega
  have qg:NI r (arrOf aa) lo (lo+(1+1)):=(NI.one o).snoc (hi:=lo+1) o (by omega) hp hq (o.bG _ _ hr)
  refine wpS_bind (wpS_lift (wpAny_rule ⟨rfl,?_⟩))
  refine wpS_bind (wpS_mono (wpS_forRange (I:=fun y c stx=>CB a₀ κ lo aa stx∧∃aI,c=(none,y,aI)∧NI r (arrOf stx) lo (lo+y)∧aI+1≤y∧EQ r (arrOf stx) (lo+y - (aI+1)) (lo+y))
   (Q:=fun c stx=>CB a₀ κ lo aa stx∧∃m aI,c=(none,m,aI)∧1+1≤m∧m≤bA∧NI r (arrOf stx) lo (lo+m)∧aI+1≤m∧EQ r (arrOf stx) (lo+m - (aI+1)) (lo+m)) ?_ ?_ ⟨B0,0,rfl,qg,by omega,EQ.kO o (by omega)⟩) ?_)
  ·rintro y c ai gN aW ⟨B2,aI,rfl,N2,g1,e2⟩
   dsimp only
   have z2:=B2.size
   obtain⟨p2,dE⟩:=Zc (xs:=arrOf ai) (i:=lo+y - 1) (by omega)
   obtain⟨q2,bD⟩:=Zc (xs:=arrOf ai) (i:=lo+y) (by omega)
   refine wpS_bind (Z3 hc B2 bD dE ?_)
   cases eT:r q2 p2 with
   |true=>
    dsimp only
    rw[if_pos rfl]
    by_cases fY:aI>0
    ·rw[if_pos fY]
     refine wpS_bind (Z2 ?_)
     have B3:=B2.rev (m:=lo+y - (aI+1)) (hi:=lo+y) (by omega) (by omega)
     have N3:NI r (aZ (arrOf ai) (lo+y - (aI+1)) (lo+y)) lo (lo+y):=N2.oS e2 (by omega) (by omega)
     obtain⟨p3,i9⟩:=Zc (xs:=aZ (arrOf ai) (lo+y - (aI+1)) (lo+y)) (i:=lo+y - 1) (by rw[mirror_size];omega)
     have tI:=J5 (by omega) (by omega) i9
     have tF:(aZ (arrOf ai) (lo+y - (aI+1)) (lo+y))[lo+y]? =some q2:=by rw[JM (by omega) (.inr (Nat.le_refl _))];exact bD
     have h3:r p3 q2=false:=o.cG q2 p2 p3 (o.bG _ _ eT) (e2 _ _ p3 p2 (Nat.le_refl _) (by omega) (by omega) (by omega) tI dE)
     exact wpS_pure ⟨B3,0,rfl,N3.snoc (hi:=lo+y) o (by omega) i9 tF h3,by omega,EQ.kO o (by omega)⟩
    ·rw[if_neg fY]
     exact wpS_pure ⟨B2,0,rfl,N2.snoc (hi:=lo+y) o (by omega) dE bD (o.bG _ _ eT),by omega,EQ.kO o (by omega)⟩
   |false=>
    dsimp only
    rw[if_neg Bool.false_ne_true]
    refine wpS_bind (Z3 hc B2 dE bD ?_)
    cases mL:r p2 q2 with
    |true=>exact wpS_pure ⟨B2,y,aI,rfl,by omega,by omega,N2,g1,e2⟩
    |false=>
     refine wpS_pure ⟨B2,aI+1,rfl,N2.snoc (hi:=lo+y) o (by omega) dE bD mL,by omega,?_⟩
     have:=e2.snoc (hi:=lo+y) o (by omega) dE bD mL eT
     rw[show lo+(y+1) - (aI+1+1)=lo+y - (aI+1) by omega]
     exact this
  ·rintro c ai ⟨B2,aI,rfl,N2,g1,e2⟩
   have e9:max (1+1) bA=bA:=Nat.max_eq_right (by omega)
   rw[e9]at N2 g1 e2
   exact⟨B2,bA,aI,by rw[e9],by omega,by omega,N2,g1,e2⟩
  rintro c aK ⟨B3,m,aI,rfl,m1,m2,N3,g3,e3⟩
  dsimp only
  have z3:=B3.size
  by_cases fY:aI>0
  ·rw[if_pos fY]
   refine wpS_bind (Z2 ?_)
   have B4:=B3.rev (m:=lo+m - (aI+1)) (hi:=lo+m) (by omega) (by omega)
   have N4:NI r (arrOf (setArr aK (aZ (arrOf aK) (lo+m - (aI+1)) (lo+m)))) lo (lo+m):=N3.oS e3 (by omega) (by omega)
   generalize setArr aK (aZ (arrOf aK) (lo+m - (aI+1)) (lo+m))=cm at B4 N4
   refine wpS_bind (Z2 ?_)
   have B9:=B4.rev (m:=lo) (hi:=lo+m) (Nat.le_refl _) (by omega)
   have S9:SI r (arrOf (setArr cm (aZ (arrOf cm) lo (lo+m)))) lo (lo+m):=NI.aZ N4 (by rw[B4.size];omega)
   generalize setArr cm (aZ (arrOf cm) lo (lo+m))=fI at B9 S9
   have z9:=B9.size
   refine wpS_bind (wpS_forRange (I:=fun y c stx=>stx=fI∧c=(none,y)∧SI r (arrOf fI) lo (lo+y)) ?_ ?_ ⟨rfl,rfl,S9⟩)
   ·rintro y c stx gN aW ⟨rfl,rfl,S⟩
    dsimp only
    obtain⟨p9,fZ⟩:=Zc (xs:=arrOf stx) (i:=lo+y - 1) (by omega)
    obtain⟨q9,fX⟩:=Zc (xs:=arrOf stx) (i:=lo+y) (by omega)
    refine wpS_bind (Z3 hc B9 fX fZ ?_)
    cases jL:r q9 p9 with
    |true=>exact wpS_pure (wpS_pure (h y stx B9 (by omega) (by omega) S))
    |false=>exact wpS_pure ⟨rfl,rfl,S.snoc (hi:=lo+y) o (by omega) fZ fX jL⟩
   ·rintro c stx ⟨rfl,rfl,S⟩
    rw[Nat.max_eq_right (by omega)]at S
    have e9:max m bA=bA:=Nat.max_eq_right (by omega)
    dsimp only
    rw[e9]
    exact wpS_pure (h bA stx B9 (by omega) (by omega) S)
  ·rw[if_neg fY]
   refine wpS_bind (Z2 ?_)
   have B9:=B3.rev (m:=lo) (hi:=lo+m) (Nat.le_refl _) (by omega)
   have S9:SI r (arrOf (setArr aK (aZ (arrOf aK) lo (lo+m)))) lo (lo+m):=NI.aZ N3 (by rw[B3.size];omega)
   generalize setArr aK (aZ (arrOf aK) lo (lo+m))=fI at B9 S9
   have z9:=B9.size
   refine wpS_bind (wpS_forRange (I:=fun y c stx=>stx=fI∧c=(none,y)∧SI r (arrOf fI) lo (lo+y)) ?_ ?_ ⟨rfl,rfl,S9⟩)
   ·rintro y c stx gN aW ⟨rfl,rfl,S⟩
    dsimp only
    obtain⟨p9,fZ⟩:=Zc (xs:=arrOf stx) (i:=lo+y - 1) (by omega)
    obtain⟨q9,fX⟩:=Zc (xs:=arrOf stx) (i:=lo+y) (by omega)
    refine wpS_bind (Z3 hc B9 fX fZ ?_)
    cases jL:r q9 p9 with
    |true=>exact wpS_pure (wpS_pure (h y stx B9 (by omega) (by omega) S))
    |false=>exact wpS_pure ⟨rfl,rfl,S.snoc (hi:=lo+y) o (by omega) fZ fX jL⟩
   ·rintro c stx ⟨rfl,rfl,S⟩
    rw[Nat.max_eq_right (by omega)]at S
    have e9:max m bA=bA:=Nat.max_eq_right (by omega)
    dsimp only
    rw[e9]
    exact wpS_pure (h bA stx B9 (by omega) (by omega) S)
theorem Hz {x y z:Keyed}(o:Ord r) (h:r z x=true) (h2:r y x=false):r z y=true:=by
 cases e:r z y with
 |true=>rfl
 |false=>
  have:=o.cG x y z h2 e
  rw[h]at this
  cases this
theorem Ln {st:SortSt}{i j:Nat}{Q:Unit→SortSt→Prop}(h:Q () (setArr st (bubble (arrOf st) i (i - j)))):wpS (model prog w) A E s (moveDown' i j) Q st:=by
 rw[moveDown'_eq]
 exact wpS_modify h
theorem SI.put {xs:Array Keyed}{lo k l:Nat}{q:Keyed}(o:Ord r) (S:SI r xs lo (lo+k)) (hq:xs[lo+k]? =some q) (hl:l≤k) (h1:∀i x,i<l→xs[lo+i]? =some x→r q x=false) (h2:∀i x,l≤i→i<k→xs[lo+i]? =some x→r q x=true):SI r (bubble xs (lo+k) (lo+k - (lo+l))) lo (lo+(k+1)):=by
 have hs:lo+k<xs.size:=(Array.getElem?_eq_some_iff.mp hq).1
 intro i j x y g1 g2 g3 hx hy
 rw[getElem?_bubble hs _ (by omega)]at hx hy
 rw[show lo+k - (lo+k - (lo+l))=lo+l by omega]at hx hy
 by_cases ei:i=lo+l
 ·rw[if_pos ei,hq]at hx
  cases hx
  by_cases ej:j=lo+l
  ·rw[if_pos ej,hq]at hy
   cases hy
   exact o.iZ _
  ·rw[if_neg ej,if_pos (by omega)]at hy
   exact o.bG _ _ (h2 (j - 1 - lo) y (by omega) (by omega) (by rw[show lo+(j - 1 - lo)=j - 1 by omega];exact hy))
 ·rw[if_neg ei]at hx
  by_cases ej:j=lo+l
  ·rw[if_pos ej,hq]at hy
   cases hy
   rw[if_neg (by omega)]at hx
   exact h1 (i - lo) x (by omega) (by rw[show lo+(i - lo)=i by omega];exact hx)
  ·rw[if_neg ej]at hy
   by_cases gi:lo+l<i
   ·rw[if_pos (by omega)]at hx hy
    exact S (i - 1) (j - 1) x y (by omega) (by omega) (by omega) hx hy
   ·rw[if_neg (by omega)]at hx
    by_cases gj:lo+l<j
    ·rw[if_pos (by omega)]at hy
     exact S i (j - 1) x y (by omega) (by omega) (by omega) hx hy
    ·rw[if_neg (by omega)]at hy
     exact S i j x y (by omega) (by omega) (by omega) hx hy
theorem JD {st dq:SortSt}{lo n ok:Nat}{Q:Bool→SortSt→Prop}(o:Ord r) (hc:gC prog w A E s κ a₀ r) (B0:CB a₀ κ lo dq st) (h1:1≤ok) (hn:ok≤n) (hz:lo+n≤a₀.size) (S0:SI r (arrOf st) lo (lo+ok))
  (h:∀aa,CB a₀ κ lo dq aa→SI r (arrOf aa) lo (lo+n)→Q true aa):wpS (model prog w) A E s (binarySort' lo n ok) Q st:=by
 rw[binarySort'_eq]
 dsimp only
 rw[Nat.max_eq_left h1]
 refine wpS_bind (wpS_forRange (I:=fun k c aa=>c=(none,())∧CB a₀ κ lo dq aa∧SI r (arrOf aa) lo (lo+k)) ?_ ?_ ⟨rfl,B0,S0⟩)
 ·rintro k c av bE xU ⟨rfl,B1,S1⟩
  try dsimp only
  have z1:=B1.size
  obtain⟨q,hq⟩:=Zc (xs:=arrOf av) (i:=lo+k) (by omega)
  refine wpS_bind (wpS_mono (wpS_forRange (I:=fun y c aa=>aa=av∧∃l u,c=(none,l,u)∧l≤u∧u≤k∧(∀i x,i<l→(arrOf av)[lo+i]? =some x→r q x=false)∧(∀i x,u≤i→i<k→(arrOf av)[lo+i]? =some x→r q x=true)∧u - l≤k - y)
   (Q:=fun c aa=>aa=av∧∃l u,c=(none,l,u)∧l≤k∧(∀i x,i<l→(arrOf av)[lo+i]? =some x→r q x=false)∧(∀i x,l≤i→i<k→(arrOf av)[lo+i]? =some x→r q x=true)) ?_ ?_ ⟨rfl,0,k,rfl,by omega,by omega,fun i x hi=>absurd hi (by omega),fun i x g1 g2=>absurd g2 (by omega),by omega⟩) ?_)
  ·rintro y c aa _ hy ⟨rfl,l,u,rfl,g1,g2,g3,g4,g5⟩
   dsimp only
   by_cases bH:l≥u
   ·rw[if_pos bH]
    exact wpS_pure ⟨rfl,l,u,rfl,by omega,g3,fun i x g6=>g4 i x (by omega)⟩
   ·rw[if_neg bH]
    have hm:(l+u)/2<u:=by omega
    have jO:l≤(l+u)/2:=by omega
    generalize (l+u)/2=m at hm jO
    obtain⟨p,hp⟩:=Zc (xs:=arrOf aa) (i:=lo+m) (by omega)
    refine wpS_bind (Z3 hc B1 hq hp ?_)
    cases hr:r q p with
    |true=>
     refine wpS_pure ⟨rfl,l,m,rfl,jO,by omega,g3,fun i x g6 g7 hx=> ?_,by omega⟩
     exact Hz o hr (S1 (lo+m) (lo+i) p x (by omega) (by omega) (by omega) hp hx)
    |false=>
     refine wpS_pure ⟨rfl,m+1,u,rfl,by omega,g2,fun i x g6 hx=> ?_,g4,by omega⟩
     exact o.cG x p q (S1 (lo+i) (lo+m) x p (by omega) (by omega) (by omega) hx hp) hr
  ·rintro c aa ⟨rfl,l,u,rfl,g1,g2,g3,g4,g5⟩
   rw[Nat.max_eq_right (Nat.zero_le _)]at g5
   exact⟨rfl,l,u,rfl,by omega,g3,fun i x g6=>g4 i x (by omega)⟩
  rintro c aa ⟨rfl,l,u,rfl,g1,g3,g4⟩
  dsimp only
  refine wpS_bind (Ln (wpS_pure ⟨rfl,⟨B1.kind,B1.pend,B1.fail,(bubble_perm _ _ _).trans B1.perm,fun i hi=> ?_⟩,S1.put o hq g1 g3 g4⟩))
  show(bubble (arrOf aa) (lo+k) (lo+k - (lo+l)))[i]? =_
  rw[getElem?_bubble (by omega) _ (by omega),if_neg (by omega),if_neg (by omega)]
  exact B1.pre i hi
 ·rintro c av ⟨rfl,B1,S1⟩
  rw[Nat.max_eq_right hn]at S1
  exact wpS_pure (h av B1 S1)
end
def seg (L:List Keyed) (s n:Nat):List Keyed:=(L.drop s).take n
theorem Yz {L:List Keyed}{s n i:Nat}(h:i<n):(seg L s n)[i]? =L[s+i]? :=by
 unfold seg
 rw[List.getElem?_take_of_lt h,List.getElem?_drop]
theorem zL {L:List Keyed}{s n:Nat}(h:s+n≤L.length):(seg L s n).length=n:=by
 unfold seg
 rw[List.length_take,List.length_drop];omega
theorem SI.pw {r:Keyed→Keyed→Bool}{xs:Array Keyed}{lo n:Nat}(h:SI r xs lo (lo+n)):Pw r (seg xs.toList lo n):=by
 unfold Pw
 rw[List.pairwise_iff_getElem]
 intro i j hi hj bJ
 have hn:j<n:=by unfold seg at hj;rw[List.length_take]at hj;omega
 have e1:(seg xs.toList lo n)[i]? =some (seg xs.toList lo n)[i]:=List.getElem?_eq_getElem hi
 have e2:(seg xs.toList lo n)[j]? =some (seg xs.toList lo n)[j]:=List.getElem?_eq_getElem hj
 rw[Yz (by omega),Array.getElem?_toList]at e1
 rw[Yz hn,Array.getElem?_toList]at e2
 exact h (lo+i) (lo+j) _ _ (by omega) (by omega) (by omega) e1 e2
def Runs (r:Keyed→Keyed→Bool) (L:List Keyed):List (Nat×Nat×Nat)→Nat→Nat→Prop
 | [],p,q=>p=q
 |x::rest,p,q=>x.1=p∧1≤x.2.1∧Pw r (seg L x.1 x.2.1)∧Runs r L rest (p+x.2.1) q
section
variable {r:Keyed→Keyed→Bool}{L L':List Keyed}
theorem Runs.le:∀{ps:List (Nat×Nat×Nat)}{p q:Nat},Runs r L ps p q→p+ps.length≤q
 | [],_,_,h=>by cases h;exact Nat.le_refl _
 |x::ps,p,q,h=>by
  have:=Runs.le h.2.2.2
  have:=h.2.1
  rw[List.length_cons]
  omega
theorem Runs.app:∀{l1 l2:List (Nat×Nat×Nat)}{p q:Nat},Runs r L (l1++l2) p q↔∃m,Runs r L l1 p m∧Runs r L l2 m q
 | [],l2,p,q=> ⟨fun h=> ⟨p,rfl,h⟩,fun⟨m,h1,h2⟩=>by cases h1;exact h2⟩
 |x::l1,l2,p,q=>by
  constructor
  ·rintro⟨h1,h2,h3,h4⟩
   obtain⟨m,g1,g2⟩:=Runs.app.mp h4
   exact⟨m,⟨h1,h2,h3,g1⟩,g2⟩
  ·rintro⟨m,⟨h1,h2,h3,g1⟩,g2⟩
   exact⟨h1,h2,h3,Runs.app.mpr ⟨m,g1,g2⟩⟩
theorem Runs.congr:∀{ps:List (Nat×Nat×Nat)}{p q:Nat},Runs r L ps p q→(∀s n,p≤s→s+n≤q→seg L s n=seg L' s n)→Runs r L' ps p q
 | [],_,_,h,_=>h
 |x::ps,p,q,⟨h1,h2,h3,h4⟩,e=>by
  have:=Runs.le h4
  refine⟨h1,h2,?_,Runs.congr h4 fun s n g1 g2=>e s n (by omega) g2⟩
  rw[←e x.1 x.2.1 (by omega) (by omega)]
  exact h3
theorem zM {m s n:Nat}(h:L.take m=L'.take m) (hs:s+n≤m):seg L s n=seg L' s n:=by
 have key:∀M:List Keyed,seg M s n=seg (M.take m) s n:=fun M=>by
  unfold seg
  rw[List.drop_take,List.take_take,Nat.min_eq_left (by omega)]
 rw[key L,key L',h]
theorem JR {m s n:Nat}(h:L.drop m=L'.drop m) (hs:m≤s):seg L s n=seg L' s n:=by
 have key:∀M:List Keyed,seg M s n=((M.drop m).drop (s - m)).take n:=fun M=>by
  unfold seg
  rw[List.drop_drop,show m+(s - m)=s by omega]
 rw[key L,key L',h]
theorem IZ {A B M:List Keyed}{k n:Nat}(o:Ord r) (sA:Pw r A) (sB:Pw r B) (hM:M.Perm (A.drop k++B.take n)) (sM:Pw r M) (h1:∀x∈A.take k,∀y∈B,r y x=false) (h2:∀z∈A,∀w∈B.drop n,r w z=false):Pw r (A.take k++(M++B.drop n)):=by
 have pa:Pw r (A.take k):=List.Pairwise.sublist (List.take_sublist _ _) sA
 have pb:Pw r (B.drop n):=List.Pairwise.sublist (List.drop_sublist _ _) sB
 have BF:Pw r (A.take k++A.drop k):=by rw[List.take_append_drop];exact sA
 have BE:Pw r (B.take n++B.drop n):=by rw[List.take_append_drop];exact sB
 refine List.pairwise_append.mpr ⟨pa,List.pairwise_append.mpr ⟨sM,pb,fun z hz w hw=> ?_⟩,fun x hx z hz=> ?_⟩
 ·rcases List.mem_append.mp (hM.mem_iff.mp hz) with hz |hz
  ·exact h2 z (List.mem_of_mem_drop hz) w hw
  ·exact(List.pairwise_append.mp BE).2.2 z hz w hw
 ·rcases List.mem_append.mp hz with hz |hz
  ·rcases List.mem_append.mp (hM.mem_iff.mp hz) with hz |hz
   ·exact(List.pairwise_append.mp BF).2.2 x hx z hz
   ·exact h1 x hx z (List.mem_of_mem_take hz)
  ·exact h1 x hx z (List.mem_of_mem_drop hz)
theorem zG (off:Nat):∀(M:List Keyed) (j:Nat) (xs:Array Keyed),off+j+M.length≤xs.size→((M.zipIdx j).foldl (fun a x=>a.setIfInBounds (off+x.snd) x.fst) xs).toList=xs.toList.take (off+j)++(M++xs.toList.drop (off+j+M.length))
 | [],j,xs,_=>by
  show xs.toList=_
  rw[List.nil_append,List.length_nil,Nat.add_zero,List.take_append_drop]
 |m::M,j,xs,h=>by
  rw[List.length_cons]at h
  rw[List.zipIdx_cons,List.foldl_cons,zG off M (j+1) _ (by rw[Array.size_setIfInBounds];omega),Array.toList_setIfInBounds]
  have hl:off+j<xs.toList.length:=by rw[Array.length_toList];omega
  rw[List.drop_set_of_lt (by omega),←Nat.add_assoc,List.take_add_one,List.take_set_of_le (Nat.le_refl _),List.getElem?_set_self hl]
  rw[List.append_assoc,List.length_cons,show off+j+1+M.length=off+j+(M.length+1) by omega]
  rfl
end
section
variable {prog:Program}{w:World}{A:Around}{E:Value→Shared→Prop}{s:Shared}{κ:SortKind}{a₀:Array Keyed}{r:Keyed→Keyed→Bool}
theorem Ip {st aa:SortSt}{Q:PUnit→SortSt→Prop}(h:Q ⟨⟩ aa):wpS (model prog w) A E s (set aa:StateT SortSt Sem PUnit) Q st:=by
 unfold wpS
 exact wpAny_pure ⟨rfl,h⟩
theorem Io {α:Type}{m:StateT SortSt Sem α}{Q:α→SortSt→Prop}{st:SortSt}(P:SortSt→Prop) (hp:P st) (h:∀dq,P dq→wpS (model prog w) A E s m Q dq):wpS (model prog w) A E s m Q st:=h st hp
theorem Up {st:SortSt}{i:Nat}{Q:Bool→SortSt→Prop}(o:Ord r) (hc:gC prog w A E s κ a₀ r) (hk:kindOf st=κ) (hP:(arrOf st).Perm a₀) (hF:failedOf st=none) {pre post:List (Nat×Nat×Nat)}{sa na pw sb nb oJ:Nat}
  (hp:(pendingOf st).toList=pre++(sa,na,pw)::(sb,nb,oJ)::post) (hi:pre.length=i) (BC:sb=sa+na) (n1:1≤na) (n2:1≤nb) (hz:sb+nb≤a₀.size) (SA:Pw r (seg (arrOf st).toList sa na)) (SB:Pw r (seg (arrOf st).toList sb nb))
  (h:∀aa,kindOf aa=κ→(arrOf aa).Perm a₀→failedOf aa=none→(pendingOf aa).toList=pre++(sa,na+nb,pw)::post→(arrOf aa).toList.take sa=(arrOf st).toList.take sa→(arrOf aa).toList.drop (sb+nb)=(arrOf st).toList.drop (sb+nb)→Pw r (seg (arrOf aa).toList sa (na+nb))→Q true aa):
  wpS (model prog w) A E s (mergeAt' i) Q st:=by
 have bY:(arrOf st).size=a₀.size:=hP.size_eq
 have e1:(pendingOf st)[i]? =some (sa,na,pw):=by
  rw[←Array.getElem?_toList,hp,←hi]
  simp
 have e2:(pendingOf st)[i+1]? =some (sb,nb,oJ):=by
  rw[←Array.getElem?_toList,hp,←hi,List.getElem?_append_right (by omega),show pre.length+1 - pre.length=1 by omega]
  rfl
 have xG:(((pendingOf st).setIfInBounds i (sa,na+nb,pw)).eraseIdxIfInBounds (i+1)).toList=pre++(sa,na+nb,pw)::post:=by
  rw[Array.toList_eraseIdxIfInBounds,Array.toList_setIfInBounds,hp,←hi,List.set_append_right _ _ (Nat.le_refl _),Nat.sub_self,List.set_cons_zero,List.eraseIdx_append_of_length_le (by omega),show pre.length+1 - pre.length=1 by omega]
  rfl
 show wpS (model prog w) A E s (_ >>=_) _ _
 obtain⟨kd,xs,pd,ga,fl⟩:=st
 refine wpS_bind (wpS_get ?_)
 replace e1:pd[i]? =some (sa,na,pw):=e1
 replace e2:pd[i+1]? =some (sb,nb,oJ):=e2
 dsimp only
 rw[e1,e2]
 dsimp only
 refine wpS_bind (Ip ?_)
 refine Io (fun dq=>kindOf dq=κ∧arrOf dq=xs∧(pendingOf dq).toList=pre++(sa,na+nb,pw)::post∧failedOf dq=none) ⟨hk,rfl,xG,hF⟩ ?_
 rintro dq ⟨g1,g2,g3,g4⟩
 clear xG e1 e2
 replace hP:xs.Perm a₀:=hP
 replace bY:xs.size=a₀.size:=bY
 replace SA:Pw r (seg xs.toList sa na):=SA
 replace SB:Pw r (seg xs.toList sb nb):=SB
 have mm:∀{j:Nat}{x:Keyed},xs[j]? =some x→x∈a₀.toList:=fun hx=> (Array.perm_iff_toList_perm.mp hP).mem_iff.mp (Zr hx)
 have lA:(seg xs.toList sa na).length=na:=zL (by rw[Array.length_toList];omega)
 have lB:(seg xs.toList sb nb).length=nb:=zL (by rw[Array.length_toList];omega)
 have uU:∀{j:Nat}{x:Keyed},j<na→xs[sa+j]? =some x→(seg xs.toList sa na)[j]? =some x:=fun hj hx=>by rw[Yz hj,Array.getElem?_toList];exact hx
 have uT:∀{j:Nat}{x:Keyed},j<nb→xs[sb+j]? =some x→(seg xs.toList sb nb)[j]? =some x:=fun hj hx=>by rw[Yz hj,Array.getElem?_toList];exact hx
 have p5:∀{j:Nat}{x:Keyed},(seg xs.toList sa na)[j]? =some x→j<na∧xs[sa+j]? =some x:=fun {j x} hx=>by
  have hj:j<na:=by have:=(List.getElem?_eq_some_iff.mp hx).1;omega
  exact⟨hj,by rw[Yz hj,Array.getElem?_toList]at hx;exact hx⟩
 have uS:∀{j:Nat}{x:Keyed},(seg xs.toList sb nb)[j]? =some x→j<nb∧xs[sb+j]? =some x:=fun {j x} hx=>by
  have hj:j<nb:=by have:=(List.getElem?_eq_some_iff.mp hx).1;omega
  exact⟨hj,by rw[Yz hj,Array.getElem?_toList]at hx;exact hx⟩
 have fin:∀(k n:Nat) (M:List Keyed) (aa:SortSt),k≤na→n≤nb→kindOf aa=κ→failedOf aa=none→(pendingOf aa).toList=pre++(sa,na+nb,pw)::post→M.Perm ((seg xs.toList sa na).drop k++(seg xs.toList sb nb).take n)→Pw r M→
   (∀x∈(seg xs.toList sa na).take k,∀y∈seg xs.toList sb nb,r y x=false)→(∀z∈seg xs.toList sa na,∀w∈(seg xs.toList sb nb).drop n,r w z=false)→
   (arrOf aa).toList=xs.toList.take (sa+k)++(M++xs.toList.drop (sa+k+M.length))→Q true aa:=fun k n M aa Eb eU f1 f2 f3 f4 f5 f6 f7 f8=>by
  have lM:M.length=(na - k)+n:=by
   rw[f4.length_eq,List.length_append,List.length_drop,List.length_take,lA,lB,Nat.min_eq_left eU]
  have hL:xs.toList.length=a₀.size:=by rw[Array.length_toList];exact bY
  have eA:xs.toList.take (sa+k)=xs.toList.take sa++(seg xs.toList sa na).take k:=by
   rw[List.take_add]
   unfold seg
   rw[List.take_take,Nat.min_eq_left Eb]
  have eB:xs.toList.drop (sa+k+M.length)=(seg xs.toList sb nb).drop n++xs.toList.drop (sb+nb):=by
   rw[lM,show sa+k+(na - k+n)=sb+n by omega,←List.drop_drop]
   have:xs.toList.drop sb=seg xs.toList sb nb++xs.toList.drop (sb+nb):=by
    unfold seg
    rw[←List.drop_drop,List.take_append_drop]
   rw[this,List.drop_append_of_le_length (by rw[lB];exact eU)]
  have Fb:xs.toList=xs.toList.take sa++((seg xs.toList sa na++seg xs.toList sb nb)++xs.toList.drop (sb+nb)):=by
   have a1:xs.toList.drop sa=seg xs.toList sa na++xs.toList.drop sb:=by
    unfold seg
    rw[BC,←List.drop_drop,List.take_append_drop]
   have a2:xs.toList.drop sb=seg xs.toList sb nb++xs.toList.drop (sb+nb):=by
    unfold seg
    rw[←List.drop_drop,List.take_append_drop]
   rw[List.append_assoc,←a2,←a1,List.take_append_drop]
  have eN:(arrOf aa).toList=xs.toList.take sa++(((seg xs.toList sa na).take k++(M++(seg xs.toList sb nb).drop n))++xs.toList.drop (sb+nb)):=by
   rw[f8,eA,eB]
   simp only[List.append_assoc]
  have lX:(xs.toList.take sa).length=sa:=by rw[List.length_take];omega
  have lY:((seg xs.toList sa na).take k++(M++(seg xs.toList sb nb).drop n)).length=na+nb:=by
   rw[List.length_append,List.length_append,List.length_take,List.length_drop,lA,lB,lM];omega
  have pY:((seg xs.toList sa na).take k++(M++(seg xs.toList sb nb).drop n)).Perm (seg xs.toList sa na++seg xs.toList sb nb):=by
   refine List.Perm.trans (List.Perm.append_left _ (List.Perm.append_right _ f4)) ?_
   rw[List.append_assoc,List.take_append_drop,←List.append_assoc,List.take_append_drop]
  refine h aa f1 ?_ f2 f3 ?_ ?_ ?_
  ·refine Array.perm_iff_toList_perm.mpr (List.Perm.trans ?_ (Array.perm_iff_toList_perm.mp hP))
   rw[eN]
   refine List.Perm.trans (List.Perm.append_left _ (List.Perm.append_right _ pY)) ?_
   rw[←Fb]
  ·rw[eN,List.take_left' lX]
  ·rw[eN,←List.append_assoc,List.drop_left' (by rw[List.length_append,lX,lY];omega)]
  ·have:seg (arrOf aa).toList sa (na+nb)=(seg xs.toList sa na).take k++(M++(seg xs.toList sb nb).drop n):=by
    rw[eN]
    show List.take (na+nb) (List.drop sa (xs.toList.take sa++(((seg xs.toList sa na).take k++(M++(seg xs.toList sb nb).drop n))++xs.toList.drop (sb+nb))))=_
    rw[List.drop_left' lX,List.take_left' lY]
   rw[this]
   exact IZ o SA SB f4 f5 f6 f7
 obtain⟨y0,i5⟩:=Zc (xs:=xs) (i:=sb) (by omega)
 refine wpS_bind (Zj i5 ?_)
 have EN:∀y∈seg xs.toList sb nb,r y y0=false:=fun y hy=>by
  obtain⟨j,hj⟩:=List.getElem?_of_mem hy
  exact Z7 o SB (uT (j:=0) (by omega) i5) hj (Nat.zero_le _)
 refine wpS_bind (ZC hc g1 (fun i=>match xs[sa+i]? with |some x=> !r y0 x |none=>false) (fun i hi=> ?_) (mm i5) (fun i j bJ hj hp=> ?_) (by omega) fun k kn cX cf=> ?_)
 ·obtain⟨x,hx⟩:=Zc (xs:=xs) (i:=sa+i) (by omega)
  refine⟨x,hx,mm hx,?_⟩
  try dsimp only
  rw[hx]
  rfl
 ·obtain⟨xj,eI⟩:=Zc (xs:=xs) (i:=sa+j) (by omega)
  obtain⟨xi,eJ⟩:=Zc (xs:=xs) (i:=sa+i) (by omega)
  try dsimp only at hp ⊢
  rw[eI]at hp
  rw[eJ]
  rw[Bool.not_eq_true']at hp ⊢
  exact o.cG _ _ _ (Z7 o SA (uU (by omega) eJ) (uU (by omega) eI) bJ) hp
 dsimp only
 have low:∀x∈(seg xs.toList sa na).take k,∀y∈seg xs.toList sb nb,r y x=false:=fun x hx y hy=>by
  obtain⟨j,hj⟩:=List.getElem?_of_mem hx
  have xW:j<k:=by have:=(List.getElem?_eq_some_iff.mp hj).1;rw[List.length_take]at this;omega
  rw[List.getElem?_take_of_lt xW]at hj
  obtain⟨mQ,jR⟩:=p5 hj
  have:=cX j xW
  try dsimp only at this
  rw[jR,Bool.not_eq_true']at this
  exact o.cG x y0 y this (EN y hy)
 by_cases bt:(na - k==0)=true
 ·rw[if_pos bt]
  have ek:k=na:=by have:=beq_iff_eq.mp bt;omega
  subst ek
  refine wpS_pure (fin k 0 [] dq (Nat.le_refl _) (Nat.zero_le _) g1 g4 g3 (by rw[List.drop_eq_nil_of_le (by omega)];exact .refl _) .nil low (fun z hz w hw=> ?_) ?_)
  ·exact low z (by rw[List.take_of_length_le (by omega)];exact hz) w (List.mem_of_mem_drop hw)
  ·rw[g2,List.nil_append,List.length_nil,Nat.add_zero,List.take_append_drop]
 rw[if_neg bt]
 have kW:¬(na - k=0):=fun z=>bt (beq_iff_eq.mpr z)
 obtain⟨x0,jI⟩:=Zc (xs:=xs) (i:=sa+k+(na - k) - 1) (by omega)
 refine wpS_bind (Zj jI ?_)
 have xt:xs[sa+(na - 1)]? =some x0:=by rw[←jI];congr 1;omega
 have EO:∀x∈seg xs.toList sa na,r x0 x=false:=fun x hx=>by
  obtain⟨j,hj⟩:=List.getElem?_of_mem hx
  exact Z7 o SA hj (uU (j:=na - 1) (by omega) xt) (by have:=(p5 hj).1;omega)
 refine wpS_bind (ZC hc g1 (fun i=>match xs[sb+i]? with |some y=>r y x0 |none=>false) (fun i hi=> ?_) (mm jI) (fun i j bJ hj hp=> ?_) (by omega) fun n nn Cv Cw=> ?_)
 ·obtain⟨y,hy⟩:=Zc (xs:=xs) (i:=sb+i) (by omega)
  refine⟨y,hy,mm hy,?_⟩
  try dsimp only
  rw[hy]
  rfl
 ·obtain⟨yj,bP⟩:=Zc (xs:=xs) (i:=sb+j) (by omega)
  obtain⟨yi,bQ⟩:=Zc (xs:=xs) (i:=sb+i) (by omega)
  try dsimp only at hp ⊢
  rw[bP]at hp
  rw[bQ]
  exact Je o hp (Z7 o SB (uT (by omega) bQ) (uT (by omega) bP) bJ)
 dsimp only
 have high:∀z∈seg xs.toList sa na,∀w∈(seg xs.toList sb nb).drop n,r w z=false:=fun z hz w hw=>by
  obtain⟨j,hj⟩:=List.getElem?_of_mem hw
  rw[List.getElem?_drop]at hj
  obtain⟨mQ,jR⟩:=uS hj
  have:=Cw (n+j) (by omega) mQ
  try dsimp only at this
  rw[jR]at this
  exact o.cG z x0 w (EO z hz) this
 by_cases bC:(n==0)=true
 ·rw[if_pos bC]
  have en:n=0:=beq_iff_eq.mp bC
  subst en
  refine wpS_pure (fin na 0 [] dq (Nat.le_refl _) (Nat.zero_le _) g1 g4 g3 (by rw[List.drop_eq_nil_of_le (by omega)];exact .refl _) .nil (fun x hx y hy=> ?_) high ?_)
  ·exact high x (List.mem_of_mem_take hx) y (by rw[List.drop_zero];exact hy)
  ·rw[g2,List.nil_append,List.length_nil,Nat.add_zero,List.take_append_drop]
 rw[if_neg bC]
 have o7:¬(n=0):=fun z=>bC (beq_iff_eq.mpr z)
 have xA:(xs.extract (sa+k) sb).toList=(seg xs.toList sa na).drop k:=by
  rw[Jw]
  unfold seg
  rw[List.drop_take,List.drop_drop,show sb - (sa+k)=na - k by omega]
 have xB:(xs.extract sb (sb+n)).toList=(seg xs.toList sb nb).take n:=by
  rw[Jw,show sb+n - sb=n by omega]
  unfold seg
  rw[List.take_take,Nat.min_eq_left nn]
 have Bc:(xs.extract (sa+k) sb).size=na - k:=by rw[←Array.length_toList,xA,List.length_drop,lA]
 have Mj:(xs.extract sb (sb+n)).size=n:=by rw[←Array.length_toList,xB,List.length_take,lB];omega
 have C:dJ r (xs.extract (sa+k) sb) (xs.extract sb (sb+n)):=⟨o,by rw[xA];exact List.Pairwise.sublist (List.drop_sublist _ _) SA,by rw[xB];exact List.Pairwise.sublist (List.take_sublist _ _) SB⟩
 have mA:∀x∈(xs.extract (sa+k) sb).toList,x∈a₀.toList:=fun x hx=>by
  rw[xA]at hx
  obtain⟨j,hj⟩:=List.getElem?_of_mem (List.mem_of_mem_drop hx)
  exact mm (p5 hj).2
 have mB:∀x∈(xs.extract sb (sb+n)).toList,x∈a₀.toList:=fun x hx=>by
  rw[xB]at hx
  obtain⟨j,hj⟩:=List.getElem?_of_mem (List.mem_of_mem_take hx)
  exact mm (uS hj).2
 have m0:∀y,(xs.extract sb (sb+n))[0]? =some y→∀x∈(xs.extract (sa+k) sb).toList,r x y=false:=fun y hy x hx=>by
  have gN:=Zs hy
  rw[xB,List.getElem?_take_of_lt (by omega),Yz (by omega),Nat.add_zero,Array.getElem?_toList,i5]at gN
  cases gN
  rw[xA]at hx
  obtain⟨j,hj⟩:=List.getElem?_of_mem hx
  rw[List.getElem?_drop]at hj
  obtain⟨mQ,jR⟩:=p5 hj
  have:=cf (k+j) (by omega) mQ
  try dsimp only at this
  rw[jR,Bool.not_eq_false']at this
  exact o.bG _ _ this
 have ml:∀x,(xs.extract (sa+k) sb)[(xs.extract (sa+k) sb).size - 1]? =some x→∀y∈(xs.extract sb (sb+n)).toList,r x y=false:=fun x hx y hy=>by
  have o8:=Zs hx
  rw[Bc,xA,List.getElem?_drop,Yz (by omega),Array.getElem?_toList,show sa+(k+(na - k - 1))=sa+(na - 1) by omega,xt]at o8
  cases o8
  rw[xB]at hy
  obtain⟨j,hj⟩:=List.getElem?_of_mem hy
  have xV:j<n:=by have:=(List.getElem?_eq_some_iff.mp hj).1;rw[List.length_take]at this;omega
  rw[List.getElem?_take_of_lt xV]at hj
  obtain⟨mQ,jR⟩:=uS hj
  have:=Cv j xV
  try dsimp only at this
  rw[jR]at this
  exact o.bG _ _ this
 have done:∀(res:Array Keyed) (av:SortSt),SG dq av→Good r (xs.extract (sa+k) sb) (xs.extract sb (sb+n)) res→Q true (setArr av (List.foldl (fun a x=>a.setIfInBounds (sa+k+x.snd) x.fst) (arrOf av) res.toList.zipIdx)):=fun res av sg gd=>by
  have p1:=gd.1
  rw[xA,xB]at p1
  have lR:res.toList.length=na - k+n:=by rw[p1.length_eq,List.length_append,List.length_drop,List.length_take,lA,lB];omega
  refine fin k n res.toList _ kn nn (by show kindOf av=κ;rw[sg.1];exact g1) (by show failedOf av=none;rw[sg.2.2.2];exact g4) (by show(pendingOf av).toList=_;rw[sg.2.2.1];exact g3) p1 gd.2 low high ?_
  show(List.foldl (fun a x=>a.setIfInBounds (sa+k+x.snd) x.fst) (arrOf av) res.toList.zipIdx).toList=_
  rw[sg.2.1,g2]
  exact zG (sa+k) res.toList 0 xs (by rw[lR];omega)
 by_cases hle:na - k≤n
 ·rw[if_pos hle]
  refine wpS_bind (Um hc g1 C mA mB (by omega) (by omega) m0 ml fun res av sg gd=> ?_)
  refine wpS_bind (wpS_modify (wpS_bind (wpS_get ?_)))
  have ef:(failedOf (setArr av (List.foldl (fun a x=>a.setIfInBounds (sa+k+x.snd) x.fst) (arrOf av) res.toList.zipIdx))).isNone=true:=by
   show(failedOf av).isNone=true
   rw[sg.2.2.2,g4]
   rfl
  rw[ef]
  exact wpS_pure (done res av sg gd)
 ·rw[if_neg hle]
  refine wpS_bind (Uo hc g1 C mA mB (by omega) (by omega) m0 ml fun res av sg gd=> ?_)
  refine wpS_bind (wpS_modify (wpS_bind (wpS_get ?_)))
  have ef:(failedOf (setArr av (List.foldl (fun a x=>a.setIfInBounds (sa+k+x.snd) x.fst) (arrOf av) res.toList.zipIdx))).isNone=true:=by
   show(failedOf av).isNone=true
   rw[sg.2.2.2,g4]
   rfl
  rw[ef]
  exact wpS_pure (done res av sg gd)
structure RS (a₀:Array Keyed) (κ:SortKind) (r:Keyed→Keyed→Bool) (st:SortSt) (lo:Nat):Prop where
 kind:kindOf st=κ
 perm:(arrOf st).Perm a₀
 fail:failedOf st=none
 runs:Runs r (arrOf st).toList (pendingOf st).toList 0 lo
 le:lo≤a₀.size
theorem FO {α:Type}{l:List α}{i:Nat}(h:i+1<l.length):∃pre a b post,l=pre++a::b::post∧pre.length=i:=by
 refine⟨l.take i,l[i],l[i+1],l.drop (i+2),?_,by rw[List.length_take];omega⟩
 rw[←List.drop_eq_getElem_cons h,←List.drop_eq_getElem_cons (by omega),List.take_append_drop]
theorem RS.merge {st:SortSt}{lo i:Nat}{Q:Bool→SortSt→Prop}(o:Ord r) (hc:gC prog w A E s κ a₀ r) (R:RS a₀ κ r st lo) (hi:i+1< (pendingOf st).size)
  (h:∀aa,RS a₀ κ r aa lo→(pendingOf aa).size+1=(pendingOf st).size→(arrOf aa).toList.drop lo=(arrOf st).toList.drop lo→Q true aa):wpS (model prog w) A E s (mergeAt' i) Q st:=by
 obtain⟨pre,⟨sa,na,pw⟩,⟨sb,nb,oJ⟩,post,hp,hl⟩:=FO (l:=(pendingOf st).toList) (i:=i) (by rw[Array.length_toList];exact hi)
 have hr:=R.runs
 rw[hp]at hr
 obtain⟨m,h1,h2⟩:=Runs.app.mp hr
 obtain⟨a1,a2,a3,h3⟩:=h2
 obtain⟨b1,b2,b3,h4⟩:=h3
 dsimp only at a1 a2 a3 b1 b2 b3 h4
 subst a1
 have l4:=h4.le
 have l1:=h1.le
 have le:=R.le
 refine Up o hc R.kind R.perm R.fail hp hl b1 a2 b2 (by omega) a3 b3 fun aa g1 g2 g3 g4 g5 g6 g7=> ?_
 refine h aa ⟨g1,g2,g3,?_,le⟩ ?_ ?_
 ·rw[g4]
  refine Runs.app.mpr ⟨sa,h1.congr fun s n q1 q2=>zM g5.symm q2,rfl,(show 1≤na+nb by omega),g7,?_⟩
  show Runs r (arrOf aa).toList post (sa+(na+nb)) lo
  rw[←Nat.add_assoc]
  exact h4.congr fun s n q1 q2=>JR (m:=sb+nb) g6.symm (by omega)
 ·rw[←Array.length_toList,←Array.length_toList,g4,hp]
  simp only[List.length_append,List.length_cons]
  omega
 ·have key:∀M:List Keyed,M.drop lo=(M.drop (sb+nb)).drop (lo - (sb+nb)):=fun M=>by
   rw[List.drop_drop]
   congr 1
   omega
  rw[key,key (arrOf st).toList,g6]
theorem RS.push {st:SortSt}{lo n:Nat}(R:RS a₀ κ r st lo) (n1:1≤n) (hz:lo+n≤a₀.size) (S:Pw r (seg (arrOf st).toList lo n)):RS a₀ κ r (setPending st ((pendingOf st).push (lo,n,0))) (lo+n):=by
 refine⟨R.kind,R.perm,R.fail,?_,hz⟩
 show Runs r (arrOf st).toList ((pendingOf st).push (lo,n,0)).toList 0 (lo+n)
 rw[Array.toList_push]
 exact Runs.app.mpr ⟨lo,R.runs,rfl,n1,S,rfl⟩
theorem Uw {L:List Keyed}{pw:Nat} :∀{ps:List (Nat×Nat×Nat)}{i p q:Nat},Runs r L ps p q→Runs r L (ps.modify i fun x=> (x.fst,x.2.fst,pw)) p q
 | [],i,p,q,h=>by rw[List.modify_nil];exact h
 |x::ps,0,p,q,h=>by
  rw[List.modify_zero_cons]
  exact h
 |x::ps,i+1,p,q,⟨h1,h2,h3,h4⟩=>by
  rw[List.modify_succ_cons]
  exact⟨h1,h2,h3,Uw h4⟩
theorem RS.pow {st:SortSt}{lo i pw:Nat}(R:RS a₀ κ r st lo):RS a₀ κ r (setPending st ((pendingOf st).modify i fun x=> (x.fst,x.2.fst,pw))) lo:=by
 refine⟨R.kind,R.perm,R.fail,?_,R.le⟩
 show Runs r (arrOf st).toList ((pendingOf st).modify i fun x=> (x.fst,x.2.fst,pw)).toList 0 lo
 rw[Array.toList_modify]
 exact Uw R.runs
theorem KC {xs ys:Array Keyed}{lo:Nat}(h:∀k,k<lo→xs[k]? =ys[k]?):xs.toList.take lo=ys.toList.take lo:=by
 refine List.ext_getElem? fun k=> ?_
 by_cases hk:k<lo
 ·rw[List.getElem?_take_of_lt hk,List.getElem?_take_of_lt hk,Array.getElem?_toList,Array.getElem?_toList]
  exact h k hk
 ·rw[List.getElem?_eq_none (by rw[List.length_take];omega),List.getElem?_eq_none (by rw[List.length_take];omega)]
theorem CB.rs {st aa:SortSt}{lo:Nat}(R:RS a₀ κ r st lo) (B:CB a₀ κ lo st aa):RS a₀ κ r aa lo:=by
 refine⟨B.kind,B.perm,B.fail.trans R.fail,?_,R.le⟩
 rw[B.pend]
 exact R.runs.congr fun s n q1 q2=>zM (KC fun k hk=> (B.pre k hk).symm) q2
theorem Wn {st:SortSt}{Q:Unit→SortSt→Prop}(o:Ord r) (hc:gC prog w A E s κ a₀ r) (h2:2≤a₀.size) (k0:kindOf st=κ) (p0:(arrOf st).Perm a₀) (f0:failedOf st=none) (e0:pendingOf st= #[])
  (h:∀aa,(arrOf aa).Perm a₀→failedOf aa=none→Pw r (arrOf aa).toList→Q () aa):wpS (model prog w) A E s sortRuns' Q st:=by
 rw[sortRuns'_eq]
 dsimp only
 refine wpS_bind (wpS_get ?_)
 have z0:(arrOf st).size=a₀.size:=p0.size_eq
 rw[z0]
 generalize minRun' a₀.size a₀.size 0=mr
 refine wpS_bind (wpS_mono (wpS_forRange (I:=fun x c av=> ∃lo,c=(none,lo)∧RS a₀ κ r av lo∧x≤lo) (Q:=fun c av=>c=(none,a₀.size)∧RS a₀ κ r av a₀.size) ?step ?fin ⟨0,rfl,⟨k0,p0,f0,by rw[e0];exact rfl,Nat.zero_le _⟩,Nat.le_refl _⟩) ?post)
 case fin=>
  rintro c av ⟨lo,rfl,R,hx⟩
  rw[Nat.max_eq_right (Nat.zero_le _)]at hx
  have:=R.le
  obtain rfl:lo=a₀.size:=by omega
  exact⟨rfl,R⟩
 case step=>
  rintro x c av _ hx ⟨lo,rfl,R1,sY⟩
  dsimp only
  by_cases bH:lo≥a₀.size
  ·rw[if_pos bH]
   have:=R1.le
   obtain rfl:lo=a₀.size:=by omega
   exact wpS_pure ⟨rfl,R1⟩
  rw[if_neg bH]
  refine wpS_bind (Wo o hc (st:=av) ⟨R1.kind,rfl,rfl,R1.perm,fun _ _=>rfl⟩ (by omega) (by omega) fun found ai B2 f1 f2 S=> ?_)
  dsimp only
  by_cases ak:found<mr
  ·rw[if_pos ak]
   refine wpS_bind (wpS_lift (wpAny_rule ⟨rfl,?_⟩))
   have gk:found≤min (a₀.size - lo) mr:=by omega
   have Eh:min (a₀.size - lo) mr≤a₀.size - lo:=by omega
   generalize min (a₀.size - lo) mr=n at gk Eh
   refine wpS_bind (JD o hc B2 f1 gk (by omega) S fun aK B3 S3=> ?_)
   rw[if_neg (by decide)]
   have R2:=CB.rs R1 B3
   have S2:=S3.pw
   have n1:1≤n:=by omega
   clear S3 B3 B2 S
   clear ai
   revert R2 S2
   generalize aK=ai
   intro R2 S2
   refine wpS_bind (wpS_get ?_)
   cases hb:(pendingOf ai).back? with
   |none=>
    try dsimp only
    exact wpS_bind (wpS_modify (wpS_pure ⟨_,rfl,R2.push n1 (by omega) S2,by omega⟩))
   |some z=>
    obtain⟨s1,m1,p1⟩:=z
    try dsimp only
    refine wpS_bind (wpS_mono (wpS_forRange (I:=fun _ c aa=>c=(none,())∧RS a₀ κ r aa lo∧(arrOf aa).toList.drop lo=(arrOf ai).toList.drop lo) (Q:=fun c aa=>c=(none,())∧RS a₀ κ r aa lo∧(arrOf aa).toList.drop lo=(arrOf ai).toList.drop lo) ?_ (fun c aa hh=>hh) ⟨rfl,R2,rfl⟩) ?_)
    ·rintro y c aa _ _ ⟨rfl,R,hd⟩
     refine wpS_bind (wpS_get ?_)
     by_cases hs:(pendingOf aa).size>1
     ·rw[if_pos hs]
      cases hq:(pendingOf aa)[(pendingOf aa).size - 2]? with
      |none=>exact wpS_pure ⟨rfl,R,hd⟩
      |some z=>
       obtain⟨z1,z2,Cd⟩:=z
       dsimp only
       split
       ·exact wpS_pure ⟨rfl,R,hd⟩
       ·refine wpS_bind (R.merge o hc (by omega) fun cM nG _ ug=> ?_)
        rw[if_neg (by decide)]
        exact wpS_pure ⟨rfl,nG,ug.trans hd⟩
     ·rw[if_neg hs]
      exact wpS_pure ⟨rfl,R,hd⟩
    rintro c aa ⟨rfl,R,hd⟩
    dsimp only
    refine wpS_bind (wpS_modify (wpS_bind (wpS_modify (wpS_pure ⟨_,rfl,R.pow.push n1 (by omega) ?_,by omega⟩))))
    show Pw r (seg (arrOf aa).toList lo _)
    rw[JR (L':=(arrOf ai).toList) hd (Nat.le_refl _)]
    exact S2
  ·rw[if_neg ak]
   have R2:=CB.rs R1 B2
   have S2:=S.pw
   have n1:=f1
   clear S B2
   clear R1
   refine wpS_bind (wpS_get ?_)
   cases hb:(pendingOf ai).back? with
   |none=>
    try dsimp only
    exact wpS_bind (wpS_modify (wpS_pure ⟨_,rfl,R2.push n1 (by omega) S2,by omega⟩))
   |some z=>
    obtain⟨s1,m1,p1⟩:=z
    try dsimp only
    refine wpS_bind (wpS_mono (wpS_forRange (I:=fun _ c aa=>c=(none,())∧RS a₀ κ r aa lo∧(arrOf aa).toList.drop lo=(arrOf ai).toList.drop lo) (Q:=fun c aa=>c=(none,())∧RS a₀ κ r aa lo∧(arrOf aa).toList.drop lo=(arrOf ai).toList.drop lo) ?_ (fun c aa hh=>hh) ⟨rfl,R2,rfl⟩) ?_)
    ·rintro y c aa _ _ ⟨rfl,R,hd⟩
     refine wpS_bind (wpS_get ?_)
     by_cases hs:(pendingOf aa).size>1
     ·rw[if_pos hs]
      cases hq:(pendingOf aa)[(pendingOf aa).size - 2]? with
      |none=>exact wpS_pure ⟨rfl,R,hd⟩
      |some z=>
       obtain⟨z1,z2,Cd⟩:=z
       dsimp only
       split
       ·exact wpS_pure ⟨rfl,R,hd⟩
       ·refine wpS_bind (R.merge o hc (by omega) fun cM nG _ ug=> ?_)
        rw[if_neg (by decide)]
        exact wpS_pure ⟨rfl,nG,ug.trans hd⟩
     ·rw[if_neg hs]
      exact wpS_pure ⟨rfl,R,hd⟩
    rintro c aa ⟨rfl,R,hd⟩
    dsimp only
    refine wpS_bind (wpS_modify (wpS_bind (wpS_modify (wpS_pure ⟨_,rfl,R.pow.push n1 (by omega) ?_,by omega⟩))))
    show Pw r (seg (arrOf aa).toList lo _)
    rw[JR (L':=(arrOf ai).toList) hd (Nat.le_refl _)]
    exact S2
 case post=>
  rintro c av ⟨rfl,R1⟩
  dsimp only
  refine wpS_bind (wpS_mono (wpS_forRange (I:=fun x c aa=>c=(none,())∧RS a₀ κ r aa a₀.size∧(pendingOf aa).size+x≤a₀.size) (Q:=fun c aa=>c=(none,())∧RS a₀ κ r aa a₀.size∧(pendingOf aa).size≤1) ?_ ?_ ⟨rfl,R1,by have:=R1.runs.le;rw[Array.length_toList]at this;omega⟩) ?_)
  ·rintro x c aa _ _ ⟨rfl,R,hx⟩
   refine wpS_bind (wpS_get ?_)
   by_cases hs:(pendingOf aa).size≤1
   ·rw[if_pos hs]
    exact wpS_pure ⟨rfl,R,hs⟩
   rw[if_neg hs]
   have idx:∀c:Prop,∀_:Decidable c,(if c then (pendingOf aa).size - 2 - 1 else (pendingOf aa).size - 2)+1< (pendingOf aa).size:=fun c _=>by split<;>omega
   refine wpS_bind (R.merge o hc (idx _ _) fun cM nG Mh _=> ?_)
   rw[if_neg (by decide)]
   exact wpS_pure ⟨rfl,nG,by omega⟩
  ·rintro c aa ⟨rfl,R,hx⟩
   rw[Nat.max_eq_right (Nat.zero_le _)]at hx
   exact⟨rfl,R,by omega⟩
  rintro c aa ⟨rfl,R,hs⟩
  refine wpS_pure (h aa R.perm R.fail ?_)
  have hr:=R.runs
  have hl:(pendingOf aa).toList.length≤1:=by rw[Array.length_toList];exact hs
  match hp:(pendingOf aa).toList,hl with
  | [],_=>
   rw[hp]at hr
   have:0=a₀.size:=hr
   omega
  | [x],_=>
   rw[hp]at hr
   obtain⟨q1,q2,q3,q4⟩:=hr
   have Ml:0+x.2.1=a₀.size:=q4
   rw[q1]at q3
   have:seg (arrOf aa).toList 0 x.2.1=(arrOf aa).toList:=by
    unfold seg
    rw[List.drop_zero,List.take_of_length_le (by rw[Array.length_toList,R.perm.size_eq];omega)]
   rw[this]at q3
   exact q3
  |_::_::_,h=>simp at h
end
end PyProof.Rows.fb
namespace PyProof.Rows.fb
open PySem PySem.W
section
variable {prog:Program}{w:World}{A:Around}{E:Value→Shared→Prop}{s:Shared}{κ:SortKind}{r:Keyed→Keyed→Bool}
def vC (prog:Program) (w:World) (A:Around) (E:Value→Shared→Prop) (κ:SortKind) (r:Keyed→Keyed→Bool) (a:Addr) (h:Heap) (vs:List Value):Prop:=
 ∀s6:Shared,(∀b o,b≠a→h.get? b=some o→s6.heap.get? b=some o)→(2≤vs.length→∀Q:SortKind→Shared→Prop,Q κ s6→wpAny (model prog w) A (keyKind' vs.toArray) Q E s6)∧gC prog w A E s6 κ (pairsOf vs) r
theorem UH (o:Ord r) {a:Addr}{vs:List Value}{n:Nat}{P:PySem.Fin→Shared→Prop}(ho:s.heap.get? a=some (seqObj "list" vs.toArray n)) (hc:vC prog w A E κ r a s.heap vs) (hz:vs.length≤1000)
  (h:∀xs:Array Keyed,xs.Perm (pairsOf vs)→Pw r xs.toList→P (.done (.ret .none)) {s with heap:=sortedHeap s.heap a vs (xs.map (·.2))}):
  wpAny (model prog w) A (Builtin.«list.sort» ⟨[.ref a],[]⟩) P E s:=by
 rw[list_sort_plain]
 have ha:a<s.heap.objs.size:=Heap.lt_size ho
 have mJ:vs.toArray.size≤sizeLine:=by rw[List.size_toArray,sizeLine_eq];omega
 refine wpAny_bind (listItems_at ho rfl ?_)
 refine wpAny_bind (listUpdate_at ho rfl ?_ mJ)
 obtain⟨e1,k7⟩:∃e1,(s.heap.update a (Obj.mapSeq fun _=> #[])).get? a=some (seqObj "list" #[] e1):=⟨_,get?_update_seq ho (fun _=> #[])⟩
 refine wpAny_bind (seqEpoch_at k7 rfl ?_)
 refine wpAny_bind (wpAny_newTuple ?_ (by simpa using mJ))
 refine wpAny_bind (wpAny_newList ?_)
 refine wpAny_holding ?_
 have pC:(((s.heap.update a (Obj.mapSeq fun _=> #[])).push (seqObj "tuple" vs.toArray 0)).push (seqObj "list" #[] 0)).get? a=some (seqObj "list" #[] e1):=by
  rw[Heap.get?_push_ne _ _ _ (by rw[size_push',Heap.size_update];exact Nat.ne_of_lt (Nat.lt_succ_of_lt ha)),Heap.get?_push_ne _ _ _ (by rw[Heap.size_update];exact Nat.ne_of_lt ha)]
  exact k7
 show wpAny (model prog w) A _ P E {s with heap:=((s.heap.update a (Obj.mapSeq fun _=> #[])).push (seqObj "tuple" vs.toArray 0)).push (seqObj "list" #[] 0)}
 dsimp only
 have keep:∀b o,b≠a→s.heap.get? b=some o→((((s.heap.update a (Obj.mapSeq fun _=> #[])).push (seqObj "tuple" vs.toArray 0)).push (seqObj "list" #[] 0))).get? b=some o:=fun b ob hb e=>
  Heap.get?_push_of_some _ (Heap.get?_push_of_some _ (by rw[Heap.get?_update_ne _ _ _ _ hb];exact e))
 obtain⟨hk,Ep⟩:=hc {s with heap:=((s.heap.update a (Obj.mapSeq fun _=> #[])).push (seqObj "tuple" vs.toArray 0)).push (seqObj "list" #[] 0)} keep
 have bY:vs.toArray.size=vs.length:=by simp
 by_cases h2:vs.toArray.size<2
 ·rw[if_pos h2,if_pos h2]
  refine wpAny_bind (wpAny_pure ?_)
  rw[StateT.run_pure]
  refine wpAny_bind (wpAny_pure ?_)
  dsimp only
  refine wpAny_bind (seqEpoch_at pC rfl ?_)
  refine wpAny_bind (listUpdate_at pC rfl ?_ (hsz2:=by rw[Array.size_map];show(pairsOf vs).size≤_;rw[pairsOf_size,sizeLine_eq];omega))
  simp only[bne_self_eq_false,Bool.false_eq_true,if_false]
  refine wpAny_pure (h (pairsOf vs) (Array.Perm.refl _) ?_)
  have hl:(pairsOf vs).toList.length<2:=by rw[Array.length_toList,pairsOf_size];omega
  match (pairsOf vs).toList,hl with
  | [],_=>exact .nil
  | [x],_=>exact List.pairwise_singleton _ _
  |_::_::_,h=>exact absurd h (by simp)
 ·rw[if_neg h2,if_neg h2]
  refine wpAny_bind (hk (by omega) _ ?_)
  refine wpAny_bind (wpAny_mono (Wn (κ:=κ) (r:=r) (a₀:=pairsOf vs) (st:=SortSt.mk' κ (vs.toArray.zip vs.toArray) #[] 7 none)
   (Q:=fun _ aa=> (arrOf aa).Perm (pairsOf vs)∧failedOf aa=none∧Pw r (arrOf aa).toList) o Ep (by rw[pairsOf_size];omega) rfl (Array.Perm.refl _) rfl rfl fun aa a1 a2 a3=> ⟨a1,a2,a3⟩) ?_ fun _ _ e=>e)
  rintro⟨⟨⟩,aa⟩ s' ⟨rfl,hp,hf,hs⟩
  dsimp only
  refine wpAny_bind (seqEpoch_at pC rfl ?_)
  refine wpAny_bind (listUpdate_at pC rfl ?_ (hsz2:=by refine Nat.le_trans (Nat.le_of_eq ((Array.size_map ..).trans (hp.size_eq.trans (pairsOf_size _)))) ?_;rw[sizeLine_eq];omega))
  rw[hf]
  simp only[bne_self_eq_false,Bool.false_eq_true,if_false]
  exact wpAny_pure (h _ hp hs)
theorem Ky (o:Ord r) {l:Addr}{vs:List Value}{Q:Value→Shared→Prop}(hl:s.heap.IsList l vs.toArray) (hc:∀h' a,(∀b ob,s.heap.get? b=some ob→h'.get? b=some ob)→(∀b ob,s.heap.get? b=some ob→b≠a)→vC prog w A.in1.in1 (fun _ _=>False) κ r a h' vs) (hz:vs.length≤1000)
  (h:∀xs:Array Keyed,xs.Perm (pairsOf vs)→Pw r xs.toList→Q (.ref (s.heap.objs.size+1)) {s with heap:=sortedAll s.heap vs (xs.map (·.2))}):
  wpAny (model prog w) A (call (.builtin "sorted") [.ref l]) Q E s:=by
 have mJ:vs.length≤sizeLine:=by rw[sizeLine_eq];omega
 refine Calls.call_function_entry kind_sorted plain_sorted entry_sorted (args_sorted1 _) ?_
 unfold Builtin.«sorted»
 refine wpAny_bind (m:=checkCount "sorted" 1 1 _) (wpAny_pure ?_)
 refine wpAny_bind (collect_list hl ?_ mJ)
 refine wpAny_bind (wpAny_newList ?_ mJ)
 have bY:((s.heap.push (seqObj "list" #[] 0)).update s.heap.objs.size (Obj.mapSeq (· ++vs.toArray))).objs.size=s.heap.objs.size+1:=by
  rw[Heap.size_update,size_push']
 have ja:(((s.heap.push (seqObj "list" #[] 0)).update s.heap.objs.size (Obj.mapSeq (· ++vs.toArray))).push (seqObj "list" vs.toArray 0)).get? (s.heap.objs.size+1)=some (seqObj "list" vs.toArray 0):=by
  rw[←bY];exact Heap.get?_push_size _ rfl
 show wpAny _ _ _ _ _ {s with heap:=((s.heap.push (seqObj "list" #[] 0)).update s.heap.objs.size (Obj.mapSeq (· ++vs.toArray))).push (seqObj "list" vs.toArray 0)}
 rw[bY]
 have asks:=hc (((s.heap.push (seqObj "list" #[] 0)).update s.heap.objs.size (Obj.mapSeq (· ++vs.toArray))).push (seqObj "list" vs.toArray 0)) (s.heap.objs.size+1)
  (fun b ob e=>Heap.get?_push_of_some _ (by rw[Heap.get?_update_ne _ _ _ _ (Nat.ne_of_lt (Heap.lt_size e))];exact Heap.get?_push_of_some _ e)) (fun b ob e=>Nat.ne_of_lt (Nat.lt_succ_of_lt (Heap.lt_size e)))
 have F1:vC prog w A.in1.in1 E κ r (s.heap.objs.size+1) (((s.heap.push (seqObj "list" #[] 0)).update s.heap.objs.size (Obj.mapSeq (· ++vs.toArray))).push (seqObj "list" vs.toArray 0)) vs:=fun s6 h6=>by
  obtain⟨q1,q2⟩:=asks s6 h6
  refine⟨fun g Q hq=>wpAny_mono (q1 g Q hq) (fun _ _ x=>x) fun _ _ x=>x.elim,fun x y st Q m1 m2 hk hq=> ?_⟩
  exact wpAny_mono (q2 x y st Q m1 m2 hk hq) (fun _ _ x=>x) fun _ _ x=>x.elim
 refine wpAny_bind (wpAny_holding (wpAny_call_entry slot_list_sort ⟨_,ja,rfl⟩ entry_list_sort (UH o ja F1 hz fun xs a1 a2=> ⟨_,rfl,?_⟩) (args_list_sort _)))
 exact wpAny_pure ⟨_,rfl,h xs a1 a2⟩
end
def ay:List Int→List Int→Bool
 | [],[]=>false
 | [],_::_=>true
 |_::_,[]=>false
 |a::l,b::m=>if a=b then ay l m else decide (a<b)
theorem Yo:∀x y,ay x y=true→ay y x=false
 | [],[],h=>by cases h
 | [],_::_,_=>rfl
 |_::_,[],h=>by cases h
 |a::l,b::m,h=>by
  unfold ay at h ⊢
  by_cases e:a=b
  ·rw[if_pos e]at h
   rw[if_pos e.symm]
   exact Yo l m h
  ·rw[if_neg e]at h
   rw[if_neg (Ne.symm e)]
   have:=of_decide_eq_true h
   exact decide_eq_false (by omega)
theorem YE:∀x y z,ay y x=false→ay z y=false→ay z x=false
 | [],[],[],_,_=>rfl
 | [],[],_::_,_,_=>rfl
 | [],_::_,[],_,h=>by cases h
 | [],_::_,_::_,_,_=>rfl
 |_::_,[],_,h,_=>by cases h
 |_::_,_::_,[],_,h=>by cases h
 |a::l,b::m,c::n,h1,h2=>by
  unfold ay at h1 h2 ⊢
  by_cases e1:b=a
  ·rw[if_pos e1]at h1
   by_cases e2:c=b
   ·rw[if_pos e2]at h2
    rw[if_pos (e2.trans e1)]
    exact YE l m n h1 h2
   ·rw[if_neg e2]at h2
    have:=of_decide_eq_false h2
    rw[if_neg (by omega)]
    exact decide_eq_false (by omega)
  ·rw[if_neg e1]at h1
   have q1:=of_decide_eq_false h1
   by_cases e2:c=b
   ·rw[if_neg (by omega)]
    exact decide_eq_false (by omega)
   ·rw[if_neg e2]at h2
    have q2:=of_decide_eq_false h2
    rw[if_neg (by omega)]
    exact decide_eq_false (by omega)
theorem zy:∀x y,ay x y=false→ay y x=false→x=y
 | [],[],_,_=>rfl
 | [],_::_,h,_=>by cases h
 |_::_,[],_,h=>by cases h
 |a::l,b::m,h1,h2=>by
  unfold ay at h1 h2
  by_cases e:a=b
  ·rw[if_pos e]at h1
   rw[if_pos e.symm]at h2
   rw[e,zy l m h1 h2]
  ·rw[if_neg e]at h1
   rw[if_neg (Ne.symm e)]at h2
   have q1:=of_decide_eq_false h1
   have q2:=of_decide_eq_false h2
   omega
theorem IE (key:Value→List Int):Ord fun x y:Keyed=>ay (key x.1) (key y.1):=⟨fun _ _=>Yo _ _,fun _ _ _=>YE _ _ _⟩
section
variable {prog:Program}{w:World}{A:Around}{s:Shared}{b:Bool}{Q:Bool→Shared→Prop}
theorem IB {c:Bool}{x y:Int}{t u:Tok}(h:Q (decide (x<y)) s):wpAny (model prog w) A (oneLt' c (.int x t) (.int y u)) Q (fun _ _=>False) s:=by
 cases c with
 |true=>exact oneLt_int h
 |false=>exact kat_one _ _ (lt_int (Q:=PySem.W.BoolBack Q) h)
theorem UK {fin:Bool} :∀{us vs:List Value}{xs ys:List Int}{i:Nat},IntsAre us xs→IntsAre vs ys→fin=decide (xs.length<ys.length)→Q (ay xs ys) s→KatLex prog w A b fin Q (us.zip vs) i s
 |_,_,_,_,i,.nil,.nil,hf,h=>by
  subst hf
  exact h
 |_,_,_,_,i,.nil,.cons _ _ _,hf,h=>by
  subst hf
  exact h
 |_,_,_,_,i,.cons _ _ _,.nil,hf,h=>by
  subst hf
  exact h
 |_,_,_,_,i,.cons x t ix,.cons y u iy,hf,h=>by
  rw[List.zip_cons_cons]
  refine kat_cons (SeqAt.EqAt.int_int (A:=A) (s:=s) x t y u _ _ _ _ ?_)
  unfold ay at h
  by_cases e:x=y
  ·rw[if_pos e]at h
   rw[beq_iff_eq.mpr e]
   exact kat_yes (UK ix iy (by rw[hf];exact decide_eq_decide.mpr (by simp only[List.length_cons];omega)) h)
  ·rw[if_neg e]at h
   rw[beq_eq_false_iff_ne.mpr e]
   exact kat_no (IB h)
end
end PyProof.Rows.fb
namespace L2
open PySem PySem.Spec PyProof.Rows PyProof.Rows.fb
def cA (H:Hp) (v:V) (k:List Int):Prop:=∃t:Addr,v=.ref t∧H t=some (.tup (k.map V.int))
theorem cA.same {H H':Hp}{v:V}{k:List Int}(h:cA H v k) (s:ae H H'):cA H' v k:=by
 obtain⟨t,e,h1⟩:=h
 exact⟨t,e,s _ _ h1⟩
def dS (h:Heap):Value→List Int
 | .ref t=>match h.get? t with
  |some o=>match o.data with
   | .seq its _=>its.toList.map numOf
   |_=> []
  |none=> []
 |_=> []
theorem YG {h:Heap}{t:Addr}{o:Obj}{its:Array Value}{n:Nat}{k:List Int}(e:h.get? t=some o) (d:o.data=.seq its n) (i:IntsAre its.toList k):dS h (.ref t)=k:=by
 unfold dS
 dsimp only
 rw[e]
 dsimp only
 rw[d]
 dsimp only
 clear d e
 generalize its.toList=us at i
 induction i with
 |nil=>rfl
 |cons x t _ ih=>rw[List.map_cons,ih];rfl
def toV:Value→V
 | .ref t=> .ref t
 |_=> .ab
def Lo (h:Heap) (u:Value) (k:List Int):Prop:=∃(t:Addr) (o:Obj) (its:Array Value) (n:Nat),u=.ref t∧h.get? t=some o∧o.cls=.type "tuple" ∧o.data=.seq its n∧IntsAre its.toList k
theorem Yt {α β:Type}{R:α→β→Prop} :∀{xs:List α}{ys:List β}{x:α},Paired R xs ys→x∈xs→∃y∈ys,R x y
 |_,_,_,.cons h r,m=>by
  rcases List.mem_cons.mp m with rfl |m
  ·exact⟨_,List.mem_cons_self,h⟩
  ·obtain⟨y,hy,q⟩:=Yt r m
   exact⟨y,List.mem_cons_of_mem _ hy,q⟩
theorem YV {α β:Type}{R:α→β→Prop}{f:α→β} :∀{xs:List α}{ys:List β},Paired R xs ys→(∀x y,R x y→f x=y)→xs.map f=ys
 |_,_,.nil,_=>rfl
 |_,_,.cons h r,e=>by rw[List.map_cons,e _ _ h,YV r e]
theorem Jo {vs:List Value}{p:Keyed}(h:p∈(pairsOf vs).toList):p.1∈vs∧p.2=p.1:=by
 unfold pairsOf at h
 rw[Array.toList_zip,List.toList_toArray]at h
 have:∀(l:List Value),p∈l.zip l→p.1∈l∧p.2=p.1:=fun l=>by
  induction l with
  |nil=>intro h;cases h
  |cons a l ih=>
   intro h
   rw[List.zip_cons_cons]at h
   rcases List.mem_cons.mp h with rfl |h
   ·exact⟨List.mem_cons_self,rfl⟩
   ·exact⟨List.mem_cons_of_mem _ (ih h).1,(ih h).2⟩
 exact this vs h
abbrev I4:=Int×Int×Int×Int
def ba (q:I4):List Int:=[q.1,q.2.1,q.2.2.1,q.2.2.2]
theorem HG {a b:I4}(h:ba a=ba b):a=b:=by
 obtain⟨a1,a2,a3,a4⟩:=a
 obtain⟨b1,b2,b3,b4⟩:=b
 simp only[ba,List.cons.injEq,and_true]at h
 obtain⟨h1,h2,h3,h4⟩:=h
 subst h1 h2 h3 h4
 rfl
def kc (H:Hp) (v:V) (q:I4):Prop:=∃t t':Addr,v=.ref t∧H t=some (.tup [.ref t',.int q.2.2.1,.int q.2.2.2])∧H t'=some (.tup [.int q.1,.int q.2.1])
def iJ (h:Heap) (u:Value) (k:I4):Prop:=∃(t:Addr) (o:Obj) (n:Nat) (t':Addr) (o':Obj) (n':Nat) (k1 k2 k3 k4:Tok),u=.ref t∧h.get? t=some o∧o.cls=.type "tuple" ∧o.data=.seq #[.ref t',.int k.2.2.1 k3,.int k.2.2.2 k4] n∧
 h.get? t'=some o'∧o'.cls=.type "tuple" ∧o'.data=.seq #[.int k.1 k1,.int k.2.1 k2] n'
theorem iJ.keep {h h':Heap}{u:Value}{k:I4}{a:Addr}(x:iJ h u k) (kp:∀b o,b≠a→h.get? b=some o→h'.get? b=some o) (na:∀b o,h.get? b=some o→b≠a):iJ h' u k:=by
 obtain⟨t,o,n,t',o',n',k1,k2,k3,k4,e,g,c,d,g',c',d'⟩:=x
 exact⟨t,o,n,t',o',n',k1,k2,k3,k4,e,kp t o (na t o g) g,c,d,kp t' o' (na t' o' g') g',c',d'⟩
def ip (h:Heap):Value→List Int
 | .ref t=>match h.get? t with
  |some o=>match o.data with
   | .seq its _=>dS h (its.toList.getD 0 .none)++(its.toList.drop 1).map numOf
   |_=> []
  |none=> []
 |_=> []
theorem JN {h:Heap}{u:Value}{k:I4}(x:iJ h u k):ip h u=ba k:=by
 obtain⟨t,o,n,t',o',n',k1,k2,k3,k4,rfl,g,c,d,g',c',d'⟩:=x
 have e:=YG g' d' (k:=[k.1,k.2.1]) (.cons _ _ (.cons _ _ .nil))
 unfold ip
 dsimp only
 rw[g]
 dsimp only
 rw[d]
 dsimp only
 show dS h (.ref t')++_=_
 rw[e]
 rfl
theorem Wz {h:Heap} :∀{us:List Value}{ks:List I4},Paired (iJ h) us ks→∃fs,PySem.W.KatTups h us fs∧fs.length=us.length∧∀f∈fs,∃t o,f=.ref t∧h.get? t=some o∧o.cls=.type "tuple"
 |_,_,.nil=> ⟨[],.nil,rfl,fun f hf=>by cases hf⟩
 |_,_,.cons (a:=u) (b:=k) ⟨t,o,n,t',o',n',k1,k2,k3,k4,e,g,c,d,g',c',d'⟩ r=>by
  obtain⟨fs,h1,h2,h3⟩:=Wz r
  subst e
  refine⟨.ref t'::fs,.cons g c d rfl h1,by rw[List.length_cons,List.length_cons,h2],fun f hf=> ?_⟩
  rcases List.mem_cons.mp hf with rfl |hf
  ·exact⟨_,_,rfl,g',c'⟩
  ·exact h3 f hf
theorem HL (a b a' b':Int) (l m:List Int):ay (a::b::l) (a'::b'::m)=if [a,b]=[a',b'] then ay l m else HT.lexLt [a,b] [a',b']:=by
 by_cases e1:a=a'
 ·subst e1
  by_cases e2:b=b'
  ·subst e2
   simp[ay]
  ·simp[ay,e2,HT.lexLt]
 ·simp[ay,e1,HT.lexLt]
theorem Iy {A:Around}{s:Shared}{t t':Addr}{o o':Obj}{n n':Nat}{a b a' b':Int}{k1 k2 k3 k4:Tok}(hu:A.units<cLine) (g:s.heap.get? t=some o) (c:o.cls=.type "tuple") (d:o.data=.seq #[.int a k1,.int b k2] n)
  (g':s.heap.get? t'=some o') (c':o'.cls=.type "tuple") (d':o'.data=.seq #[.int a' k3,.int b' k4] n'):SeqAt.EqAt A s (.ref t) (.ref t') (decide ([a,b]=[a',b'])):=by
 by_cases h:t=t'
 ·subst h
  rw[g]at g'
  cases g'
  rw[d]at d'
  have e:a=a'∧b=b':=by
   injection d' with e1 e2
   simp at e1
   exact⟨e1.1.1,e1.2.1⟩
  rw[e.1,e.2]
  have:=SeqAt.EqAt.same (A:=A) (s:=s) (.ref t)
  simpa using this
 ·refine SeqAt.EqAt.of_refs h ?_
  have z:=SeqAt.RcAt.tuples (A:=A) (s:=s) (l:=t) (b:=t') (items:= #[.int a k1,.int b k2]) (items2:= #[.int a' k3,.int b' k4]) (e:=fun j=>if j=0 then a==a' else b==b') ⟨o,g,c,n,d⟩ ⟨o',g',c',n',d'⟩ hu (fun j h1 h2=>by
   have yu:j<2:=h1
   match j,yu with
   |0,_=>exact SeqAt.EqAt.int_int _ _ _ _
   |1,_=>exact SeqAt.EqAt.int_int _ _ _ _)
  have e:((List.range (min (#[Value.int a k1,Value.int b k2]:Array Value).size (#[Value.int a' k3,Value.int b' k4]:Array Value).size)).all (fun j=>if j=0 then a==a' else b==b')&&(#[Value.int a k1,Value.int b k2]:Array Value).size==(#[Value.int a' k3,Value.int b' k4]:Array Value).size)=decide ([a,b]=[a',b']):=by
   show((List.range 2).all (fun j=>if j=0 then a==a' else b==b')&&2==2)=_
   rw[Bool.eq_iff_iff]
   simp[List.range_succ]
  rw[e]at z
  exact z
section
variable {X:Cx}
theorem Uk (hu:X.A.units+2<cLine):fg X (.builtin "sorted") (fun xs H Q=> ∃(p:Addr) (vs:List V) (ks:List I4),xs=[.ref p]∧ag X.K H p vs∧Paired (kc H) vs ks∧vs.length≤1000∧
  ∀(q:Addr) (lP:List V) (mq:List I4),H q=none→mq.Perm ks→(mq.map ba).Pairwise (fun a b=>ay b a=false)→Paired (kc H) lP mq→Q (.ref q) (upd H q (.lst lP))):=by
 intro pins s σ H xs us Q I r h
 obtain⟨p,vs,ks,rfl,hp,pr,hz,q⟩:=h
 obtain⟨u,rfl,ru⟩:=vals1 r
 cases ru
 obtain⟨its,rv,pl,_⟩:=I.list hp
 have hl:=rv.length
 have key:∀{vs:List V}{ks:List I4}{its:List Value},Paired (kc H) vs ks→Vals vs its→Paired (fun u k=>iJ s.heap u k∧kc H (toV u) k) its ks:=by
  intro vs ks its pr
  induction pr generalizing its with
  |nil=>intro rv;cases rv;exact .nil
  |cons hh _ ih=>
   intro rv
   cases rv with
   |cons r1 r2=>
    refine .cons ?_ (ih r2)
    obtain⟨t,t',rfl,ht,gO⟩:=hh
    cases r1
    obtain⟨i1,ri,⟨o,go,oc,n,od⟩,_⟩:=I.tuple (af.of ht)
    obtain⟨i2,BN,⟨o',go',Cq,n',Cp⟩,_⟩:=I.tuple (af.of gO)
    refine⟨?_,t,t',rfl,ht,gO⟩
    cases ri with
    |cons a1 a2=>
     cases a2 with
     |cons a3 a4=>
      cases a4 with
      |cons a5 a6=>
       cases a6
       cases BN with
       |cons b1 b2=>
        cases b2 with
        |cons b3 b4=>
         cases b4
         cases a1
         obtain⟨k3,rfl⟩:=a3
         obtain⟨k4,rfl⟩:=a5
         obtain⟨k1,rfl⟩:=b1
         obtain⟨k2,rfl⟩:=b3
         exact⟨t,o,n,t',o',n',k1,k2,k3,k4,rfl,go,oc,od,go',Cq,Cp⟩
 have tp:=key pr rv
 have tu:Paired (iJ s.heap) its ks:=Paired.bT tp fun _ _ h=>h.1
 refine Ky (κ:=tuples' false) (r:=fun x y=>ay (ip s.heap x.1) (ip s.heap y.1)) (IE _) pl.isList (fun h' a kp na s6 h6=> ?_) (by omega) fun xs xr sX=> ?_
 ·have As:Paired (iJ s6.heap) its ks:=Paired.bT tu fun u k x=>x.keep (a:=a) (fun b o hb e=>h6 b o hb (kp b o e)) na
  refine⟨fun h2 Q' hq=> ?_,fun x y st Q' mx my hk hq=> ?_⟩
  ·obtain⟨fs,kt,kl,kf⟩:=Wz As
   refine PySem.W.kat_kind (T:=.type "tuple") kt (by omega) (fun v hv=> ?_) (by rfl) hq
   obtain⟨t,o,rfl,g,c⟩:=kf v hv
   rw[←c]
   exact(PySem.W.Looks.ld g).andThen .now
  ·rw[lt'_eq]
   refine wpS_bind (wpS_get ?_)
   rw[hk]
   obtain⟨CO,_⟩:=Jo mx
   obtain⟨CN,_⟩:=Jo my
   obtain⟨kx,_,nx⟩:=Yt tu CO
   obtain⟨ky,_,ny⟩:=Yt tu CN
   dsimp only at hq
   rw[JN nx,JN ny]at hq
   obtain⟨tx,ox,n1,Ar,Mn,CM,c1,c2,c3,c4,ex,gx,cx,dx,yw,yO,yL⟩:=nx.keep (h':=s6.heap) (a:=a) (fun b o hb e=>h6 b o hb (kp b o e)) na
   obtain⟨ty,oy,n2,Aq,Mm,CL,d1,d2,d3,d4,ey,gy,cy,dy,yv,yN,yK⟩:=ny.keep (h':=s6.heap) (a:=a) (fun b o hb e=>h6 b o hb (kp b o e)) na
   rw[ex,ey]
   refine wpS_bind (wpS_lift (wpAny_attempt (PySem.W.kat_lt gx dx gy dy ?_)))
   show PySem.W.KatLex _ _ _ false (decide (3<3)) _ ((Value.ref Ar,Value.ref Aq)::([Value.int kx.2.2.1 c3,Value.int kx.2.2.2 c4].zip [Value.int ky.2.2.1 d3,Value.int ky.2.2.2 d4])) 0 _
   refine PySem.W.kat_cons (Iy (A:=X.A.in1.in1) hu yw yO yL yv yN yK _ _ _ _ ?_)
   have tY:ay (ba kx) (ba ky)=if [kx.1,kx.2.1]=[ky.1,ky.2.1] then ay [kx.2.2.1,kx.2.2.2] [ky.2.2.1,ky.2.2.2] else HT.lexLt [kx.1,kx.2.1] [ky.1,ky.2.1]:=HL ..
   rw[tY]at hq
   by_cases e:[kx.1,kx.2.1]=[ky.1,ky.2.1]
   ·rw[if_pos e]at hq
    rw[decide_eq_true e]
    exact PySem.W.kat_yes (UK (xs:=[kx.2.2.1,kx.2.2.2]) (ys:=[ky.2.2.1,ky.2.2.2]) (.cons _ _ (.cons _ _ .nil)) (.cons _ _ (.cons _ _ .nil)) rfl ⟨rfl,wpS_pure hq⟩)
   ·rw[if_neg e]at hq
    rw[decide_eq_false e]
    exact PySem.W.kat_no (PySem.W.kat_one _ _ (HT.xc ⟨_,yw,yO,CM,yL⟩ ⟨_,yv,yN,CL,yK⟩ (ns:=[kx.1,kx.2.1]) (ms:=[ky.1,ky.2.1]) (.cons _ _ (.cons _ _ .nil)) (.cons _ _ (.cons _ _ .nil)) hu ⟨rfl,wpS_pure hq⟩))
 ·have cP:∀pq∈xs.toList,pq.1∈its∧pq.2=pq.1:=fun pq tG=>Jo ((Array.perm_iff_toList_perm.mp xr).mem_iff.mp tG)
  have eo:(xs.map (·.2)).toList=xs.toList.map (·.1):=by
   rw[Array.toList_map]
   exact List.map_congr_left fun pq tG=> (cP pq tG).2
  have po:(xs.toList.map (·.1)).Perm its:=by
   refine List.Perm.trans ((Array.perm_iff_toList_perm.mp xr).map _) ?_
   unfold pairsOf
   rw[Array.toList_zip,List.toList_toArray]
   have:∀l:List Value,(l.zip l).map (·.1)=l:=fun l=>by
    induction l with
    |nil=>rfl
    |cons a l ih=>rw[List.zip_cons_cons,List.map_cons,ih]
   rw[this]
  generalize Mx:xs.map (·.2)=out at eo
  let kk:Value→I4:=fun u=>match ip s.heap u with
   | [a,b,c,d]=> (a,b,c,d)
   |_=> (0,0,0,0)
  have xT:∀u k,iJ s.heap u k→kk u=k:=fun u k x=>by
   show(match ip s.heap u with
    | [a,b,c,d]=> (a,b,c,d)
    |_=> (0,0,0,0))=k
   rw[JN x]
   rfl
  have ek:its.map kk=ks:=YV tu xT
  have rel:∀u∈out.toList,kc H (toV u) (kk u)∧ba (kk u)=ip s.heap u∧RelV (toV u) u:=fun u hu=>by
   rw[eo]at hu
   obtain⟨k,_,hT,hS⟩:=Yt tp (po.mem_iff.mp hu)
   have e:=xT u k hT
   rw[e]
   refine⟨hS,(JN hT).symm,?_⟩
   obtain⟨t,t',e2,_⟩:=hS
   obtain⟨t2,_,_,_,_,_,_,_,_,_,e3,_⟩:=hT
   subst e3
   rfl
  have vals:∀l:List Value,(∀u∈l,kc H (toV u) (kk u)∧ba (kk u)=ip s.heap u∧RelV (toV u) u)→Vals (l.map toV) l∧Paired (kc H) (l.map toV) (l.map kk)∧(l.map kk).map ba=l.map (ip s.heap):=fun l=>by
   induction l with
   |nil=>intro _;exact⟨.nil,.nil,rfl⟩
   |cons u l ih=>
    intro hl
    obtain⟨i1,i2,i3⟩:=ih fun v hv=>hl v (List.mem_cons_of_mem _ hv)
    obtain⟨a1,a2,a3⟩:=hl u List.mem_cons_self
    exact⟨.cons a3 i1,.cons a1 i2,by rw[List.map_cons,List.map_cons,List.map_cons,i3,a2]⟩
  obtain⟨v1,v2,v3⟩:=vals out.toList rel
  obtain⟨e,he⟩:=sortedAll_at s.heap its out
  have lo:out.toList.length=its.length:=by rw[eo];exact po.length_eq
  have hlen:(out.toList.map toV).length≤sizeLine:=by rw[List.length_map,lo,sizeLine_eq];omega
  refine⟨.ref (s.heap.objs.size+1),_,I.laid (t':=s.toks) (a:=s.heap.objs.size+1) (o:=.lst (out.toList.map toV)) (fun b o=>sortedAll_old) (Nat.le_succ _) ⟨hlen,out.toList,e,v1,by simpa using he⟩,rfl,q _ _ (out.toList.map kk) (I.aj.fresh (Nat.le_succ _)) ?_ ?_ v2⟩
  ·rw[←ek,eo]
   exact po.map _
  ·rw[v3,eo,List.map_map,List.pairwise_map]
   exact sX
end
end L2
namespace PyProof.Rows.fb
open PySem
def gw (lt:Value→Value→Bool):Value→List Value→Value
 |b,[]=>b
 |b,v::r=>gw lt (if lt v b=true then v else b) r
section
variable {prog:Program}{w:World}{A:Around}{R:Result→Shared→Prop}{lt:Value→Value→Bool}{vs:List Value}{h0:Heap}{kw:List (Str×Value)}
def Kp (h0 h:Heap):Prop:=∀b o,h0.get? b=some o→h.get? b=some o
theorem HQ (hh:A.in1.handled=none) {I l S:Addr}(pH:l≠I) (jY:S≠I) (pQ:S≠l) (zI:h0.get? I=none) (zS:h0.get? S=none)
  (uh:∀(s':Shared) u v (Q:Value→Shared→Prop) (E:Value→Shared→Prop),Kp h0 s'.heap→u∈vs→v∈vs→Q (.bool (lt u v)) s'→wpAny (model prog w) A.in1 (richCompare .Lt u v) Q E s'):
  ∀(k j:Nat) (s:Shared) (vb:Value) (c:Nat),vs.length - j=k→j≤vs.length→s.heap.IsListIter I l j→s.heap.IsList l vs.toArray→vb∈vs→Kp h0 s.heap→
  s.heap.get? S=some {cls:=.type "list",dict:=none,data:=.seq #[vb,vb] c,slots:= #[]}→
  (∀h' tk,Kp h0 h'→R (.ok (.ret (gw lt vb (vs.drop j)))) {s with heap:=h',toks:=tk})→
  codeAny (model prog w) A (.builtin "min.loop" ⟨[.ref I,.none,.ref S],kw⟩) R s:=by
 have mO:(toString "min" ++toString ".loop" :String)= "min.loop" :=by decide
 have W:=Walks.list (prog:=prog) (w:=w) (A:=A.in1) hh I l pH vs.toArray
 have bY:vs.toArray.size=vs.length:=List.size_toArray ..
 have ne:∀b o,h0.get? b=some o→b∉[I]∧b≠S:=fun b o e=> ⟨fun m=> (by rw[List.mem_singleton.mp m,zI]at e;cases e),fun m=> (by rw[m,zS]at e;cases e)⟩
 intro k
 induction k with
 |zero=>
  intro j s vb c hk hj hit tT hb tV hS hR
  have mR:j=vs.toArray.size:=by omega
  refine codeAny_builtin F.entry_min_loop ?_
  rw[Around.under_plainId F.plain_min_loop _]
  show wpAny _ A.in1 (seqItems? (.ref S) >>=_) _ _ s
  refine wpAny_bind (wpAny_seqItems hS rfl ?_)
  show wpAny _ A.in1 (tryCatch (pyNext (.ref I)) _ >>=_) _ _ s
  refine wpAny_bind (wpAny_tryCatch (W.done s _ _ (mR▸⟨hit,tT⟩) fun h' tk aQ=> ?_))
  have cI:=aQ S _ (by simpa using jY) hS
  show wpAny _ A.in1 (updateSeq S (fun _=> #[]) >>=_) _ _ _
  refine wpAny_bind ?_
  refine wpAny_updateSeq cI rfl (wpAny_bind (wpAny_letGo (wpAny_pure ?_)))
  have e:vs.drop j=[]:=List.drop_eq_nil_of_le (by omega)
  rw[e]at hR
  exact hR _ tk fun b o q=> (Heap.get?_update_other _ _ (Ne.symm (ne b o q).2)).trans (aQ b o (ne b o q).1 (tV b o q))
 |succ k ih=>
  intro j s vb c hk hj hit tT hb tV hS hR
  have ak:j<vs.length:=by omega
  refine codeAny_builtin F.entry_min_loop ?_
  rw[Around.under_plainId F.plain_min_loop _]
  show wpAny _ A.in1 (seqItems? (.ref S) >>=_) _ _ s
  refine wpAny_bind (wpAny_seqItems hS rfl ?_)
  show wpAny _ A.in1 (tryCatch (pyNext (.ref I)) _ >>=_) _ _ s
  refine wpAny_bind (wpAny_tryCatch (W.item j s _ _ (by omega) ⟨hit,tT⟩ fun v h' tk hP dN aQ=> ?_))
  have hv:vs[j]? =some v:=by simpa using hP
  have xu:v∈vs:=List.mem_of_getElem? hv
  have cI:=aQ S _ (by simpa using jY) hS
  have mw:Kp h0 h':=fun b o q=>aQ b o (ne b o q).1 (tV b o q)
  have ed:vs.drop j=v::vs.drop (j+1):=by
   have e2:vs[j]=v:=(List.getElem?_eq_some_iff.mp hv).2
   rw[List.drop_eq_getElem_cons ak,e2]
  rw[ed]at hR
  show wpAny _ A.in1 (tryCatch (holding [v,v] (richCompare .Lt v vb >>=_)) _ >>=_) _ _ _
  refine wpAny_bind (wpAny_tryCatch (wpAny_holding (wpAny_bind (uh _ v vb _ _ mw xu hb ?_))))
  refine wpAny_bind (wpAny_holding (wpAny_truthy_bool ?_))
  refine wpAny_bind (wpAny_letGo (wpAny_pure ?_))
  cases dY:lt v vb with
  |true=>
   simp only[if_true]
   refine wpAny_bind ?_
   refine wpAny_updateSeq cI rfl (wpAny_bind (wpAny_letGo ?_))
   rw[mO]
   have fr:=W.frame (j+1) _ (h'.update S (Obj.mapSeq fun _=> #[v,v])) dN fun b mW o e=> (Heap.get?_update_other _ _ (fun h:S=b=>by
    simp only[List.mem_cons,List.not_mem_nil,or_false]at mW
    rcases mW with q |q
    ·exact jY (h.trans q)
    ·exact pQ (h.trans q))).trans e
   refine wpAny_pure ⟨plainId_quiet F.plain_min_loop _,ih (j+1) _ v _ (by omega) ak fr.1 fr.2 xu (fun b o q=> (Heap.get?_update_other _ _ (Ne.symm (ne b o q).2)).trans (mw b o q)) (Heap.get?_update_self _ cI rfl) fun bU lT dG=> ?_⟩
   have z:=hR bU lT dG
   unfold gw at z
   rw[if_pos dY]at z
   exact z
  |false=>
   simp only[Bool.false_eq_true,if_false]
   refine wpAny_bind (wpAny_letGo ?_)
   rw[mO]
   refine wpAny_pure ⟨plainId_quiet F.plain_min_loop _,ih (j+1) _ vb c (by omega) ak dN.1 dN.2 hb mw cI fun bU lT dG=> ?_⟩
   have z:=hR bU lT dG
   unfold gw at z
   rw[if_neg (by rw[dY];exact Bool.false_ne_true)]at z
   exact z
theorem Jy (a v:Value):argsOk "min" ⟨[a],[(Str.ofString "default",v)]⟩:=by unfold argsOk;kernel_rfl
theorem KH {E:Value→Shared→Prop}{s:Shared}{Q:Value→Shared→Prop}{l:Addr}(hh:A.in1.handled=none) (tQ:s.heap.IsList l vs.toArray)
  (uh:∀(s':Shared) u v (Q:Value→Shared→Prop) (E:Value→Shared→Prop),Kp s.heap s'.heap→u∈vs→v∈vs→Q (.bool (lt u v)) s'→wpAny (model prog w) A.in1 (richCompare .Lt u v) Q E s')
  (h1:∀h' tk,vs=[]→Kp s.heap h'→Q .none {s with heap:=h',toks:=tk}) (h2:∀v r h' tk,vs=v::r→Kp s.heap h'→Q (gw lt v r) {s with heap:=h',toks:=tk}):
  wpAny (model prog w) A (call (.builtin "min") [.ref l] [(Str.ofString "default",.none)]) Q E s:=by
 have mO:(toString "min" ++toString ".loop" :String)= "min.loop" :=by decide
 obtain⟨ol,jN,_⟩:=id tQ
 have xO:l<s.heap.objs.size:=Heap.lt_size jN
 refine kmk_tree PySem.F.kind_min PySem.F.plain_min PySem.F.entry_min (Jy _ _) ?_
 show wpAny _ A.in1 (Builtin.Builtins.bindParams "min" ["key", "default"] 0 ⟨[],[(Str.ofString "default",.none)]⟩ >>=_) _ _ s
 refine wpAny_bind (wpAny_of_eq (show Builtin.Builtins.bindParams "min" ["key", "default"] 0 ⟨[],[(Str.ofString "default",.none)]⟩=pure [none,some .none] from rfl) ?_)
 refine wpAny_bind (wpAny_pure ?_)
 refine wpAny_bind (wpAny_pyIter_list tQ ?_)
 refine wpAny_bind (wpAny_newList ?_ (Nat.zero_le _))
 rw[mO]
 have hS:(s.heap.push {cls:=.type "list_iterator",data:=.fields #[.ref l,.int 0 0]}).objs.size=s.heap.objs.size+1:=size_push' ..
 have pH:l≠s.heap.objs.size:=Nat.ne_of_lt xO
 have jY:(s.heap.push {cls:=.type "list_iterator",data:=.fields #[.ref l,.int 0 0]}).objs.size≠s.heap.objs.size:=by rw[hS];exact Nat.ne_of_gt (Nat.lt_succ_self _)
 have pQ:(s.heap.push {cls:=.type "list_iterator",data:=.fields #[.ref l,.int 0 0]}).objs.size≠l:=by rw[hS];exact Nat.ne_of_gt (Nat.lt_succ_of_lt xO)
 have zI:s.heap.get? s.heap.objs.size=none:=Heap.get?_none_of_le (Nat.le_refl _)
 have zS:s.heap.get? (s.heap.push {cls:=.type "list_iterator",data:=.fields #[.ref l,.int 0 0]}).objs.size=none:=Heap.get?_none_of_le (by rw[hS];exact Nat.le_succ _)
 refine wpAny_pure ⟨plainId_quiet PySem.F.plain_min_loop _,?_⟩
 have sS:Kp s.heap ((s.heap.push {cls:=.type "list_iterator",data:=.fields #[.ref l,.int 0 0]}).push (seqObj "list" #[] 0)):=fun b o e=>Heap.get?_push_of_some _ (Heap.get?_push_of_some _ e)
 have gI:((s.heap.push {cls:=.type "list_iterator",data:=.fields #[.ref l,.int 0 0]}).push (seqObj "list" #[] 0)).get? s.heap.objs.size=some {cls:=.type "list_iterator",data:=.fields #[.ref l,.int 0 0]} :=
  Heap.get?_push_of_some _ (Heap.get?_push_size _ rfl)
 have gS:((s.heap.push {cls:=.type "list_iterator",data:=.fields #[.ref l,.int 0 0]}).push (seqObj "list" #[] 0)).get? (s.heap.push {cls:=.type "list_iterator",data:=.fields #[.ref l,.int 0 0]}).objs.size=some (seqObj "list" #[] 0):=Heap.get?_push_size _ rfl
 have lH:((s.heap.push {cls:=.type "list_iterator",data:=.fields #[.ref l,.int 0 0]}).push (seqObj "list" #[] 0)).IsList l vs.toArray:=tQ.at fun o e=>sS _ _ e
 have W:=Walks.list (prog:=prog) (w:=w) (A:=A.in1) hh s.heap.objs.size l pH vs.toArray
 have bY:vs.toArray.size=vs.length:=List.size_toArray ..
 have ne:∀b o,s.heap.get? b=some o→b∉[s.heap.objs.size]∧b≠(s.heap.push {cls:=.type "list_iterator",data:=.fields #[.ref l,.int 0 0]}).objs.size:=fun b o e=> ⟨fun m=> (by rw[List.mem_singleton.mp m,zI]at e;cases e),fun m=> (by rw[m,zS]at e;cases e)⟩
 refine codeAny_builtin PySem.F.entry_min_loop ?_
 rw[Around.under_plainId PySem.F.plain_min_loop _]
 show wpAny _ A.in1 (seqItems? (.ref _) >>=_) _ _ _
 refine wpAny_bind (wpAny_seqItems gS rfl ?_)
 show wpAny _ A.in1 (tryCatch (pyNext (.ref s.heap.objs.size)) _ >>=_) _ _ _
 cases i7:vs with
 |nil=>
  refine wpAny_bind (wpAny_tryCatch (W.done _ _ _ ⟨⟨_,gI,rfl,by rw[bY,i7];rfl⟩,lH⟩ fun h' tk aQ=> ?_))
  refine wpAny_bind (wpAny_rule ?_)
  exact wpAny_pure (h1 h' tk i7 fun b o q=>aQ b o (ne b o q).1 (sS b o q))
 |cons v0 r0=>
  refine wpAny_bind (wpAny_tryCatch (W.item 0 _ _ _ (by rw[bY,i7];exact Nat.succ_pos _) ⟨⟨_,gI,rfl,rfl⟩,lH⟩ fun v h' kB hP dN aQ=> ?_))
  have hv:v0=v:=by
   rw[i7]at hP
   simpa using hP
  subst hv
  have yx:=aQ _ _ (by simpa using jY) gS
  have mw:Kp s.heap h':=fun b o q=>aQ b o (ne b o q).1 (sS b o q)
  show wpAny _ A.in1 (updateSeq (s.heap.push {cls:=.type "list_iterator",data:=.fields #[.ref l,.int 0 0]}).objs.size (fun _=> #[v0,v0]) >>=_) _ _ _
  refine wpAny_bind ?_
  refine wpAny_updateSeq yx rfl ?_
  rw[mO]
  have fr:=W.frame (0+1) _ (h'.update (s.heap.push {cls:=.type "list_iterator",data:=.fields #[.ref l,.int 0 0]}).objs.size (Obj.mapSeq fun _=> #[v0,v0])) dN fun b mW o e=> (Heap.get?_update_other _ _ (fun h=>by
    simp only[List.mem_cons,List.not_mem_nil,or_false]at mW
    rcases mW with q |q
    ·exact jY (h.trans q)
    ·exact pQ (h.trans q))).trans e
  refine wpAny_pure ⟨plainId_quiet PySem.F.plain_min_loop _,HQ (lt:=lt) (vs:=vs) (h0:=s.heap) hh pH jY pQ zI zS uh _ 1 _ v0 _ rfl (by rw[i7];exact Nat.succ_le_succ (Nat.zero_le _)) fr.1 fr.2 (by rw[i7];exact List.mem_cons_self) (fun b o q=> (Heap.get?_update_other _ _ (Ne.symm (ne b o q).2)).trans (mw b o q)) (Heap.get?_update_self _ yx rfl) fun bU lT dG=> ?_⟩
  have z:=h2 v0 r0 bU lT i7 dG
  rw[i7]
  exact z
end
theorem JC {lt:Value→Value→Bool} :∀{r:List Value}{b:Value},gw lt b r∈b::r
 | [],b=>List.mem_cons_self
 |v::r,b=>by
  unfold gw
  rcases List.mem_cons.mp (JC (lt:=lt) (r:=r) (b:=if lt v b=true then v else b)) with h |h
  ·rw[h]
   by_cases e:lt v b=true
   ·rw[if_pos e];exact List.mem_cons_of_mem _ List.mem_cons_self
   ·rw[if_neg e];exact List.mem_cons_self
  ·exact List.mem_cons_of_mem _ (List.mem_cons_of_mem _ h)
theorem Wg (key:Value→List Int):∀{r:List Value}{b:Value},∀v∈b::r,ay (key v) (key (gw (fun a b=>ay (key a) (key b)) b r))=false
 | [],b,v,hv=>by
  rw[List.mem_singleton.mp hv]
  cases h:ay (key b) (key (gw (fun a b=>ay (key a) (key b)) b [])) with
  |false=>rfl
  |true=>
   have:=Yo _ _ h
   exact absurd (h.symm.trans this) (by decide)
 |w::r,b,v,hv=>by
  have ih:=fun v hv=>Wg key (r:=r) (b:=if ay (key w) (key b)=true then w else b) v hv
  show ay (key v) (key (gw (fun a b=>ay (key a) (key b)) (if ay (key w) (key b)=true then w else b) r))=false
  have hd:=ih _ List.mem_cons_self
  by_cases e:ay (key w) (key b)=true
  ·rw[if_pos e]at hd ih ⊢
   rcases List.mem_cons.mp hv with rfl |hv
   ·exact YE _ _ _ hd (Yo _ _ e)
   ·exact ih v hv
  ·rw[if_neg e]at hd ih ⊢
   rcases List.mem_cons.mp hv with rfl |hv
   ·exact hd
   ·rcases List.mem_cons.mp hv with rfl |hv
    ·exact YE _ _ _ hd (by simpa using e)
    ·exact ih v (List.mem_cons_of_mem _ hv)
end PyProof.Rows.fb
namespace L2
open PySem PySem.Spec PyProof.Rows PyProof.Rows.fb
theorem Wa:∀a b:List Int,HT.lexLt a b=ay a b
 | [],[]=>rfl
 | [],_::_=>rfl
 |_::_,[]=>rfl
 |x::a,y::b=>by
  unfold ay
  rw[HT.xg,Wa a b]
section
variable {X:Cx}
def AO (K:PySem.W.Frag) (te:TE):TE:=fun σ H Q=>te σ H fun v H1=> ∃(a:Addr) (vs:List V) (ks:List (List Int)),v=.ref a∧ag K H1 a vs∧Paired (cA H1) vs ks∧(vs=[]→Q .ab H1)∧
 ∀v k,v∈vs→k∈ks→cA H1 v k→(∀k'∈ks,ay k' k=false)→Q v H1
theorem IG {x:Str}{te:TE}{p px kp mv pos:Pos}(hc:X.calm=true) (hu:X.A.units+1<cLine) (hg:Gl X "min") (hm:X.mg "min" =none) (he:PE X (.Name x px) te)
  (cz:(backToKw pos (keywordEach [⟨some "default",.Constant .none 0 kp,mv⟩] X.env)).filterMap (·.1)=[Str.ofString "default"]:=by rfl):
  PE X (.Call (.Name "min" p) [.Name x px] [⟨some "default",.Constant .none 0 kp,mv⟩] pos) (AO X.K te):=by
 intro pins s σ H Q I h
 refine wpAny_Call_Name_kw (Z6 I hg hm PyProof.Rows.Boot.«min» ?_ (by decide) (by decide))
 have pa:PA X [.Name x px] (kD te kC):=Za he Zb
 have pk:PK X [⟨some "default",.Constant .none 0 kp,mv⟩] (kD (tC .ab) kC):=IJ W6 Hf
 refine PyProof.Rows.callWith_kw (au (pa pos pins s σ H (fun us H1=>match us with
  | [v]=> ∃(a:Addr) (vs:List V) (ks:List (List Int)),v=.ref a∧ag X.K H1 a vs∧Paired (cA H1) vs ks∧(vs=[]→Q .ab H1)∧∀v k,v∈vs→k∈ks→cA H1 v k→(∀k'∈ks,ay k' k=false)→Q v H1
  |_=>False) I h) fun us s1 ⟨Ak,H1,I1,r1,q1⟩=> ?_)
 match Ak,q1 with
 | [v],q1=>
  obtain⟨a,vs,ks,rfl,hq,pr,q1,q2⟩:=q1
  refine au (pk pos pins s1 σ H1 (fun zs H2=>zs=[.ab]∧H2=H1) I1 ⟨rfl,rfl⟩) fun ws s2 ⟨zs,H2,I2,rz,e1,e2⟩=> ?_
  subst e1 e2
  obtain⟨u,rfl,ru⟩:=vals1 r1
  obtain⟨z,rfl,BK⟩:=vals1 rz
  cases ru
  have ez:z=.none:=BK
  subst ez
  rw[cz]
  show wpAny _ _ (call (.builtin "min") [.ref a] [(Str.ofString "default",.none)]) _ _ _
  obtain⟨its,rv,pl,_⟩:=I2.list hq
  have key:∀{vs:List V}{ks:List (List Int)}{its:List Value},Paired (cA H2) vs ks→Vals vs its→∀u∈its,∃v∈vs,∃k∈ks,RelV v u∧cA H2 v k∧Lo s2.heap u k:=by
   intro vs ks its pr
   induction pr generalizing its with
   |nil=>intro rv;cases rv;intro u hu;cases hu
   |cons hh _ ih=>
    intro rv
    cases rv with
    |cons r1 r2=>
     intro u hu
     rcases List.mem_cons.mp hu with rfl |hu
     ·obtain⟨t,e,ht⟩:=id hh
      obtain⟨items,ri,⟨o,go,oc,n,od⟩,_⟩:=I2.tuple (af.of ht)
      refine⟨_,List.mem_cons_self,_,List.mem_cons_self,r1,hh,?_⟩
      subst e
      cases r1
      exact⟨t,o,_,n,rfl,go,oc,od,by simpa using Y4 ri⟩
     ·obtain⟨v,hv,k,hk,w⟩:=ih r2 u hu
      exact⟨v,List.mem_cons_of_mem _ hv,k,List.mem_cons_of_mem _ hk,w⟩
  have C7:∀{vs:List V}{ks:List (List Int)}{its:List Value},Paired (cA H2) vs ks→Vals vs its→∀k∈ks,∃u∈its,dS s2.heap u=k:=by
   intro vs ks its pr
   induction pr generalizing its with
   |nil=>intro rv k hk;cases hk
   |cons hh _ ih=>
    intro rv
    cases rv with
    |cons r1 r2=>
     intro k hk
     rcases List.mem_cons.mp hk with rfl |hk
     ·obtain⟨t,e,ht⟩:=id hh
      obtain⟨items,ri,⟨o,go,oc,n,od⟩,_⟩:=I2.tuple (af.of ht)
      refine⟨_,List.mem_cons_self,?_⟩
      subst e
      cases r1
      exact YG go od (by simpa using Y4 ri)
     ·obtain⟨u,hu,e⟩:=ih r2 k hk
      exact⟨u,List.mem_cons_of_mem _ hu,e⟩
  refine KH (lt:=fun u v=>ay (dS s2.heap u) (dS s2.heap v)) (I2.ok.hd hc) pl.isList (fun s' u v Q' E' kp Ds Dr dj=> ?_) (fun h' tk e kp=> ?_) (fun v0 r h' tk e kp=> ?_)
  ·obtain⟨_,_,ku,_,_,_,tu,ou,iu,nu,rfl,gu,cu,du,ju⟩:=key pr rv u Ds
   obtain⟨_,_,kv,_,_,_,tv,ov,iv,nv,rfl,gv,cv,dv,jv⟩:=key pr rv v Dr
   have e1:dS s2.heap (.ref tu)=ku:=YG gu du ju
   have e2:dS s2.heap (.ref tv)=kv:=YG gv dv jv
   try dsimp only at dj
   rw[e1,e2,←Wa]at dj
   exact HT.xc ⟨_,kp _ _ gu,cu,nu,du⟩ ⟨_,kp _ _ gv,cv,nv,dv⟩ ju jv hu dj
  ·subst e
   cases rv
   exact⟨.ab,H2,I2.kept kp,rfl,q1 rfl⟩
  ·have hm:=JC (lt:=fun u v=>ay (dS s2.heap u) (dS s2.heap v)) (r:=r) (b:=v0)
   have hle:=Wg (dS s2.heap) (r:=r) (b:=v0)
   generalize gw (fun u v=>ay (dS s2.heap u) (dS s2.heap v)) v0 r=m at hm hle
   rw[←e]at hm hle
   obtain⟨v,hv,k,hk,BM,tj,tu,ou,iu,nu,e3,gu,cu,du,ju⟩:=key pr rv m hm
   have e1:dS s2.heap m=k:=by rw[e3];exact YG gu du ju
   refine⟨v,H2,I2.kept kp,BM,q2 v k hv hk tj fun k' aQ=> ?_⟩
   obtain⟨u',iz,e4⟩:=C7 pr rv k' aQ
   have:=hle u' iz
   rw[e1,e4]at this
   exact this
end
end L2
namespace L2
open PySem PySem.Spec PyProof.Rows
def vi (K:PySem.W.Frag) (l1 l2:Addr):It:=
 ⟨fun i H=> ∃xs ys x y,ag K H l1 xs∧ag K H l2 ys∧xs[i]? =some x∧ys[i]? =some y,
  fun i H v H'=> ∃(T:Addr) (x y:V),v=.ref T∧H T=none∧H'=upd H T (.par [x,y])∧∀xs ys,ag K H l1 xs→ag K H l2 ys→xs[i]? =some x∧ys[i]? =some y,
  fun i H=> ∃xs ys,ag K H l1 xs∧ag K H l2 ys∧min xs.length ys.length=i⟩
theorem Lk {P:Program}{w:World}{K:PySem.W.Frag}{elts:List Expr}{kk:Nat}{pos:Pos}(z TI TO i1 i2 l1 l2:Addr) (D:ZipApart z TI TO i1 i2 l1 l2):
  Turn P w K (.Tuple elts kk pos) (vi K l1 l2) [z,TI,TO,i1,i2] z (fun i h=>IsZip h z TI TO .none∧IsPair h TI (.ref i1) (.ref i2)∧(∃a b,IsPair h TO a b)∧h.IsListIter i1 l1 i∧h.IsListIter i2 l2 i) where
 mem:=by simp
 obj:=fun i h st b hb=>by
  obtain⟨a1,a2,⟨u,v,a3⟩,⟨o4,h4,_,d4⟩,⟨o5,h5,_,d5⟩⟩:=st
  simp only[List.mem_cons,List.not_mem_nil,or_false]at hb
  rcases hb with rfl |rfl |rfl |rfl |rfl
  ·exact⟨_,a1,fun v z=>by cases z⟩
  ·exact⟨_,a2,fun v z=>by cases z⟩
  ·exact⟨_,a3,fun v z=>by cases z⟩
  ·exact⟨_,h4,fun v z=>by rw[d4]at z;cases z⟩
  ·exact⟨_,h5,fun v z=>by rw[d5]at z;cases z⟩
 keep:=fun i h h' st k=>by
  obtain⟨a1,a2,⟨u,v,a3⟩,a4,a5⟩:=st
  exact⟨k z (by simp) _ a1,k TI (by simp) _ a2,⟨u,v,k TO (by simp) _ a3⟩,a4.at fun o q=>k i1 (by simp) o q,a5.at fun o q=>k i2 (by simp) o q⟩
 item:=by
  intro X hP hw hK hc i pins s σ H E I hf st hg
  subst hP hw hK
  obtain⟨xs,ys,x,y,dW,bD,hx,hy⟩:=hg
  obtain⟨dC,gK,de,bC⟩:=I.list dW
  obtain⟨dU,dR,cE,aJ⟩:=I.list bD
  obtain⟨u,hu,ru⟩:=gK.get hx
  obtain⟨v,hv,rv⟩:=dR.get hy
  have jS:i<min dC.toArray.size dU.toArray.size:=by
   have e1:=(List.getElem?_eq_some_iff.mp hu).1
   have e2:=(List.getElem?_eq_some_iff.mp hv).1
   simp only[List.size_toArray]
   omega
  have W:=WalksT.zip2 (prog:=X.prog) (w:=X.w) (A:=X.A) (I.ok.hd hc) z TI TO i1 i2 l1 l2 D dC.toArray dU.toArray
  obtain⟨a1,a2,a3,a4,a5⟩:=st
  refine W.item i s _ _ jS ⟨a1,a2,a3,a4,a5,de.isList,cE.isList⟩ fun T vals h' tk hP dP jW gb hk=> ⟨_,rfl,W.go elts kk pos i T _ _ _ gb fun bU cM dG=> ?_⟩
  obtain⟨x2,y2,iw,aW,rfl⟩:=hP
  have i6:dC[i]? =some x2:=by simpa using iw
  have xq:dU[i]? =some y2:=by simpa using aW
  rw[hu]at i6
  rw[hv]at xq
  cases i6
  cases xq
  have gp:H T=none:=I.aj.fresh dP
  have both:∀b o,b∉[z,TO,i1,i2]→s.heap.get? b=some o→bU.get? b=some o:=fun b o hb q=>dG b o hb (hk b o hb q)
  have sub:∀b,b∉[z,TI,TO,i1,i2]→b∉[z,TO,i1,i2]:=fun b hb hm=>hb (by
   simp only[List.mem_cons,List.not_mem_nil,or_false]at hm ⊢
   rcases hm with h |h |h |h
   ·exact .inl h
   ·exact .inr (.inr (.inl h))
   ·exact .inr (.inr (.inr (.inl h)))
   ·exact .inr (.inr (.inr (.inr h))))
  have iE:T∉[z,TO,i1,i2]:=W.apart _ _ _ gb
  have jX:bU.IsTuple T #[u,v]:=jW.at fun o q=>dG T o iE q
  have neT:∀b o,s.heap.get? b=some o→b≠T:=fun b o q=>Nat.ne_of_lt (Nat.lt_of_lt_of_le (Heap.lt_size q) dP)
  have cc:∀b o,H b=some o→b≠T:=fun b o q=>Zi q gp
  have bI:∀b o,H b=some o→b∉[z,TI,TO,i1,i2]:=fun b o q hm=>by
   have:=(hf b hm).1
   rw[this]at q;cases q
  refine⟨.ref T,upd H T (.par [x,y]),?_,rfl,⟨T,x,y,rfl,gp,rfl,fun as bs ha hb=>by rw[I.oV ha dW,I.oV hb bD];exact⟨hx,hy⟩⟩,⟨cM.1,cM.2.1,cM.2.2.1,cM.2.2.2.1,cM.2.2.2.2.1⟩,fun b hb=> ?_⟩
  ·refine(show Inv X pins σ (upd H T (.par [x,y])) {s with heap:=bU,toks:=tk} from ?_)
   refine I.call (g':=s.gens) (d':=s.drawn) (t':=tk) (h':=bU) (ch:=[z,TI,TO,i1,i2]) ⟨fun b o q _ _ hx=>both b o (sub b hx) q,fun b o q _ _ hx=> ⟨o.slots,both b o (sub b hx) q⟩,fun b o q n hx=>by rw[Zh (neT b o q)];exact n,fun b o q hx=> ⟨o,both b o (sub b hx) q⟩,
    fun b ys q=>by rw[Zh (cc b _ q)];exact q,fun b o u q=>by rw[Zh (cc b _ q)];exact q,fun b ps q=> ⟨#[],by rw[Zh (cc b _ q),q];simp⟩⟩ (fun b o q=> ?_) I.bare fun b hb=> ?_
   ·by_cases hb:b=T
    ·subst hb
     rw[Zd]at q
     cases q
     exact⟨by show 2≤sizeLine;decide,[u,v],.cons ru (.cons rv .nil),jX⟩
    ·rw[Zh hb]at q
     refine(I.aj b o q).bL (fun c ob bF q'=>both c ob ?_ q') (fun c q'=>by rw[Zh (cc c _ q')];exact q') fun c ys q'=>by rw[Zh (cc c _ q')];exact q'
     rcases bF with z' |z'
     ·rw[z'];exact sub _ (bI b o q)
     ·exact sub _ (bI c _ z')
   ·obtain⟨f0,f1,f2,f3,f4,f5⟩:=hf b hb
    exact⟨f3,f1,f4,f5⟩
  ·have cw:b≠T:=by
    obtain⟨f0,_⟩:=hf b hb
    have:∃o,s.heap.get? b=some o:=by
     obtain⟨u',v',uV⟩:=a3
     obtain⟨o4,h4,_⟩:=a4
     obtain⟨o5,h5,_⟩:=a5
     simp only[List.mem_cons,List.not_mem_nil,or_false]at hb
     rcases hb with rfl |rfl |rfl |rfl |rfl
     ·exact⟨_,a1⟩
     ·exact⟨_,a2⟩
     ·exact⟨_,uV⟩
     ·exact⟨_,h4⟩
     ·exact⟨_,h5⟩
    obtain⟨o,ho⟩:=this
    exact neT b o ho
   rw[Zh cw]
   exact(hf b hb).1
 done:=by
  intro X hP hw hK hc i pins s σ H E I hf st hg
  subst hP hw hK
  obtain⟨xs,ys,dW,bD,hx⟩:=hg
  obtain⟨dC,gK,de,bC⟩:=I.list dW
  obtain⟨dU,dR,cE,aJ⟩:=I.list bD
  have e1:=gK.length
  have e2:=dR.length
  have W:=WalksT.zip2 (prog:=X.prog) (w:=X.w) (A:=X.A) (I.ok.hd hc) z TI TO i1 i2 l1 l2 D dC.toArray dU.toArray
  have hn:i=min dC.toArray.size dU.toArray.size:=by simp only[List.size_toArray];omega
  obtain⟨a1,a2,a3,a4,a5⟩:=st
  rw[hn]at a4 a5
  have sub:∀b,b∉[z,TI,TO,i1,i2]→b∉[z,TO,i1,i2]:=fun b hb hm=>hb (by
   simp only[List.mem_cons,List.not_mem_nil,or_false]at hm ⊢
   rcases hm with h |h |h |h
   ·exact .inl h
   ·exact .inr (.inr (.inl h))
   ·exact .inr (.inr (.inr (.inl h)))
   ·exact .inr (.inr (.inr (.inr h))))
  refine W.done s _ _ ⟨a1,a2,a3,a4,a5,de.isList,cE.isList⟩ fun h' tk hk=> ⟨rfl,?_⟩
  have bI:∀b o,H b=some o→b∉[z,TI,TO,i1,i2]:=fun b o q hm=>by
   have:=(hf b hm).1
   rw[this]at q;cases q
  refine I.call (g':=s.gens) (d':=s.drawn) (t':=tk) (h':=h') (ch:=[z,TI,TO,i1,i2]) ⟨fun b o q _ _ hx=>hk b o (sub b hx) q,fun b o q _ _ hx=> ⟨o.slots,hk b o (sub b hx) q⟩,fun b o q n hx=>n,fun b o q hx=> ⟨o,hk b o (sub b hx) q⟩,fun b ys q=>q,fun b o u q=>q,fun b ps q=> ⟨#[],by rw[q];simp⟩⟩ (fun b o q=> ?_) I.bare fun b hb=> ?_
  ·refine(I.aj b o q).bL (fun c ob bF q'=>hk c ob ?_ q') (fun _ q'=>q') fun _ _ q'=>q'
   rcases bF with z' |z'
   ·rw[z'];exact sub _ (bI b o q)
   ·exact sub _ (bI c _ z')
  ·obtain⟨f0,f1,f2,f3,f4,f5⟩:=hf b hb
   exact⟨f3,f1,f4,f5⟩
 self:=fun A i s Q E st h=>wpAny_pyIter_zip st.1 h
section
variable {X:Cx}{elts:List Expr}{kk:Nat}{tp:Pos}
def Df (K:PySem.W.Frag) (ta:TA):TI:=fun σ H R=>ta σ H fun vs H1=> ∃l1 l2,vs=[.ref l1,.ref l2]∧(∃xs ys,ag K H1 l1 xs∧ag K H1 l2 ys)∧R (vi K l1 l2) H1
theorem IH {a b:Expr}{ta:TA}{p pos:Pos}(hg:Gl X "zip") (hm:X.mg "zip" =none) (ha:PA X [a,b] ta) (hs:starEach [a,b] X.env=[(false,eval a X.env),(false,eval b X.env)]:=by rfl) (fW:starEach [b] X.env=[(false,eval b X.env)]:=by rfl):
  PI X (.Tuple elts kk tp) (.Call (.Name "zip" p) [a,b] [] pos) (Df X.K ta):=by
 intro pins s σ H R I h
 refine Call_ (Z6 I hg hm PyProof.Rows.Boot.«zip» (PyProof.Rows.callWith_type1 (au (ha pos pins s σ H _ I h) fun us s1 ⟨vs,H1,I1,r1,q1⟩=> ?_) (by rw[hs,fW]) (by rw[fW];rfl)))
 obtain⟨l1,l2,e,⟨xs,ys,dW,bD⟩,q⟩:=q1
 subst e
 obtain⟨u,v,rfl,ru,rv⟩:=vals2 r1
 cases ru
 cases rv
 obtain⟨dC,gK,de,bC⟩:=I1.list dW
 obtain⟨dU,dR,cE,aJ⟩:=I1.list bD
 have t1:l1<s1.heap.objs.size:=by obtain⟨o,ho,_⟩:=de.isList;exact Heap.lt_size ho
 have t2:l2<s1.heap.objs.size:=by obtain⟨o,ho,_⟩:=cE.isList;exact Heap.lt_size ho
 have D:=Ww s1.heap.objs.size l1 l2 t1 t2
 refine call_zip_2 de.isList cE.isList fun h' b1 b2 b3 b4 b5 b6 hk=>wpAny_pyIter_zip b1 ?_
 have I2:Inv X pins σ H1 {s1 with heap:=h'} :=I1.kept (t':=s1.toks) hk
 refine⟨s1.heap.objs.size+4,[s1.heap.objs.size+4,s1.heap.objs.size+2,s1.heap.objs.size+3,s1.heap.objs.size,s1.heap.objs.size+1],_,_,H1,rfl,I2,
  Lk _ _ _ _ _ l1 l2 D,⟨b1,b2,⟨_,_,b3⟩,b4,b5⟩,fun b hb=> ?_,q⟩
 have gn:s1.heap.objs.size≤b:=by
  simp only[List.mem_cons,List.not_mem_nil,or_false]at hb
  rcases hb with z |z |z |z |z<;>rw[z]<;>first |exact Nat.le_refl _ |exact Nat.le_add_right _ _
 exact I1.jf gn (I1.aj.fresh gn)
end
theorem I9 {K:PySem.W.Frag}{l1 l2:Addr}{xs zs:List V}{g:TG}{tt:TT}{ti:TC}{ys:List V}{σ:St}{H:Hp}{Q:List V→St→Hp→Prop}(Pv:Nat→List V→St→Hp→Prop) (h0:Pv 0 ys σ H)
  (hl:∀i ys σ H,i≤min xs.length zs.length→Pv i ys σ H→ag K H l1 xs∧ag K H l2 zs)
  (hs:∀i x y T ys σ H,xs[i]? =some x→zs[i]? =some y→H T=none→Pv i ys σ H→g (.ref T) σ (upd H T (.par [x,y])) fun aU H2=>tt aU H2 fun b H3=>if b=true then ti ys aU H3 (Pv (i+1)) else Pv (i+1) ys aU H3)
  (hd:∀ys σ H,Pv (min xs.length zs.length) ys σ H→Q ys σ H):gH g tt ti (vi K l1 l2) ys σ H Q:=by
 refine⟨fun i m ys σ H=>m=min xs.length zs.length - i∧i≤min xs.length zs.length∧Pv i ys σ H,⟨min xs.length zs.length,by simp,Nat.zero_le _,h0⟩,?_⟩
 rintro i m ys σ H ⟨rfl,hi,p⟩
 obtain⟨q1,q2⟩:=hl i ys σ H hi p
 by_cases ak:i<min xs.length zs.length
 ·have h1:i<xs.length:=by omega
  have h2:i<zs.length:=by omega
  refine .inr ⟨⟨xs,zs,xs[i],zs[i],q1,q2,by simp[h1],by simp[h2]⟩,Pv (i+1),fun bN ah H' p'=> ⟨min xs.length zs.length - (i+1),by omega,rfl,ak,p'⟩,fun x H' y=> ?_⟩
  obtain⟨T,a,b,e1,e2,e3,e4⟩:=y
  subst e1 e3
  obtain⟨f1,f2⟩:=e4 xs zs q1 q2
  exact hs i a b T ys σ H f1 f2 e2 p
 ·have e:i=min xs.length zs.length:=by omega
  subst e
  exact .inl ⟨⟨xs,zs,q1,q2,rfl⟩,hd ys σ H p⟩
mutual
inductive Sh (H:Hp):V→PyData→Prop
 |ab:Sh H .ab .none
 |bl (b:Bool):Sh H (.bl b) (.bool b)
 |int (i:Int):Sh H (.int i) (.int i)
 |str (x:Str):Sh H (.str x) (.str x)
 |tup {a:Addr}{xs:List V}{ds:List PyData} :H a=some (.tup xs)→lE H xs ds→Sh H (.ref a) (.tuple ds)
 |lst {a:Addr}{xs:List V}{ds:List PyData} :H a=some (.lst xs)→lE H xs ds→Sh H (.ref a) (.list ds)
 |lC {a:Addr} :H a=some (.dK [])→Sh H (.ref a) (.dict [])
inductive lE (H:Hp):List V→List PyData→Prop
 |nil:lE H [] []
 |cons {v:V}{vs:List V}{d:PyData}{ds:List PyData} :Sh H v d→lE H vs ds→lE H (v::vs) (d::ds)
end
section
variable {X:Cx}{pins:List (Addr×Obj)}{σ:St}{H:Hp}{s:Shared}
mutual
theorem Kt (I:Inv X pins σ H s):∀{v:V}{d:PyData}{u:Value},Sh H v d→RelV v u→∃as,Reads s.heap u d as∧((∃a,v=.ref a∧H a=some (.dK []))→sysModules∉as)
 |_,_,u,.ab,r=>by
  have e:u=.none:=r
  subst e
  exact⟨[],.none,fun _ h=>nomatch h⟩
 |_,_,u,.bl b,r=>by
  have e:u=.bool b:=r
  subst e
  exact⟨[],.bool b,fun _ h=>nomatch h⟩
 |_,_,u,.int i,r=>by
  obtain⟨t,rfl⟩:=r
  exact⟨[],.int i t,fun _ h=>nomatch h⟩
 |_,_,u,.str x,r=>by
  obtain⟨t,rfl⟩:=r
  exact⟨[],.str x t,fun _ h=>nomatch h⟩
 |_,_,u,.tup (a:=a) h rs,r=>by
  have e:u=.ref a:=r
  subst e
  obtain⟨its,rv,⟨o,ho,hc,n,hd⟩,_⟩:=I.tuple (af.of h)
  obtain⟨as,q⟩:=sx I rs rv
  exact⟨as,.tuple ho hc hd (by simpa using q),fun⟨b,e,hb⟩=>by cases e;rw[h]at hb;cases hb⟩
 |_,_,u,.lst (a:=a) h rs,r=>by
  have e:u=.ref a:=r
  subst e
  obtain⟨_,its,n,rv,ho⟩:=(show bV X.prog X.w H s.heap a (.lst _) from I.aj a _ h)
  obtain⟨as,q⟩:=sx I rs rv
  exact⟨a::as,.list ho rfl rfl (by simpa using q),fun⟨b,e,hb⟩=>by cases e;rw[h]at hb;cases hb⟩
 |_,_,u,.lC (a:=a) h,r=>by
  have e:u=.ref a:=r
  subst e
  obtain⟨_,hs,vs,kv,hm⟩:=(show bV X.prog X.w H s.heap a (.dK []) from I.aj a _ h)
  cases kv
  obtain⟨o,es,ep,ho,hc,hd,hk,hp,hn⟩:=hm
  have hz:es.toList=[]:=by
   have:=hp.length
   simp at this
   simpa using this
  refine⟨a::[]++[],.dict (kvs:=[]) ho hc.1 hd (by rw[hz];exact .nil) (by rw[hz];exact .nil),fun _ hm=> ?_⟩
  simp only[List.append_nil,List.mem_singleton]at hm
  rw[hm]at hs
  simp at hs
theorem sx (I:Inv X pins σ H s):∀{vs:List V}{ds:List PyData}{us:List Value},lE H vs ds→Vals vs us→∃as,ReadsAll s.heap us ds as
 |_,_,_,.nil,.nil=> ⟨[],.nil⟩
 |_,_,_,.cons h t,.cons r rs=>by
  obtain⟨as,q,_⟩:=Kt I h r
  obtain⟨bs,qs⟩:=sx I t rs
  exact⟨as++bs,.cons q qs⟩
end
end
end L2
namespace L2
open PySem PySem.Spec PyProof.Rows
end L2
namespace L2
open PySem PySem.Spec PyProof.Rows SeqAt
section
variable {X:Cx}
theorem ID:aY X (compareOp .IsNot) (fun x y H Q=> ∃a b:Bool,x=.bl a∧y=.bl b∧Q (.bl (!(a==b))) H):=by
 intro pins s σ H x y u v Q I rx ry h
 obtain⟨a,b,rfl,rfl,q⟩:=h
 cases rx
 cases ry
 refine wpAny_isNot_plain rfl ⟨.bl _,H,I,?_,q⟩
 show Value.bool (!(Value.bool a==Value.bool b))=Value.bool (!(a==b))
 cases a<;>cases b<;>rfl
def jD:V→Bool
 | .ab=>true
 | .int _=>true
 |_=>false
theorem F6 {A:Around}{s:Shared}{x y:V}{u v:Value}(hx:jD x=true) (hy:jD y=true) (ru:RelV x u) (rv:RelV y v):EqAt A s u v (decide (x=y)):=by
 cases x with
 |ab=>
  cases ru
  cases y with
  |ab=>cases rv;exact EqAt.same _
  |int j=>obtain⟨t,rfl⟩:=rv;exact EqAt.none_int j t
  |_=>cases hy
 |int i=>
  obtain⟨t,rfl⟩:=ru
  cases y with
  |ab=>cases rv;exact EqAt.int_none i t
  |int j=>
   obtain⟨t',rfl⟩:=rv
   rw[Uj]
   exact EqAt.int_int i t j t'
  |_=>cases hy
 |_=>cases hx
theorem G0 {A:Around}{s:Shared}{xs ys:List V}{us vs:List Value}(hx:xs.all jD=true) (hy:ys.all jD=true) (r1:Vals xs us) (r2:Vals ys vs):
  ∀j (h1:j<us.toArray.size) (h2:j<vs.toArray.size),EqAt A s us.toArray[j] vs.toArray[j] (decide (xs.getD j .ab=ys.getD j .ab)):=fun j h1 h2=>by
 have l1:=r1.length
 have l2:=r2.length
 have k1:j<xs.length:=by simp at h1;omega
 have k2:j<ys.length:=by simp at h2;omega
 obtain⟨u,hu,ru⟩:=r1.get (List.getElem?_eq_getElem k1)
 obtain⟨v,hv,rv⟩:=r2.get (List.getElem?_eq_getElem k2)
 have e1:us.toArray[j]=u:=by simpa using (List.getElem?_eq_some_iff.mp hu).2
 have e2:vs.toArray[j]=v:=by simpa using (List.getElem?_eq_some_iff.mp hv).2
 rw[e1,e2,List.getD_eq_getElem?_getD,List.getD_eq_getElem?_getD,List.getElem?_eq_getElem k1,List.getElem?_eq_getElem k2]
 exact F6 (List.all_eq_true.mp hx _ (List.getElem_mem k1)) (List.all_eq_true.mp hy _ (List.getElem_mem k2)) ru rv
theorem F7 {xs ys:List V}{us vs:List Value}(r1:Vals xs us) (r2:Vals ys vs):((List.range (min us.toArray.size vs.toArray.size)).all (fun j=>decide (xs.getD j .ab=ys.getD j .ab))&&us.toArray.size==vs.toArray.size)=decide (xs=ys):=by
 have l1:=r1.length
 have l2:=r2.length
 rw[Bool.eq_iff_iff,Bool.and_eq_true,List.all_eq_true,decide_eq_true_eq,beq_iff_eq,List.size_toArray,List.size_toArray]
 constructor
 ·rintro⟨h,hl⟩
  refine List.ext_getElem (by omega) fun i h1 h2=> ?_
  have:=h i (by rw[List.mem_range];omega)
  simpa[h1,h2] using this
 ·rintro rfl
  exact⟨fun j _=>by simp,by omega⟩
def BO (K:PySem.W.Frag) (r:Bool):R2:=fun x y H Q=> ∃(a b:Addr) (xs ys:List V),x=.ref a∧y=.ref b∧H a=some (.tup xs)∧H b=some (.tup ys)∧xs.all jD=true∧ys.all jD=true∧Q (.bl (xor r (decide (xs=ys)))) H
theorem Ua (hu:X.A.units<cLine):aY X (compareOp .NotEq) (BO X.K true):=by
 intro pins s σ H x y u v Q I rx ry h
 obtain⟨a,b,xs,ys,rfl,rfl,ha,hb,hx,hy,q⟩:=h
 cases rx
 cases ry
 obtain⟨us,r1,p1,_⟩:=I.tuple (af.of ha)
 obtain⟨vs,r2,p2,_⟩:=I.tuple (af.of hb)
 refine RcNeAt.tuples p1 p2 hu (G0 hx hy r1 r2) _ _ _ _ ?_
 rw[F7 r1 r2]
 exact⟨.bl _,H,I,rfl,by rw[Bool.true_xor]at q;exact q⟩
end
end L2
namespace U
open PySem L2 PyProof.Rows
def eD (K:PySem.W.Frag) (H:Hp) (a:Addr) (ns:List Int):Prop:=(∃o,H a=some (.cQ o (.lst (ns.map V.int))))∨∃(o:Obj) (its:Array Value) (n:Nat),K.lookup a=some o∧o.cls=.type "list" ∧o.dict=none∧o.data=.seq its n∧its.size≤sizeLine∧Vals (ns.map V.int) its.toList
theorem eD.sq {K:PySem.W.Frag}{H:Hp}{a:Addr}{ns:List Int}(h:eD K H a ns):ag K H a (ns.map V.int):=by
 rcases h with ⟨o,h⟩ |h
 ·exact .inl (.inr ⟨o,h⟩)
 ·exact .inr h
theorem eD.same {K:PySem.W.Frag}{H H':Hp}{a:Addr}{ns:List Int}(h:eD K H a ns) (s:ae H H'):eD K H' a ns:=by
 rcases h with ⟨o,h⟩ |h
 ·exact .inl ⟨o,s _ _ h⟩
 ·exact .inr h
theorem eD.x {K:PySem.W.Frag}{H H':Hp}{a p:Addr}{ns:List Int}{o:HO}(h:eD K H a ns) (s:bz p H H') (hp:H p=some o) (hn:∀ob u,o≠.cQ ob u):eD K H' a ns:=by
 rcases h with ⟨ob,h⟩ |h
 ·exact .inl ⟨ob,s _ _ h fun z=>by rw[z,hp]at h;cases h;exact hn _ _ rfl⟩
 ·exact .inr h
end U
namespace U
open PySem L2 PyProof.Rows PySem.Spec
def lL (mg:Str→Option Value) (h:Heap):Prop:=∃bm ob,mg "__builtins__" =some (.ref bm)∧bm≠builtinsNs∧h.get? bm=some ob∧ob.cls=.type "module" ∧ob.dict=some builtinsNs∧ob.data=.plain
theorem K5 {P:Program}{w:World}{K:PySem.W.Frag}{mg mb:Str→Option Value}{k:Nat}{fa a:Addr}{Pts:List Addr}{fd:FuncData}{x:Str}{sp:Sp}{aA:Shared}{vs:List Value}{ns:List Int}
  (KX:K.In aA.heap) (tO:aA.heap.Ns mainGlobals mg) (hb:aA.heap.Ns builtinsNs mb) (Ex:∀x:Str,x≠ "__name__" →mb x=bootBuiltins x) (D9:aA.heap.NoLimit) (hg:aA.gens= #[])
  (ha:aA.heap.get? a=some {cls:=.type "list",data:=.seq vs.toArray}) (hi:IntsAre vs ns) (hl:ns.length≤sizeLine) (hr:cK k callerA)
  (dP:∀Pt∈Pts,aA.heap.get? Pt=some (PySem.W.tabObj #[])) (EL:∀Pt∈Pts,∃c,PySem.W.CodeHd aA.heap c Pt) (EI:∀Pt∈Pts,K.lookup Pt=none) (Eu:lL mg aA.heap)
  (F:∀base:Heap,K.In base→base.Ns mainGlobals mg→lL mg base→aG P w K mg base aH k fa fd [x] sp) (Ew:∀(s:Shared) (u:Value),BindsTo s fd ⟨[u],[]⟩ [(x,u)])
  (i8:∀H:Hp,eD K H a ns→(∀Pt∈Pts,H Pt=some (.fh #[]))→sp [.ref a] H (fun v _=>v=.bl true) fun _ _ _=>False):
  codeAny (model P w) callerA (.call (.ref fa) ⟨[.ref a],[]⟩) (fun r s'=>r=.ok (.ret (.bool true))∧OldK aA.heap s'.heap∧s'.os=aA.os∧AllBare s'.gens) aA:=by
 have rv:=Wy hi
 have C2:=hi.length
 have m6:∀{Pt:Addr},Pt∈Pts→aA.heap.get? Pt=some {cls:=.none,data:=.fields #[]} :=fun h=>dP _ h
 have ym:a∉Pts:=fun z=>by have h:=m6 z;rw[ha]at h;cases h
 have core:∀H:Hp,(∀b,b∉Pts→H b=none∨∃o xs,H b=some (.cQ o (.lst xs)))→eD K H a ns→(∀Pt∈Pts,H Pt=some (.fh #[]))→bW P w H aA.heap→(∀b,H b≠none→b=a∨b∈Pts)→(H a≠none→K.lookup a=none)→
   codeAny (model P w) callerA (.call (.ref fa) ⟨[.ref a],[]⟩) (fun r s'=>r=.ok (.ret (.bool true))∧OldK aA.heap s'.heap∧s'.os=aA.os∧AllBare s'.gens) aA:=by
  intro H hO hS hP aj hA hK
  have uR:∀{b:Addr}{o:Obj},aA.heap.get? b=some o→H b=none→(gQ aA.heap H).get? b=some o:=fun e n=>HE e n
  have kP:∀{b:Addr}{o:Obj},aA.heap.get? b=some o→(∀vs n,o.data≠.seq vs n)→(∀ps,o.data≠.fields ps)→H b=none:=fun {b o} e d1 d2=>by
   cases q:H b with
   |none=>rfl
   |some u=>
    rcases hA b (by rw[q];simp) with e' |e'
    ·subst e'
     rw[ha]at e;cases e
     exact absurd rfl (d1 _ _)
    ·rw[m6 e']at e;cases e
     exact absurd rfl (d2 _)
  have oP:∀{b:Addr}{m:Str→Option Value},aA.heap.Ns b m→(gQ aA.heap H).Ns b m:=fun {b m} ⟨o,es,ep,e,d,r⟩=> ⟨o,es,ep,uR e (kP e (fun _ _ z=>by rw[d]at z;cases z) fun _ z=>by rw[d]at z;cases z),d,r⟩
  have yp:K.In (gQ aA.heap H):=fun b o e=>uR (KX b o e) (by
   cases q:H b with
   |none=>rfl
   |some u=>
    rcases hA b (by rw[q];simp) with e' |e'
    ·subst e'
     rw[hK (by rw[q];simp)]at e;cases e
    ·rw[EI _ e']at e;cases e)
  have hM:Mod K mg (gQ aA.heap H):=⟨yp,oP tO,⟨mb,oP hb,Ex⟩,let ⟨mc,h1,h2⟩:=D9;⟨mc,oP h1,h2⟩⟩
  have Et:lL mg (gQ aA.heap H):=let ⟨bm,ob,b1,b2,b3,b4,b5,b6⟩:=Eu;⟨bm,ob,b1,b2,uR b3 (kP b3 (fun _ _ z=>by rw[b6]at z;cases z) fun _ z=>by rw[b6]at z;cases z),b4,b5,b6⟩
  have e0:qj P w K mg (gQ aA.heap H) callerA [] aA H:=⟨rfl,hM,fun b o e=>GV e,Nat.le_of_eq (IM _ _),trivial,fun b hb=>absurd (show b∈([]:List Addr) from hb) (by simp),aj,.of_eq hg⟩
  refine codeAny_mono ((F _ yp (oP tO) Et).run callerA [] aA H ⟨[.ref a],[]⟩ [.ref a] [.ref a] _ _ hr e0 (Ew aA (.ref a)) (.cons rfl .nil) (i8 H hS hP)) fun r s' h=> ?_
  cases r with
  |error e=>exact False.elim h
  |ok fl=>
   cases fl with
   |next=>exact False.elim h
   |brk=>exact False.elim h
   |cont=>exact False.elim h
   |ret u=>
    obtain⟨v,H',os,bare,un,xI,r',q⟩:=h
    have q':v=.bl true:=q
    subst q'
    obtain rfl:u=Value.bool true:=r'
    have old:∀b o,aA.heap.get? b=some o→asItWas aA.heap s'.heap b o:=fun b o e=>by
     cases q:H b with
     |none=>exact .inl (un.keep b o e q (by intro z;exact absurd (show b∈([]:List Addr) from z) (by simp)) (by simp))
     |some u=>
      by_cases mY:b∈Pts
      ·obtain⟨more,z⟩:=un.gG b _ (hP b mY)
       have e2:s'.heap.get? b=some {cls:=.none,data:=.fields (#[]++more)} :=xI b _ z
       rw[m6 mY]at e
       cases e
       obtain⟨c,hC⟩:=EL b mY
       exact .inr (.inl ⟨(hC.tab (dP b mY)).isCodeTable,rfl, #[],more,rfl,e2⟩)
      ·rcases hO b mY with z |⟨ob,xs,z⟩
       ·rw[q]at z;cases z
       ·have z2:=un.gZ b ob _ z
        obtain⟨e1,_⟩:=aj b _ z
        obtain⟨e2,_⟩:=xI b _ z2
        rw[e]at e1;cases e1
        exact .inl e2
    exact⟨rfl,⟨old,fun b o e=>un.there b o e (by simp)⟩,os,bare⟩
 cases hk:K.lookup a with
 |some o=>
  have e:=KX a o hk
  rw[ha]at e
  cases e
  refine core (fun b=>if b∈Pts then some (.fh #[]) else none) (fun b n=> .inl (if_neg n)) (.inr ⟨_,vs.toArray,_,hk,rfl,rfl,rfl,by rw[List.size_toArray,C2];exact hl,by simpa using rv⟩) (fun Pt h=>if_pos h) (fun b u z=> ?_) (fun b z=> ?_) fun z=>absurd (if_neg ym) z
  ·by_cases hb:b∈Pts
   ·have z':=(if_pos hb).symm.trans z
    cases z'
    exact m6 hb
   ·have z':=(if_neg hb).symm.trans z
    cases z'
  ·by_cases hb:b∈Pts
   ·exact .inr hb
   ·exact absurd (if_neg hb) z
 |none=>
  refine core (fun b=>if b∈Pts then some (.fh #[]) else if b=a then some (.cQ {cls:=.type "list",data:=.seq vs.toArray} (.lst (ns.map V.int))) else none) (fun b n=> ?_) (.inl ⟨{cls:=.type "list",data:=.seq vs.toArray},(if_neg ym).trans (if_pos rfl)⟩) (fun Pt h=>if_pos h) (fun b u z=> ?_) (fun b z=> ?_) fun _=>hk
  ·by_cases hb:b=a
   ·exact .inr ⟨_,_,(if_neg n).trans (if_pos hb)⟩
   ·exact .inl ((if_neg n).trans (if_neg hb))
  ·by_cases hP:b∈Pts
   ·have z':=(if_pos hP).symm.trans z
    cases z'
    exact m6 hP
   ·by_cases hb:b=a
    ·have z':=((if_neg hP).trans (if_pos hb)).symm.trans z
     cases z'
     subst hb
     exact⟨ha,by rw[List.length_map];exact hl,vs,_,rv,ha⟩
    ·have z':=((if_neg hP).trans (if_neg hb)).symm.trans z
     cases z'
  ·by_cases hP:b∈Pts
   ·exact .inr hP
   ·by_cases hb:b=a
    ·exact .inl hb
    ·exact absurd ((if_neg hP).trans (if_neg hb)) z
theorem Ai {l:PySem.W.OpenLaw}{n k:Nat}{q:Program}{loose:List Str}{XP:(Str→Option Value)→Heap→Prop}{YP:World→Heap→Prop}{d:DefRec}{K:Params→PySem.W.Frag}{sp:PySem.W.Frag→Sp}{x:Str}{Pts:List Addr}
    (hn:l.most=some n) (pE:n≤sizeLine) (uf:d.params.defaults=[]) (hr:cK k callerA)
    (hY:∀(w:World) (h:Heap),YP w h→(K w.params).In h) (EB:∀(w:World) (h:Heap),YP w h→∀Pt∈Pts,h.get? Pt=some (PySem.W.tabObj #[]))
    (hC:∀(w:World) (h:Heap),(K w.params).In h→∀Pt∈Pts,∃c,PySem.W.CodeHd h c Pt) (EJ:∀w:World,∀Pt∈Pts,(K w.params).lookup Pt=none)
    (F:∀(w:World) (mg:Str→Option Value) (fa:Addr) (h:Heap),(K w.params).In h→h.Ns mainGlobals mg→mg d.name=some (.ref fa)→
      ∃fd:FuncData,(∀(s:Shared) (u:Value),BindsTo s fd ⟨[u],[]⟩ [(x,u)])∧
       ∀base:Heap,(K w.params).In base→base.Ns mainGlobals mg→lL mg base→aG l.prog w (K w.params) mg base aH k fa fd [x] (sp (K w.params)))
    (i8:∀(K:PySem.W.Frag) (H:Hp) (a:Addr) (ns:List Int),ns.length≤n→eD K H a ns→(∀Pt∈Pts,H Pt=some (.fh #[]))→sp K [.ref a] H (fun v _=>v=.bl true) fun _ _ _=>False):
    PySem.W.WalkO q loose XP YP l.row.toRowW d [] (fun f vs=>PySem.call f vs):=by
  refine Ae.F0 hn uf fun w cb aA mg mb fa o pm cd doc a vs ns G Y ho hd fw hmg tM hints hlen hg=> ?_
  have KX:=hY w _ Y
  obtain⟨fd,hb,hF⟩:=F w mg fa _ KX G.T.g hmg
  exact K5 KX G.T.g G.T.b G.T.builtins G.T.nolimit hg tM hints (Nat.le_trans hlen pE) hr (EB w _ Y) (hC w _ KX) (EJ w) G.T.bmain hF hb (fun H hS hP=>i8 (K w.params) H a ns hlen hS hP)
def aX (K:PySem.W.Frag) (x:Str) (st:Stmt):Prop:=∃f fd,PySem.W.nsIn K mainGlobals x=some (some (.ref f))∧aM K x x st f fd
theorem bg {K:PySem.W.Frag}{x:Str}{st:Stmt}{f:Addr}{oc:Value}{od an:Option Addr}{fO:Array (Option Value)}{kV doc pm ao ct:Value}(e1:PySem.W.nsIn K mainGlobals x=some (some (.ref f)))
  (e2:K.lookup f=some ⟨oc,od,.func (PySem.W.fnOf x x (iG st) (hJ st) (aC st) .none kV doc pm an ao ct),fO⟩) (e3:PySem.W.codeIn K ao x=true) (e4:PySem.W.keepIn K (.ref f)=true):aX K x st:=⟨f,_,e1,Hq e2 e3 e4⟩
section
variable {P:Program}{w:World}{K:PySem.W.Frag}{mg:Str→Option Value}{base:Heap}
abbrev qo (x:Str) (st:Stmt) (ps:List Str):Prop:=∀(kV doc pm:Value) (an:Option Addr) (ao ct:Value) (us:List Value),us.length=ps.length→bindArgs (PySem.W.fnOf x x (iG st) (hJ st) (aC st) .none kV doc pm an ao ct) ⟨us,[]⟩=pure (ps.zip us)
theorem aX.to {h:Heap}{x:Str}{st:Stmt}{ps:List Str}{k:Nat}{sp:Sp}(d:aX K x st) (KX:K.In h) (G:h.Ns mainGlobals mg) (hb:qo x st ps) (ok:∀f fd,aM K x x st f fd→aG P w K mg base aH k f fd ps sp):Def P w K mg base k x ps sp:=by
 obtain⟨f,fd,e,F⟩:=d
 exact⟨f,fd,ok f fd F,PySem.W.mg_of KX G e,F.kp,F.binds hb⟩
def oR (K:PySem.W.Frag) (x:Str):Bool:=match PySem.W.nsIn K mainGlobals x with |some none=>true |_=>false
theorem Kc {h:Heap}{x:Str}(KX:K.In h) (G:h.Ns mainGlobals mg) (e:oR K x=true):mg x=none:=by
 unfold oR at e
 split at e
 ·rename_i q
  exact PySem.W.mg_none_of KX G q
 ·cases e
abbrev Ad (x a:Str) (st:Stmt):Prop:=∀(kV doc pm:Value) (an:Option Addr) (ao ct u:Value),bindArgs (PySem.W.fnOf x x (iG st) (hJ st) (aC st) .none kV doc pm an ao ct) ⟨[u],[]⟩=pure [(a,u)]
theorem b1 {x a:Str}{st:Stmt}(h:Ad x a st):qo x st [a]:=fun kV doc pm an ao ct us hl=>match us,hl with | [u],_=>h kV doc pm an ao ct u
theorem b2 {x a b:Str}{st:Stmt}(h:∀(kV doc pm:Value) (an:Option Addr) (ao ct u v:Value),bindArgs (PySem.W.fnOf x x (iG st) (hJ st) (aC st) .none kV doc pm an ao ct) ⟨[u,v],[]⟩=pure [(a,u),(b,v)]):qo x st [a,b]:=fun kV doc pm an ao ct us hl=>match us,hl with | [u,v],_=>h kV doc pm an ao ct u v
theorem b3 {x a b c:Str}{st:Stmt}(h:∀(kV doc pm:Value) (an:Option Addr) (ao ct u v w:Value),bindArgs (PySem.W.fnOf x x (iG st) (hJ st) (aC st) .none kV doc pm an ao ct) ⟨[u,v,w],[]⟩=pure [(a,u),(b,v),(c,w)]):qo x st [a,b,c]:=fun kV doc pm an ao ct us hl=>match us,hl with | [u,v,w],_=>h kV doc pm an ao ct u v w
theorem GO {h:Heap}{fa:Addr}{st:Stmt}{k:Nat}{sp:Sp}(d:aX K "law" st) (KX:K.In h) (G:h.Ns mainGlobals mg) (hmg:mg "law" =some (.ref fa)) (hb:Ad "law" "_law_script" st)
  (ok:∀(base:Heap) f fd,aM K "law" "law" st f fd→aG P w K mg base aH k f fd ["_law_script"] sp):
  ∃fd:FuncData,(∀(s:Shared) (u:Value),BindsTo s fd ⟨[u],[]⟩ [("_law_script",u)])∧∀base:Heap,K.In base→base.Ns mainGlobals mg→lL mg base→aG P w K mg base aH k fa fd ["_law_script"] sp:=by
 obtain⟨f,fd,e,F⟩:=d
 have e0:=hmg.symm.trans (PySem.W.mg_of KX G e)
 cases e0
 obtain⟨oc,od,kV,doc,pm,an,ao,ct,fO,rfl,lk,fw⟩:=id F.ex
 exact⟨_,fun s u=> .of_eq (hb _ _ _ _ _ _ u),fun base _ _ _=>ok base _ _ F⟩
end
end U
namespace HS
open PySem PySem.SetTable
abbrev fE (l:List Nat):Prop:=l.Pairwise (· < ·)
theorem vd {xs:Array Nat}(hr:fE xs.toList) {i k:Nat}(hi:i<xs.size) (hk:k<xs.size) (h:i<k):xs[i]<xs[k]:=by
 have:=List.pairwise_iff_getElem.mp hr i k (by simpa using hi) (by simpa using hk) h
 simpa using this
theorem zf {xs:Array Nat}(hr:fE xs.toList) {i k:Nat}(hi:i<xs.size) (hk:k<xs.size) (h:i≤k):xs[i]≤xs[k]:=by
 rcases Nat.lt_or_eq_of_le h with h |h
 ·exact Nat.le_of_lt (vd hr hi hk h)
 ·subst h;exact Nat.le_refl _
theorem Wm {xs:Array Nat}{j:Nat}(hr:fE xs.toList):∀(fuel lo hi:Nat),hi≤xs.size→lo≤hi→hi - lo≤fuel→(∀i (h:i<xs.size),i<lo→xs[i]<j)→(∀i (h:i<xs.size),hi≤i→j≤xs[i])→
  below.go xs j fuel lo hi≤xs.size∧(∀i (h:i<xs.size),i<below.go xs j fuel lo hi→xs[i]<j)∧(∀i (h:i<xs.size),below.go xs j fuel lo hi≤i→j≤xs[i])
 |0,lo,hi,h1,h2,h3,h4,h5=>by
  have e:lo=hi:=by omega
  subst e
  exact⟨h1,h4,h5⟩
 |fuel+1,lo,hi,h1,h2,h3,h4,h5=>by
  unfold below.go
  by_cases ak:lo<hi
  ·rw[if_pos ak]
   dsimp only
   have hm:(lo+hi)/2<xs.size:=by omega
   have e:xs.getD ((lo+hi)/2) j=xs[(lo+hi)/2]:=by
    unfold Array.getD
    rw[dif_pos hm]
    rfl
   rw[e]
   by_cases hc:xs[(lo+hi)/2]<j
   ·rw[if_pos hc]
    refine Wm hr fuel _ hi h1 (by omega) (by omega) (fun i h aR=> ?_) h5
    exact Nat.lt_of_le_of_lt (zf hr h hm (by omega)) hc
   ·rw[if_neg hc]
    refine Wm hr fuel lo _ (by omega) (by omega) (by omega) h4 (fun i h aR=> ?_)
    exact Nat.le_trans (Nat.le_of_not_lt hc) (zf hr hm h aR)
  ·rw[if_neg ak]
   have e:lo=hi:=by omega
   subst e
   exact⟨h1,h4,h5⟩
theorem Yf {xs:Array Nat}{j:Nat}(hr:fE xs.toList):below xs j≤xs.size∧(∀i (h:i<xs.size),i<below xs j→xs[i]<j)∧(∀i (h:i<xs.size),below xs j≤i→j≤xs[i]):=
 Wm hr _ _ _ (Nat.le_refl _) (Nat.zero_le _) (by omega) (fun i h z=>absurd z (Nat.not_lt_zero _)) (fun i h z=>by omega)
theorem YJ {xs:Array Nat}{i j:Nat}(hr:fE xs.toList) (h:xs[i]? =some j):below xs j=i:=by
 obtain⟨hi,e⟩:=Array.getElem?_eq_some_iff.mp h
 obtain⟨h1,h2,h3⟩:=Yf (j:=j) hr
 rcases Nat.lt_trichotomy (below xs j) i with q |q |q
 ·have a:=h3 (below xs j) (by omega) (Nat.le_refl _)
  have b:=vd hr (by omega) hi q
  omega
 ·exact q
 ·have:=h2 i hi q
  omega
theorem WB {t:SetTable}{i j:Nat}(hr:fE t.place.toList) (h:t.place[i]? =some j):t.slot j=.live i:=by
 unfold slot
 rw[YJ hr h]
 dsimp only
 rw[h,if_pos (by simp)]
theorem U9 {t:SetTable}{j:Nat}(hd:t.dummies= #[]) (h:j∉t.place.toList):t.slot j=.empty:=by
 unfold slot
 dsimp only
 have h1:¬(t.place[below t.place j]? ==some j)=true:=by
  intro z
  have z':=eq_of_beq z
  obtain⟨hi,e⟩:=Array.getElem?_eq_some_iff.mp z'
  exact h (by rw[←e];simp)
 have h2:¬has t.dummies j=true:=by
  rw[hd]
  unfold has
  simp
 rw[if_neg h1,if_neg h2]
theorem GZ {xs:Array Nat}{j:Nat}(h:j∈xs.toList):∃i:Nat,xs[i]? =some j:=by
 obtain⟨i,hi,e⟩:=List.getElem_of_mem h
 exact⟨i,by rw[←Array.getElem?_toList,List.getElem?_eq_getElem hi,e]⟩
theorem Gv {xs:Array Nat}{i j:Nat}(h:xs[i]? =some j):j∈xs.toList:=by
 rw[←Array.getElem?_toList]at h
 exact List.mem_of_getElem? h
theorem WD {t:SetTable}{j:Nat} :(t.put j).1.place.toList=t.place.toList.take (below t.place j)++j::t.place.toList.drop (below t.place j):=by
 unfold put
 exact toList_insertAt _ _ _
theorem Ic {t:SetTable}{j:Nat}(hr:fE t.place.toList) (h:j∉t.place.toList):fE (t.put j).1.place.toList:=by
 rw[WD]
 obtain⟨h1,h2,h3⟩:=Yf (j:=j) hr
 generalize below t.place j=p at *
 have a:∀x∈t.place.toList.take p,x<j:=fun x hx=>by
  obtain⟨i,hi,e⟩:=List.getElem_of_mem hx
  rw[List.length_take]at hi
  rw[List.getElem_take]at e
  rw[←e]
  have:=h2 i (by simp at hi;omega) (by omega)
  simpa using this
 have b:∀x∈t.place.toList.drop p,j<x:=fun x hx=>by
  obtain⟨i,hi,e⟩:=List.getElem_of_mem hx
  rw[List.length_drop]at hi
  rw[List.getElem_drop]at e
  have:=h3 (p+i) (by simp at hi;omega) (by omega)
  have e':t.place[p+i]'(by simp at hi;omega)=x:=by simpa using e
  rw[e']at this
  rcases Nat.lt_or_eq_of_le this with q |q
  ·exact q
  ·exact absurd (List.mem_of_mem_drop hx) (by rw[←q];exact h)
 refine List.pairwise_append.mpr ?_
 refine⟨hr.sublist (List.take_sublist ..),List.pairwise_cons.mpr ⟨b,hr.sublist (List.drop_sublist ..)⟩,fun x hx y hy=> ?_⟩
 rcases List.mem_cons.mp hy with rfl |hy
 ·exact a x hx
 ·exact Nat.lt_trans (a x hx) (b y hy)
abbrev tb (m:Nat):SetTable:= {mask:=m,place:= #[],dummies:= #[],finger:=0,led:=false,moves:=0,plain:=false}
def dk (m:Nat) (p:Probe):Probe:=(tb m).advance p
theorem Gu (t:SetTable) (p:Probe):t.advance p=dk t.mask p:=rfl
def it (m:Nat) (p:Probe):Nat→Probe
 |0=>p
 |k+1=>dk m (it m p k)
theorem Yh (m:Nat) (p:Probe):∀k,it m p (k+1)=it m (dk m p) k
 |0=>rfl
 |k+1=>by
  show dk m (it m p (k+1))=dk m (it m (dk m p) k)
  rw[Yh m p k]
theorem We (m:Nat) (p:Probe) (a:Nat):∀b,it m p (a+b)=it m (it m p a) b
 |0=>rfl
 |b+1=>by
  show dk m (it m p (a+b))=dk m (it m (it m p a) b)
  rw[We m p a b]
theorem WY (m:Nat) (p:Probe):(dk m p).dummy=p.dummy:=by
 unfold dk advance
 split<;>rfl
theorem UM (m:Nat) (p:Probe):∀k,(it m p k).dummy=p.dummy
 |0=>rfl
 |k+1=> (WY m _).trans (UM m p k)
theorem Ui {t:SetTable}{hashAt:Nat→Int}{h:Int}(hr:fE t.place.toList) (hd:t.dummies= #[]):∀(n fuel:Nat) (p:Probe),p.dummy=none→n<fuel→(∀k<n,(it t.mask p k).j∈t.place.toList)→(it t.mask p n).j∉t.place.toList→
  (probe.go t hashAt h fuel p=some (.empty (it t.mask p n).j none)∧∀k<n,∀i:Nat,t.place[i]? =some (it t.mask p k).j→hashAt i≠h)∨
  ∃k i:Nat,k<n∧t.place[i]? =some (it t.mask p k).j∧hashAt i=h∧probe.go t hashAt h fuel p=some (.candidate (it t.mask p k).j i (it t.mask p (k+1)))∧∀k'<k,∀i:Nat,t.place[i]? =some (it t.mask p k').j→hashAt i≠h
 |0,0,p,_,h1,_,_=>absurd h1 (Nat.lt_irrefl _)
 |n+1,0,p,_,h1,_,_=>absurd h1 (Nat.not_lt_zero _)
 |0,fuel+1,p,hp,h1,h2,h3=>by
  refine .inl ⟨?_,fun k hk=>absurd hk (Nat.not_lt_zero _)⟩
  unfold probe.go
  have e:t.slot p.j=.empty:=U9 hd h3
  rw[e]
  dsimp only
  rw[hp]
  rfl
 |n+1,fuel+1,p,hp,h1,h2,h3=>by
  obtain⟨i,hi⟩:=GZ (h2 0 (Nat.succ_pos _))
  have e:t.slot p.j=.live i:=WB hr hi
  unfold probe.go
  rw[e]
  dsimp only
  rw[Gu]
  by_cases hh:hashAt i=h
  ·rw[if_pos (by simp[hh])]
   exact .inr ⟨0,i,Nat.succ_pos _,hi,hh,rfl,fun k' aQ=>absurd aQ (Nat.not_lt_zero _)⟩
  ·rw[if_neg (by simp[hh])]
   have uniq:∀i':Nat,t.place[i']? =some (it t.mask p 0).j→hashAt i'≠h:=fun i' aR=>by
    have q1:=YJ hr aR
    have q2:=YJ hr hi
    have:i'=i:=q1.symm.trans q2
    subst this
    exact hh
   rcases Ui (hashAt:=hashAt) (h:=h) hr hd n fuel (dk t.mask p) (by rw[WY];exact hp) (by omega) (fun k hk=>by rw[←Yh];exact h2 (k+1) (by omega)) (by rw[←Yh];exact h3) with ⟨g1,g2⟩ |⟨k,i2,g1,g2,g3,g4,g5⟩
   ·rw[←Yh]at g1
    refine .inl ⟨g1,fun k hk=> ?_⟩
    cases k with
    |zero=>exact uniq
    |succ k=>rw[Yh];exact g2 k (by omega)
   ·rw[←Yh]at g2 g4
    rw[←Yh]at g4
    refine .inr ⟨k+1,i2,by omega,g2,g3,g4,fun k' aQ=> ?_⟩
    cases k' with
    |zero=>exact uniq
    |succ k'=>rw[Yh];exact g5 k' (by omega)
abbrev fr (m i pt:Nat):Probe:= {j:=i,more:=runEnd m i - i,i,perturb:=pt,dummy:=none}
abbrev st (m:Nat) (h:Int):Probe:=fr m (bits h%(m+1)) (bits h)
def lp (m:Nat) (x:Nat×Nat):Nat×Nat:=leap m x.1 x.2
def bO (m:Nat) (x:Nat×Nat):Nat→Nat×Nat
 |0=>x
 |k+1=>lp m (bO m x k)
theorem J7 (m:Nat) (x:Nat×Nat):∀k,bO m x (k+1)=bO m (lp m x) k
 |0=>rfl
 |k+1=>by
  show lp m (bO m x (k+1))=lp m (bO m (lp m x) k)
  rw[J7 m x k]
theorem zz (m:Nat) (x:Nat×Nat) (a:Nat):∀b,bO m x (a+b)=bO m (bO m x a) b
 |0=>rfl
 |b+1=>by
  show lp m (bO m x (a+b))=lp m (bO m (bO m x a) b)
  rw[zz m x a b]
theorem Hk (m i:Nat):runEnd m i - i≤9:=by
 unfold runEnd
 split<;>omega
theorem Wd (m i pt:Nat):∀k,k≤runEnd m i - i→it m (fr m i pt) k= {j:=i+k,more:=runEnd m i - i - k,i:=i,perturb:=pt,dummy:=none}
 |0,_=>rfl
 |k+1,h=>by
  show dk m (it m (fr m i pt) k)=_
  rw[Wd m i pt k (by omega)]
  unfold dk advance
  dsimp only
  rw[if_pos (by omega)]
  have e:runEnd m i - i - k - 1=runEnd m i - i - (k+1):=by omega
  rw[e,Nat.add_assoc]
theorem Uh (m i pt:Nat):it m (fr m i pt) (runEnd m i - i+1)=fr m (lp m (i,pt)).1 (lp m (i,pt)).2:=by
 show dk m (it m (fr m i pt) (runEnd m i - i))=_
 rw[Wd m i pt _ (Nat.le_refl _)]
 unfold dk advance
 dsimp only
 rw[if_neg (by omega)]
 rfl
theorem UL (m:Nat):∀(k:Nat) (x:Nat×Nat),∃d,d≤10*k∧it m (fr m x.1 x.2) d=fr m (bO m x k).1 (bO m x k).2
 |0,x=> ⟨0,by omega,rfl⟩
 |k+1,x=>by
  obtain⟨d,h1,h2⟩:=UL m k (lp m x)
  refine⟨runEnd m x.1 - x.1+1+d,by have:=Hk m x.1;omega,?_⟩
  rw[We,Uh m x.1 x.2]
  rw[J7]
  exact h2
theorem y6 (m:Nat) (x:Nat×Nat):∀k,(bO m x k).2=x.2/32^k
 |0=>by simp[bO]
 |k+1=>by
  show(bO m x k).2/32=_
  rw[y6 m x k,Nat.div_div_eq_div_mul,Nat.pow_succ]
theorem Hy (m:Nat) (x:Nat×Nat) (h:x.1<m+1):∀k,(bO m x k).1<m+1
 |0=>h
 |k+1=>Nat.mod_lt _ (Nat.succ_pos _)
def nx (m i:Nat):Nat:=(i*5+1)%(m+1)
def cU (m:Nat):Nat→Nat
 |0=>0
 |k+1=>nx m (cU m k)
def oO (m:Nat):Nat→Nat→List Nat
 |0,_=> []
 |k+1,i=>i::oO m k (nx m i)
theorem y7 (m:Nat):∀(k n:Nat) (f:Nat),f∈oO m k (cU m n)→∃u,n≤u∧u<n+k∧cU m u=f
 |0,n,f,h=>by cases h
 |k+1,n,f,h=>by
  rcases List.mem_cons.mp h with rfl |h
  ·exact⟨n,Nat.le_refl _,by omega,rfl⟩
  ·obtain⟨u,h1,h2,h3⟩:=y7 m k (n+1) f h
   exact⟨u,by omega,by omega,h3⟩
def ff (m:Nat):Prop:=m=7∨m=31∨m=127∨m=511
def nD (m:Nat):Bool:=(List.range (m+1)).all fun f=> (oO m (m+1) 0).contains f
theorem FI:nD 7=true∧cU 7 8=0:=by decide+kernel
theorem FK:nD 31=true∧cU 31 32=0:=by decide+kernel
theorem FN:nD 127=true∧cU 127 128=0:=by decide+kernel
theorem FJ:nD 511=true∧cU 511 512=0:=by decide+kernel
theorem zo {m:Nat}(hm:ff m):nD m=true∧cU m (m+1)=0:=by
 rcases hm with rfl |rfl |rfl |rfl
 ·exact FI
 ·exact FK
 ·exact FN
 ·exact FJ
theorem y9 {m f:Nat}(hm:ff m) (hf:f<m+1):∃u,u<m+1∧cU m u=f:=by
 have:=List.all_eq_true.mp (zo hm).1 f (List.mem_range.mpr hf)
 obtain⟨u,_,h2,h3⟩:=y7 m (m+1) 0 f (show f∈oO m (m+1) 0 by simpa using this)
 exact⟨u,by omega,h3⟩
theorem sR (m:Nat):∀(k s:Nat),bO m (cU m s,0) k=(cU m (s+k),0)
 |0,s=>rfl
 |k+1,s=>by
  show lp m (bO m (cU m s,0) k)=_
  rw[sR m k s]
  unfold lp leap
  simp[cU,nx]
theorem UF {m a:Nat}(hm:ff m):∀k,cU m (m+1+k)=cU m k
 |0=> (zo hm).2
 |k+1=>by
  show nx m (cU m (m+1+k))=nx m (cU m k)
  rw[UF (a:=a) hm k]
theorem full {m a f:Nat}(hm:ff m) (ha:a<m+1) (hf:f<m+1):∃k,k<m+1∧(bO m (a,0) k).1=f:=by
 obtain⟨s,hs,rfl⟩:=y9 hm ha
 obtain⟨u,hu,rfl⟩:=y9 hm hf
 by_cases h:s≤u
 ·exact⟨u - s,by omega,by rw[sR];show cU m (s+(u - s))=_;congr 1;omega⟩
 ·refine⟨m+1+u - s,by omega,?_⟩
  rw[sR]
  show cU m (s+(m+1+u - s))=_
  rw[show s+(m+1+u - s)=m+1+u by omega,UF (a:=0) hm]
theorem zO (h:Int):bits h<2^64:=by
 unfold bits
 have h1:0≤h%(2^64:Int):=Int.emod_nonneg _ (by decide)
 have h2:h%(2^64:Int)<2^64:=Int.emod_lt_of_pos _ (by decide)
 omega
theorem WR {m i pt f:Nat}(hm:ff m) (hi:i<m+1) (hp:pt<2^64) (hf:f<m+1):∃k,k<m+14∧(bO m (i,pt) k).1=f:=by
 have e:(bO m (i,pt) 13).2=0:=by
  rw[y6]
  exact Nat.div_eq_of_lt (Nat.lt_of_lt_of_le hp (by decide))
 have l:=Hy m (i,pt) hi 13
 obtain⟨k,h1,h2⟩:=full hm l hf
 refine⟨13+k,by omega,?_⟩
 rw[zz]
 have e2:bO m (i,pt) 13=((bO m (i,pt) 13).1,0):=by rw[←e]
 rw[e2]
 exact h2
theorem cover {m f:Nat}(hm:ff m) (h:Int) (hf:f<m+1):∃n,n<10*turns m∧(it m (st m h) n).j=f:=by
 obtain⟨k,h1,h2⟩:=WR hm (Nat.mod_lt _ (Nat.succ_pos _)) (zO h) hf (i:=bits h%(m+1))
 obtain⟨d,h3,h4⟩:=UL m k (bits h%(m+1),bits h)
 refine⟨d,by unfold turns;omega,?_⟩
 show(it m (fr m (bits h%(m+1)) (bits h)) d).j=f
 rw[h4]
 exact h2
def kj (m:Nat) (cN:Nat→Prop) (p:Probe) (j:Nat):Prop:=∃n,(it m p n).j=j∧∀k<n,cN (it m p k).j
theorem kj.mono {m:Nat}{cN wK:Nat→Prop}{p:Probe}{j:Nat}(h:kj m cN p j) (w:∀x,cN x→wK x):kj m wK p j:=
 let ⟨n,a,b⟩:=h;⟨n,a,fun k hk=>w _ (b k hk)⟩
theorem Wh {m f:Nat}{cN:Nat→Prop}(hm:ff m) (h:Int) (hf:f<m+1) (ho:¬cN f):∃n,n<10*turns m∧(∀k<n,cN (it m (st m h) k).j)∧¬cN (it m (st m h) n).j:=by
 obtain⟨n,h1,h2⟩:=cover hm h hf
 have key:∀n,n<10*turns m→¬cN (it m (st m h) n).j→∃n,n<10*turns m∧(∀k<n,cN (it m (st m h) k).j)∧¬cN (it m (st m h) n).j:=by
  intro n
  induction n using Nat.strongRecOn with
  |_ n ih=>
   intro g1 g2
   by_cases z:∀k<n,cN (it m (st m h) k).j
   ·exact⟨n,g1,z,g2⟩
   ·have:∃k,k<n∧¬cN (it m (st m h) k).j:=Classical.byContradiction fun c=>z fun k hk=>Classical.byContradiction fun o=>c ⟨k,hk,o⟩
    obtain⟨k,hk,o⟩:=this
    exact ih k hk (by omega) o
 exact key n h1 (by rw[h2];exact ho)
theorem WO {m:Nat}{owner:Array (Option Nat)} :∀(fuel k:Nat) (i pt:Nat),k<fuel→((owner.getD (bO m (i,pt) k).1 (some 0)).isNone=true)→
  ∃j,layClean.free m owner fuel i pt=some j∧(owner.getD j (some 0)).isNone=true∧kj m (fun x=> (owner.getD x (some 0)).isNone=false) (fr m i pt) j
 |0,k,i,pt,h,_=>absurd h (Nat.not_lt_zero _)
 |fuel+1,k,i,pt,h,ho=>by
  unfold layClean.free
  cases hq:(List.range (runEnd m i+1 - i)).find? fun k=> (owner.getD (i+k) (some 0)).isNone with
  |some d=>
   dsimp only
   have h1:=List.find?_some hq
   have cP:=List.mem_of_find?_eq_some hq
   rw[List.mem_range]at cP
   refine⟨i+d,rfl,h1,d,?_,fun k hk=> ?_⟩
   ·rw[Wd m i pt d (by unfold runEnd at *;split at cP<;>split<;>omega)]
   ·rw[Wd m i pt k (by unfold runEnd at *;split at cP<;>split<;>omega)]
    obtain⟨as,bs,e,cz⟩:=(List.find?_eq_some_iff_append.mp hq).2
    have xU:k∈as:=by
     have hp:(List.range (runEnd m i+1 - i)).Pairwise (· < ·):=List.pairwise_lt_range
     have xS:k∈List.range (runEnd m i+1 - i):=List.mem_range.mpr (by omega)
     rw[e]at hp xS
     rcases List.mem_append.mp xS with q |q
     ·exact q
     ·rcases List.mem_cons.mp q with q |q
      ·omega
      ·have:=(List.pairwise_cons.mp (List.pairwise_append.mp hp).2.1).1 k q
       omega
    have:=cz k xU
    simpa using this
  |none=>
   dsimp only
   have cz:=List.find?_eq_none.mp hq
   have k6:∀d,d≤runEnd m i - i→(owner.getD (i+d) (some 0)).isNone=false:=fun d hd=>by
    have:=cz d (List.mem_range.mpr (by unfold runEnd at *;split at hd<;>split<;>omega))
    exact Bool.eq_false_iff.mpr this
   cases k with
   |zero=>
    have:=k6 0 (Nat.zero_le _)
    rw[show(bO m (i,pt) 0).1=i+0 from rfl,this]at ho
    cases ho
   |succ k=>
    rw[J7]at ho
    obtain⟨j,g1,g2,n,g3,g4⟩:=WO (m:=m) (owner:=owner) fuel k (lp m (i,pt)).1 (lp m (i,pt)).2 (by omega) ho
    refine⟨j,g1,g2,runEnd m i - i+1+n,?_,fun d hd=> ?_⟩
    ·rw[We,Uh]
     exact g3
    ·by_cases hd2:d≤runEnd m i - i
     ·rw[Wd m i pt d hd2]
      exact k6 d hd2
     ·obtain⟨c,rfl⟩:∃c,d=runEnd m i - i+1+c:=⟨d - (runEnd m i - i+1),by omega⟩
      rw[We,Uh]
      exact g4 c (by omega)
theorem HB {m:Nat}{p:Probe}(h:p.j+p.more≤m):(dk m p).j+(dk m p).more≤m:=by
 unfold dk advance
 split
 ·dsimp only;omega
 ·dsimp only[leap,runEnd]
  have:=Nat.mod_lt (p.i*5+1+p.perturb/32) (show 0<m+1 by omega)
  split<;>omega
theorem zu {m:Nat}{p:Probe}(h:p.j+p.more≤m):∀k,(it m p k).j+(it m p k).more≤m
 |0=>h
 |k+1=>HB (zu h k)
theorem yS {m:Nat}(h:Int) (k:Nat):(it m (st m h) k).j<m+1:=by
 have:=zu (m:=m) (p:=st m h) (by
  have:=Nat.mod_lt (bits h) (show 0<m+1 by omega)
  dsimp only[fr,runEnd]
  split<;>omega) k
 omega
structure T0 (t:SetTable) (es:Array (Int×Value)):Prop where
 sz:t.place.size=es.size
 fL:fE t.place.toList
 j6:t.dummies= #[]
 le:∀j∈t.place.toList,j<t.mask+1
 ld:∀z∈t.place.toList.zip es.toList,kj t.mask (·∈t.place.toList) (st t.mask z.2.1) z.1
def fB (m n:Nat):Prop:=(m=7∧n≤4)∨(m=31∧n≤18)∨(m=127∧n≤76)∨(m=511∧n≤306)
theorem fB.kQ {m n:Nat}(h:fB m n):ff m:=by
 rcases h with ⟨h,_⟩ |⟨h,_⟩ |⟨h,_⟩ |⟨h,_⟩
 ·exact .inl h
 ·exact .inr (.inl h)
 ·exact .inr (.inr (.inl h))
 ·exact .inr (.inr (.inr h))
theorem fB.lt {m n:Nat}(h:fB m n):n+1<m:=by
 rcases h with ⟨h,_⟩ |⟨h,_⟩ |⟨h,_⟩ |⟨h,_⟩<;>omega
theorem fB.small {m n:Nat}(h:fB m n):n≤306:=by
 rcases h with ⟨h,_⟩ |⟨h,_⟩ |⟨h,_⟩ |⟨h,_⟩<;>omega
theorem WC {l:List Nat}(h:fE l):l.Nodup:=List.Pairwise.imp (fun h=>Nat.ne_of_lt h) h
theorem T0.free {t:SetTable}{es:Array (Int×Value)}(T:T0 t es) (h:es.size<t.mask+1):∃f,f<t.mask+1∧f∉t.place.toList:=by
 refine Classical.byContradiction fun c=> ?_
 have all:∀f,f<t.mask+1→f∈t.place.toList:=fun f hf=>Classical.byContradiction fun n=>c ⟨f,hf,n⟩
 have p:(t.place.toList).Perm (List.range (t.mask+1)):=(List.perm_ext_iff_of_nodup (WC T.fL) List.nodup_range).mpr fun f=> ⟨fun hf=>List.mem_range.mpr (T.le f hf),fun hf=>all f (List.mem_range.mp hf)⟩
 have:=p.length_eq
 rw[List.length_range,Array.length_toList,T.sz]at this
 omega
theorem T0.fits {t:SetTable}{es:Array (Int×Value)}(T:T0 t es) (h:es.size≤t.mask):t.fits es.size=true:=by
 unfold SetTable.fits SetTable.fill
 rw[T.j6,T.sz]
 simp[h]
theorem Iu {α β:Type}{a:List α}{b:List β}(p:Nat) (x:α) (y:β) (h:a.length=b.length):(a.take p++x::a.drop p).zip (b.take p++y::b.drop p)=(a.zip b).take p++(x,y)::(a.zip b).drop p:=by
 rw[List.zip_append (by rw[List.length_take,List.length_take,h]),List.zip_cons_cons]
 simp only[List.zip,List.take_zipWith,List.drop_zipWith]
theorem T0.put {t:SetTable}{es:Array (Int×Value)}(T:T0 t es) {h:Int}{x:Value}{n:Nat}(h1:∀k<n,(it t.mask (st t.mask h) k).j∈t.place.toList) (h2:(it t.mask (st t.mask h) n).j∉t.place.toList) (pl:Bool):
  T0 {(t.put (it t.mask (st t.mask h) n).j).1 with plain:=pl} (insertAt es (t.put (it t.mask (st t.mask h) n).j).2 (h,x)):=by
 have lt:=yS (m:=t.mask) h n
 generalize hf:(it t.mask (st t.mask h) n).j=f at *
 have de:=WD (t:=t) (j:=f)
 have e2:(t.put f).2=below t.place f:=rfl
 have em:(t.put f).1.mask=t.mask:=rfl
 have cN:∀y,y∈t.place.toList→y∈(t.put f).1.place.toList:=fun y hy=>by
  rw[de]
  rw[←List.take_append_drop (below t.place f) t.place.toList]at hy
  rcases List.mem_append.mp hy with q |q
  ·exact List.mem_append_left _ q
  ·exact List.mem_append_right _ (List.mem_cons_of_mem _ q)
 have lz:t.place.toList.length=es.toList.length:=by rw[Array.length_toList,Array.length_toList,T.sz]
 refine⟨?_,Ic T.fL h2,?_,fun j hj=> ?_,fun z hz=> ?_⟩
 ·have a:(t.put f).1.place.size=t.place.size+1:=by
   rw[←Array.length_toList,de,List.length_append,List.length_cons,List.length_take,List.length_drop,Array.length_toList]
   have:=(Yf (j:=f) T.fL).1
   omega
  have b:(insertAt es (t.put f).2 (h,x)).size=es.size+1:=by
   rw[←Array.length_toList,(insertAt_perm es _ (h,x)).length_eq,Array.length_toList,Array.size_push]
  show(t.put f).1.place.size=_
  rw[a,b,T.sz]
 ·show(if has t.dummies f then _ else t.dummies)= #[]
  rw[T.j6]
  simp[has]
 ·show j<t.mask+1
  have xX:j∈(t.put f).1.place.toList:=hj
  rw[de]at xX
  rcases List.mem_append.mp xX with q |q
  ·exact T.le j (List.mem_of_mem_take q)
  ·rcases List.mem_cons.mp q with q |q
   ·rw[q];exact lt
   ·exact T.le j (List.mem_of_mem_drop q)
 ·have bh:z∈(t.put f).1.place.toList.zip (insertAt es (t.put f).2 (h,x)).toList:=hz
  rw[de,toList_insertAt,e2,Iu _ _ _ lz]at bh
  have old:∀z∈t.place.toList.zip es.toList,kj t.mask (·∈(t.put f).1.place.toList) (st t.mask z.2.1) z.1:=fun z hz=> (T.ld z hz).mono cN
  rcases List.mem_append.mp bh with q |q
  ·exact old z (List.mem_of_mem_take q)
  ·rcases List.mem_cons.mp q with q |q
   ·rw[q]
    exact⟨n,hf,fun k hk=>cN _ (h1 k hk)⟩
   ·exact old z (List.mem_of_mem_drop q)
structure gB (m:Nat) (hs:List Int) (owner:Array (Option Nat)):Prop where
 sz:owner.size=m+1
 lt:∀(j k:Nat),owner[j]? =some (some k)→k<hs.length
 at_:∀(k:Nat) (h:Int),hs[k]? =some h→∃j:Nat,owner[j]? =some (some k)∧kj m (fun x=> ∃k,owner[x]? =some (some k)) (st m h) j
 inj:∀(j j' k:Nat),owner[j]? =some (some k)→owner[j']? =some (some k)→j=j'
def live (m:Nat) (owner:Array (Option Nat)):List (Nat×Nat):=(List.range (m+1)).filterMap fun j=> (owner.getD j none).map (j, ·)
theorem getD_none {owner:Array (Option Nat)}{j k:Nat} :owner.getD j none=some k↔owner[j]? =some (some k):=by
 rw[Array.getD_eq_getD_getElem?]
 cases owner[j]? with
 |none=>simp
 |some o=>cases o<;>simp
theorem ZY {m:Nat}{owner:Array (Option Nat)}(hs:owner.size=m+1) {x:Nat×Nat} :x∈live m owner↔owner[x.1]? =some (some x.2):=by
 unfold live
 rw[List.mem_filterMap]
 constructor
 ·rintro⟨j,hj,e⟩
  obtain⟨k,hk,rfl⟩:=Option.map_eq_some_iff.mp e
  exact getD_none.mp hk
 ·intro h
  obtain⟨hl,_⟩:=Array.getElem?_eq_some_iff.mp h
  exact⟨x.1,List.mem_range.mpr (by omega),by rw[getD_none.mpr h];rfl⟩
theorem J8 (m:Nat) (owner:Array (Option Nat)):fE ((live m owner).map (·.1)):=by
 refine List.pairwise_map.mpr ?_
 unfold live
 refine List.pairwise_filterMap.mpr (List.Pairwise.imp ?_ (List.pairwise_lt_range (n:=m+1)))
 intro a b gU x hx y hy
 obtain⟨_,_,rfl⟩:=Option.map_eq_some_iff.mp hx
 obtain⟨_,_,rfl⟩:=Option.map_eq_some_iff.mp hy
 exact gU
theorem Jt {m:Nat}{hs:List Int}{owner:Array (Option Nat)}(L:gB m hs owner):((live m owner).map (·.2)).Perm (List.range hs.length):=by
 refine(List.perm_ext_iff_of_nodup ?_ List.nodup_range).mpr fun k=> ?_
 ·refine List.nodup_iff_pairwise_ne.mpr (List.pairwise_map.mpr ?_)
  refine List.Pairwise.imp_of_mem ?_ (List.pairwise_map.mp (J8 m owner))
  intro a b ha hb gU e
  have h1:=(ZY L.sz).mp ha
  have h2:=(ZY L.sz).mp hb
  rw[e]at h1
  have:=L.inj _ _ _ h1 h2
  omega
 ·rw[List.mem_range]
  constructor
  ·intro h
   obtain⟨x,hx,rfl⟩:=List.mem_map.mp h
   exact L.lt _ _ ((ZY L.sz).mp hx)
  ·intro h
   obtain⟨j,hj,_⟩:=L.at_ k _ (List.getElem?_eq_getElem h)
   exact List.mem_map.mpr ⟨(j,k),(ZY L.sz).mpr hj,rfl⟩
theorem UG {m:Nat}{hs:List Int}{owner:Array (Option Nat)}(L:gB m hs owner):(live m owner).length=hs.length:=by
 have:=(Jt L).length_eq
 rw[List.length_map,List.length_range]at this
 exact this
theorem gB.free {m:Nat}{hs:List Int}{owner:Array (Option Nat)}(L:gB m hs owner) (h:hs.length<m+1):∃f,f<m+1∧owner[f]? =some none:=by
 refine Classical.byContradiction fun c=> ?_
 have all:∀f,f<m+1→∃k,owner[f]? =some (some k):=fun f hf=>by
  have yd:f<owner.size:=by rw[L.sz];exact hf
  cases e:owner[f] with
  |none=>exact absurd ⟨f,hf,by rw[Array.getElem?_eq_getElem yd,e]⟩ c
  |some k=>exact⟨k,by rw[Array.getElem?_eq_getElem yd,e]⟩
 have p:((live m owner).map (·.1)).Perm (List.range (m+1)):=(List.perm_ext_iff_of_nodup (WC (J8 m owner)) List.nodup_range).mpr fun f=>by
  rw[List.mem_range,List.mem_map]
  constructor
  ·rintro⟨x,hx,rfl⟩
   obtain⟨hl,_⟩:=Array.getElem?_eq_some_iff.mp ((ZY L.sz).mp hx)
   rw[L.sz]at hl
   exact hl
  ·intro hf
   obtain⟨k,hk⟩:=all f hf
   exact⟨(f,k),(ZY L.sz).mpr hk,rfl⟩
 have:=p.length_eq
 rw[List.length_map,UG L,List.length_range]at this
 omega
theorem getD_some {owner:Array (Option Nat)}{j:Nat} :(owner.getD j (some 0)).isNone=true↔owner[j]? =some none:=by
 rw[Array.getD_eq_getD_getElem?]
 cases owner[j]? with
 |none=>simp
 |some o=>cases o<;>simp
theorem gB.step {m:Nat}{hs:List Int}{owner:Array (Option Nat)}(hm:ff m) (L:gB m hs owner) (hl:hs.length<m+1) (h:Int):
  ∃j,layClean.free m owner (turns m) (bits h%(m+1)) (bits h)=some j∧gB m (hs++[h]) (owner.setIfInBounds j (some hs.length)):=by
 obtain⟨f,hf,hn⟩:=L.free hl
 obtain⟨k,hk,e⟩:=WR hm (Nat.mod_lt (bits h) (show 0<m+1 by omega)) (zO h) hf
 obtain⟨j,g1,g2,g3⟩:=WO (m:=m) (owner:=owner) (turns m) k (bits h%(m+1)) (bits h) (by unfold turns;omega) (by rw[e];exact getD_some.mpr hn)
 have pS:=getD_some.mp g2
 obtain⟨jl,_⟩:=Array.getElem?_eq_some_iff.mp pS
 have p4:(owner.setIfInBounds j (some hs.length))[j]? =some (some hs.length):=by simp[jl]
 have ka:∀{i:Nat},i≠j→(owner.setIfInBounds j (some hs.length))[i]? =owner[i]? :=fun {i} hi=>by
  rw[Array.getElem?_setIfInBounds]
  rw[if_neg (Ne.symm hi)]
 have YW:∀{i k:Nat},owner[i]? =some (some k)→i≠j:=fun {i k} hi z=>by rw[z,pS]at hi;cases hi
 have cN:∀x:Nat,(∃k:Nat,owner[x]? =some (some k))→∃k:Nat,(owner.setIfInBounds j (some hs.length))[x]? =some (some k):=fun x hx=>by
  obtain⟨k,hk⟩:=hx
  exact⟨k,by rw[ka (YW hk)];exact hk⟩
 refine⟨j,g1,⟨by rw[Array.size_setIfInBounds];exact L.sz,fun i k hi=> ?_,fun k h' aQ=> ?_,fun i i' k hi aR=> ?_⟩⟩
 ·rw[List.length_append]
  by_cases bJ:i=j
  ·rw[bJ,p4]at hi
   cases hi
   simp
  ·rw[ka bJ]at hi
   have:=L.lt _ _ hi
   simp;omega
 ·by_cases Ec:k<hs.length
  ·rw[List.getElem?_append_left Ec]at aQ
   obtain⟨i,hi,ld⟩:=L.at_ k h' aQ
   exact⟨i,by rw[ka (YW hi)];exact hi,ld.mono cN⟩
  ·rw[List.getElem?_append_right (by omega)]at aQ
   have ek:k=hs.length:=by
    have:=(List.getElem?_eq_some_iff.mp aQ).1
    simp at this
    omega
   subst ek
   simp at aQ
   subst aQ
   obtain⟨n,en,cz⟩:=g3
   refine⟨j,p4,n,en,fun d hd=> ?_⟩
   have hx:=cz d hd
   have ak:(it m (fr m (bits h%(m+1)) (bits h)) d).j<owner.size:=by rw[L.sz];exact yS h d
   show ∃k:Nat,(owner.setIfInBounds j (some hs.length))[(it m (fr m (bits h%(m+1)) (bits h)) d).j]? =some (some k)
   generalize (it m (fr m (bits h%(m+1)) (bits h)) d).j=x at *
   have e:=Array.getElem?_eq_getElem ak
   cases e2:owner[x] with
   |none=>
    rw[e2]at e
    rw[getD_some.mpr e]at hx
    cases hx
   |some k=>
    rw[e2]at e
    exact cN x ⟨k,e⟩
 ·by_cases bJ:i=j
  ·by_cases mS:i'=j
   ·rw[bJ,mS]
   ·rw[bJ,p4]at hi
    rw[ka mS]at aR
    cases hi
    exact absurd (L.lt _ _ aR) (Nat.lt_irrefl _)
  ·by_cases mS:i'=j
   ·rw[mS,p4]at aR
    rw[ka bJ]at hi
    cases aR
    exact absurd (L.lt _ _ hi) (Nat.lt_irrefl _)
   ·rw[ka bJ]at hi
    rw[ka mS]at aR
    exact L.inj _ _ _ hi aR
def kT (m:Nat) (acc:Option (Array (Option Nat)×Nat)) (h:Int):Option (Array (Option Nat)×Nat):=do
 let (owner,k) ←acc
 let j ←layClean.free m owner (turns m) (bits h%(m+1)) (bits h)
 pure (owner.setIfInBounds j (some k),k+1)
theorem JB (m:Nat) (hs:Array Int):layClean m hs=(hs.toList.foldl (kT m) (some (Array.replicate (m+1) none,0))).map (·.1):=by
 unfold layClean
 rw[←Array.foldl_toList]
 rfl
theorem Jv {m:Nat}(hm:ff m):∀(rest hs:List Int) (owner:Array (Option Nat)),gB m hs owner→hs.length+rest.length≤m+1→
  ∃wI,rest.foldl (kT m) (some (owner,hs.length))=some (wI,(hs++rest).length)∧gB m (hs++rest) wI
 | [],hs,owner,L,_=> ⟨owner,by rw[List.append_nil];rfl,by rw[List.append_nil];exact L⟩
 |h::rest,hs,owner,L,hl=>by
  rw[List.length_cons]at hl
  obtain⟨j,g1,g2⟩:=L.step hm (by omega) h
  obtain⟨o',g3,g4⟩:=Jv hm rest (hs++[h]) _ g2 (by rw[List.length_append,List.length_singleton];omega)
  refine⟨o',?_,by rw[←List.append_cons]at g4;exact g4⟩
  rw[List.foldl_cons]
  have e:kT m (some (owner,hs.length)) h=some (owner.setIfInBounds j (some hs.length),(hs++[h]).length):=by
   unfold kT
   simp[g1]
  rw[e,g3,←List.append_cons]
theorem Ji {es:Array (Int×Value)} :∀{L:List (Nat×Nat)},(∀x∈L,x.2<es.size)→(L.map (·.2)).filterMap (fun k=>es[k]?)=L.map fun x=> (es[x.2]?).getD (0,.none)
 | [],_=>rfl
 |x::L,h=>by
  have hx:=h x List.mem_cons_self
  rw[List.map_cons,List.filterMap_cons,List.map_cons,Array.getElem?_eq_getElem hx]
  dsimp only
  rw[Ji fun y hy=>h y (List.mem_cons_of_mem _ hy)]
  rfl
theorem WL {m:Nat}(hm:ff m) (es:Array (Int×Value)) (hl:es.size≤m+1) (fi mo:Nat) (le pl:Bool):
  ∃t order,laid m fi mo le pl (es.map (·.1))=some (t,order)∧t.mask=m∧T0 t (order.filterMap (es[·]?))∧(order.filterMap (es[·]?)).toList.Perm es.toList:=by
 have L0:gB m [] (Array.replicate (m+1) none):=by
  refine⟨Array.size_replicate ..,fun j k h=> ?_,fun k h hk=>by simp at hk,fun j j' k h=> ?_⟩<;>
  ·rw[Array.getElem?_replicate]at h
   split at h<;>cases h
 obtain⟨owner,e1,L⟩:=Jv hm (es.map (·.1)).toList [] _ L0 (by simp;exact hl)
 rw[List.nil_append]at e1 L
 have bY:((es.map (·.1)).toList).length=es.size:=by simp
 have e2:layClean m (es.map (·.1))=some owner:=by
  rw[JB]
  have lx:List.foldl (kT m) (some (Array.replicate (m+1) none,0)) (es.map (·.1)).toList=_:=e1
  rw[lx]
  rfl
 have ak:∀x∈live m owner,x.2<es.size:=fun x hx=>by
  have:=L.lt _ _ ((ZY L.sz).mp hx)
  rw[bY]at this
  exact this
 have E7:(((live m owner).map (·.2)).toArray.filterMap (es[·]?)).toList=(live m owner).map fun x=> (es[x.2]?).getD (0,.none):=by
  rw[Array.toList_filterMap]
  exact Ji ak
 have perm:(((live m owner).map (·.2)).toArray.filterMap (es[·]?)).toList.Perm es.toList:=by
  rw[Array.toList_filterMap]
  have p:=(Jt L).filterMap (fun i=>es[i]?)
  rw[bY,filterMap_getElem?_range]at p
  exact p
 refine⟨{mask:=m,place:=((live m owner).map (·.1)).toArray,dummies:= #[],finger:=fi,led:=le,moves:=mo,plain:=pl},((live m owner).map (·.2)).toArray,?_,rfl,?_,perm⟩
 ·unfold laid
  rw[e2]
  rfl
 ·refine⟨?_,J8 m owner,rfl,fun j hj=> ?_,fun z hz=> ?_⟩
  ·have:=perm.length_eq
   rw[Array.length_toList,Array.length_toList]at this
   rw[this]
   show((live m owner).map (·.1)).toArray.size=_
   rw[List.size_toArray,List.length_map,UG L,bY]
  ·obtain⟨x,hx,rfl⟩:=List.mem_map.mp (show j∈(live m owner).map (·.1) from hj)
   obtain⟨hq,_⟩:=Array.getElem?_eq_some_iff.mp ((ZY L.sz).mp hx)
   rw[L.sz]at hq
   exact hq
  ·have bh:z∈((live m owner).map (·.1)).zip (((live m owner).map (·.2)).toArray.filterMap (es[·]?)).toList:=hz
   rw[E7,List.zip_map',List.mem_map]at bh
   obtain⟨x,hx,rfl⟩:=bh
   have sX:=(ZY L.sz).mp hx
   have sY:=ak x hx
   have eh:(es.map (·.1)).toList[x.2]? =some (es[x.2].1):=by simp[sY]
   obtain⟨j,g1,g2⟩:=L.at_ _ _ eh
   have ej:=L.inj _ _ _ g1 sX
   subst ej
   dsimp only
   rw[Array.getElem?_eq_getElem sY,Option.getD_some]
   refine g2.mono fun y hy=> ?_
   obtain⟨k,hk⟩:=hy
   exact List.mem_map.mpr ⟨(y,k),(ZY L.sz).mpr hk,rfl⟩
theorem grow {m n:Nat}(h:fB m n) (hn:n+1≤306):((n+1)*5≥m*3∧fB (sizeAbove (grown (n+1)) - 1) (n+1)∧sizeAbove (grown (n+1))≤512)∨(¬(n+1)*5≥m*3∧fB m (n+1)):=by
 rcases h with ⟨rfl,h⟩ |⟨rfl,h⟩ |⟨rfl,h⟩ |⟨rfl,h⟩
 ·by_cases q:n=4
  ·subst q
   exact .inl ⟨by decide,.inr (.inl ⟨by decide,by decide⟩),by decide⟩
  ·exact .inr ⟨by omega,.inl ⟨rfl,by omega⟩⟩
 ·by_cases q:n=18
  ·subst q
   exact .inl ⟨by decide,.inr (.inr (.inl ⟨by decide,by decide⟩)),by decide⟩
  ·exact .inr ⟨by omega,.inr (.inl ⟨rfl,by omega⟩)⟩
 ·by_cases q:n=76
  ·subst q
   exact .inl ⟨by decide,.inr (.inr (.inr ⟨by decide,by decide⟩)),by decide⟩
  ·exact .inr ⟨by omega,.inr (.inr (.inl ⟨rfl,by omega⟩))⟩
 ·exact .inr ⟨by omega,.inr (.inr (.inr ⟨rfl,by omega⟩))⟩
section
variable {prog:Program}{w:World}{K:Type} [DecidableEq K]
structure HK (knd:HeapKind prog w K):Prop where
 FX:∀{A:Around}{E:Value→Shared→Prop}{s:Shared}{k:K}{a:Addr}{Q:Bool→Shared→Prop},knd.is s.heap k a→(∀b,Q b s)→wpAny (model prog w) A (hashByValue 8 (.ref a)) Q E s
 notCls:∀{A:Around}{E:Value→Shared→Prop}{s:Shared}{k:K}{a:Addr}{Q:Bool→Shared→Prop},knd.is s.heap k a→Q false s→wpAny (model prog w) A (ofAClassStatement 8 (.ref a)) Q E s
 C8:∀{h h':Heap}{k:K}{a d:Addr}{o:Obj}{es ep t},knd.is h k a→h.get? d=some o→o.data=.set es ep t→Heap.SameBut d h h'→knd.is h' k a
variable {knd:HeapKind prog w K}{A:Around}{E:Value→Shared→Prop}{s:Shared}
def fG (knd:HeapKind prog w K) (h:Heap) (k:K) (e:Int×Value):Prop:=∃a,e.2=.ref a∧knd.is h k a∧e.1=knd.hash k
theorem Ir (hk:HK knd) {k:K}{x:Addr}(hx:knd.is s.heap k x):∀{ys:List Value}{Q:Bool→Shared→Prop},(∀y∈ys,∃k' b,y=.ref b∧knd.is s.heap k' b)→Q false s→wpAny (model prog w) A (searchCouldBeSeen (.ref x) ys) Q E s:=by
 intro ys Q hy hq
 unfold searchCouldBeSeen
 refine wpAny_bind ?_
 refine wpAny_forIn_list _ (fun rest r s'=>r.1=none∧s'=s∧∀y∈rest,∃k' b,y=.ref b∧knd.is s.heap k' b) _ ?_ ?_ _ _ ⟨rfl,rfl,hy⟩
 ·rintro v rest r s' ⟨hr,rfl,cz⟩
  obtain⟨k',b,rfl,hb⟩:=cz v List.mem_cons_self
  have yh:∀y∈rest,∃k' b,y=Value.ref b∧knd.is s'.heap k' b:=fun y hy=>cz y (List.mem_cons_of_mem _ hy)
  dsimp only
  split
  ·exact wpAny_pure ⟨rfl,rfl,yh⟩
  ·refine wpAny_bind (knd.quiet hx ?_)
   simp only[Bool.not_true,Bool.false_eq_true,if_false]
   refine wpAny_bind (knd.quiet hb ?_)
   simp only[Bool.not_true,Bool.false_eq_true,if_false]
   refine wpAny_bind (hk.notCls hx ?_)
   simp only[Bool.false_eq_true,if_false]
   refine wpAny_bind (hk.notCls hb ?_)
   simp only[Bool.false_eq_true,if_false]
   exact wpAny_pure ⟨rfl,rfl,yh⟩
 ·rintro⟨r1,r2⟩ s' ⟨hr,rfl,_⟩
  simp only at hr
  subst hr
  exact wpAny_pure hq
theorem Gw {t:SetTable}{es:Array (Int×Value)}(T:T0 t es) {i:Nat}{e:Int×Value}(h:es[i]? =some e):∃j,t.place[i]? =some j∧(j,e)∈t.place.toList.zip es.toList:=by
 obtain⟨hi,_⟩:=Array.getElem?_eq_some_iff.mp h
 have hp:i<t.place.size:=by rw[T.sz];exact hi
 refine⟨t.place[i],Array.getElem?_eq_getElem hp,List.mem_of_getElem? (i:=i) ?_⟩
 rw[List.getElem?_zip_eq_some]
 exact⟨by rw[Array.getElem?_toList];exact Array.getElem?_eq_getElem hp,by rw[Array.getElem?_toList];exact h⟩
theorem GA {t:SetTable}{es:Array (Int×Value)}(T:T0 t es) {i j:Nat}(h:t.place[i]? =some j):∃e,es[i]? =some e:=by
 obtain⟨hi,_⟩:=Array.getElem?_eq_some_iff.mp h
 exact⟨es[i]'(by rw[←T.sz];exact hi),Array.getElem?_eq_getElem _⟩
theorem Lb {t:SetTable}{es:Array (Int×Value)}(T:T0 t es) {hashAt:Nat→Int}{h:Int}{p:Probe}{met:Option Met}{n:Nat}(hp:p.dummy=none) (hn:n<10*turns t.mask) (h1:∀k<n,(it t.mask p k).j∈t.place.toList) (h2:(it t.mask p n).j∉t.place.toList)
  (pA:t.probe hashAt h p=met) (hH:∀i:Nat,hashAt i=(es[i]?.map (·.1)).getD 0):
  (met=some (.empty (it t.mask p n).j none)∧∀k<n,∀(i:Nat) (e:Int×Value),t.place[i]? =some (it t.mask p k).j→es[i]? =some e→e.1≠h)∨
  ∃(k i:Nat) (e:Int×Value),k<n∧t.place[i]? =some (it t.mask p k).j∧es[i]? =some e∧e.1=h∧met=some (.candidate (it t.mask p k).j i (it t.mask p (k+1)))∧∀k'<k,∀(i:Nat) (e:Int×Value),t.place[i]? =some (it t.mask p k').j→es[i]? =some e→e.1≠h:=by
 have conv:∀{i:Nat}{e:Int×Value},es[i]? =some e→hashAt i=e.1:=fun {i e} he=>by rw[hH,he];rfl
 rcases Ui (hashAt:=hashAt) (h:=h) T.fL T.j6 n (10*turns t.mask) p hp hn h1 h2 with ⟨g1,g2⟩ |⟨k,i,g1,g2,g3,g4,g5⟩
 ·exact .inl ⟨pA.symm.trans g1,fun k hk i e hi he=>by rw[←conv he];exact g2 k hk i hi⟩
 ·obtain⟨e,he⟩:=GA T g2
  exact .inr ⟨k,i,e,g1,g2,he,by rw[←conv he];exact g3,pA.symm.trans g4,fun k' aQ i e hi he=>by rw[←conv he];exact g5 k' aQ i hi⟩
theorem Wx (hk:HK knd) {S x:Addr}{k:K}{o:Obj}{es:Array (Int×Value)}{ep:Nat}{t:SetTable}{n:Nat}{Q:SetFound→Shared→Prop}
  (hroom:knd.room A) (hx:knd.is s.heap k x) (ho:s.heap.get? S=some o) (hd:o.data=.set es ep t) (T:T0 t es) (hm:t.mask%2=1) (hf:es.size≤t.mask)
  (lh:∀e∈es.toList,∃k',fG knd s.heap k' e)
  (hn:n<10*turns t.mask) (h1:∀i<n,(it t.mask (st t.mask (knd.hash k)) i).j∈t.place.toList) (h2:(it t.mask (st t.mask (knd.hash k)) n).j∉t.place.toList)
  (um:(∃e∈es.toList,fG knd s.heap k e)→Q (.there none) s) (yq:(¬∃e∈es.toList,fG knd s.heap k e)→Q (.free (it t.mask (st t.mask (knd.hash k)) n).j false) s):
  ∀(d fuel m0:Nat) (oa:Option Probe),m0+d=n→d<fuel→oa.getD (t.probeStart (knd.hash k))=it t.mask (st t.mask (knd.hash k)) m0→
   (∀i'<m0,∀(i:Nat) (e:Int×Value),t.place[i]? =some (it t.mask (st t.mask (knd.hash k)) i').j→es[i]? =some e→¬fG knd s.heap k e)→
   wpAny (model prog w) A (setSearchFrom S (.ref x) (knd.hash k) true fuel oa) Q E s
 |d,0,m0,oa,_,x9,_,_=>absurd x9 (Nat.not_lt_zero _)
 |d,fuel+1,m0,oa,ye,x9,tq,hold=>by
  have jc:=T.fits hf
  unfold setSearchFrom
  refine wpAny_bind (wpAny_setState_of ho hd jc ?_)
  dsimp only
  have hg:t.gaveWay=false:=by unfold SetTable.gaveWay;rw[hm];rfl
  rw[hg]
  simp only[Bool.false_eq_true,if_false]
  rw[tq]
  generalize pA:t.probe _ (knd.hash k) _=met
  have En:(it t.mask (st t.mask (knd.hash k)) m0).dummy=none:=UM _ _ _
  have iY:∀i,it t.mask (it t.mask (st t.mask (knd.hash k)) m0) i=it t.mask (st t.mask (knd.hash k)) (m0+i):=fun i=> (We _ _ _ _).symm
  rcases Lb (es:=es) T En (n:=d) (by omega) (fun i hi=>by rw[iY];exact h1 _ (by omega)) (by rw[iY,ye];exact h2) pA (fun i=>rfl) with ⟨rfl,g2⟩ |⟨c,i,e,g1,g2,g3,g4,rfl,g5⟩
  ·dsimp only
   rw[iY,ye]
   refine wpAny_pure (yq ?_)
   rintro⟨e,he,el⟩
   obtain⟨i,hi,rfl⟩:=List.getElem_of_mem he
   have aR:es[i]? =some es.toList[i]:=by rw[←Array.getElem?_toList];exact List.getElem?_eq_getElem hi
   obtain⟨j,hj,hz⟩:=Gw T aR
   obtain⟨a,ea,jQ,eh⟩:=id el
   obtain⟨nn,eU,k6⟩:=T.ld _ hz
   dsimp only at eU k6
   rw[eh]at eU k6
   have ak:nn<n:=by
    rcases Nat.lt_trichotomy nn n with q |q |q
    ·exact q
    ·rw[q]at eU
     exact absurd (by rw[eU];exact Gv hj) h2
    ·exact absurd (k6 n q) h2
   by_cases D6:nn<m0
   ·exact hold nn D6 i _ (by rw[eU];exact hj) aR el
   ·obtain⟨c,rfl⟩:∃c,nn=m0+c:=⟨nn - m0,by omega⟩
    exact g2 c (by omega) i _ (by rw[iY,eU];exact hj) aR eh
  ·have ue:e∈es.toList:=by rw[←Array.getElem?_toList]at g3;exact List.mem_of_getElem? g3
   obtain⟨k2,b,eb,jP,yE⟩:=lh e ue
   rw[iY]at g2
   have DI:∀y∈List.map (fun x=>x.snd) (Array.filter (fun x=>x.fst==knd.hash k) es).toList,∃k' b,y=Value.ref b∧knd.is s.heap k' b:=fun y hy=>by
    obtain⟨z,hz,rfl⟩:=List.mem_map.mp hy
    have bh:z∈es.toList:=by
     rw[Array.toList_filter]at hz
     exact(List.mem_filter.mp hz).1
    obtain⟨k3,b3,e3,h3,_⟩:=lh z bh
    exact⟨k3,b3,e3,h3⟩
   have xy:t.slot (it t.mask (it t.mask (st t.mask (knd.hash k)) m0) c).j=.live i:=WB T.fL (by rw[iY];exact g2)
   have xD:¬k2=k→wpAny (model prog w) A (setSearchFrom S (.ref x) (knd.hash k) true fuel (some (it t.mask (it t.mask (st t.mask (knd.hash k)) m0) (c+1)))) Q E s:=fun cw=>by
    refine Wx hk hroom hx ho hd T hm hf lh hn h1 h2 um yq (d - c - 1) fuel (m0+c+1) _ (by omega) (by omega) (by rw[iY];rfl) fun i' aR i2 e2 dE pM uL=> ?_
    by_cases q1:i'<m0
    ·exact hold i' q1 i2 e2 dE pM uL
    ·by_cases q2:i'<m0+c
     ·obtain⟨c',rfl⟩:∃c',i'=m0+c':=⟨i' - m0,by omega⟩
      obtain⟨_,_,_,E6⟩:=uL
      exact g5 c' (by omega) i2 e2 (by rw[iY];exact dE) pM E6
     ·have e0:i'=m0+c:=by omega
      subst e0
      have ei:i2=i:=(YJ T.fL dE).symm.trans (YJ T.fL g2)
      subst ei
      rw[g3]at pM
      cases pM
      obtain⟨b',yG,tX,_⟩:=uL
      rw[eb]at yG
      cases yG
      exact cw (knd.inj jP tX)
   dsimp only
   cases hl:t.led with
   |false=>
    simp only[Bool.not_false,if_true]
    refine wpAny_bind (Ir hk hx DI ?_)
    simp only[Bool.false_eq_true,if_false]
    rw[g3]
    dsimp only
    refine wpAny_bind (wpAny_holding ?_)
    rw[eb]
    refine knd.eqBool hroom jP hx ?_
    refine wpAny_bind (wpAny_setState_of ho hd jc ?_)
    by_cases hq:k2=k
    ·rw[decide_eq_true hq]
     simp only[Bool.and_self,if_true]
     refine wpAny_pure (um ⟨e,ue,b,eb,by rw[←hq];exact jP,by rw[←hq];exact yE⟩)
    ·rw[decide_eq_false hq]
     simp only[Bool.and_false,Bool.false_eq_true,if_false]
     have tw:t.sameMemory t.moves t.mask=some true:=by unfold SetTable.sameMemory;simp
     rw[tw]
     dsimp only
     rw[if_pos rfl,xy]
     dsimp only
     rw[g3]
     dsimp only
     rw[eb]
     refine wpAny_bind (wpAny_isSame_ref_self ?_)
     refine wpAny_bind (wpAny_pure ?_)
     rw[if_pos rfl]
     dsimp only
     exact xD hq
   |true=>
    simp only[Bool.not_true,Bool.false_eq_true,if_false]
    rw[g3]
    dsimp only
    refine wpAny_bind (wpAny_holding ?_)
    rw[eb]
    refine knd.eqBool hroom jP hx ?_
    refine wpAny_bind (wpAny_setState_of ho hd jc ?_)
    by_cases hq:k2=k
    ·rw[decide_eq_true hq]
     simp only[Bool.and_self,if_true]
     refine wpAny_pure (um ⟨e,ue,b,eb,by rw[←hq];exact jP,by rw[←hq];exact yE⟩)
    ·rw[decide_eq_false hq]
     simp only[Bool.and_false,Bool.false_eq_true,if_false]
     have tw:t.sameMemory t.moves t.mask=some true:=by unfold SetTable.sameMemory;simp
     rw[tw]
     dsimp only
     rw[if_pos rfl,xy]
     dsimp only
     rw[g3]
     dsimp only
     rw[eb]
     refine wpAny_bind (wpAny_isSame_ref_self ?_)
     refine wpAny_bind (wpAny_pure ?_)
     rw[if_pos rfl]
     dsimp only
     exact xD hq
end
section
variable {prog:Program}{w:World}{K:Type} [DecidableEq K] {knd:HeapKind prog w K}{A:Around}{E:Value→Shared→Prop}{s:Shared}
structure Lp (knd:HeapKind prog w K) (h:Heap) (S:Addr) (ks:List K) (o:Obj) (es:Array (Int×Value)) (ep:Nat) (t:SetTable):Prop where
 ho:h.get? S=some o
 ex:o.ExactSet
 hd:o.data=.set es ep t
 T:T0 t es
 room:fB t.mask es.size
 el:∀e∈es.toList,∃k∈ks,fG knd h k e
 all:∀k∈ks,∃e∈es.toList,fG knd h k e
 sz:es.size=ks.length
def hU (knd:HeapKind prog w K) (h:Heap) (S:Addr) (ks:List K):Prop:=∃o es ep t,Lp knd h S ks o es ep t
theorem YQ (hk:HK knd) {h h':Heap}{S:Addr}{o:Obj}{es ep t} (ho:h.get? S=some o) (hd:o.data=.set es ep t) (hs:Heap.SameBut S h h') {k:K}{e:Int×Value}(x:fG knd h k e):fG knd h' k e:=by
 obtain⟨a,e1,e2,e3⟩:=x
 exact⟨a,e1,hk.C8 e2 ho hd hs,e3⟩
theorem KD {S:Addr}{o:Obj}{es:Array (Int×Value)}{ep:Nat}{t:SetTable}{Q:Unit→Shared→Prop}(ho:s.heap.get? S=some o) (hd:o.data=.set es ep t) (hf:t.fits es.size=true) {wanted:Nat}(hm:ff (sizeAbove wanted - 1)) (hw:sizeAbove wanted≤512) (hl:es.size≤sizeAbove wanted - 1)
  (h:∀eX t',t'.mask=sizeAbove wanted - 1→T0 t' eX→eX.toList.Perm es.toList→Q () {s with heap:=s.heap.update S (Obj.putSet eX t')}):wpAny (model prog w) A (setRelay S wanted) Q E s:=by
 unfold setRelay
 refine wpAny_bind (wpAny_setState_of ho hd hf ?_)
 dsimp only
 rw[if_neg (by rw[sizeLine_eq];omega)]
 obtain⟨t',order,e,em,T',pm⟩:=WL hm es (by omega) t.finger (t.movedTo (sizeAbove wanted - 1)) t.led t.plain
 have er:t.relaid (es.map (·.1)) wanted=some (t',order):=e
 rw[er]
 refine wpAny_bind ?_
 have hz:(order.filterMap (es[·]?)).size=es.size:=by rw[←Array.length_toList,pm.length_eq,Array.length_toList]
 refine(show wpAny _ _ (if ((order.filterMap (es[·]?)).size !=es.size)=true then _ else pure _) _ _ s from ?_)
 rw[if_neg (by rw[hz];simp)]
 refine wpAny_pure ?_
 dsimp only
 refine wpAny_storeSet_of ho hd (h _ _ em T' pm) (by rw[hz,sizeLine_eq];omega)
theorem JK {h:Heap}{S:Addr}{o:Obj}{es:Array (Int×Value)}{ep:Nat}{t:SetTable}(ho:h.get? S=some o) (hd:o.data=.set es ep t) (eX:Array (Int×Value)) (t':SetTable):(h.update S (Obj.putSet eX t')).get? S=some {o with data:=.set eX (ep+1) t'} :=by
 have:=Heap.get?_update_self (Obj.putSet eX t') ho (by rw[putSet_of eX t' hd];rfl)
 rw[putSet_of eX t' hd]at this
 exact this
theorem GD (hk:HK knd) {S x:Addr}{k:K}{ks:List K}{Q:Bool→Shared→Prop}(hroom:knd.room A) (hx:knd.is s.heap k x) (H:hU knd s.heap S ks) (hn:ks.length+1≤306)
  (h:∀h' b,Heap.SameBut S s.heap h'→hU knd h' S (if k∈ks then ks else ks++[k])→Q b {s with heap:=h'}):
  wpAny (model prog w) A (setAddHashed S (.ref x) (knd.hash k)) Q E s:=by
 obtain⟨o,es,ep,t,H⟩:=H
 have jc:=H.T.fits (Nat.le_of_lt (Nat.lt_of_succ_lt H.room.lt))
 unfold setAddHashed setAddHashedIn
 refine wpAny_holding (wpAny_bind (wpAny_setState_of H.ho H.hd jc ?_))
 dsimp only
 have hb:byScan (.ref x) es=false:=rfl
 rw[hb]
 simp only[Bool.false_eq_true,if_false]
 obtain⟨f,hf,Ej⟩:=H.T.free (by have:=H.room.lt;omega)
 obtain⟨n,pF,pE,pD⟩:=Wh (cN:=(·∈t.place.toList)) H.room.kQ (knd.hash k) hf Ej
 have odd:t.mask%2=1:=by rcases H.room.kQ with q |q |q |q<;>rw[q]
 unfold setSearch
 refine wpAny_bind ?_
 refine Wx hk hroom hx H.ho H.hd H.T odd (by have:=H.room.lt;omega) (fun e he=>let ⟨k',_,el⟩:=H.el e he;⟨k',el⟩) pF pE pD (fun Du=> ?_) (fun Ei=> ?_) n 100000 0 none (by omega) ?_ rfl (fun i' aR=>absurd aR (Nat.not_lt_zero _))
 ·dsimp only
  refine wpAny_pure ?_
  have cP:k∈ks:=by
   obtain⟨e,he,a,ea,jQ,_⟩:=Du
   obtain⟨k',aQ,a',yH,Ee,_⟩:=H.el e he
   rw[ea]at yH
   cases yH
   rw[knd.inj jQ Ee]
   exact aQ
  have:=h s.heap false (Heap.SameBut.refl _ _) (by rw[if_pos cP];exact⟨o,es,ep,t,H⟩)
  exact this
 ·dsimp only
  have cP:k∉ks:=fun m=>Ei (H.all k m)
  refine wpAny_bind (wpAny_setState_of H.ho H.hd jc ?_)
  dsimp only
  generalize Em:(it t.mask (st t.mask (knd.hash k)) n).j=f'
  have Tp:=fun pl=>H.T.put (x:=.ref x) pE pD pl
  rw[Em]at Tp
  have j5:(insertAt es (t.put f').2 (knd.hash k,.ref x)).size=es.size+1:=by rw[←Array.length_toList,(insertAt_perm es _ _).length_eq,Array.length_toList,Array.size_push]
  have uJ:∀e,e∈(insertAt es (t.put f').2 (knd.hash k,Value.ref x)).toList↔e∈es.toList∨e=(knd.hash k,Value.ref x):=fun e=>by
   rw[(insertAt_perm es _ _).mem_iff,Array.toList_push,List.mem_append,List.mem_singleton]
  have lh:∀e∈(insertAt es (t.put f').2 (knd.hash k,Value.ref x)).toList,∃k'∈ks++[k],fG knd s.heap k' e:=fun e he=>by
   rcases (uJ e).mp he with q |q
   ·obtain⟨k',h1,h2⟩:=H.el e q
    exact⟨k',List.mem_append_left _ h1,h2⟩
   ·exact⟨k,by simp,x,by rw[q],hx,by rw[q]⟩
  have yk:∀k'∈ks++[k],∃e∈(insertAt es (t.put f').2 (knd.hash k,Value.ref x)).toList,fG knd s.heap k' e:=fun k' aQ=>by
   rcases List.mem_append.mp aQ with q |q
   ·obtain⟨e,h1,h2⟩:=H.all k' q
    exact⟨e,(uJ e).mpr (.inl h1),h2⟩
   ·rw[List.mem_singleton.mp q]
    exact⟨_,(uJ _).mpr (.inr rfl),x,rfl,hx,rfl⟩
  have xR:(insertAt es (t.put f').2 (knd.hash k,Value.ref x)).size=(ks++[k]).length:=by rw[j5,List.length_append,List.length_singleton,H.sz]
  have h':=fun h' b=>h h' b
  rw[if_neg cP]at h'
  generalize ME:insertAt es (t.put f').2 (knd.hash k,Value.ref x)=bZ at *
  have tail:∀t1,(∃pl,t1= {(t.put f').1 with plain:=pl})→wpAny (model prog w) A (storeSet S bZ t1 >>=fun _=>if (!false&&t1.tooFull)=true then (setRelay S (grown (es.size+1)) >>=fun _=>pure true) else pure true) Q E s:=by
   rintro t1 ⟨pl,rfl⟩
   have T1:=Tp pl
   have g1:=JK H.ho H.hd bZ {(t.put f').1 with plain:=pl}
   have sb:=Heap.SameBut.update s.heap S (Obj.putSet bZ {(t.put f').1 with plain:=pl})
   refine wpAny_bind (wpAny_storeSet_of H.ho H.hd ?_ (by rw[j5,sizeLine_eq];have:=H.room.small;omega))
   have fill:({(t.put f').1 with plain:=pl} :SetTable).tooFull=decide ((es.size+1)*5≥t.mask*3):=by
    unfold SetTable.tooFull SetTable.fill
    have a:({(t.put f').1 with plain:=pl} :SetTable).place.size=es.size+1:=by rw[T1.sz,j5]
    have b:=T1.j6
    rw[b,a]
    rfl
   rw[fill]
   rcases grow H.room (by rw[H.sz];exact hn) with ⟨q1,q2,q3⟩ |⟨q1,q2⟩
   ·rw[decide_eq_true q1]
    simp only[Bool.not_false,Bool.and_self,if_true]
    refine wpAny_bind (KD g1 rfl (T1.fits (by rw[j5];exact Nat.le_of_lt H.room.lt)) q2.kQ q3 (by have:=q2.lt;rw[j5];omega) fun jg t2 E4 T2 sH=>wpAny_pure (h' _ true (sb.trans (Heap.SameBut.update _ S _)) ?_))
    have vM:jg.size=bZ.size:=by rw[←Array.length_toList,sH.length_eq,Array.length_toList]
    have vZ:=sb.trans (Heap.SameBut.update _ S (Obj.putSet jg t2))
    exact⟨_,jg,ep+1+1,t2,JK g1 rfl jg t2,H.ex,rfl,T2,by rw[E4,vM,j5];exact q2,fun e he=>let ⟨k',a,b⟩:=lh e (sH.mem_iff.mp he);⟨k',a,YQ hk H.ho H.hd vZ b⟩,fun k' aQ=>let ⟨e,a,b⟩:=yk k' aQ;⟨e,sH.mem_iff.mpr a,YQ hk H.ho H.hd vZ b⟩,by rw[vM,xR]⟩
   ·rw[decide_eq_false q1]
    simp only[Bool.not_false,Bool.and_false,Bool.false_eq_true,if_false]
    refine wpAny_pure (h' _ true sb ?_)
    exact⟨_,bZ,ep+1,_,g1,H.ex,rfl,T1,by rw[j5];exact q2,fun e he=>let ⟨k',a,b⟩:=lh e he;⟨k',a,YQ hk H.ho H.hd sb b⟩,fun k' aQ=>let ⟨e,a,b⟩:=yk k' aQ;⟨e,a,YQ hk H.ho H.hd sb b⟩,xR⟩
  split
  ·refine wpAny_bind (hk.FX hx fun b=> ?_)
   cases b with
   |true=>exact tail _ ⟨(t.put f').1.plain,rfl⟩
   |false=>exact tail _ ⟨false,rfl⟩
  ·refine wpAny_bind (wpAny_pure ?_)
   exact tail _ ⟨(t.put f').1.plain,rfl⟩
 ·have:10*turns t.mask≤5260:=by
   unfold turns
   rcases H.room.kQ with q |q |q |q<;>rw[q]<;>decide
  omega
end
end HS
namespace HS
open PySem PySem.SetTable PySem.Spec
theorem HD (n:Nat) {v:Value}(h:carriedByValue v=true):∃b,hashByValue n v=pure b:=by
 cases n<;>cases v<;>first |exact⟨_,rfl⟩ |(simp[carriedByValue]at h)
theorem HU (n:Nat) {v:Value}(h:carriedByValue v=true):ofAClassStatement n v=pure false:=by
 cases n<;>cases v<;>first |rfl |(simp[carriedByValue]at h) |(unfold ofAClassStatement;rfl)
section
variable {prog:Program}{w:World}{K:Type} [DecidableEq K] {knd:KeyKind prog w K}{A:Around}{E:Value→Shared→Prop}{s:Shared}
theorem UZ {ks:List K}{a:Addr}{Q:Bool→Shared→Prop}(hk:IsTupleKey knd s.heap ks a) (h:∀b,Q b s):wpAny (model prog w) A (hashByValue 8 (.ref a)) Q E s:=by
 have hT:=hk.typeIs
 obtain⟨o,items,n,ho,_,hd,hi⟩:=hk
 unfold hashByValue
 refine wpAny_bind (wpAny_specialOf hT F.slot_tuple_hash.lookup ?_)
 refine(show wpAny _ _ (seqItems? (.ref a) >>=_) _ _ s from wpAny_bind (wpAny_seqItems ho hd ?_))
 refine wpAny_bind ?_
 show wpAny _ _ (forIn items _ _) _ _ s
 rw[←Array.forIn_toList]
 refine wpAny_forIn_list _ (fun rest r s'=>r.1=none∧s'=s∧∀v∈rest,carriedByValue v=true) _ ?_ ?_ _ _ ⟨rfl,rfl,hi.byValue⟩
 ·rintro v rest r s' ⟨hr,rfl,cz⟩
  obtain⟨b,e⟩:=HD 7 (cz v List.mem_cons_self)
  rw[e]
  refine wpAny_bind (wpAny_pure ?_)
  cases b with
  |true=>
   simp only[Bool.not_true,Bool.false_eq_true,if_false]
   exact wpAny_pure ⟨rfl,rfl,fun u iz=>cz u (List.mem_cons_of_mem _ iz)⟩
  |false=>
   simp only[Bool.not_false,if_true]
   exact wpAny_pure (wpAny_pure (h false))
 ·rintro⟨r1,r2⟩ s' ⟨hr,rfl,_⟩
  simp only at hr
  subst hr
  exact wpAny_pure (h true)
theorem Uc {ks:List K}{a:Addr}{Q:Bool→Shared→Prop}(hk:IsTupleKey knd s.heap ks a) (h:Q false s):wpAny (model prog w) A (ofAClassStatement 8 (.ref a)) Q E s:=by
 have hT:=hk.typeIs
 obtain⟨o,items,n,ho,_,hd,hi⟩:=hk
 unfold ofAClassStatement
 refine wpAny_bind (wpAny_typeOf hT ?_)
 dsimp only
 rw[if_pos (by decide)]
 refine wpAny_bind (wpAny_pure ?_)
 simp only[Bool.not_true,Bool.false_eq_true,if_false]
 refine wpAny_bind (wpAny_seqItems ho hd ?_)
 dsimp only
 refine wpAny_bind ?_
 rw[←Array.forIn_toList]
 refine wpAny_forIn_list _ (fun rest r s'=>r.1=none∧s'=s∧∀v∈rest,carriedByValue v=true) _ ?_ ?_ _ _ ⟨rfl,rfl,hi.byValue⟩
 ·rintro v rest r s' ⟨hr,rfl,cz⟩
  rw[HU 7 (cz v List.mem_cons_self)]
  refine wpAny_bind (wpAny_pure ?_)
  simp only[Bool.false_eq_true,if_false]
  exact wpAny_pure ⟨rfl,rfl,fun u iz=>cz u (List.mem_cons_of_mem _ iz)⟩
 ·rintro⟨r1,r2⟩ s' ⟨hr,rfl,_⟩
  simp only at hr
  subst hr
  exact wpAny_pure h
theorem HF (knd:KeyKind prog w K):HK (tupleKind knd):=by
 refine⟨fun hk h=>UZ hk h,fun hk h=>Uc hk h,?_⟩
 intro h h' k a d o es ep t x ho hd hs
 obtain⟨o',items,n,dF,hc,jU,hi⟩:=x
 have cw:a≠d:=by
  rintro rfl
  obtain rfl:o'=o:=Option.some.inj (dF.symm.trans ho)
  rw[hd]at jU
  exact nomatch jU
 exact⟨o',items,n,(hs.2 a cw).trans dF,hc,jU,hi⟩
end
section
variable {K:Type} [DecidableEq K]
def met (val:Nat→K):Nat→List K
 |0=> []
 |n+1=>if val n∈met val n then met val n else met val n++[val n]
theorem Jd (val:Nat→K) (n:Nat):met val (n+1)=if val n∈met val n then met val n else met val n++[val n]:=rfl
theorem Ud (val:Nat→K):∀n,(met val n).length≤n
 |0=>Nat.le_refl _
 |n+1=>by
  rw[Jd]
  have:=Ud val n
  split
  ·omega
  ·rw[List.length_append,List.length_singleton];omega
theorem zA (val:Nat→K):∀n k,k∈met val n↔k∈(List.range n).map val
 |0,k=>by simp[met]
 |n+1,k=>by
  rw[List.range_succ,List.map_append,List.mem_append,←zA val n k,Jd]
  split
  ·rename_i h
   simp only[List.map_cons,List.map_nil,List.mem_singleton]
   exact⟨.inl,fun z=>z.elim id fun e=>by rw[e];exact h⟩
  ·simp
theorem w9 (val:Nat→K):∀n,((met val n).length=n↔((List.range n).map val).Nodup)
 |0=>by simp[met]
 |n+1=>by
  have ih:=w9 val n
  have le:=Ud val n
  have mm:=zA val n (val n)
  rw[List.range_succ,List.map_append]
  have nd:((List.range n).map val++List.map val [n]).Nodup↔((List.range n).map val).Nodup∧¬val n∈(List.range n).map val:=by
   rw[List.nodup_append]
   constructor
   ·rintro⟨h1,_,h3⟩
    exact⟨h1,fun m=>h3 _ m (val n) (by simp) rfl⟩
   ·rintro⟨h1,h2⟩
    refine⟨h1,by simp,fun a ha b hb q=>h2 ?_⟩
    have dY:b=val n:=by simpa using hb
    rw[←dY,←q];exact ha
  rw[nd,←ih,←mm,Jd]
  split
  ·rename_i h
   constructor
   ·intro z;omega
   ·rintro⟨_,z⟩;exact absurd h z
  ·rename_i h
   rw[List.length_append,List.length_singleton]
   constructor
   ·intro z;exact⟨by omega,h⟩
   ·rintro⟨z,_⟩;omega
variable {prog:Program}{w:World}{kk:KeyKind prog w K}{A:Around}{E:Value→Shared→Prop}{s:Shared}{R:Result→Shared→Prop}{I:Addr}{fp wr:List Addr}{G:Array GenState→Array GenState→Prop}{n:Nat}{P:Nat→Value→Prop}{St:Nat→Shared→Prop}
def nH (h:Heap) (b:Addr):Prop:=∃o,h.get? b=some o∧o.cls≠.type "tuple"
theorem Jg {h h':Heap}{ws:List Addr}{ks:List K}{a:Addr}(hw:∀b∈ws,nH h b) (pJ:∀b o,b∉ws→h.get? b=some o→h'.get? b=some o) (x:IsTupleKey kk h ks a):IsTupleKey kk h' ks a:=by
 obtain⟨o',items,n,dF,hc,jU,hi⟩:=x
 have cw:a∉ws:=fun m=>by
  obtain⟨o,ho,hn⟩:=hw a m
  rw[dF]at ho
  cases ho
  exact hn hc
 exact⟨o',items,n,pJ _ _ cw dF,hc,jU,hi⟩
theorem Uv {h h':Heap}{ws:List Addr}{S:Addr}{ks:List (List K)}(hw:∀b∈ws,nH h b) (hS:S∉ws) (pJ:∀b o,b∉ws→h.get? b=some o→h'.get? b=some o) (x:hU (tupleKind kk) h S ks):hU (tupleKind kk) h' S ks:=by
 obtain⟨o,es,ep,t,X⟩:=x
 have ke:∀{k:List K}{e:Int×Value},fG (tupleKind kk) h k e→fG (tupleKind kk) h' k e:=fun⟨a,e1,e2,e3⟩=> ⟨a,e1,Jg hw pJ e2,e3⟩
 exact⟨o,es,ep,t,pJ _ _ hS X.ho,X.ex,X.hd,X.T,X.room,fun e he=>let ⟨k,a,b⟩:=X.el e he;⟨k,a,ke b⟩,fun k hk=>let ⟨e,a,b⟩:=X.all k hk;⟨e,a,ke b⟩,X.sz⟩
theorem Km {h:Heap}{S:Addr}{ks:List (List K)}(x:hU (tupleKind kk) h S ks):nH h S:=by
 obtain⟨o,es,ep,t,X⟩:=x
 exact⟨o,X.ho,by rw[X.ex.1];decide⟩
theorem CZ (hroom:A.in1.units<cLine) (W:WalksS prog w A.in1 I fp wr G n P St) (S:Addr) (ng:S∉fp) (val:Nat→List K) (hb:n≤305) (hI:∀i s,St i s→∀b∈wr,nH s.heap b):
  ∀(k i:Nat) (s:Shared),n - i=k→i≤n→St i s→hU (tupleKind kk) s.heap S (met val i)→(∀i v,P i v→∃a,v=.ref a∧IsTupleKey kk s.heap (val i) a)→
   (∀s',Moved (S::wr) G s s'→hU (tupleKind kk) s'.heap S (met val n)→R (.ok (.ret .none)) s')→
   codeAny (model prog w) A (.builtin "set.update.loop" ⟨[.ref S,.ref I],[]⟩) R s:=by
 have m9:S∉wr:=fun h=>ng (W.sub _ h)
 have fV:∀b∈wr,b∈S::wr:=fun b hb=>List.mem_cons_of_mem _ hb
 intro k
 induction k with
 |zero=>
  intro i s aQ hi dN hS lj hR
  have mR:i=n:=by omega
  subst mR
  refine codeAny_builtin PyProof.Rows.F.entry_set_update_loop ?_
  rw[Around.under_plainId PyProof.Rows.F.plain_set_update_loop _]
  show wpAny _ A.in1 (pyNext (.ref I) >>=_) _ _ s
  refine wpAny_bind (W.done s _ _ dN fun s' hm=> ?_)
  show wpAny _ A.in1 (ret Value.none) _ _ s'
  exact wpAny_pure (hR s' (hm.mono fV) (Uv (hI _ _ dN) m9 (fun b o hb e=>hm.heap b o hb e) hS))
 |succ k ih=>
  intro i s aQ hi dN hS lj hR
  have ak:i<n:=by omega
  refine codeAny_builtin PyProof.Rows.F.entry_set_update_loop ?_
  rw[Around.under_plainId PyProof.Rows.F.plain_set_update_loop _]
  show wpAny _ A.in1 (pyNext (.ref I) >>=_) _ _ s
  refine wpAny_bind (W.item i s _ _ ak dN fun v s' hP tm hm=> ?_)
  have kp:∀b o,b∉wr→s.heap.get? b=some o→s'.heap.get? b=some o:=fun b o hb e=>hm.heap b o hb e
  have cI:=Uv (hI _ _ dN) m9 kp hS
  have yo:∀i v,P i v→∃a,v=.ref a∧IsTupleKey kk s'.heap (val i) a:=fun i v hv=>let ⟨a,e,x⟩:=lj i v hv;⟨a,e,Jg (hI _ _ dN) kp x⟩
  obtain⟨a,rfl,jQ⟩:=yo i v hP
  show wpAny _ A.in1 (holding [Value.ref a] (setAdd S (.ref a)) >>=_) _ _ s'
  refine wpAny_bind (wpAny_holding ?_)
  unfold setAdd
  refine wpAny_holding ?_
  refine wpAny_bind ((tupleKind kk).pyHash hroom jQ ?_)
  refine GD (s:= {s' with toks:=s'.toks+(tupleKind kk).draws (val i)}) (HF kk) hroom jQ cI (by have:=Ud val i;omega) fun h' b sb uq=> ?_
  have BB:∀b o,b∉[S]→s'.heap.get? b=some o→h'.get? b=some o:=fun b o hb e=>by
   rw[sb.2 b (fun z=>hb (by rw[z];exact List.mem_singleton.mpr rfl))];exact e
  have nS:∀b∈[S],nH s'.heap b:=fun b hb=>by rw[List.mem_singleton.mp hb];exact Km cI
  refine wpAny_pure ⟨plainId_quiet PyProof.Rows.F.plain_set_update_loop _,ih (i+1) _ (by omega) ak (W.frame _ s' _ _ tm (Nat.le_add_right _ _) fun b hb o e=> ?_) (by rw[Jd];exact uq) (fun i v hv=>let ⟨a,e,x⟩:=yo i v hv;⟨a,e,Jg nS BB x⟩) fun ig tP uu=> ?_⟩
  ·rw[sb.2 b (fun h:b=S=>ng (by rw[←h];exact hb))];exact e
  ·refine hR ig (Moved.trans W.gtrans ((hm.mono fV).then_heap (Nat.le_add_right _ _) fun b o hb e=> ?_) tP) uu
   rw[sb.2 b (fun h:b=S=>hb (by rw[h];exact List.mem_cons_self))];exact e
end
section
variable {K:Type} [DecidableEq K] {prog:Program}{w:World}{kk:KeyKind prog w K}{A:Around}{E:Value→Shared→Prop}{s:Shared}
abbrev cV (led:Bool):Obj:= {cls:=.type "set",dict:=none,data:=.set #[] 0 (.fresh 0 0 led)}
theorem KO {h:Heap}{S:Addr}(led:Bool) (g:h.get? S=some (cV led)):hU (tupleKind kk) h S []:=by
 refine⟨_, #[],0,_,g,⟨rfl,rfl,rfl⟩,rfl,⟨rfl,.nil,rfl,fun j hj=> ?_,fun z hz=> ?_⟩,.inl ⟨rfl,Nat.zero_le _⟩,fun e he=> ?_,fun k hk=> ?_,rfl⟩
 ·exact absurd hj (by simp[SetTable.fresh])
 ·exact absurd hz (by simp[SetTable.fresh])
 ·exact absurd he (by simp)
 ·exact absurd hk (by simp)
set_option maxHeartbeats 8000000 in
theorem FU {l:Addr}{items:Array Value}{val:Nat→List K}{Q:Value→Shared→Prop}
  (hh:A.handled=none) (hu:A.in1.in1.in1.units<cLine) (hl:s.heap.IsList l items) (hi:∀i v,items[i]? =some v→∃a,v=.ref a∧IsTupleKey kk s.heap (val i) a) (hb:items.size≤305)
  (h:∀(h':Heap) (tk:Nat),hU (tupleKind kk) h' s.heap.objs.size (met val items.size)→(∀b o,b<s.heap.objs.size→s.heap.get? b=some o→h'.get? b=some o)→Q (.ref s.heap.objs.size) {s with heap:=h',toks:=tk}):
  wpAny (model prog w) A (call (.type "set") [.ref l]) Q E s:=by
 have cS:=F.called_set
 obtain⟨c0,Au,CP⟩:=cS.mro
 have CT:=cS.made;have A5:=cS.sub
 refine wpAny_call (codeAny_of_tree (show wpAny _ _ (callAny (.type "set") _) _ _ _ from ?_))
 refine wpAny_pure ⟨Code.quiet_builtin _ (by decide+kernel),codeAny_builtin F.entry_type_call ?_⟩
 rw[Around.under_plain (weight_type_call_type "set" [.ref l] []) rfl]
 have k1:=cS.notType;have k2:=cS.canCreate;have k3:=F.typeCall_set_1 (.ref l)
 repeat (any_goals (first |assumption |wp_step))
 refine codeAny_mono (code_set_new_1 (.ref l) (E:=E) (Q₁:=fun ob aA=> ∃led:Bool,ob=.ref s.heap.objs.size∧aA= {s with heap:=s.heap.push (cV led)}) fun led=> ⟨led,rfl,rfl⟩) fun sv aA j4=> ?_
 cases sv with
 |error e=>exact j4
 |ok uE=>
  cases uE with
  |ret ob=>
   obtain⟨led,rfl,rfl⟩:=j4
   have gS:(s.heap.push (cV led)).get? s.heap.objs.size=some (cV led):=Heap.get?_push_size _ rfl
   have tS:Shared.TypeIs {s with heap:=s.heap.push (cV led)} (.ref s.heap.objs.size) "set" :=⟨_,gS,rfl⟩
   have C1:=cS.init.lookup;have FY:=cS.init.bind (.ref s.heap.objs.size)
   repeat (any_goals (first |assumption |wp_step))
   refine codeAny_mono (codeAny_call_builtin (R:=wants (fun r h9=>r=.none∧∃h' tk,h9= {s with heap:=h',toks:=tk}∧hU (tupleKind kk) h' s.heap.objs.size (met val items.size)∧(∀b o,b<s.heap.objs.size→s.heap.get? b=some o→h'.get? b=some o)) E) cS.init.plain F.entry_set_init (check_set_init_1 tS ?_)) fun su h9 j0=> ?_
   ·obtain⟨⟨lc,ld,lt,ls⟩,jN,je,nl,mV⟩:=hl
    simp only at je mV
    subst je;subst mV
    have tL:=Heap.get?_push_of_some (cV led) jN
    have Ba:=F.sub_list_set;have gJ:=F.sub_list_frozenset
    have CD:(Value.type "list" ==Value.type "dict")=false:=by decide
    have jb:(s.heap.push (cV led)).IsList l items:=⟨_,tL,rfl,nl,rfl⟩
    unfold Builtin.«set.__init__» noKeywords Builtin.Frozenset.updateFrom
    generalize uv:pyIter=PI
    wp_walk
    subst uv
    refine wpAny_pyIter_list jb (wpAny_bind (wpAny_runValue ?_))
    have mj:l<s.heap.objs.size:=Heap.lt_size jN
    have tZ:A.in1.in1.in1.handled=none:=by simp[hh]
    have nI:l≠(s.heap.push (cV led)).objs.size:=by rw[Heap.size_push];exact Nat.ne_of_lt (Nat.lt_succ_of_lt mj)
    have Sf:s.heap.objs.size∉[(s.heap.push (cV led)).objs.size,l]:=by
     rw[Heap.size_push]
     simp only[List.mem_cons,List.mem_singleton,List.not_mem_nil,or_false,not_or]
     exact⟨Nat.ne_of_lt (Nat.lt_succ_self _),Nat.ne_of_gt mj⟩
    refine CZ (kk:=kk) ?hroom ((Walks.list tZ _ l nI items).toS) s.heap.objs.size Sf val hb ?hI (items.size - 0) 0 _ (by omega) (Nat.zero_le _) ⟨⟨_,Heap.get?_push_size _ rfl,rfl,rfl⟩,(jb.push _)⟩ ?ur ?lj ?hR
    case hroom=>exact hu
    case hI=>
     rintro i s1 ⟨⟨o1,e1,e2,_⟩,_⟩ b hb
     rw[List.mem_singleton.mp hb]
     exact⟨o1,e1,by rw[e2];decide⟩
    case ur=>exact KO led (Heap.get?_push_of_some _ gS)
    case lj=>
     intro i v hv
     obtain⟨a,e,x⟩:=hi i v hv
     refine⟨a,e,Jg (ws:=[]) (fun b hb=>absurd hb (by simp)) (fun b o _ eb=>Heap.get?_push_of_some _ (Heap.get?_push_of_some _ eb)) x⟩
    case hR=>
     rintro⟨h',g',d',kB,jA⟩ hm cI
     obtain rfl:g'=s.gens:=hm.gens
     obtain rfl:d'=s.drawn:=hm.drawn
     obtain rfl:jA=s.os:=hm.os
     show wpAny _ _ _ _ _ _
     refine wpAny_pure (show wpAny _ _ (ret Value.none) _ _ _ from wpAny_pure ⟨rfl,h',kB,rfl,cI,fun b o hb e=> ?_⟩)
     refine hm.heap b o ?_ (Heap.get?_push_of_some _ (Heap.get?_push_of_some _ e))
     simp only[List.mem_cons,List.mem_singleton,List.not_mem_nil,or_false,not_or]
     exact⟨Nat.ne_of_lt hb,by rw[Heap.size_push];exact Nat.ne_of_lt (Nat.lt_succ_of_lt hb)⟩
   ·cases su with
    |error e=>exact j0
    |ok uD=>
     cases uD with
     |ret r=>
      obtain⟨rfl,h',tk,rfl,cI,aQ⟩:=j0
      repeat (any_goals (first |assumption |wp_step))
      exact h _ _ cI aQ
     |_=>exact j0.elim
  |_=>exact j4.elim
end
end HS
namespace L2
open PySem PySem.Spec PyProof.Rows
def fR (ks:List (List Int)):Nat:=(HS.met (fun i=>ks.getD i []) ks.length).length
theorem GQ (ks:List (List Int)):fR ks=ks.length↔ks.Nodup:=by
 unfold fR
 rw[HS.w9]
 have e:(List.range ks.length).map (fun i=>ks.getD i [])=ks:=by
  refine List.ext_getElem (by simp) fun i h1 h2=> ?_
  rw[List.getElem_map,List.getElem_range,List.getD_eq_getElem?_getD,List.getElem?_eq_getElem h2,Option.getD_some]
 rw[e]
theorem items_int {prog:Program}{w:World} :∀{ks:List Int}{us:List Value},Vals (ks.map V.int) us→ItemsAre (intKind prog w) ks us
 | [],_,.nil=> .nil
 |k::ks,_,.cons r rs=>by
  obtain⟨t,rfl⟩:=r
  exact .cons (intKind_is _ _ _ _) (items_int rs)
section
variable {X:Cx}
theorem Av {pins:List (Addr×Obj)}{σ:St}{H:Hp}{s:Shared}{v:V}{u:Value}{k:List Int}(I:Inv X pins σ H s) (h:cA H v k) (r:RelV v u):∃a,u=.ref a∧IsTupleKey (intKind X.prog X.w) s.heap k a:=by
 obtain⟨t,rfl,ht⟩:=h
 cases r
 obtain⟨us,rv,⟨o,ho,hc,n,hd⟩,_⟩:=I.tuple (af.of ht)
 exact⟨t,rfl,o,us.toArray,n,ho,hc,hd,by simpa using items_int rv⟩
def AR (K:PySem.W.Frag) (te:TE):TE:=fun σ H Q=>te σ H fun v H1=> ∃(l:Addr) (ts:List V) (ks:List (List Int)),v=.ref l∧ag K H1 l ts∧Paired (cA H1) ts ks∧ts.length≤305∧Q (.int (fR ks)) H1
theorem Kf {e:Expr}{te:TE}{p p2 pos fM:Pos}(hc:X.calm=true) (hu:X.A.units+4<cLine) (hg:Gl X "len") (hm:X.mg "len" =none) (ua:Gl X "set") (jO:X.mg "set" =none) (he:PE X e te)
  (mK:starEach [.Call (.Name "set" p2) [e] [] fM] X.env=[(false,eval (.Call (.Name "set" p2) [e] [] fM) X.env)]:=by rfl) (fW:starEach [e] X.env=[(false,eval e X.env)]:=by rfl):
  PE X (.Call (.Name "len" p) [.Call (.Name "set" p2) [e] [] fM] [] pos) (AR X.K te):=by
 intro pins s σ H Q I h
 refine wpAny_Call_Name_kw (Z6 I hg hm boot_len ?_)
 refine PyProof.Rows.callWith_builtin1 ?_ mK rfl
 rw[mK]
 show wpAny _ _ (spliced ((false,eval (.Call (.Name "set" p2) [e] [] fM) X.env)::backTo pos (starEach [] X.env))) _ _ s
 refine Calls.spliced_cons ?_
 refine wpAny_Call_Name_kw (Z6 I ua jO boot_set ?_)
 have h2:kD te kC σ H fun vs H1=> ∃v,vs=[v]∧∃(l:Addr) (ts:List V) (ks:List (List Int)),v=.ref l∧ag X.K H1 l ts∧Paired (cA H1) ts ks∧ts.length≤305∧Q (.int (fR ks)) H1:=by
  have e0:(fun(v:V) (H1:Hp)=> ∃v':V,[v]=[v']∧∃(l:Addr) (ts:List V) (ks:List (List Int)),v'=.ref l∧ag X.K H1 l ts∧Paired (cA H1) ts ks∧ts.length≤305∧Q (.int (fR ks)) H1)=(fun(v:V) (H1:Hp)=> ∃(l:Addr) (ts:List V) (ks:List (List Int)),v=.ref l∧ag X.K H1 l ts∧Paired (cA H1) ts ks∧ts.length≤305∧Q (.int (fR ks)) H1):=by
   funext v H1
   refine propext ⟨fun⟨v',z,q⟩=> ?_,fun q=> ⟨v,rfl,q⟩⟩
   cases z
   exact q
  show te σ H (fun(v:V) (H1:Hp)=> ∃v':V,[v]=[v']∧∃(l:Addr) (ts:List V) (ks:List (List Int)),v'=.ref l∧ag X.K H1 l ts∧Paired (cA H1) ts ks∧ts.length≤305∧Q (.int (fR ks)) H1)
  rw[e0]
  exact h
 refine PyProof.Rows.callWith_type1 (au (Za he Zb fW fM pins s σ H _ I h2) fun us s1 ⟨vs,H1,I1,r1,q1⟩=> ?_) fW rfl
 obtain⟨v,rfl,l,ts,ks,rfl,hl,pr,hn,q⟩:=q1
 obtain⟨u,rfl,ru⟩:=vals1 r1
 cases ru
 obtain⟨its,rv,pl,hz⟩:=I1.list hl
 have ll:=rv.length
 have lk:=Paired.length pr
 refine HS.FU (kk:=intKind X.prog X.w) (val:=fun i=>ks.getD i []) (items:=its.toArray) (I1.ok.hd hc) (by show X.A.units+1+1+1<cLine;omega) pl.isList (fun i u iz=> ?_) (by rw[List.size_toArray];omega) fun h' tk hS hk=> ?_
 ·have pe:its[i]? =some u:=by simpa using iz
  have hi:i<ts.length:=by rw[ll];exact(List.getElem?_eq_some_iff.mp pe).1
  obtain⟨u',e1,r2⟩:=rv.get (List.getElem?_eq_getElem hi)
  rw[pe]at e1
  cases e1
  obtain⟨k,hk,tp⟩:=JA pr (List.getElem?_eq_getElem hi)
  obtain⟨a,e,x⟩:=Av I1 tp r2
  refine⟨a,e,?_⟩
  show IsTupleKey _ _ (ks.getD i []) a
  rw[List.getD_eq_getElem?_getD,hk]
  exact x
 ·have I2:Inv X pins σ H1 {s1 with heap:=h',toks:=tk} :=I1.kept fun b o eb=>hk b o (Heap.lt_size eb) eb
  refine Calls.spliced_nil ?_
  obtain⟨o,es,ep,t,SH⟩:=hS
  have sm:=SH.room.small
  refine call_len_set SH.ho SH.ex SH.hd (SH.T.fits (Nat.le_of_lt (Nat.lt_of_succ_lt SH.room.lt))) (by omega) ?_
  have ez:(es.size:Int)=(fR ks:Int):=by
   rw[SH.sz]
   unfold fR
   rw[List.size_toArray,←ll,lk]
  exact⟨.int (fR ks),H1,I2.tok _,⟨_,by rw[←ez]⟩,q⟩
end
end L2
namespace L2
open PySem PySem.Spec PyProof.Rows SeqAt
end L2
namespace L2
open PySem PySem.Spec PyProof.Rows
def nJ (K:PySem.W.Frag) (t:Addr):It:=
 ⟨fun i H=> ∃xs x,ag K H t xs∧xs[i]? =some x,fun i H x H'=> ∃(T:Addr) (y:V),x=.ref T∧H T=none∧H'=upd H T (.par [.int (i:Int),y])∧∀xs,ag K H t xs→xs[i]? =some y,fun i H=> ∃xs,ag K H t xs∧xs.length=i⟩
theorem U8 {P:Program}{w:World}{K:PySem.W.Frag}{elts:List Expr}{kk:Nat}{pos:Pos}(t e j:Addr) (iB:e≠j) (mH:t≠e) (mG:t≠j):
  Turn P w K (.Tuple elts kk pos) (nJ K t) [e,j] e (fun i h=> (∃old,IsEnum h e j i old)∧h.IsListIter j t i) where
 mem:=by simp
 obj:=fun i h st b hb=>by
  obtain⟨⟨old,he⟩,o,ho,hc,hd⟩:=st
  rcases List.mem_cons.mp hb with rfl |hb
  ·exact⟨_,he,fun v z=>by cases z⟩
  ·rw[List.mem_singleton.mp hb]
   exact⟨o,ho,fun v z=>by rw[hd]at z;cases z⟩
 keep:=fun i h h' st k=> ⟨let ⟨old,he⟩:=st.1;⟨old,k e (by simp) _ he⟩,st.2.at fun o q=>k j (by simp) o q⟩
 item:=by
  intro X hP hw hK hc i pins s σ H E I hf st hg
  subst hP hw hK
  obtain⟨xs,x,hq,hx⟩:=hg
  obtain⟨its,rv,p,hz⟩:=I.list hq
  obtain⟨u,hu,ru⟩:=rv.get hx
  have hl:=rv.length
  have jS:i<its.toArray.size:=by
   have:=(List.getElem?_eq_some_iff.mp hu).1
   simpa using this
  have W:=WalksT.enumerateD (prog:=X.prog) (w:=X.w) (A:=X.A) (Draws.list (A:=X.A.in1) (show X.A.in1.handled=none from I.ok.hd hc) j t mG its.toArray) e iB (by simp[iB,mH.symm]) (by simp)
  have hT:s.heap.IsList t its.toArray:=p.isList
  refine W.item i s _ _ jS ⟨st.1,st.2,hT⟩ fun T vals h' tk hP dP jW gb hk=> ⟨_,rfl,W.go elts kk pos i T _ _ _ gb fun bU cM dG=> ?_⟩
  obtain⟨hZ,x2,iw,rfl⟩:=hP
  have i6:its[i]? =some x2:=by simpa using iw
  rw[hu]at i6
  cases i6
  have gp:H T=none:=I.aj.fresh dP
  have both:∀b o,b∉[e,j]→s.heap.get? b=some o→bU.get? b=some o:=fun b o hb q=>dG b o hb (hk b o hb q)
  have iE:T∉[e,j]:=W.apart _ _ _ gb
  have jX:bU.IsTuple T #[.int i hZ,u]:=jW.at fun o q=>dG T o iE q
  have neT:∀b o,s.heap.get? b=some o→b≠T:=fun b o q=>Nat.ne_of_lt (Nat.lt_of_lt_of_le (Heap.lt_size q) dP)
  have cc:∀b o,H b=some o→b≠T:=fun b o q=>Zi q gp
  have bI:∀b o,H b=some o→b∉[e,j]:=fun b o q z=>by
   have:=(hf b z).1
   rw[this]at q;cases q
  refine⟨.ref T,upd H T (.par [.int (i:Int),x]),?_,rfl,⟨T,x,rfl,gp,rfl,fun ys hy=>by rw[I.oV hy hq];exact hx⟩,⟨cM.1,cM.2.1⟩,fun b hb=> ?_⟩
  ·refine(show Inv X pins σ (upd H T (.par [.int (i:Int),x])) {s with heap:=bU,toks:=tk} from ?_)
   refine I.call (g':=s.gens) (d':=s.drawn) (t':=tk) (h':=bU) (ch:=[e,j]) ⟨fun b o q _ _ hx=>both b o hx q,fun b o q _ _ hx=> ⟨o.slots,both b o hx q⟩,fun b o q n hx=>by rw[Zh (neT b o q)];exact n,fun b o q hx=> ⟨o,both b o hx q⟩,
    fun b ys q=>by rw[Zh (cc b _ q)];exact q,fun b o u q=>by rw[Zh (cc b _ q)];exact q,fun b ps q=> ⟨#[],by rw[Zh (cc b _ q),q];simp⟩⟩ (fun b v q=> ?_) I.bare fun b hb=> ?_
   ·by_cases hb:b=T
    ·subst hb
     rw[Zd]at q
     cases q
     exact⟨by show 2≤sizeLine;decide,[.int i hZ,u],.cons ⟨hZ,rfl⟩ (.cons ru .nil),jX⟩
    ·rw[Zh hb]at q
     refine(I.aj b v q).bL (fun c z bF q'=>both c z ?_ q') (fun c q'=>by rw[Zh (cc c _ q')];exact q') fun c ys q'=>by rw[Zh (cc c _ q')];exact q'
     rcases bF with z' |z'
     ·rw[z'];exact bI b v q
     ·exact bI c _ z'
   ·obtain⟨f0,f1,f2,f3,f4,f5⟩:=hf b hb
    exact⟨f3,f1,f4,f5⟩
  ·rw[Zh (fun z=>iE (by rw[←z];exact hb))]
   exact(hf b hb).1
 done:=by
  intro X hP hw hK hc i pins s σ H E I hf st hg
  subst hP hw hK
  obtain⟨xs,hq,hx⟩:=hg
  obtain⟨its,rv,p,hz⟩:=I.list hq
  have hl:=rv.length
  have W:=WalksT.enumerateD (prog:=X.prog) (w:=X.w) (A:=X.A) (Draws.list (A:=X.A.in1) (show X.A.in1.handled=none from I.ok.hd hc) j t mG its.toArray) e iB (by simp[iB,mH.symm]) (by simp)
  have hn:i=its.toArray.size:=by rw[List.size_toArray];omega
  have hT:s.heap.IsList t its.toArray:=p.isList
  rw[hn]at st
  refine W.done s _ _ ⟨st.1,st.2,hT⟩ fun h' tk hk=> ⟨rfl,?_⟩
  have bI:∀b o,H b=some o→b∉[e,j]:=fun b o q z=>by
   have:=(hf b z).1
   rw[this]at q;cases q
  refine I.call (g':=s.gens) (d':=s.drawn) (t':=tk) (h':=h') (ch:=[e,j]) ⟨fun b o q _ _ hx=>hk b o hx q,fun b o q _ _ hx=> ⟨o.slots,hk b o hx q⟩,fun b o q n hx=>n,fun b o q hx=> ⟨o,hk b o hx q⟩,fun b ys q=>q,fun b o u q=>q,fun b ps q=> ⟨#[],by rw[q];simp⟩⟩ (fun b v q=> ?_) I.bare fun b hb=> ?_
  ·refine(I.aj b v q).bL (fun c z bF q'=>hk c z ?_ q') (fun _ q'=>q') fun _ _ q'=>q'
   rcases bF with z' |z'
   ·rw[z'];exact bI b v q
   ·exact bI c _ z'
  ·obtain⟨f0,f1,f2,f3,f4,f5⟩:=hf b hb
   exact⟨f3,f1,f4,f5⟩
 self:=fun A i s Q E st h=>let ⟨old,he⟩:=st.1;wpAny_pyIter_enum he h
section
variable {X:Cx}{elts:List Expr}{kk:Nat}{tp:Pos}
def Di (K:PySem.W.Frag) (ta:TA):TI:=fun σ H R=>ta σ H fun vs H1=> ∃t,vs=[.ref t]∧(∃xs,ag K H1 t xs)∧R (nJ K t) H1
theorem KR {a:Expr}{ta:TA}{p pos:Pos}(hg:Gl X "enumerate") (hm:X.mg "enumerate" =none) (ha:PA X [a] ta) (hs:starEach [a] X.env=[(false,eval a X.env)]:=by rfl):PI X (.Tuple elts kk tp) (.Call (.Name "enumerate" p) [a] [] pos) (Di X.K ta):=by
 intro pins s σ H R I h
 refine Call_ (Z6 I hg hm boot_enumerate (PyProof.Rows.callWith_type1 (au (ha pos pins s σ H _ I h) fun us s1 ⟨vs,H1,I1,r1,q1⟩=> ?_) hs rfl))
 obtain⟨t,e,⟨xs,hq⟩,q⟩:=q1
 subst e
 obtain⟨u,rfl,ru⟩:=vals1 r1
 cases ru
 obtain⟨its,rv,pl,hz⟩:=I1.list hq
 have hT:s1.heap.IsList t its.toArray:=pl.isList
 have ht:t<s1.heap.objs.size:=by obtain⟨o,ho,_⟩:=hT;exact Heap.lt_size ho
 refine call_enumerate_list hT fun h' he hj aJ hk=>wpAny_pyIter_enum he ?_
 have I2:Inv X pins σ H1 {s1 with heap:=h'} :=I1.kept (t':=s1.toks) hk
 refine⟨s1.heap.objs.size+1,[s1.heap.objs.size+1,s1.heap.objs.size],_,_,H1,rfl,I2,U8 t _ _ (Nat.succ_ne_self _) (Nat.ne_of_lt (Nat.lt_succ_of_lt ht)) (Nat.ne_of_lt ht),⟨⟨_,he⟩,hj⟩,fun b hb=> ?_,q⟩
 have gn:s1.heap.objs.size≤b:=by
  rcases List.mem_cons.mp hb with z |z
  ·rw[z];exact Nat.le_succ _
  ·rw[List.mem_singleton.mp z];exact Nat.le_refl _
 exact I1.jf gn (I1.aj.fresh gn)
end
theorem KN {K:PySem.W.Frag}{a:Addr}{xs:List V}{g:TG}{tb:TS}{D:Ends}{σ:St}{H:Hp}(Pv:Nat→St→Hp→Prop) (h0:Pv 0 σ H) (hl:∀i σ H,i≤xs.length→Pv i σ H→ag K H a xs)
  (hs:∀i x T σ H,xs[i]? =some x→H T=none→Pv i σ H→g (.ref T) σ (upd H T (.par [.int (i:Int),x])) fun aU H2=>tb {D with nx:=Pv (i+1),ct:=Pv (i+1),bk:=D.nx} aU H2) (hd:∀σ H,Pv xs.length σ H→D.nx σ H):
  ∃W:Nat→Nat→St→Hp→Prop,(∃m,W 0 m σ H)∧∀i m σ H,W i m σ H→
   ((nJ K a).stop i H∧D.nx σ H)∨((nJ K a).go i H∧∃N:St→Hp→Prop,(∀ah H',N ah H'→∃m',m'<m∧W (i+1) m' ah H')∧∀x H',(nJ K a).kz i H x H'→g x σ H' fun aU H2=>tb {D with nx:=N,ct:=N,bk:=D.nx} aU H2):=by
 refine⟨fun i m σ H=>m=xs.length - i∧i≤xs.length∧Pv i σ H,⟨xs.length,by simp,Nat.zero_le _,h0⟩,?_⟩
 rintro i m σ H ⟨rfl,hi,p⟩
 have q:=hl i σ H hi p
 by_cases ak:i<xs.length
 ·refine .inr ⟨⟨xs,xs[i],q,by simp[ak]⟩,Pv (i+1),fun ah H' p'=> ⟨xs.length - (i+1),by omega,rfl,ak,p'⟩,fun x H' y=> ?_⟩
  obtain⟨T,z,e1,e2,e3,e4⟩:=y
  subst e1 e3
  exact hs i z T σ H (e4 xs q) e2 p
 ·have e:i=xs.length:=by omega
  subst e
  exact .inl ⟨⟨xs,q,rfl⟩,hd σ H p⟩
end L2
namespace L2
open PySem PySem.Spec PyProof.Rows SeqAt
end L2
namespace L2
open PySem PySem.Spec PyProof.Rows
end L2
namespace PyProof.Rows.fb
open PySem
end PyProof.Rows.fb
namespace L2
open PySem PySem.Spec PyProof.Rows PyProof.Rows.fb
end L2
namespace L2
open PySem PySem.Spec PyProof.Rows
structure MQ (X:Cx) (N':List Str) (ts:Nat) (bu:List Nat) (scope:Scope) (zc:Str):Prop where
 kind:scope.kind=.function
 one:(scope.names.filter fun y=>y.2==.cell)=[(zc,.cell)]
 own:scope.names.lookup zc=some .cell
 names:∀y∈scope.names,y.2=.local→scope.names.lookup y.1=some .local
 free:∀y∈scope.names,y.2=.free→X.env.kindOf y.1=some .cell∨X.env.kindOf y.1=some .free
 nd:N'.Nodup
 len:N'.length=ts+bu.length
 yR:∀k j,bu[k]? =some j→∃x,N'[ts+k]? =some x∧X.N[j]? =some x∧X.env.kindOf x≠some .local∧scope.names.lookup x=some .free
end L2
namespace L2
open PySem PySem.Spec PyProof.Rows SeqAt
def Lw (A:Around) (s:Shared) (y x:Value) (b:Bool):Prop:=
 ∀(prog:Program) (w:World) (E:Value→Shared→Prop) (Q:Value→Shared→Prop),Q (.bool b) s→wpAny (model prog w) A (richCompare .Lt y x) Q E s
inductive lK (A:Around) (s:Shared):List Value→List Value→Bool→Prop where
 |nn:lK A s [] [] false
 |nc {y:Value}{ys:List Value} :lK A s [] (y::ys) true
 |cn {x:Value}{xs:List Value} :lK A s (x::xs) [] false
 |eq {x y:Value}{xs ys:List Value}{r:Bool} :EqAt A s x y true→lK A s xs ys r→lK A s (x::xs) (y::ys) r
 |lt {x y:Value}{xs ys:List Value}{r:Bool} :EqAt A s x y false→Lw A s x y r→lK A s (x::xs) (y::ys) r
section
open PySem.AutoSeq1 (wpAny_loadPart')
open PySem.MeetsSeq PySem.MeetsSeq2 PySem.MeetsSeq3 PySem.SeqRoads2
end
end L2
namespace L2
open PySem PySem.Spec PyProof.Rows
end L2
namespace L2
open PySem PySem.Spec PyProof.Rows PyProof.Rows.fb SeqAt
end L2
namespace HS
open PySem PySem.SetTable PySem.Spec
theorem HI {t:SetTable}{es:Array (Int×Value)}{h:Int}{x:Value}(T:T0 t es) (R:fB t.mask es.size):
  ∃bZ t1,layNew t es h x=(bZ,t1,false,false)∧T0 t1 bZ∧t1.mask=t.mask∧t1.plain=t.plain∧t1.led=t.led∧bZ.size=es.size+1:=by
 have ak:=R.lt
 obtain⟨f,hf,nf⟩:=T.free (by omega)
 obtain⟨n,hn,h1,h2⟩:=Wh R.kQ h hf nf
 have fs:t.freeSlot h=some ((it t.mask (st t.mask h) n).j,false):=by
  unfold SetTable.freeSlot
  rcases Ui (t:=t) (hashAt:=fun _=>h+1) (h:=h) T.fL T.j6 n (10*turns t.mask) (st t.mask h) rfl hn h1 h2 with ⟨g1,_⟩ |⟨k,i,_,_,g3,_⟩
  ·have g:t.probe (fun _=>h+1) h (t.probeStart h)=some (.empty (it t.mask (st t.mask h) n).j none):=g1
   rw[g]
   rfl
  ·exact absurd g3 (by omega)
 have T1:=T.put (x:=x) h1 h2 t.plain
 have e1:({(t.put (it t.mask (st t.mask h) n).j).1 with plain:=t.plain} :SetTable)=(t.put (it t.mask (st t.mask h) n).j).1:=rfl
 rw[e1]at T1
 have hz:(insertAt es (t.put (it t.mask (st t.mask h) n).j).2 (h,x)).size=es.size+1:=by
  rw[←Array.length_toList,(insertAt_perm es _ (h,x)).length_eq,Array.length_toList,Array.size_push]
 have fits:=T1.fits (by rw[hz];show es.size+1≤t.mask;omega)
 refine⟨_,_,?_,T1,rfl,rfl,rfl,hz⟩
 unfold layNew
 rw[fs]
 dsimp only
 unfold SetTable.orStandIn
 rw[if_pos fits,fits]
 rfl
theorem Ig {t:SetTable}{es:Array (Int×Value)}{wanted:Nat}(hm:ff (sizeAbove wanted - 1)) (hl:es.size≤sizeAbove wanted - 1):
  ∃bZ t1,relayAll t es wanted=(bZ,t1,false)∧T0 t1 bZ∧t1.mask=sizeAbove wanted - 1∧t1.plain=t.plain∧t1.led=t.led∧bZ.size=es.size:=by
 generalize hM:sizeAbove wanted - 1=m at hm hl
 obtain⟨t1,order,e,e2,T,perm⟩:=WL hm es (Nat.le_succ_of_le hl) t.finger (t.movedTo m) t.led t.plain
 have L0:gB m [] (Array.replicate (m+1) none):=by
  refine⟨Array.size_replicate ..,fun j k h=> ?_,fun k h hk=>by simp at hk,fun j j' k h=> ?_⟩<;>
  ·rw[Array.getElem?_replicate]at h
   split at h<;>cases h
 obtain⟨owner,f1,L⟩:=Jv hm (es.map (·.1)).toList [] _ L0 (by simp;omega)
 rw[List.nil_append]at f1 L
 have f2:layClean m (es.map (·.1))=some owner:=by
  rw[JB]
  have lx:List.foldl (kT m) (some (Array.replicate (m+1) none,0)) (es.map (·.1)).toList=_:=f1
  rw[lx]
  rfl
 have e':=e
 unfold laid at e'
 rw[f2]at e'
 injection e' with e'
 injection e' with g1 g2
 have hp:order.toList.Perm (List.range es.size):=by
  rw[←g2]
  have:=Jt L
  rw[show((es.map (·.1)).toList).length=es.size by simp]at this
  exact this
 have hz:(order.filterMap (es[·]?)).size=es.size:=by
  have:=perm.length_eq
  rw[Array.length_toList,Array.length_toList]at this
  exact this
 have fits:t1.fits (order.filterMap (es[·]?)).size=true:=T.fits (by rw[hz,e2];exact hl)
 refine⟨order.filterMap (es[·]?),t1,?_,T,e2,by rw[←g1],by rw[←g1],hz⟩
 unfold relayAll SetTable.relaid
 rw[hM,e]
 dsimp only
 have cv:coversAll order es.size=true:=by
  unfold coversAll
  exact List.isPerm_iff.mpr hp
 rw[cv,fits]
 rfl
structure fc (prog:Program) (w:World) (h:Heap) (S:Addr) (ns:List Int) (o:Obj) (es:Array (Int×Value)) (ep:Nat) (t:SetTable):Prop where
 ho:h.get? S=some o
 ex:o.ExactSet
 hd:o.data=.set es ep t
 T:T0 t es
 R:fB t.mask es.size
 pl:t.plain=true
 ld:t.led= !(w.params.followText "set-order")
 el:ElemsOf (intKind prog w) es.toList
 vs:PyProof.Rows.IntsAre (es.toList.map (·.2)) ns
def eE (prog:Program) (w:World) (h:Heap) (S:Addr) (m:Int→Prop) (c:Nat):Prop:=∃ns o es ep t,fc prog w h S ns o es ep t∧ns.Nodup∧ns.length≤c∧∀k,k∈ns↔m k
theorem Ju {us vE:List Value}(p:vE.Perm us):∀{ns:List Int},PyProof.Rows.IntsAre us ns→∃br,PyProof.Rows.IntsAre vE br∧br.Perm ns:=by
 have p':=p.symm
 clear p
 induction p' with
 |nil=>intro ns h;exact⟨ns,h,.refl _⟩
 |cons x _ ih=>
  intro ns h
  cases h with
  |cons a t h=>
   obtain⟨br,h1,h2⟩:=ih h
   exact⟨a::br,.cons a t h1,h2.cons a⟩
 |swap x y l=>
  intro ns h
  cases h with
  |cons a t h=>
   cases h with
   |cons b u h=>exact⟨b::a::_,.cons b u (.cons a t h),.swap _ _ _⟩
 |trans _ _ Dd Dc=>
  intro ns h
  obtain⟨n1,a1,a2⟩:=Dd h
  obtain⟨n2,b1,b2⟩:=Dc a1
  exact⟨n2,b1,b2.trans a2⟩
theorem WM:∀{us:List Value}{ns:List Int}{k:Int}{t:Tok},PyProof.Rows.IntsAre us ns→PyProof.Rows.IntsAre (us++[.int k t]) (ns++[k])
 |_,_,k,t,.nil=> .cons k t .nil
 |_,_,k,t,.cons a u h=> .cons a u (WM h)
theorem Wf:∀{us:List Value}{ns:List Int}{k:Int},PyProof.Rows.IntsAre us ns→(k∈ns↔∃u∈us,Value.isInt k u=true)
 |_,_,k,.nil=>by simp
 |_,_,k,.cons a t h=>by
  rw[List.mem_cons,Wf h]
  simp only[List.mem_cons,exists_eq_or_imp]
  refine or_congr ?_ Iff.rfl
  show k=a↔(a==k)=true
  rw[beq_iff_eq]
  exact eq_comm
section
variable {prog:Program}{w:World}{A:Around}{E:Value→Shared→Prop}{s:Shared}
theorem Iq {S:Addr}{k:Int}{tk:Tok}{m:Int→Prop}{c:Nat}{Q:Bool→Shared→Prop}(H:eE prog w s.heap S m c) (hc:c+1≤305)
  (h:∀h' b,Heap.SameBut S s.heap h'→eE prog w h' S (fun j=>m j∨j=k) (c+1)→Q b {s with heap:=h'}):
  wpAny (model prog w) A (setAddHashed S (.int k tk) (hashInt k)) Q E s:=by
 obtain⟨ns,o,es,ep,t,X,nd,hl,hm⟩:=H
 have bY:es.size=ns.length:=by
  have:=X.vs.length
  rw[List.length_map,Array.length_toList]at this
  exact this
 have pI:(intKind prog w).is k (.int k tk)=true:=by show Value.isInt k (.int k tk)=true;simp[Value.isInt]
 have hb:es.size<scanBound:=by have:scanBound=4096:=rfl;omega
 have hf:t.fits es.size=true:=X.T.fits (by have:=X.R.lt;omega)
 unfold setAddHashed setAddHashedIn
 refine wpAny_holding (wpAny_bind (wpAny_setState_of X.ho X.hd hf ?_))
 dsimp only
 rw[byScan_of rfl hb X.el]
 simp only[↓reduceIte]
 unfold setAddByScan
 refine wpAny_bind ?_
 refine wpAny_bind (wpAny_rule ?_)
 refine wpAny_bind (wpAny_setScan_of pI X.ho X.hd hf X.el ?_)
 have xb:∀{l:List (Int×Value)}{j:Int},(∃u∈l.map (·.2),Value.isInt j u=true)↔∃e∈l,(intKind prog w).is j e.2=true:=fun {l j} =>by
  simp only[List.mem_map]
  constructor
  ·rintro⟨u,⟨e,he,rfl⟩,q⟩;exact⟨e,he,q⟩
  ·rintro⟨e,he,q⟩;exact⟨_,⟨e,he,rfl⟩,q⟩
 cases hr:List.findIdx? (fun e=> (intKind prog w).is k e.2) es.toList with
 |some j=>
  dsimp only
  obtain⟨hj,DR,_⟩:=List.findIdx?_eq_some_iff_getElem.mp hr
  have hk:k∈ns:=(Wf X.vs).mpr (xb.mpr ⟨es.toList[j],List.getElem_mem hj,DR⟩)
  refine wpAny_pure (wpAny_pure ?_)
  have e:s= {s with heap:=s.heap} :=by cases s;rfl
  rw[e]
  refine h s.heap _ (Heap.SameBut.refl S s.heap) ⟨ns,o,es,ep,t,X,nd,by omega,fun i=> ?_⟩
  rw[hm i]
  exact⟨.inl,fun z=>z.elim id fun e=>by rw[e];exact(hm k).mp hk⟩
 |none=>
  dsimp only
  have hk:k∉ns:=fun hk=>by
   obtain⟨e,he,hp⟩:=xb.mp ((Wf X.vs).mp hk)
   have:=List.findIdx?_eq_none_iff.mp hr e he
   rw[hp]at this
   exact Bool.noConfusion this
  have kY:=layNew_perm t es (hashInt k) (.int k tk)
  obtain⟨bZ,t1,eL,T1,m1,p1,l1,z1⟩:=HI (h:=hashInt k) (x:=.int k tk) X.T X.R
  rw[eL]
  rw[eL,Array.toList_push]at kY
  dsimp only at kY ⊢
  refine wpAny_bind (show wpAny _ _ (match false with |true=>rule "set.scan.the-table-gave-way" |false=>pure ()) _ _ _ from wpAny_pure ?_)
  rw[if_pos (p1.trans X.pl),hashByValue_scannable 8 rfl]
  refine wpAny_bind (wpAny_pure ?_)
  have ek:plainKind (Value.int k tk)=true:=rfl
  simp only[ek,if_true]
  show wpAny _ _ (storeSet S bZ t1 >>=_) _ _ _
  obtain⟨oQ,i1,q1⟩:=Ju (kY.map (·.2)) (by rw[List.map_append];exact WM X.vs)
  have yD:ElemsOf (intKind prog w) bZ.toList:=(X.el.push pI rfl).perm kY
  have b1:bZ.size<scanBound:=by have:scanBound=4096:=rfl;omega
  have wX:oQ.Nodup:=q1.nodup_iff.mpr (by rw[List.nodup_append];exact⟨nd,by simp,fun a ha b hb=>by rw[List.mem_singleton.mp hb];exact fun z=>hk (z▸ha)⟩)
  have jb:oQ.length≤c+1:=by rw[q1.length_eq,List.length_append];simp;omega
  have xM:∀j,j∈oQ↔(m j∨j=k):=fun j=>by rw[q1.mem_iff,List.mem_append,hm j,List.mem_singleton]
  refine wpAny_bind (wpAny_storeSet_of X.ho X.hd ?_ (fits_of_scanBound b1))
  have k7:=JK X.ho X.hd bZ t1
  have v7:=Heap.SameBut.update s.heap S (Obj.putSet bZ t1)
  rcases grow X.R (by omega) with ⟨g1,g2,g3⟩ |⟨g1,g2⟩
  ·have tf:t1.tooFull=true:=by
    unfold SetTable.tooFull SetTable.fill
    rw[T1.j6,T1.sz,z1,m1]
    simpa using g1
   show wpAny _ _ (if (!false&&t1.tooFull)=true then _ else _) _ _ _
   rw[tf]
   simp only[Bool.not_false,Bool.and_self,if_true]
   have xN:=g2.lt
   obtain⟨jg,t2,eR,T2,m2,p2,l2,z2⟩:=Ig (t:=t1) (es:=bZ) (wanted:=SetTable.grown bZ.size) (by rw[z1];exact g2.kQ) (by rw[z1];omega)
   have pB:=relayAll_perm t1 bZ (SetTable.grown bZ.size)
   rw[eR]at pB
   rw[eR]
   dsimp only at pB ⊢
   refine wpAny_bind (show wpAny _ _ (match false with |true=>rule "set.scan.the-table-gave-way" |false=>pure ()) _ _ _ from wpAny_pure ?_)
   have b2:jg.size<scanBound:=by rw[z2];exact b1
   refine wpAny_bind (wpAny_storeSet_of k7 rfl ?_ (fits_of_scanBound b2))
   obtain⟨sO,i2,q2⟩:=Ju (pB.map (·.2)) i1
   refine wpAny_pure (wpAny_pure (h _ _ (v7.trans (Heap.SameBut.update _ S _)) ⟨sO,_,jg,_,t2,⟨JK k7 rfl jg t2,X.ex,rfl,T2,by rw[m2,z2,z1];exact g2,p2.trans (p1.trans X.pl),l2.trans (l1.trans X.ld),yD.perm pB,i2⟩,q2.nodup_iff.mpr wX,by rw[q2.length_eq];exact jb,fun j=>by rw[q2.mem_iff,xM j]⟩))
  ·have tf:t1.tooFull=false:=by
    unfold SetTable.tooFull SetTable.fill
    rw[T1.j6,T1.sz,z1,m1]
    simpa using g1
   show wpAny _ _ (if (!false&&t1.tooFull)=true then _ else _) _ _ _
   rw[tf]
   simp only[Bool.not_false,Bool.and_false,Bool.false_eq_true,if_false]
   exact wpAny_pure (wpAny_pure (h _ _ v7 ⟨oQ,_,bZ,_,t1,⟨k7,X.ex,rfl,T1,by rw[m1,z1];exact g2,p1.trans X.pl,l1.trans X.ld,yD,i1⟩,wX,jb,xM⟩))
end
theorem eE.iff {prog:Program}{w:World}{h:Heap}{S:Addr}{m m':Int→Prop}{c:Nat}(x:eE prog w h S m c) (e:∀k,m k↔m' k):eE prog w h S m' c:=by
 obtain⟨ns,o,es,ep,t,X,nd,hl,hm⟩:=x
 exact⟨ns,o,es,ep,t,X,nd,hl,fun k=> (hm k).trans (e k)⟩
theorem eE.at {prog:Program}{w:World}{h h':Heap}{ws:List Addr}{S:Addr}{m:Int→Prop}{c:Nat}(x:eE prog w h S m c) (hS:S∉ws) (kp:∀b o,b∉ws→h.get? b=some o→h'.get? b=some o):eE prog w h' S m c:=by
 obtain⟨ns,o,es,ep,t,X,nd,hl,hm⟩:=x
 exact⟨ns,o,es,ep,t,⟨kp S o hS X.ho,X.ex,X.hd,X.T,X.R,X.pl,X.ld,X.el,X.vs⟩,nd,hl,hm⟩
section
variable {prog:Program}{w:World}{A:Around}{R:Result→Shared→Prop}{I:Addr}{fp wr:List Addr}{G:Array GenState→Array GenState→Prop}{n:Nat}{P:Nat→Value→Prop}{St:Nat→Shared→Prop}
theorem CY (W:WalksS prog w A.in1 I fp wr G n P St) (S:Addr) (ng:S∉fp) (val:Nat→Int) (hb:n≤304) (lj:∀i v,P i v→∃t,v=.int (val i) t):
  ∀(k i:Nat) (s:Shared),n - i=k→i≤n→St i s→eE prog w s.heap S (fun k=> ∃j<i,k=val j) i→
   (∀s',Moved (S::wr) G s s'→eE prog w s'.heap S (fun k=> ∃j<n,k=val j) n→R (.ok (.ret .none)) s')→
   codeAny (model prog w) A (.builtin "set.update.loop" ⟨[.ref S,.ref I],[]⟩) R s:=by
 have m9:S∉wr:=fun h=>ng (W.sub _ h)
 have fV:∀b∈wr,b∈S::wr:=fun b hb=>List.mem_cons_of_mem _ hb
 intro k
 induction k with
 |zero=>
  intro i s aQ hi dN hS hR
  have mR:i=n:=by omega
  subst mR
  refine codeAny_builtin PyProof.Rows.F.entry_set_update_loop ?_
  rw[Around.under_plainId PyProof.Rows.F.plain_set_update_loop _]
  show wpAny _ A.in1 (pyNext (.ref I) >>=_) _ _ s
  refine wpAny_bind (W.done s _ _ dN fun s' hm=> ?_)
  show wpAny _ A.in1 (ret Value.none) _ _ s'
  exact wpAny_pure (hR s' (hm.mono fV) (hS.at m9 fun b o hb e=>hm.heap b o hb e))
 |succ k ih=>
  intro i s aQ hi dN hS hR
  have ak:i<n:=by omega
  refine codeAny_builtin PyProof.Rows.F.entry_set_update_loop ?_
  rw[Around.under_plainId PyProof.Rows.F.plain_set_update_loop _]
  show wpAny _ A.in1 (pyNext (.ref I) >>=_) _ _ s
  refine wpAny_bind (W.item i s _ _ ak dN fun v s' hP tm hm=> ?_)
  have kp:∀b o,b∉wr→s.heap.get? b=some o→s'.heap.get? b=some o:=fun b o hb e=>hm.heap b o hb e
  have cI:=hS.at m9 kp
  obtain⟨tv,rfl⟩:=lj i v hP
  show wpAny _ A.in1 (holding [Value.int (val i) tv] (setAdd S (.int (val i) tv)) >>=_) _ _ s'
  refine wpAny_bind (wpAny_holding ?_)
  unfold setAdd
  refine wpAny_holding ?_
  refine wpAny_bind (wpAny_pyHash_int ?_)
  refine Iq (s:= {s' with toks:=s'.toks+1}) cI (by omega) fun h' b sb uq=> ?_
  have ED:eE prog w h' S (fun k=> ∃j<i+1,k=val j) (i+1):=uq.iff fun k=>by
   constructor
   ·rintro(⟨j,hj,e⟩ |e)
    ·exact⟨j,by omega,e⟩
    ·exact⟨i,by omega,e⟩
   ·rintro⟨j,hj,e⟩
    by_cases z:j=i
    ·exact .inr (by rw[e,z])
    ·exact .inl ⟨j,by omega,e⟩
  refine wpAny_pure ⟨plainId_quiet PyProof.Rows.F.plain_set_update_loop _,ih (i+1) _ (by omega) ak (W.frame _ s' _ _ tm (Nat.le_succ _) fun b hb o e=> ?_) ED fun ig tP uu=> ?_⟩
  ·rw[sb.2 b (fun h:b=S=>ng (by rw[←h];exact hb))];exact e
  ·refine hR ig (Moved.trans W.gtrans ((hm.mono fV).then_heap (Nat.le_succ _) fun b o hb e=> ?_) tP) uu
   rw[sb.2 b (fun h:b=S=>hb (by rw[h];exact List.mem_cons_self))];exact e
end
section
variable {prog:Program}{w:World}{A:Around}{E:Value→Shared→Prop}{s:Shared}
theorem K3 {h:Heap}{S:Addr}{led:Bool}(hl:(!(w.params.followText "set-order"))=led) (g:h.get? S=some (cV led)):eE prog w h S (fun k=> ∃j<0,k=(fun _:Nat=> (0:Int)) j) 0:=by
 refine⟨[],_, #[],0,_,⟨g,⟨rfl,rfl,rfl⟩,rfl,⟨rfl,.nil,rfl,fun j hj=> ?_,fun z hz=> ?_⟩,.inl ⟨rfl,Nat.zero_le _⟩,rfl,hl.symm,fun e he=> ?_,.nil⟩,.nil,Nat.le_refl _,fun k=> ?_⟩
 ·exact absurd hj (by simp[SetTable.fresh])
 ·exact absurd hz (by simp[SetTable.fresh])
 ·exact absurd he (by simp)
 ·simp
theorem Kx (a:Value) {Q₁:Value→Shared→Prop}(h:Q₁ (.ref s.heap.objs.size) {s with heap:=s.heap.push (cV (!(w.params.followText "set-order")))}):codeAny (model prog w) A (.call (.builtin "set.__new__") ⟨[.type "set",a],[]⟩) (wants Q₁ E) s:=by
 refine codeAny_of_tree (show wpAny _ A.in1 (do checkBuiltinCall "set.__new__" ⟨[.type "set",a],[]⟩;again (.builtin "set.__new__" ⟨[.type "set",a],[]⟩)) _ _ s from ?_)
 refine wpAny_bind (wpAny_of_eq (F.newCall_set_1 a) (wpAny_pure ⟨plainId_quiet F.plain_set_new _,(codeAny_builtin F.entry_set_new ?_)⟩))
 rw[Around.under_plainId F.plain_set_new _]
 unfold Builtin.«set.__new__» Builtin.Frozenset.newClass
 have fV:=sub_set_self
 obtain⟨h0,g0,d0,t0,o0⟩:=s
 dsimp only
 wp_walk
 refine wpAny_askSetting (wpAny_pure ?_)
 dsimp only
 simp only[newObj]
 exact wpAny_bind (wpAny_alloc (wpAny_pure (wpAny_pure h)))
set_option maxHeartbeats 8000000 in
theorem FT {l:Addr}{items:Array Value}{val:Nat→Int}{Q:Value→Shared→Prop}
  (hh:A.handled=none) (hl:s.heap.IsList l items) (hi:∀(i:Nat) (v:Value),items[i]? =some v→∃t,v=Value.int (val i) t) (hb:items.size≤304)
  (h:∀(h':Heap) (tk:Nat),eE prog w h' s.heap.objs.size (fun k=> ∃j<items.size,k=val j) items.size→(∀b o,b<s.heap.objs.size→s.heap.get? b=some o→h'.get? b=some o)→Q (.ref s.heap.objs.size) {s with heap:=h',toks:=tk}):
  wpAny (model prog w) A (call (.type "set") [.ref l]) Q E s:=by
 have cS:=F.called_set
 obtain⟨c0,Au,CP⟩:=cS.mro
 have CT:=cS.made;have A5:=cS.sub
 refine wpAny_call (codeAny_of_tree (show wpAny _ _ (callAny (.type "set") _) _ _ _ from ?_))
 refine wpAny_pure ⟨Code.quiet_builtin _ (by decide+kernel),codeAny_builtin F.entry_type_call ?_⟩
 rw[Around.under_plain (weight_type_call_type "set" [.ref l] []) rfl]
 have k1:=cS.notType;have k2:=cS.canCreate;have k3:=F.typeCall_set_1 (.ref l)
 repeat (any_goals (first |assumption |wp_step))
 refine codeAny_mono (Kx (.ref l) (E:=E) (Q₁:=fun ob aA=>ob=.ref s.heap.objs.size∧aA= {s with heap:=s.heap.push (cV (!(w.params.followText "set-order")))}) ⟨rfl,rfl⟩) fun sv aA j4=> ?_
 cases sv with
 |error e=>exact j4
 |ok uE=>
  cases uE with
  |ret ob=>
   obtain⟨rfl,rfl⟩:=j4
   generalize tU:(!(w.params.followText "set-order"))=led
   have gS:(s.heap.push (cV led)).get? s.heap.objs.size=some (cV led):=Heap.get?_push_size _ rfl
   have tS:Shared.TypeIs {s with heap:=s.heap.push (cV led)} (.ref s.heap.objs.size) "set" :=⟨_,gS,rfl⟩
   have C1:=cS.init.lookup;have FY:=cS.init.bind (.ref s.heap.objs.size)
   repeat (any_goals (first |assumption |wp_step))
   refine codeAny_mono (codeAny_call_builtin (R:=wants (fun r h9=>r=.none∧∃h' tk,h9= {s with heap:=h',toks:=tk}∧eE prog w h' s.heap.objs.size (fun k=> ∃j<items.size,k=val j) items.size∧(∀b o,b<s.heap.objs.size→s.heap.get? b=some o→h'.get? b=some o)) E) cS.init.plain F.entry_set_init (check_set_init_1 tS ?_)) fun su h9 j0=> ?_
   ·obtain⟨⟨lc,ld,lt,ls⟩,jN,je,nl,mV⟩:=hl
    simp only at je mV
    subst je;subst mV
    have tL:=Heap.get?_push_of_some (cV led) jN
    have Ba:=F.sub_list_set;have gJ:=F.sub_list_frozenset
    have CD:(Value.type "list" ==Value.type "dict")=false:=by decide
    have jb:(s.heap.push (cV led)).IsList l items:=⟨_,tL,rfl,nl,rfl⟩
    unfold Builtin.«set.__init__» noKeywords Builtin.Frozenset.updateFrom
    generalize uv:pyIter=PI
    wp_walk
    subst uv
    refine wpAny_pyIter_list jb (wpAny_bind (wpAny_runValue ?_))
    have mj:l<s.heap.objs.size:=Heap.lt_size jN
    have tZ:A.in1.in1.in1.handled=none:=by simp[hh]
    have nI:l≠(s.heap.push (cV led)).objs.size:=by rw[Heap.size_push];exact Nat.ne_of_lt (Nat.lt_succ_of_lt mj)
    have Sf:s.heap.objs.size∉[(s.heap.push (cV led)).objs.size,l]:=by
     rw[Heap.size_push]
     simp only[List.mem_cons,List.mem_singleton,List.not_mem_nil,or_false,not_or]
     exact⟨Nat.ne_of_lt (Nat.lt_succ_self _),Nat.ne_of_gt mj⟩
    refine CY ((Walks.list tZ _ l nI items).toS) s.heap.objs.size Sf val hb ?hI (items.size - 0) 0 _ (by omega) (Nat.zero_le _) ⟨⟨_,Heap.get?_push_size _ rfl,rfl,rfl⟩,(jb.push _)⟩ ?ur ?hR
    case hI=>exact fun i v hv=>hi i v hv
    case ur=>exact(K3 tU (Heap.get?_push_of_some _ gS)).iff fun k=>by simp
    case hR=>
     rintro⟨h',g',d',kB,jA⟩ hm cI
     obtain rfl:g'=s.gens:=hm.gens
     obtain rfl:d'=s.drawn:=hm.drawn
     obtain rfl:jA=s.os:=hm.os
     show wpAny _ _ _ _ _ _
     refine wpAny_pure (show wpAny _ _ (ret Value.none) _ _ _ from wpAny_pure ⟨rfl,h',kB,rfl,cI,fun b o hb e=> ?_⟩)
     refine hm.heap b o ?_ (Heap.get?_push_of_some _ (Heap.get?_push_of_some _ e))
     simp only[List.mem_cons,List.mem_singleton,List.not_mem_nil,or_false,not_or]
     exact⟨Nat.ne_of_lt hb,by rw[Heap.size_push];exact Nat.ne_of_lt (Nat.lt_succ_of_lt hb)⟩
   ·cases su with
    |error e=>exact j0
    |ok uD=>
     cases uD with
     |ret r=>
      obtain⟨rfl,h',tk,rfl,cI,aQ⟩:=j0
      repeat (any_goals (first |assumption |wp_step))
      exact h _ _ cI aQ
     |_=>exact j0.elim
  |_=>exact j4.elim
end
theorem zE {α:Type}(nx:Nat→Nat):∀(fuel k:Nat) (left:List α) (out:Array α),left.length≤fuel→(pickOrder.go nx fuel k left out).toList.Perm (out.toList++left)
 |0,k,left,out,h=>by
  have:left=[]:=List.eq_nil_of_length_eq_zero (Nat.le_zero.mp h)
  subst this
  show out.toList.Perm (out.toList++[])
  rw[List.append_nil]
 |fuel+1,k,left,out,h=>by
  unfold pickOrder.go
  cases left with
  |nil=>simp
  |cons y ys=>
   have ak:nx k%(y::ys).length< (y::ys).length:=Nat.mod_lt _ (by simp)
   rw[List.getElem?_eq_getElem ak]
   dsimp only
   refine(zE nx fuel (k+1) _ _ (by rw[List.length_eraseIdx_of_lt ak];omega)).trans ?_
   rw[Array.toList_push,List.append_assoc]
   refine List.Perm.append_left _ ?_
   generalize nx k%(y::ys).length=j at ak
   generalize (y::ys)=l at ak
   clear h
   induction l generalizing j with
   |nil=>simp at ak
   |cons a l ih=>
    cases j with
    |zero=>simp
    |succ j=>
     simp only[List.getElem_cons_succ,List.eraseIdx_cons_succ]
     exact(List.Perm.swap _ _ _).trans (List.Perm.cons a (ih j (by simpa using ak)))
theorem Kg {α:Type}(nx:Nat→Nat) (xs:Array α):(pickOrder nx xs).toList.Perm xs.toList:=by
 have:=zE nx xs.size 0 xs.toList #[] (by simp)
 rw[List.nil_append]at this
 exact this
def fP (w:World) (S:Addr) (es:Array (Int×Value)) (ep:Nat):Array (Int×Value):=if w.params.followText "set-order" =true then pickOrder (w.params.setOrder S ep) es else es
theorem UB (w:World) (S:Addr) (es:Array (Int×Value)) (ep:Nat):(fP w S es ep).toList.Perm es.toList:=by
 unfold fP
 split
 ·exact Kg _ _
 ·exact .refl _
def ie (w:World) (t:SetTable):Nat→Nat
 |0=>0
 |i+1=>if w.params.followText "set-order" =true then 0 else t.place.getD i 0+1
abbrev ft (w:World) (S:Addr) (t:SetTable) (n ep i:Nat):Obj:= {cls:=.type "set_iterator",data:=.fields #[rawInt (ie w t i),rawInt i,.ref S,rawInt n,rawInt ep]}
theorem ZL:Slot "set_iterator" "__next__" "set_iterator.__next__" :=
 .of (owner:= "set_iterator") (n:= "__next__") (by rw[typeLookup_type,builtinLookup_eq_fast];kernel_rfl) (by decide+kernel) (by decide+kernel) (by decide+kernel)
  (by first |exact .inl (by decide+kernel) |exact .inr (by decide+kernel)) (by rw[isSubtype_type];kernel_rfl)
theorem Yr:entryFor table "set_iterator.__next__" =some Builtin.«set_iterator.__next__» :=entryFor_of_tree (by kernel_rfl)
theorem Yx (a:Value):argsOk "set_iterator.__next__" ⟨[a],[]⟩:=by unfold argsOk;kernel_rfl
theorem JF:entryFor table "set.__iter__" =some Builtin.«frozenset.__iter__» :=
 entryFor_alias (id':= "frozenset.__iter__") (by kernel_rfl) rfl (by decide+kernel) (by kernel_rfl)
section
variable {prog:Program}{w:World}{A:Around}{E:Value→Shared→Prop}{s:Shared}{S it:Addr}{ns:List Int}{o:Obj}{es:Array (Int×Value)}{ep:Nat}{t:SetTable}
theorem fc.fits (X:fc prog w s.heap S ns o es ep t):t.fits es.size=true:=X.T.fits (by have:=X.R.lt;omega)
theorem Ut (hb:w.params.followText "set-order" =true) (t:SetTable):∀i,ie w t i=0
 |0=>rfl
 |i+1=>if_pos hb
theorem Us (hb:¬w.params.followText "set-order" =true) (t:SetTable) (i:Nat):ie w t (i+1)=t.place.getD i 0+1:=if_neg hb
theorem Uu {i:Nat}(hb:¬w.params.followText "set-order" =true) (X:fc prog w s.heap S ns o es ep t) (hi:i≤es.size):below t.place (ie w t i)=i:=by
 have hz:=X.T.sz
 cases i with
 |zero=>
  show below t.place 0=0
  obtain⟨b1,b2,b3⟩:=Yf (xs:=t.place) (j:=0) X.T.fL
  rcases Nat.eq_zero_or_pos (below t.place 0) with z |z
  ·exact z
  ·have:=b2 0 (by omega) z
   omega
 |succ i=>
  rw[Us hb]
  have aR:i<t.place.size:=by omega
  have e:t.place.getD i 0=t.place[i]:=by simp[aR]
  rw[e]
  obtain⟨b1,b2,b3⟩:=Yf (xs:=t.place) (j:=t.place[i]+1) X.T.fL
  have k1:i<below t.place (t.place[i]+1):=by
   rcases Nat.lt_or_ge i (below t.place (t.place[i]+1)) with z |z
   ·exact z
   ·have:=b3 i aR z;omega
  have k2:below t.place (t.place[i]+1)≤i+1:=by
   rcases Nat.lt_or_ge (i+1) (below t.place (t.place[i]+1)) with z |z
   ·have yt:i+1<t.place.size:=by omega
    have h1:=b2 (i+1) yt z
    have h2:=vd X.T.fL aR yt (Nat.lt_succ_self i)
    omega
   ·exact z
  omega
theorem U3 {i:Nat}{Q:Option (Value×Nat)→Shared→Prop}(X:fc prog w s.heap S ns o es ep t) (hi:i≤es.size)
  (h1:∀e,(fP w S es ep)[i]? =some e→Q (some (e.2,ie w t (i+1))) s) (h2:(fP w S es ep)[i]? =none→Q none s):
  wpAny (model prog w) A (setNext S (ie w t i) i ep) Q E s:=by
 unfold setNext setsByText
 refine wpAny_bind (wpAny_setState_of X.ho X.hd X.fits ?_)
 dsimp only
 refine wpAny_bind (wpAny_bind (wpAny_askSetting (wpAny_pure ?_)))
 show wpAny _ _ (if w.params.followText "set-order" =true then _ else _) _ _ _
 unfold fP at h1 h2
 by_cases hb:w.params.followText "set-order" =true
 ·rw[if_pos hb]at h1 h2 ⊢
  rw[Ut hb]
  rw[Ut hb]at h1
  simp only[bne_self_eq_false,Bool.false_eq_true,if_false]
  unfold setWalk setsByText
  refine wpAny_bind (wpAny_bind (wpAny_setState_of X.ho X.hd X.fits ?_))
  dsimp only
  refine wpAny_bind (wpAny_bind (wpAny_askSetting (wpAny_pure ?_)))
  show wpAny _ _ (if w.params.followText "set-order" =true then _ else _) _ _ _
  rw[if_pos hb]
  refine wpAny_bind (wpAny_askSetting (wpAny_pure ?_))
  refine wpAny_pure ?_
  show Q (((pickOrder (w.params.setOrder S ep) es)[i]?).map fun e=> (e.2,0)) s
  cases hx:(pickOrder (w.params.setOrder S ep) es)[i]? with
  |none=>exact h2 hx
  |some e=>exact h1 e hx
 ·rw[if_neg hb]at h1 h2 ⊢
  have tU:t.led=true:=by rw[X.ld];simpa using hb
  refine wpAny_ite_split (fun hc=>absurd hc ?_) (fun _=> ?_)
  ·show ¬((!t.plain&&decide (es.size>1))=true)
   rw[X.pl];simp
  refine wpAny_bind ?_
  show wpAny _ _ (if (!t.led&& !es.isEmpty)=true then _ else _) _ _ _
  rw[tU]
  simp only[Bool.not_true,Bool.false_and,Bool.false_eq_true,if_false]
  refine wpAny_pure ?_
  refine wpAny_pure ?_
  rw[Uu hb X hi]
  rw[Us hb]at h1
  have hz:=X.T.sz
  cases hx:es[i]? with
  |none=>exact h2 hx
  |some e=>
   have ak:i<es.size:=(Array.getElem?_eq_some_iff.mp hx).1
   have hp:t.place[i]? =some (t.place.getD i 0):=by simp[hz,ak]
   rw[hp]
   exact h1 e hx
theorem IT {Q:Value→Shared→Prop}(X:fc prog w s.heap S ns o es ep t) (h:Q (.ref s.heap.objs.size) {s with heap:=s.heap.push (ft w S t es.size ep 0)}):wpAny (model prog w) A (pyIter (.ref S)) Q E s:=by
 have hT:s.TypeIs (.ref S) "set" :=⟨o,X.ho,X.ex.1⟩
 refine wpAny_pyIter_slot hT F.slot_set_iter (wpAny_call_entry F.slot_set_iter hT JF ?_ (F.args_set_iter_1 _))
 unfold Builtin.«frozenset.__iter__» Builtin.Frozenset.slot0 slotArgs
 simp only[List.isEmpty_nil,Bool.not_true,Bool.false_eq_true, ↓reduceIte,bind_assoc,List.length_nil,bne_self_eq_false]
 unfold Builtin.Frozenset.addrOf Builtin.Frozenset.sizeOf
 refine wpAny_bind (wpAny_pure ?_)
 try dsimp only
 refine wpAny_bind (wpAny_pure ?_)
 refine wpAny_bind (wpAny_bind (wpAny_setEntries_of X.ho X.hd X.fits (wpAny_pure ?_)))
 unfold setDrawn setsByText
 refine wpAny_bind (wpAny_bind (wpAny_setState_of X.ho X.hd X.fits ?_))
 dsimp only
 refine wpAny_bind (wpAny_bind (wpAny_askSetting (wpAny_pure ?_)))
 refine wpAny_pure ?_
 refine wpAny_ite_split (fun hc=>absurd hc ?_) (fun _=> ?_)
 ·show ¬((!(w.params.followText "set-order")&&(!t.plain&&decide (es.size>1)))=true)
  rw[X.pl]
  simp
 refine wpAny_bind (wpAny_pure ?_)
 unfold setEpoch
 refine wpAny_bind (wpAny_bind (wpAny_setState_of X.ho X.hd X.fits (wpAny_pure ?_)))
 exact wpAny_bind (wpAny_newObj_type (wpAny_pure ⟨_,rfl, "set_iterator",_,⟨_,Heap.get?_push_size _ rfl,rfl⟩,ZL.lookup,h⟩))
def qc (prog:Program) (w:World) (S it:Addr) (ns:List Int) (o:Obj) (es:Array (Int×Value)) (ep:Nat) (t:SetTable) (i:Nat) (s:Shared):Prop:=fc prog w s.heap S ns o es ep t∧s.heap.get? it=some (ft w S t es.size ep i)
theorem fc.keep {h h':Heap}(X:fc prog w h S ns o es ep t) (k:∀o,h.get? S=some o→h'.get? S=some o):fc prog w h' S ns o es ep t:=⟨k _ X.ho,X.ex,X.hd,X.T,X.R,X.pl,X.ld,X.el,X.vs⟩
theorem JV (w:World) (S:Addr) (es:Array (Int×Value)) (ep:Nat):(fP w S es ep).size=es.size:=by
 have:=(UB w S es ep).length_eq
 rw[Array.length_toList,Array.length_toList]at this
 exact this
theorem JZ {i:Nat}{Q:PySem.Fin→Shared→Prop}(hi:i≤es.size) (h:qc prog w S it ns o es ep t i s) (ne:S≠it)
  (h1:∀e h',(fP w S es ep)[i]? =some e→Heap.SameBut it s.heap h'→qc prog w S it ns o es ep t (i+1) {s with heap:=h'}→Q (.done (.ret e.2)) {s with heap:=h'})
  (h2:∀h',(fP w S es ep)[i]? =none→Heap.SameBut it s.heap h'→wpAny (model prog w) A (do raiseNew (←newExc (.type "StopIteration") [])) Q E {s with heap:=h'}):
  wpAny (model prog w) A (Builtin.«set_iterator.__next__» ⟨[.ref it],[]⟩) Q E s:=by
 obtain⟨X,hit⟩:=h
 unfold Builtin.«set_iterator.__next__» slotArgs
 simp only[List.isEmpty_nil,Bool.not_true,Bool.false_eq_true, ↓reduceIte,bind_assoc,List.length_nil,bne_self_eq_false]
 refine wpAny_bind (wpAny_pure ?_)
 refine wpAny_bind (wpAny_fieldsOf hit rfl ?_)
 dsimp only
 refine wpAny_bind (wpAny_setEntries_of X.ho X.hd X.fits ?_)
 show wpAny _ _ (if (((es.size:Nat):Int) !=((es.size:Nat):Int))=true then _ else _) _ _ _
 rw[bne_self_eq_false,if_neg Bool.false_ne_true]
 show wpAny _ _ (setNext S ((ie w t i:Nat):Int).toNat ((i:Nat):Int).toNat ((ep:Nat):Int).toNat >>=_) _ _ _
 rw[Int.toNat_natCast,Int.toNat_natCast,Int.toNat_natCast]
 refine wpAny_bind (U3 X hi (fun e he=> ?_) (fun he=> ?_))
 ·dsimp only
  refine wpAny_bind (wpAny_setField hit rfl (by simp) ?_)
  have g1:(s.heap.update it (Obj.mapFields (·.setIfInBounds 0 (rawInt (ie w t (i+1)))))).get? it=some _:=Heap.get?_update_self _ hit (Obj.isFreed_of_fields (Obj.data_mapFields rfl _))
  refine wpAny_bind (wpAny_setField g1 (Obj.data_mapFields rfl _) (by simp) ?_)
  have g2:=Heap.get?_update_self (Obj.mapFields (·.setIfInBounds 1 (rawInt ((i:Int)+1)))) g1 (Obj.isFreed_of_fields (Obj.data_mapFields (Obj.data_mapFields rfl _) _))
  have sb:=(Heap.SameBut.update s.heap it (Obj.mapFields (·.setIfInBounds 0 (rawInt (ie w t (i+1)))))).trans (Heap.SameBut.update _ it (Obj.mapFields (·.setIfInBounds 1 (rawInt ((i:Int)+1)))))
  refine wpAny_pure (h1 e _ he sb ⟨X.keep fun o' e'=> (sb.2 S ne).trans e',?_⟩)
  exact g2
 ·dsimp only
  refine wpAny_bind (wpAny_setField hit rfl (by simp) ?_)
  exact h2 _ he (Heap.SameBut.update ..)
end
end HS
namespace HS
open PySem PySem.SetTable PySem.Spec L2
theorem Yw:Slot "set_iterator" "__iter__" "set_iterator.__iter__" :=
 .of (owner:= "set_iterator") (n:= "__iter__") (by rw[typeLookup_type,builtinLookup_eq_fast];kernel_rfl) (by decide+kernel) (by decide+kernel) (by decide+kernel)
  (by first |exact .inl (by decide+kernel) |exact .inr (by decide+kernel)) (by rw[isSubtype_type];kernel_rfl)
theorem Jx:entryFor table "set_iterator.__iter__" =some Builtin.«dict_keyiterator.__iter__» :=
 entryFor_alias (id':= "dict_keyiterator.__iter__") (by kernel_rfl) rfl (by decide+kernel) (by kernel_rfl)
theorem JG (a:Value):argsOk "set_iterator.__iter__" ⟨[a],[]⟩:=by unfold argsOk;kernel_rfl
theorem W2:typeLookup (.type "set") "__len__" =pure (some (.builtin "set.__len__")):=by rw[typeLookup_type,builtinLookup_eq_fast];kernel_rfl
section
variable {prog:Program}{w:World}{A:Around}{E:Value→Shared→Prop}{s:Shared}{S it:Addr}{ns:List Int}{o:Obj}{es:Array (Int×Value)}{ep:Nat}{t:SetTable}
theorem Lc {Q:PySem.Fin→Shared→Prop}(hh:A.handled=none) (q:∀h' e,(∀b o,s.heap.get? b=some o→h'.get? b=some o)→(∃o,h'.get? e=some o∧o.cls=.type "StopIteration")→E (.ref e) {s with heap:=h'}):
  wpAny (model prog w) A (do raiseNew (←newExc (.type "StopIteration") [])) Q E s:=by
 refine wpAny_bind ?_
 simp only[newExc,newTuple]
 refine wpAny_bind (wpAny_newObj_type ?_ (by size_fits))
 refine wpAny_bind (m:=firstArgMember _ _) (wpAny_of_eq (a:=Value.none) (by first |rfl |(simp only[firstArgMember];rfl)) ?_)
 refine wpAny_newObj_type ?_ (by size_fits)
 simp only[raiseNew]
 refine wpAny_bind (wpAny_handled ?_)
 rw[hh]
 refine wpAny_bind (wpAny_pure (wpAny_throw ?_))
 exact q _ _ (fun b o e=>Heap.get?_push_of_some _ (Heap.get?_push_of_some _ e)) ⟨_,Heap.get?_push_size _ rfl,rfl⟩
theorem Aj (hh:A.handled=none) (ne:S≠it):WalksS prog w A it [it,S] [it] (fun a b=>b=a) es.size (fun i v=> ∃e,(fP w S es ep)[i]? =some e∧v=e.2) (qc prog w S it ns o es ep t) where
 sub:=fun b hb=>by rw[List.mem_singleton.mp hb];simp
 grefl:=fun _=>rfl
 gtrans:=fun _ _ _ h1 h2=>h2.trans h1
 frame:=fun i s h' tk st _ k=> ⟨st.1.keep fun o e=>k S (by simp) o e,k it (by simp) _ st.2⟩
 item:=fun i s Q E hi st q=>by
  have hT:s.TypeIs (.ref it) "set_iterator" :=⟨_,st.2,rfl⟩
  unfold pyNext
  refine wpAny_bind (wpAny_attempt (wpAny_callSpecial?_slot (name:=Str.ofString "__next__") hT ZL (wpAny_call_entry ZL hT Yr (JZ (A:=A.in1) (Nat.le_of_lt hi) st ne (fun e h' he sb aa=> ⟨_,rfl,wpAny_pure ?_⟩) (fun h' he _=> ?_)) (Yx _))))
  ·exact q e.2 _ ⟨e,he,rfl⟩ aa ⟨fun b o hb eb=> (sb.2 b (fun z=>hb (by rw[z];exact List.mem_singleton.mpr rfl))).trans eb,rfl,rfl,rfl,Nat.le_refl _⟩
  ·rw[Array.getElem?_eq_none_iff,JV]at he
   omega
 done:=fun s Q E st q=>by
  have hT:s.TypeIs (.ref it) "set_iterator" :=⟨_,st.2,rfl⟩
  unfold pyNext
  refine wpAny_bind (wpAny_attempt (wpAny_callSpecial?_slot (name:=Str.ofString "__next__") hT ZL (wpAny_call_entry ZL hT Yr (JZ (A:=A.in1) (Nat.le_refl _) st ne (fun e h' he sb aa=> ?_) (fun h' he sb=>Lc (show A.in1.handled=none from hh) fun h2 e k ⟨oe,ge,ce⟩=> ?_)) (Yx _))))
  ·have:=(Array.getElem?_eq_some_iff.mp he).1
   rw[JV]at this
   omega
  ·refine wpAny_bind (wpAny_isInstance (T:= "StopIteration") (b:=true) ⟨oe,ge,ce⟩ isSubtype_stop (wpAny_pure (q _ ⟨fun b o hb eb=>k b o ((sb.2 b (fun z=>hb (by rw[z];exact List.mem_singleton.mpr rfl))).trans eb),rfl,rfl,rfl,Nat.le_refl _⟩)))
 self:=fun i s Q E st q=>by
  have hT:s.TypeIs (.ref it) "set_iterator" :=⟨_,st.2,rfl⟩
  refine wpAny_pyIter_slot hT Yw (wpAny_call_entry Yw hT Jx ?_ (JG _))
  exact(show wpAny _ _ (ret (.ref it)) _ _ s from wpAny_pure ⟨_,rfl, "set_iterator",_,hT,ZL.lookup,q⟩)
theorem FQ {Q:List Value→Shared→Prop}(hh:A.handled=none) (X:fc prog w s.heap S ns o es ep t)
  (h:∀h' tk acc,(∀b o,s.heap.get? b=some o→h'.get? b=some o)→s.heap.objs.size≤h'.objs.size→ItemsOf (fun i v=> ∃e,(fP w S es ep)[i]? =some e∧v=e.2) acc es.size→Q acc.toList {s with heap:=h',toks:=tk}):wpAny (model prog w) A (collect (.ref S)) Q E s:=by
 have ak:S<s.heap.objs.size:=Heap.lt_size X.ho
 unfold collect
 refine wpAny_bind (wpAny_runValue (codeAny_builtin F.entry_proto_collect ?_))
 rw[Around.under_plainId F.plain_proto_collect _]
 refine(show wpAny _ A.in1 (newList [] >>=fun l=>again (.builtin "list.__iadd__" ⟨[l,.ref S],[]⟩)) _ _ s from wpAny_bind (wpAny_newObj_type ?_))
 refine wpAny_pure ⟨plainId_quiet F.plain_list_iadd _,codeAny_builtin F.entry_list_iadd ?_⟩
 rw[Around.under_plainId F.plain_list_iadd _]
 generalize hL:s.heap.objs.size=L
 rw[hL]at ak
 have gL:(s.heap.push {cls:=.type "list",data:=.seq ([]:List Value).toArray}).get? L=some {cls:=.type "list",dict:=none,data:=.seq #[] 0,slots:= #[]} :=by rw[←hL];exact Heap.get?_push_size _ rfl
 have X1:fc prog w (s.heap.push {cls:=.type "list",data:=.seq ([]:List Value).toArray}) S ns o es ep t:=X.keep fun o e=>Heap.get?_push_of_some _ e
 have EC:Shared.TypeIs {s with heap:=s.heap.push {cls:=.type "list",data:=.seq ([]:List Value).toArray} } (.ref S) "set" :=⟨o,X1.ho,X.ex.1⟩
 show wpAny _ A.in1 (Builtin.List.listExtendWith (.ref L) (.ref S) (.ref L)) _ _ _
 unfold Builtin.List.listExtendWith
 refine wpAny_bind (wpAny_typeOf EC ?_)
 have nS:Builtin.List.listSameRef (.ref L) (.ref S)=false:=by show(L==S)=false;rw[beq_eq_false_iff_ne];exact Nat.ne_of_gt ak
 rw[if_neg (by rw[nS];decide)]
 refine wpAny_bind (IT X1 ?_)
 have bY:(s.heap.push {cls:=.type "list",data:=.seq ([]:List Value).toArray}).objs.size=L+1:=by rw[Heap.size_push,hL]
 dsimp only
 rw[bY]
 refine wpAny_bind (wpAny_holding ?_)
 unfold Builtin.List.listLengthHint
 have uo:Shared.TypeIs {s with heap:=(s.heap.push {cls:=.type "list",data:=.seq ([]:List Value).toArray}).push (ft w S t es.size ep 0)} (.ref S) "set" :=⟨o,Heap.get?_push_of_some _ X1.ho,X.ex.1⟩
 refine wpAny_bind (wpAny_specialOf uo W2 ?_)
 dsimp only
 rw[show splitId "set.__len__" =some ("set", "__len__") from by decide+kernel]
 dsimp only
 refine wpAny_bind (wpAny_isInstance (b:=true) uo sub_set_self ?_)
 simp only[Bool.not_true,Bool.false_eq_true,if_false]
 refine wpAny_ite_split (fun _=> ?_) (fun hc=>absurd (by rfl) hc)
 refine wpAny_bind (wpAny_typeOf uo ?_)
 refine wpAny_pure ?_
 refine wpAny_ite_split (fun _=> ?_) (fun hc=>absurd (by rfl) hc)
 refine wpAny_bind (wpAny_rule ?_)
 have yy:((s.heap.push {cls:=.type "list",data:=.seq ([]:List Value).toArray}).push (ft w S t es.size ep 0)).get? L=some {cls:=.type "list",dict:=none,data:=.seq #[] 0,slots:= #[]} :=Heap.get?_push_of_some _ gL
 have EU:((s.heap.push {cls:=.type "list",data:=.seq ([]:List Value).toArray}).push (ft w S t es.size ep 0)).get? (L+1)=some (ft w S t es.size ep 0):=by rw[←bY];exact Heap.get?_push_size _ rfl
 have X2:fc prog w ((s.heap.push {cls:=.type "list",data:=.seq ([]:List Value).toArray}).push (ft w S t es.size ep 0)) S ns o es ep t:=X1.keep fun o e=>Heap.get?_push_of_some _ e
 unfold Builtin.List.listTouch
 refine wpAny_bind (wpAny_bind (PyProof.Rows.listUpdate_at yy rfl ?_ (by decide)))
 obtain⟨n3,g3⟩:∃n3,(((s.heap.push {cls:=.type "list",data:=.seq ([]:List Value).toArray}).push (ft w S t es.size ep 0)).update L (Obj.mapSeq (·.push .none))).get? L=some (PyProof.Rows.seqObj "list" #[.none] n3):=⟨_,PyProof.Rows.get?_update_seq yy (·.push .none)⟩
 refine PyProof.Rows.listUpdate_at g3 rfl ?_ (by decide)
 obtain⟨n4,g4⟩:∃n4,((((s.heap.push {cls:=.type "list",data:=.seq ([]:List Value).toArray}).push (ft w S t es.size ep 0)).update L (Obj.mapSeq (·.push .none))).update L (Obj.mapSeq (·.pop))).get? L=some (PyProof.Rows.seqObj "list" #[] n4):=⟨_,PyProof.Rows.get?_update_seq g3 (·.pop)⟩
 have oK:∀b o,b≠L→((s.heap.push {cls:=.type "list",data:=.seq ([]:List Value).toArray}).push (ft w S t es.size ep 0)).get? b=some o→((((s.heap.push {cls:=.type "list",data:=.seq ([]:List Value).toArray}).push (ft w S t es.size ep 0)).update L (Obj.mapSeq (·.push .none))).update L (Obj.mapSeq (·.pop))).get? b=some o:=fun b o hb e=>by
  rw[Heap.get?_update_ne _ _ _ _ hb,Heap.get?_update_ne _ _ _ _ hb]
  exact e
 generalize (((s.heap.push {cls:=.type "list",data:=.seq ([]:List Value).toArray}).push (ft w S t es.size ep 0)).update L (Obj.mapSeq (·.push .none))).update L (Obj.mapSeq (·.pop))=h4 at g4 oK
 have cm:qc prog w S (L+1) ns o es ep t 0 {s with heap:=h4} :=⟨X2.keep fun o e=>oK S o (Nat.ne_of_lt ak) e,oK _ _ (Nat.succ_ne_self L) EU⟩
 have W:=Aj (prog:=prog) (w:=w) (A:=A.in1) (S:=S) (it:=L+1) (ns:=ns) (o:=o) (es:=es) (ep:=ep) (t:=t) (show A.in1.handled=none from hh) (Nat.ne_of_lt (Nat.lt_succ_of_lt ak))
 have DZ:L∉[L+1,S]:=by
  simp only[List.mem_cons,List.not_mem_nil,or_false,not_or]
  exact⟨(Nat.succ_ne_self L).symm,Nat.ne_of_gt ak⟩
 have pD:es.size≤sizeLine:=by
  have:=X.R.small
  rw[sizeLine_eq]
  omega
 refine wpAny_pure ⟨plainId_quiet F.plain_extend_loop _,codeAny_extend_loopS W pD L DZ _ es.size 0 _ _ _ rfl (Nat.zero_le _) cm g4 (ItemsOf.nil _) fun s' F3 c' hm cI mZ=> ?_⟩
 show wpAny _ A (load L >>=_) _ _ s'
 refine wpAny_bind (wpAny_load cI ?_)
 obtain⟨h',g',d',kB,jA⟩:=s'
 obtain rfl:g'=s.gens:=hm.gens
 obtain rfl:d'=s.drawn:=hm.drawn
 obtain rfl:jA=s.os:=hm.os
 refine wpAny_pure (h h' kB F3 (fun b ob eb=> ?_) (by rw[hL];exact Nat.le_of_lt (Heap.lt_size cI)) mZ)
 have hb:b<L:=by rw[←hL];exact Heap.lt_size eb
 refine hm.heap b ob ?_ (oK b ob (Nat.ne_of_lt hb) (Heap.get?_push_of_some _ (Heap.get?_push_of_some _ eb)))
 simp only[List.mem_cons,List.not_mem_nil,or_false,not_or]
 exact⟨Nat.ne_of_lt hb,Nat.ne_of_lt (Nat.lt_succ_of_lt hb)⟩
end
section
variable {prog:Program}{w:World}{A:Around}{E:Value→Shared→Prop}{s:Shared}{S:Addr}
theorem A9 {m:Int→Prop}{c:Nat}{Q:Value→Shared→Prop}(hh:A.handled=none) (H:eE prog w s.heap S m c) (hc:c<64)
  (h:∀h' tk a out br e,(∀b o,s.heap.get? b=some o→h'.get? b=some o)→s.heap.objs.size≤a→h'.get? a=some (PyProof.Rows.seqObj "list" out e)→PyProof.Rows.IntsAre out.toList br→br.length<64→br.Pairwise (·≤ ·)→br.Nodup→(∀k,k∈br↔m k)→Q (.ref a) {s with heap:=h',toks:=tk}):
  wpAny (model prog w) A (call (.builtin "sorted") [.ref S]) Q E s:=by
 obtain⟨ns,o,es,ep,t,X,nd,ln,mm⟩:=H
 refine Calls.call_function_entry PyProof.Rows.kind_sorted PyProof.Rows.plain_sorted PyProof.Rows.entry_sorted (PyProof.Rows.args_sorted1 _) ?_
 unfold Builtin.«sorted»
 refine wpAny_bind (m:=checkCount "sorted" 1 1 _) (wpAny_pure ?_)
 refine wpAny_bind (FQ (show A.in1.handled=none from hh) X fun h1 tk acc k1 hle ia=> ?_)
 have ea:acc.toList=(fP w S es ep).toList.map (·.2):=by
  refine List.ext_getElem? fun j=> ?_
  rw[List.getElem?_map,Array.getElem?_toList,Array.getElem?_toList]
  by_cases hj:j<acc.size
  ·obtain⟨e,q1,q2⟩:=ia.2 j _ (Array.getElem?_eq_getElem hj)
   rw[q1,Array.getElem?_eq_getElem hj,q2]
   rfl
  ·rw[Array.getElem?_eq_none (by omega),Array.getElem?_eq_none (by rw[JV,←ia.1];omega)]
   rfl
 obtain⟨sO,i2,p2⟩:=Ju ((UB w S es ep).map (·.2)) X.vs
 rw[←ea]at i2
 have l2:sO.length<64:=by rw[p2.length_eq];omega
 have la:acc.toList.length<64:=by
  have:=i2.length
  omega
 refine wpAny_bind (wpAny_newList ?_ (by rw[sizeLine_eq];omega))
 have ja:(h1.push (PyProof.Rows.seqObj "list" acc.toList.toArray 0)).get? h1.objs.size=some (PyProof.Rows.seqObj "list" acc.toList.toArray 0):=Heap.get?_push_size _ rfl
 refine wpAny_bind (wpAny_holding (wpAny_call_entry PyProof.Rows.slot_list_sort ⟨_,ja,rfl⟩ PyProof.Rows.entry_list_sort (PyProof.Rows.list_sort_tree ja i2 la fun out br a1 a2 a3=> ⟨_,rfl,?_⟩) (PyProof.Rows.args_list_sort _)))
 obtain⟨e,he⟩:=PyProof.Rows.sortedHeap_at (out:=out) ja
 refine wpAny_pure ⟨_,rfl,h _ tk _ out br e (fun b ob eb=> ?_) hle he a1 (by rw[a2.length_eq];exact l2) a3 (a2.nodup_iff.mpr (p2.nodup_iff.mpr nd)) fun k=> (a2.mem_iff.trans p2.mem_iff).trans (mm k)⟩
 have hb:=Heap.lt_size (k1 b ob eb)
 rw[PyProof.Rows.sortedHeap_old (Nat.ne_of_lt hb) (by rw[Heap.size_push];exact Nat.lt_succ_of_lt hb)]
 exact Heap.get?_push_of_some _ (k1 b ob eb)
end
end HS
namespace L2
open PySem PySem.Spec PyProof.Rows
section
variable {X:Cx}
def AA (K:PySem.W.Frag) (te:TE):TE:=fun σ H Q=>te σ H fun v H1=> ∃(l:Addr) (ns:List Int),v=.ref l∧ag K H1 l (ns.map V.int)∧ns.length<64∧∀(q:Addr) (br:List Int),H1 q=none→br.Pairwise (·≤ ·)→br.Nodup→(∀k,k∈br↔k∈ns)→Q (.ref q) (upd H1 q (.lst (br.map V.int)))
theorem K9 {e:Expr}{te:TE}{p p2 pos fM:Pos}(hc:X.calm=true) (hg:Gl X "sorted") (hm:X.mg "sorted" =none) (ua:Gl X "set") (jO:X.mg "set" =none) (he:PE X e te)
  (mK:starEach [.Call (.Name "set" p2) [e] [] fM] X.env=[(false,eval (.Call (.Name "set" p2) [e] [] fM) X.env)]:=by rfl) (fW:starEach [e] X.env=[(false,eval e X.env)]:=by rfl):
  PE X (.Call (.Name "sorted" p) [.Call (.Name "set" p2) [e] [] fM] [] pos) (AA X.K te):=by
 intro pins s σ H Q I h
 refine wpAny_Call_Name_kw (Z6 I hg hm boot_sorted ?_)
 refine PyProof.Rows.callWith_builtin1 ?_ mK rfl
 rw[mK]
 show wpAny _ _ (spliced ((false,eval (.Call (.Name "set" p2) [e] [] fM) X.env)::backTo pos (starEach [] X.env))) _ _ s
 refine Calls.spliced_cons ?_
 refine wpAny_Call_Name_kw (Z6 I ua jO boot_set ?_)
 generalize hR:(fun(v:V) (H1:Hp)=> ∃(l:Addr) (ns:List Int),v=.ref l∧ag X.K H1 l (ns.map V.int)∧ns.length<64∧∀(q:Addr) (br:List Int),H1 q=none→br.Pairwise (·≤ ·)→br.Nodup→(∀k,k∈br↔k∈ns)→Q (.ref q) (upd H1 q (.lst (br.map V.int))))=R
 have h2:kD te kC σ H fun vs H1=> ∃v,vs=[v]∧R v H1:=by
  have e0:(fun(v:V) (H1:Hp)=> ∃v':V,[v]=[v']∧R v' H1)=R:=by
   funext v H1
   refine propext ⟨fun⟨v',z,q⟩=> ?_,fun q=> ⟨v,rfl,q⟩⟩
   cases z
   exact q
  show te σ H (fun(v:V) (H1:Hp)=> ∃v':V,[v]=[v']∧R v' H1)
  rw[e0,←hR]
  exact h
 refine PyProof.Rows.callWith_type1 (au (Za he Zb fW fM pins s σ H _ I h2) fun us s1 ⟨vs,H1,I1,r1,q1⟩=> ?_) fW rfl
 rw[←hR]at q1
 obtain⟨v,rfl,l,ns,rfl,hl,hn,q⟩:=q1
 obtain⟨u,rfl,ru⟩:=vals1 r1
 cases ru
 obtain⟨its,rv,pl,hz⟩:=I1.list hl
 have ll:=rv.length
 rw[List.length_map]at ll
 refine HS.FT (val:=fun i=>ns.getD i 0) (items:=its.toArray) (I1.ok.hd hc) pl.isList (fun i u iz=> ?_) (by rw[List.size_toArray];omega) fun h' tk hS hk=> ?_
 ·have pe:its[i]? =some u:=by simpa using iz
  obtain⟨hi,e1⟩:=List.getElem?_eq_some_iff.mp pe
  obtain⟨t,e2⟩:=Yp rv i hi
  exact⟨t,by rw[←e1,e2]⟩
 ·have I2:Inv X pins σ H1 {s1 with heap:=h',toks:=tk} :=I1.kept fun b o eb=>hk b o (Heap.lt_size eb) eb
  refine Calls.spliced_nil ?_
  refine HS.A9 (I2.ok.hd hc) hS (by rw[List.size_toArray];omega) fun h2 hZ a out br ee k2 hle he a1 a2 a3 a4 a5=> ?_
  have hlen:(br.map V.int).length≤sizeLine:=by rw[List.length_map,sizeLine_eq];omega
  refine⟨.ref a,_,I2.laid (t':=hZ) (a:=a) (o:=.lst (br.map V.int)) k2 hle ⟨hlen,out.toList,ee,Y5 a1,by simpa using he⟩,rfl,q _ _ (I2.aj.fresh hle) a3 a4 fun k=> (a5 k).trans ?_⟩
  rw[List.size_toArray,←ll]
  refine⟨fun⟨j,hj,ek⟩=> ?_,fun hk=> ?_⟩
  ·rw[ek,List.getD_eq_getElem?_getD,List.getElem?_eq_getElem hj]
   exact List.getElem_mem hj
  ·obtain⟨j,hj,ek⟩:=List.getElem_of_mem hk
   refine⟨j,hj,?_⟩
   rw[List.getD_eq_getElem?_getD,List.getElem?_eq_getElem hj,Option.getD_some,ek]
end
theorem zJ:∀{l m:List Int},l.Pairwise (· < ·)→m.Pairwise (·≤ ·)→m.Nodup→(∀k,k∈m↔k∈l)→m=l
 | [],[],_,_,_,_=>rfl
 | [],b::m,_,_,_,h=>absurd ((h b).mp (List.mem_cons_self ..)) (by simp)
 |a::l,[],_,_,_,h=>absurd ((h a).mpr (List.mem_cons_self ..)) (by simp)
 |a::l,b::m,p,q,n,h=>by
  have p1:=List.pairwise_cons.mp p
  have q1:=List.pairwise_cons.mp q
  have n1:=List.nodup_cons.mp n
  have e:b=a:=by
   rcases List.mem_cons.mp ((h b).mp (List.mem_cons_self ..)) with z |z
   ·exact z
   ·rcases List.mem_cons.mp ((h a).mpr (List.mem_cons_self ..)) with y |y
    ·exact y.symm
    ·have:=p1.1 b z
     have:=q1.1 a y
     omega
  subst e
  rw[zJ p1.2 q1.2 n1.2 fun k=> ?_]
  refine⟨fun hk=> ?_,fun hk=> ?_⟩
  ·rcases List.mem_cons.mp ((h k).mp (List.mem_cons_of_mem _ hk)) with z |z
   ·exact absurd (z▸hk) n1.1
   ·exact z
  ·rcases List.mem_cons.mp ((h k).mpr (List.mem_cons_of_mem _ hk)) with z |z
   ·exact absurd (p1.1 k hk) (by rw[z];exact Int.lt_irrefl _)
   ·exact z
end L2
namespace U
open PySem L2 PyProof.Rows
def top (i:Nat):Stmt:=PySem.Challenge.pw_unlikesteps_k72_whole_corners.main.body.getD i (.Pass ⟨0,0,0,0⟩)
structure Gs (mg:Str→Option Value):Prop where
 isinstance:mg "isinstance" =none
 int:mg "int" =none
 bool:mg "bool" =none
 tuple:mg "tuple" =none
 list:mg "list" =none
 len:mg "len" =none
 all:mg "all" =none
 set:mg "set" =none
 range:mg "range" =none
 max:mg "max" =none
 min:mg "min" =none
 enumerate:mg "enumerate" =none
 zip:mg "zip" =none
 sorted:mg "sorted" =none
 longest:∃t,mg "LONGEST_SIDE" =some (.int 12 t)
 last:∃t,mg "LAST_CORNER" =some (.int 3 t)
section
theorem Zl {H:Hp}{p:Addr}{o:HO}(h:H p=none):ae H (upd H p o):=fun b u hb=>by rw[Zh (Zi hb h)];exact hb
theorem ZM {D:Ends}{σ:L2.St}{H:Hp}(h:D.nx σ H):vI D σ H:=h
theorem Zn {t u:TS}{D:Ends}{σ:L2.St}{H:Hp}(h:t {D with nx:=u D} σ H):qx t u D σ H:=h
theorem ZD {te:TE}{g:TG}{D:Ends}{σ:L2.St}{H:Hp}(h:te σ H fun v H1=>g v σ H1 D.nx):nW te g D σ H:=h
theorem Zq {i:Nat}{v:V}{σ:L2.St}{H:Hp}{Q:L2.St→Hp→Prop}(h:Q (σ.set i (some v)) H):bR i v σ H Q:=h
end
section
variable {P:Program}{w:World}{K:PySem.W.Frag}{mg:Str→Option Value}{base:Heap}
abbrev rh:Stmt:=top 13
def qz (K:PySem.W.Frag):Sp:=fun vs H Q _=> ∃x,vs=[x]∧jn K H x∧Q (.bl (whole x)) H
theorem Be:aV ["thing"] ["thing"] (aC rh):=⟨rfl,rfl,rfl,by decide+kernel,rfl,by decide+kernel,by decide+kernel⟩
theorem HY {f:Addr}{fd:FuncData}(F:aM K "is_whole" "is_whole" rh f fd) (G:Gs mg):aG P w K mg base aH 1 f fd ["thing"] (qz K):=by
 refine F.ok Be (fun vs H Q E h=> ?_) (fun ao A outer s H vs Q E hr h=> ?_)
 ·obtain⟨x,rfl,_⟩:=h
  rfl
 ·obtain⟨x,rfl,⟨T,t⟩,q⟩:=h
  refine⟨_,Zk (Zu (Y1 (Zv (Yj (c:= "int")) rfl G.isinstance boot_isinstance (Za (pv 0) (Za (JL (v:=.ty "int") rfl G.int boot_int rfl) Zb)))
   (Y0 (Hd (Zv (Yj (c:= "bool")) rfl G.isinstance boot_isinstance (Za (pv 0) (Za (JL (v:=.ty "bool") rfl G.bool boot_bool rfl) Zb))))))),?_⟩
  refine⟨x,rfl,x,_,_,rfl,t,GN t,_,rfl,?_⟩
  rw[UN]at q
  cases e:sV x with
  |false=>rw[e]at q;exact aw q
  |true=>rw[e]at q;exact bf ⟨x,rfl,x,_,_,rfl,t,HH t,_,rfl,q⟩
abbrev rf:Stmt:=top 14
def js (K:PySem.W.Frag):Sp:=fun vs H Q _=> ∃x a b,vs=[x,.int a,.int b]∧jn K H x∧Q (.bl (bq x a b)) H
theorem Bd:aV ["thing", "least", "most"] ["thing", "least", "most"] (aC rf):=⟨rfl,rfl,rfl,by decide+kernel,rfl,by decide+kernel,by decide+kernel⟩
theorem Kd {f:Addr}{fd:FuncData}(F:aM K "is_whole_within" "is_whole_within" rf f fd) (D1:Def P w K mg base 1 "is_whole" ["thing"] (qz K)):aG P w K mg base aH 2 f fd ["thing", "least", "most"] (js K):=by
 refine F.ok Bd (fun vs H Q E h=> ?_) (fun ao A outer s H vs Q E hr h=> ?_)
 ·obtain⟨x,a,b,rfl,_⟩:=h
  rfl
 ·obtain⟨x,a,b,rfl,t,q⟩:=h
  refine⟨_,Zk (Zu (Y1 (Zf D1 hr (Za (pv 0) Zb)) (Y0 (KQ yT yT (pv 1) (pv 0) (pv 2))))),?_⟩
  refine⟨x,rfl,x,rfl,t,_,rfl,?_⟩
  cases x with
  |int i=>
   refine bf ⟨_,rfl,_,rfl,_,_,rfl,rfl,_,rfl,?_⟩
   have e:bq (.int i) a b=(decide (a≤i)&&decide (i≤b)):=rfl
   rw[e]at q
   cases e1:decide (a≤i) with
   |false=>rw[e1]at q;exact aw q
   |true=>rw[e1]at q;exact bf ⟨_,rfl,_,_,rfl,rfl,q⟩
  |_=>exact aw q
abbrev rm:Stmt:=top 16
def kF (K:PySem.W.Frag):Sp:=fun vs H Q _=> ∃x n,vs=[x,.int n]∧jn K H x∧Q (.bl (match bS H x with |some xs=>decide ((xs.length:Int)=n) |none=>false)) H
theorem Bh:aV ["thing", "many"] ["thing", "many"] (aC rm):=⟨rfl,rfl,rfl,by decide+kernel,rfl,by decide+kernel,by decide+kernel⟩
theorem HX {f:Addr}{fd:FuncData}(F:aM K "is_tuple_of" "is_tuple_of" rm f fd) (G:Gs mg):aG P w K mg base aH 1 f fd ["thing", "many"] (kF K):=by
 refine F.ok Bh (fun vs H Q E h=> ?_) (fun ao A outer s H vs Q E hr h=> ?_)
 ·obtain⟨x,n,rfl,_⟩:=h
  rfl
 ·obtain⟨x,n,rfl,⟨T,t⟩,q⟩:=h
  refine⟨_,Zk (Zu (Y1 (Zv (Yj (c:= "tuple")) rfl G.isinstance boot_isinstance (Za (pv 0) (Za (JL (v:=.ty "tuple") rfl G.tuple boot_tuple rfl) Zb)))
   (Y0 (Jb JX (Zv ZI rfl G.len boot_len (Za (pv 0) Zb)) (pv 1) (bM _))))),?_⟩
  refine⟨x,rfl,x,_,_,rfl,t,IU t,_,rfl,?_⟩
  cases e:bS H x with
  |none=>rw[e]at q;exact aw q
  |some xs=>
   rw[e]at q
   obtain⟨a,rfl,ha⟩:=Zp e
   refine bf ⟨_,rfl,a,xs,rfl,.inr (af.of ha),_,rfl,rfl,?_⟩
   have z:decide (V.int (xs.length:Int)=V.int n)=decide ((xs.length:Int)=n):=by simp
   rw[z]
   exact q
abbrev r9:Stmt:=top 17
def mC:Option (List V)→Bool
 |some [a,b]=>bq a 1 12&&bq b 1 12
 |_=>false
def iK (K:PySem.W.Frag) (H:Hp) (x:V):Prop:=jn K H x∧∀xs,bS H x=some xs→∀y∈xs,jn K H y
def qY (K:PySem.W.Frag):Sp:=fun vs H Q _=> ∃x,vs=[x]∧iK K H x∧∀H',ae H H'→Q (.bl (mC (bS H x))) H'
theorem Bu:aV ["thing"] ["thing"] (aC r9):=⟨rfl,rfl,rfl,by decide+kernel,rfl,by decide+kernel,by decide+kernel⟩
theorem HV {f:Addr}{fd:FuncData}(F:aM K "is_board" "is_board" r9 f fd) (G:Gs mg) (D1:Def P w K mg base 1 "is_tuple_of" ["thing", "many"] (kF K)) (D2:Def P w K mg base 2 "is_whole_within" ["thing", "least", "most"] (js K)):
  aG P w K mg base aH 3 f fd ["thing"] (qY K):=by
 obtain⟨tk,hL⟩:=G.longest
 refine F.ok Bu (fun vs H Q E h=> ?_) (fun ao A outer s H vs Q E hr h=> ?_)
 ·obtain⟨x,rfl,_⟩:=h
  rfl
 ·obtain⟨x,rfl,⟨t,hi⟩,q⟩:=h
  refine⟨_,Zk (Zu (Y1 (Zf D1 (hr.mono (by decide)) (Za (pv 0) (Za Ze Zb)))
   (Y0 (Zv YI rfl G.all boot_all (Za (ZT ["side"] 1 [] (JS (pv 0)) (fun C s H fp=>pb 0) (fun C s H fp=>ZZ)
    (fun C s H fp D=>ZE rfl (Zf D2 (hr.mono (by decide)) (Za (pv 0) (Za Ze (Za (Ja (v:=.int 12) rfl hL ⟨_,rfl⟩) Zb)))))) Zb))))),?_⟩
  refine⟨x,rfl,x,2,rfl,t,_,rfl,?_⟩
  cases e:bS H x with
  |none=>rw[e]at q;exact aw (q H (ae.refl H))
  |some xs=>
   rw[e]at q
   obtain⟨a,rfl,ha⟩:=Zp e
   show if decide ((xs.length:Int)=2)=true then _ else _
   by_cases h2:xs.length=2
   ·rw[decide_eq_true (show(xs.length:Int)=2 by omega)]
    refine bf ⟨_,rfl,a,rfl,⟨xs,af.of ha⟩,?_⟩
    refine YC (xs:=xs) (fun i ys σ H2=>ys=(xs.take i).map (fun y=>V.bl (bq y 1 12))∧H2=H∧∃v,σ=[v]) ⟨rfl,rfl,none,rfl⟩ (fun i ys σ H2 _ ⟨_,e2,_⟩=>by rw[e2];exact af.of ha) ?_ ?_
    ·rintro i y ys σ H2 hy ⟨rfl,rfl,v,rfl⟩
     have my:y∈xs:=List.mem_of_getElem? hy
     refine⟨y,rfl,y,1,12,rfl,hi xs e y my,?_,?_⟩
     ·rw[List.length_map,sizeLine_eq,List.length_take];omega
     ·refine⟨?_,rfl,_,rfl⟩
      rw[List.take_add_one,hy,List.map_append]
      rfl
    ·rintro ys σ H2 ⟨rfl,rfl,v,rfl⟩ p hp
     rw[List.take_length]
     refine⟨p,xs.map (fun y=>bq y 1 12),rfl,?_,?_⟩
     ·rw[List.map_map];exact ag.of Zd
     ·have e3:mC (some xs)=(xs.map (fun y=>bq y 1 12)).all id:=by
       match xs,h2 with
       | [a,b],_=>simp[mC]
      rw[←e3]
      exact q _ fun b o hb=>by rw[Zh (Zi hb hp)];exact hb
   ·rw[decide_eq_false (show ¬(xs.length:Int)=2 by omega)]
    have e3:mC (some xs)=false:=by
     match xs,h2 with
     | [],_=>rfl
     | [a],_=>rfl
     | [a,b],h=>exact absurd rfl h
     |a::b::c::r,_=>rfl
    rw[e3]at q
    exact aw (q H (ae.refl H))
abbrev rZ:Stmt:=top 46
def qX (K:PySem.W.Frag):Sp:=fun vs H Q _=> ∃(a:Addr) (ns:List Int) (k:Nat),vs=[.ref a,.int k]∧ag K H a (ns.map V.int)∧∀n:Int,Q (.int n) H
theorem Bt:aV ["_law_script", "_law_k"] ["_law_script", "_law_k"] (aC rZ):=⟨rfl,rfl,rfl,by decide+kernel,rfl,by decide+kernel,by decide+kernel⟩
theorem GW {f:Addr}{fd:FuncData}(F:aM K "_law_cell_at" "_law_cell_at" rZ f fd) (G:Gs mg):aG P w K mg base aH 1 f fd ["_law_script", "_law_k"] (qX K):=by
 refine F.ok Bt (fun vs H Q E h=> ?_) (fun ao A outer s H vs Q E hr h=> ?_)
 ·obtain⟨a,ns,k,rfl,_⟩:=h
  rfl
 ·obtain⟨a,ns,k,rfl,hs,q⟩:=h
  refine⟨_,Zg (ZR (Zx UC (pv 1) (Zv ZI rfl G.len boot_len (Za (pv 0) Zb)) (bM _)) (Zk (Zu (ZG Z4 (pv 0) (pv 1) (fun _ _=>rfl)))) Zy) (Zk (Zu Ze)),?_⟩
  refine⟨_,rfl,_,rfl,a,ns.map V.int,rfl,.inl hs,_,_,rfl,rfl,_,rfl,?_⟩
  by_cases hk:k<ns.length
  ·rw[decide_eq_true (by rw[List.length_map];omega)]
   refine bf ⟨_,rfl,_,rfl,a,ns.map V.int,k,V.int ns[k],rfl,rfl,hs,YS ?_,q _⟩
   rw[List.getElem?_map,List.getElem?_eq_getElem hk]
   rfl
  ·rw[decide_eq_false (by rw[List.length_map];omega)]
   exact aw (q 0)
def cZ (H:Hp) (p:Addr):Prop:=∃u v:Int,H p=some (.lst [.int u,.int v])∧0≤u∧0≤v∧v<2147483647
abbrev rE:Stmt:=top 47
def qH (K:PySem.W.Frag):Sp:=fun vs H Q _=> ∃(a:Addr) (ns:List Int) (k:Nat),vs=[.ref a,.int k]∧ag K H a (ns.map V.int)∧∀p H',H p=none→ae H H'→cZ H' p→Q (.ref p) H'
theorem vW:aV ["_law_script", "_law_k", "_law_cell"] ["_law_script", "_law_k"] (aC rE):=⟨rfl,rfl,rfl,by decide+kernel,rfl,by decide+kernel,by decide+kernel⟩
theorem HW {f:Addr}{fd:FuncData}(F:aM K "_law_state" "_law_state" rE f fd) (G:Gs mg) (D1:Def P w K mg base 1 "_law_cell_at" ["_law_script", "_law_k"] (qX K)):aG P w K mg base aH 2 f fd ["_law_script", "_law_k"] (qH K):=by
 refine F.ok vW (fun vs H Q E h=> ?_) (fun ao A outer s H vs Q E hr h=> ?_)
 ·obtain⟨a,ns,k,rfl,_⟩:=h
  rfl
 ·obtain⟨a,ns,k,rfl,hs,q⟩:=h
  refine⟨_,Zg (ZF (i:=2) vW.nd rfl (Or.inl rfl) (Zf D1 hr (Za (pv 0) (Za (pv 1) Zb))))
   (Zk (Zu (Jn (Za (Zv (WT rfl) rfl G.max boot_max (Za Ze (Za (Zo ZP (pv 2) (Zo G9 Ze Ze)) Zb))) (Za (Zo Yu (pv 2) Ze) Zb))))),?_⟩
  refine⟨_,rfl,_,rfl,a,ns,k,rfl,hs,fun n=> ?_⟩
  refine⟨_,rfl,_,_,rfl,rfl,⟨by decide,by decide,by decide⟩,_,_,rfl,rfl,_,_,rfl,?_⟩
  refine⟨_,rfl,_,_,rfl,rfl,(by show(0:Int)<2147483647;decide),(by show 2≤sizeLine;decide),fun p hp=>q p _ hp (fun b o hb=>by rw[Zh (Zi hb hp)];exact hb) ?_⟩
  refine⟨_,_,Zd,?_,Int.emod_nonneg _ (by decide),Int.emod_lt_of_pos _ (by decide)⟩
  split<;>omega
abbrev rq:Stmt:=top 48
def lU:Sp:=fun vs H Q _=> ∃(p:Addr) (m:Int),vs=[.ref p,.int m]∧cZ H p∧0<m∧m<1073741824∧∀r o,0≤r→r<m→cZ (upd H p o) p→Q (.int r) (upd H p o)
theorem oq:aV ["_law_state_here", "_law_many", "_law_found", "_law_mixed"] ["_law_state_here", "_law_many"] (aC rq):=⟨rfl,rfl,rfl,by decide+kernel,rfl,by decide+kernel,by decide+kernel⟩
theorem gz {x y:V} :dQ [x,y] 0=some x:=rfl
theorem eC {x y:V} :dQ [x,y] 1=some y:=rfl
theorem GX {f:Addr}{fd:FuncData}(F:aM K "_law_take" "_law_take" rq f fd):aG P w K mg base aH 1 f fd ["_law_state_here", "_law_many"] lU:=by
 refine F.ok oq (fun vs H Q E h=> ?_) (fun ao A outer s H vs Q E hr h=> ?_)
 ·obtain⟨p,m,rfl,_⟩:=h
  rfl
 ·obtain⟨p,m,rfl,⟨u,v,hp,hu,hv,Dq⟩,hm,jO,q⟩:=h
  refine⟨_,Zg (ZR (Zx Gn (ZG Z4 (pv 0) Ze (fun _ _=>rfl)) (pv 1) (bM _))
    (Zg (ZF (i:=2) oq.nd rfl (Or.inl rfl) (Zo Yu (ZG Z4 (pv 0) Ze (fun _ _=>rfl)) (pv 1)))
    (Zg (Yk (Zo zC (ZG Z4 (pv 0) Ze (fun _ _=>rfl)) (pv 1)) (u6 (pv 0) Ze JQ)) (Zk (Zu (pv 2))))) Zy)
   (Zg (Yk (Zo Yu (Zo ZO (Zo Jp (ZG Z4 (pv 0) Ze (fun _ _=>rfl)) Ze) Ze) Ze) (u6 (pv 0) Ze JQ))
   (Zg (ZF (i:=3) oq.nd rfl (Or.inl rfl) (Zo Yu (Zo ZO (Zo ZO (Zo Jp (ZG Z4 (pv 0) Ze (fun _ _=>rfl)) (ZG Z4 (pv 0) Ze (fun _ _=>rfl))) (Zo Jp Ze (ZG Z4 (pv 0) Ze (fun _ _=>rfl)))) Ze) Ze))
   (Zg (ZF (i:=3) oq.nd rfl (Or.inl rfl) (Zo Yu (Zo ZO (Zo Jp (pv 3) (pv 3)) (Zo Jp Ze (pv 3))) Ze))
   (Zk (Zu (Zo Yu (Zo zC (pv 3) Ze) (pv 1))))))),?_⟩
  have s0:=ag.of (K:=K) hp
  refine⟨_,rfl,p,_,_,_,rfl,rfl,s0,gz,_,rfl,_,_,rfl,rfl,_,rfl,?_⟩
  by_cases h0:m≤u
  ·rw[decide_eq_true h0]
   refine bf ?_
   refine⟨_,rfl,p,_,_,_,rfl,rfl,s0,gz,_,rfl,_,_,rfl,rfl,hm,?_⟩
   refine⟨_,rfl,p,_,_,_,rfl,rfl,s0,gz,_,rfl,_,_,rfl,rfl,⟨hm,by omega⟩,?_⟩
   refine⟨_,rfl,p,_,0,0,rfl,rfl,hp,rfl,?_⟩
   refine⟨_,rfl,q _ _ (Int.emod_nonneg _ (by omega)) (Int.emod_lt_of_pos _ hm) ?_⟩
   exact⟨u/m,v,Zd,Int.ediv_nonneg hu (by omega),hv,Dq⟩
  ·rw[decide_eq_false h0]
   refine aw ?_
   refine⟨_,rfl,p,_,_,_,rfl,rfl,s0,eC,_,_,rfl,rfl,.inr ⟨by decide,by decide⟩,_,_,rfl,rfl,_,_,rfl,rfl,(by show(0:Int)<2147483647;decide),?_⟩
   refine⟨_,rfl,p,_,1,1,rfl,rfl,hp,rfl,?_⟩
   have b1:0≤((v*48271+29)%2147483647):=Int.emod_nonneg _ (by decide)
   have b2:((v*48271+29)%2147483647)<2147483647:=Int.emod_lt_of_pos _ (by decide)
   have s1:ag K (upd H p (.lst (([V.int u,V.int v]:List V).set 1 (V.int ((v*48271+29)%2147483647))))) p [.int u,.int ((v*48271+29)%2147483647)]:=ag.of Zd
   have lo:∀{t:Int},0≤t→ -(2^64)<t:=fun h=>Int.lt_of_lt_of_le (by decide) h
   have hi:∀{t:Int},t<2147483647→t<2^64:=fun h=>Int.lt_trans h (by decide)
   refine⟨_,rfl,p,_,_,_,rfl,rfl,s1,eC,_,rfl,p,_,_,_,rfl,rfl,s1,eC,_,_,rfl,rfl,.inl ⟨lo b1,hi b2⟩,?_⟩
   refine⟨_,rfl,p,_,_,_,rfl,rfl,s1,eC,_,_,rfl,rfl,.inl ⟨by decide,by decide⟩,_,_,rfl,rfl,_,_,rfl,rfl,_,_,rfl,rfl,(by show(0:Int)<2147483629;decide),?_⟩
   have c1:0≤((((v*48271+29)%2147483647)*((v*48271+29)%2147483647)+39373*((v*48271+29)%2147483647)+7)%2147483629):=Int.emod_nonneg _ (by decide)
   have c2:((((v*48271+29)%2147483647)*((v*48271+29)%2147483647)+39373*((v*48271+29)%2147483647)+7)%2147483629)<2147483647:=Int.lt_trans (Int.emod_lt_of_pos _ (by decide)) (by decide)
   refine⟨_,rfl,_,rfl,_,_,rfl,rfl,.inl ⟨lo c1,hi c2⟩,_,rfl,_,_,rfl,rfl,.inl ⟨by decide,by decide⟩,_,_,rfl,rfl,_,_,rfl,rfl,(by show(0:Int)<2147483587;decide),?_⟩
   refine⟨_,rfl,_,_,rfl,rfl,⟨by decide,by decide⟩,_,rfl,_,_,rfl,rfl,hm,?_⟩
   refine q _ _ (Int.emod_nonneg _ (by omega)) (Int.emod_lt_of_pos _ hm) ?_
   exact⟨u,_,Zd,hu,b1,b2⟩
end
section
theorem YH (val:Nat→Int):∀n,((PyProof.Rows.firstMet val n).length=n↔((List.range n).map val).Nodup)
 |0=>by simp[PyProof.Rows.firstMet_zero]
 |n+1=>by
  have ih:=YH val n
  have le:=PyProof.Rows.firstMet_length_le val n
  rw[PyProof.Rows.firstMet_succ,PyProof.Rows.step_length,PyProof.Rows.firstMet_any,List.range_succ,List.map_append]
  have e:(((List.range n).map val).any (· ==val n))=true↔val n∈(List.range n).map val:=by
   rw[List.any_eq_true]
   constructor
   ·rintro⟨x,hx,q⟩
    have:x=val n:=by simpa using q
    rw[←this];exact hx
   ·intro h;exact⟨_,h,by simp⟩
  have nd:((List.range n).map val++List.map val [n]).Nodup↔((List.range n).map val).Nodup∧¬val n∈(List.range n).map val:=by
   rw[List.nodup_append]
   constructor
   ·rintro⟨h1,_,h3⟩
    exact⟨h1,fun m=>h3 _ m (val n) (by simp) rfl⟩
   ·rintro⟨h1,h2⟩
    refine⟨h1,by simp,fun a ha b hb q=>h2 ?_⟩
    have dY:b=val n:=by simpa using hb
    rw[←dY,←q];exact ha
  rw[nd,←ih]
  by_cases m:val n∈(List.range n).map val
  ·rw[if_pos (e.mpr m)]
   constructor
   ·intro h;omega
   ·rintro⟨_,h⟩;exact absurd m h
  ·rw[if_neg (fun z=>m (e.mp z))]
   constructor
   ·intro h;exact⟨by omega,m⟩
   ·rintro⟨h,_⟩;omega
theorem Lf (ns:List Int):kG ns=ns.length↔ns.Nodup:=by
 unfold kG
 rw[YH]
 have e:(List.range ns.length).map (fun i=>ns.getD i 0)=ns:=by
  refine List.ext_getElem (by simp) fun i h1 h2=> ?_
  rw[List.getElem_map,List.getElem_range,List.getD_eq_getElem?_getD,List.getElem?_eq_getElem h2,Option.getD_some]
 rw[e]
def rowsOf (xs:List V):List V:=xs.filter fun x=> !decide (x=.ab)
def bw (wd hg:Int):Option (List V)→Bool
 |some xs=>decide ((xs.length:Int)=wd)&&((rowsOf xs).all fun r=>bq r 0 (hg - 1))&&decide (rowsOf xs).Nodup
 |none=>false
def cR (H:Hp) (x:V) (wd hg:Int):Prop:=bS H x=some [.int wd,.int hg]∧1≤wd∧wd≤12∧1≤hg∧hg≤12
theorem cR.same {H H':Hp}{x:V}{wd hg:Int}(b:cR H x wd hg) (s:ae H H'):cR H' x wd hg:=⟨s.bS b.1,b.2⟩
theorem cR.is {H:Hp}{x:V}{wd hg:Int}(b:cR H x wd hg):mC (bS H x)=true:=by
 obtain⟨h,h1,h2,h3,h4⟩:=b
 rw[h]
 show(decide (1≤wd)&&decide (wd≤12)&&(decide (1≤hg)&&decide (hg≤12)))=true
 simp[h1,h2,h3,h4]
theorem cR.pl {K:PySem.W.Frag}{H:Hp}{x:V}{wd hg:Int}(b:cR H x wd hg):iK K H x:=by
 obtain⟨a,rfl,ha⟩:=Zp b.1
 refine⟨⟨_,.tup ha⟩,fun xs e y hy=> ?_⟩
 rw[b.1]at e
 cases e
 rcases List.mem_cons.mp hy with z |hy
 ·rw[z];exact⟨_,.int wd⟩
 ·rw[List.mem_singleton.mp hy];exact⟨_,.int hg⟩
theorem UO {xs:List V}{lo hi:Int}(h:(xs.all fun r=>bq r lo hi)=true):∃ns:List Int,xs=ns.map V.int:=by
 induction xs with
 |nil=>exact⟨[],rfl⟩
 |cons x xs ih=>
  rw[List.all_cons,Bool.and_eq_true]at h
  obtain⟨ns,e⟩:=ih h.2
  cases x with
  |int i=>exact⟨i::ns,by rw[e];rfl⟩
  |_=>cases h.1
theorem WH (ns:List Int):(ns.map V.int).Nodup↔ns.Nodup:=by
 induction ns with
 |nil=>simp
 |cons n ns ih=>rw[List.map_cons,List.nodup_cons,List.nodup_cons,ih];simp
end
section
variable {P:Program}{w:World}{K:PySem.W.Frag}{mg:Str→Option Value}{base:Heap}
abbrev rH:Stmt:=top 18
def lW (K:PySem.W.Frag):Sp:=fun vs H Q _=> ∃x wd hg,vs=[x]∧cR H x wd hg∧∀H',ae H H'→Q .ab H'
theorem Bk:aV ["board"] ["board"] (aC rH):=⟨rfl,rfl,rfl,by decide+kernel,rfl,by decide+kernel,by decide+kernel⟩
theorem Ub {f:Addr}{fd:FuncData}(F:aM K "need_board" "need_board" rH f fd) (D1:Def P w K mg base 3 "is_board" ["thing"] (qY K)):aG P w K mg base aH 4 f fd ["board"] (lW K):=by
 refine F.ok Bk (fun vs H Q E h=> ?_) (fun ao A outer s H vs Q E hr h=> ?_)
 ·obtain⟨x,wd,hg,rfl,_⟩:=h
  rfl
 ·obtain⟨x,wd,hg,rfl,b,q⟩:=h
  refine⟨_,Zk (ZR (Z5 (ZX (Zf D1 hr (Za (pv 0) Zb)))) Zw Zy),?_⟩
  refine⟨x,rfl,x,rfl,b.pl,fun H' sm=> ⟨_,rfl,?_⟩⟩
  rw[b.is]
  exact aw (q H' sm)
abbrev rO:Stmt:=top 20
def lZ (K:PySem.W.Frag):Sp:=fun vs H Q _=> ∃x y wd hg,vs=[x,y]∧cR H x wd hg∧iK K H y∧∀H',ae H H'→Q (.bl (bw wd hg (bS H y))) H'
theorem oz:aV ["board", "thing", "wide", "high", "rows"] ["board", "thing"] (aC rO):=⟨rfl,rfl,rfl,by decide+kernel,rfl,by decide+kernel,by decide+kernel⟩
theorem G3 {f:Addr}{fd:FuncData}(F:aM K "is_lay" "is_lay" rO f fd) (G:Gs mg) (D1:Def P w K mg base 4 "need_board" ["board"] (lW K)) (D2:Def P w K mg base 1 "is_tuple_of" ["thing", "many"] (kF K))
  (D3:Def P w K mg base 2 "is_whole_within" ["thing", "least", "most"] (js K)):aG P w K mg base aH 5 f fd ["board", "thing"] (lZ K):=by
 refine F.ok oz (fun vs H Q E h=> ?_) (fun ao A outer s H vs Q E hr h=> ?_)
 ·obtain⟨x,y,wd,hg,rfl,_⟩:=h
  rfl
 ·obtain⟨x,y,wd,hg,rfl,b,⟨ty,hy⟩,q⟩:=h
  refine⟨_,Zg (ZU (Zf D1 hr (Za (pv 0) Zb)))
   (Zg (Yk (pv 0) (ZS rfl (Zm (Zz (i:=2) oz.nd rfl (Or.inl rfl)) (Zm (Zz (i:=3) oz.nd rfl (Or.inr rfl)) ZK))))
   (Zg (ZR (Z5 (ZX (Zf D2 (hr.mono (by decide)) (Za (pv 1) (Za (pv 2) Zb))))) (Zk (Zu qa)) Zy)
   (Zg (Y9 ["row"] 1 [] (i:=4) oz.nd rfl (Or.inl rfl) (JS (pv 1)) (fun C s H fp=>pb 0) (fun C s H fp=>Yg (YY (Jc (pv 0)))) (fun C s H fp D=>ZE rfl (pv 0)))
   (Zk (Zu (Y1 (Zv YI rfl G.all boot_all (Za (ZT ["row", "high"] 1 [3] (Z9 (pv 4)) (fun C s H fp=>pb 0) (fun C s H fp=>ZZ)
     (fun C s H fp D=>ZE rfl (Zf D3 (hr.mono (by decide)) (Za (pv 0) (Za Ze (Za (Zo ZP (pv 1) Ze) Zb)))))) Zb))
    (Y0 (Jb JX (Zv Wv rfl G.len boot_len (Za (Yc Wt rfl G.set boot_set (Za (pv 4) Zb)) Zb)) (Zv ZI rfl G.len boot_len (Za (pv 4) Zb)) (bM _))))))))),?_⟩
  refine⟨x,rfl,x,wd,hg,rfl,b,fun H1 s1=> ?_⟩
  have b1:=b.same s1
  obtain⟨a,rfl,ha⟩:=Zp b1.1
  refine⟨_,rfl,a,_,rfl,af.of ha,rfl,_,_,rfl,_,_,rfl,rfl,?_⟩
  refine⟨y,rfl,_,rfl,y,wd,rfl,s1.wB ty,_,rfl,?_⟩
  cases e:bS H y with
  |none=>
   have e1:bS H1 y=none:=by
    obtain⟨T,t⟩:=ty
    cases t with
    |tup e2=>rw[Zt e2]at e;cases e
    |lst e2=>rw[Z8,s1 _ _ e2];rfl
    |cQ e2=>rw[Z8,s1 _ _ e2];rfl
    |dK e2=>rw[Z8,s1 _ _ e2];rfl
    |dT e2=>rw[Z8,s1 _ _ e2];rfl
    |_=>rfl
   rw[e1]
   rw[e]at q
   exact bf (q H1 s1)
  |some xs=>
   have e1:=s1.bS e
   rw[e1]
   rw[e]at q
   obtain⟨l,rfl,hl⟩:=Zp e1
   by_cases hw:(xs.length:Int)=wd
   ·refine(show if (!decide ((xs.length:Int)=wd))=true then _ else _ from ?_)
    rw[decide_eq_true hw]
    refine aw ?_
    have Mt:=b.2.2.1
    have hlen:xs.length≤12:=by omega
    refine⟨_,rfl,l,rfl,⟨xs,af.of hl⟩,?_⟩
    refine YC (xs:=xs) (fun i ys σ H2=>ys=rowsOf (xs.take i)∧H2=H1∧∃v,σ=[v]) ⟨rfl,rfl,none,rfl⟩ (fun i ys σ H2 _ ⟨_,e2,_⟩=>by rw[e2];exact af.of hl) ?_ ?_
    ·rintro i r ys σ H2 cg ⟨rfl,rfl,v,rfl⟩
     have et:rowsOf (xs.take (i+1))=rowsOf (xs.take i)++(if (!decide (r=V.ab))=true then [r] else []):=by
      unfold rowsOf
      rw[List.take_add_one,cg,List.filter_append]
      cases hh:(!decide (r=V.ab)) with
      |true=>simp[hh]
      |false=>simp[hh]
     refine⟨r,rfl,_,rfl,?_⟩
     cases hh:(!decide (r=V.ab)) with
     |true=>
      rw[hh]at et
      refine bf ?_
      refine⟨r,rfl,?_,?_⟩
      ·have:=List.length_filter_le (fun x=> !decide (x=V.ab)) (xs.take i)
       unfold rowsOf
       rw[sizeLine_eq]
       rw[List.length_take]at this
       omega
      ·exact⟨by rw[et,if_pos rfl],rfl,_,rfl⟩
     |false=>
      rw[hh]at et
      exact aw ⟨by rw[et,if_neg Bool.false_ne_true,List.append_nil],rfl,_,rfl⟩
    ·rintro ys σ H2 ⟨rfl,rfl,v,rfl⟩ p hp
     rw[List.take_length]
     have Mu:(rowsOf xs).length≤12:=Nat.le_trans (List.length_filter_le _ _) hlen
     have s2:ae H2 (upd H2 p (.lst (rowsOf xs))):=fun b o hb=>by rw[Zh (Zi hb hp)];exact hb
     refine⟨_,rfl,p,rfl,⟨rowsOf xs,ag.of Zd⟩,?_⟩
     generalize uA:upd H2 p (HO.lst (rowsOf xs))=H3 at s2
     have i9:H3 p=some (.lst (rowsOf xs)):=by rw[←uA];exact Zd
     refine Z1 (xs:=rowsOf xs) (fun i ys σ H4=>ys=((rowsOf xs).take i).map (fun r=>V.bl (bq r 0 (hg - 1)))∧H4=H3∧∃v,σ=[v,some (.int hg)]) ⟨rfl,rfl,none,rfl⟩ (fun i ys σ H4 _ ⟨_,e2,_⟩=>by rw[e2];exact ag.of i9) ?_ ?_
     ·rintro i r ys σ H4 cg ⟨rfl,rfl,v,rfl⟩
      have mr:r∈xs:=(List.mem_filter.mp (List.mem_of_getElem? cg)).1
      refine⟨r,rfl,_,rfl,_,_,rfl,rfl,r,0,hg - 1,rfl,(s1.trans s2).wB (hy xs e r mr),?_,?_⟩
      ·rw[List.length_map,sizeLine_eq,List.length_take];omega
      ·refine⟨?_,rfl,_,rfl⟩
       rw[List.take_add_one,cg,List.map_append]
       rfl
     ·rintro ys σ H4 ⟨rfl,rfl,v,rfl⟩ p' tK
      rw[List.take_length]
      have s3:∀o,ae H4 (upd H4 p' o):=fun o b u hb=>by rw[Zh (Zi hb tK)];exact hb
      refine⟨p',(rowsOf xs).map (fun r=>bq r 0 (hg - 1)),rfl,?_,?_⟩
      ·rw[List.map_map];exact ag.of Zd
      ·have E8:((rowsOf xs).map (fun r=>bq r 0 (hg - 1))).all id=(rowsOf xs).all fun r=>bq r 0 (hg - 1):=by rw[List.all_map];rfl
       rw[E8]
       have E5:bw wd hg (some xs)=(((rowsOf xs).all fun r=>bq r 0 (hg - 1))&&decide (rowsOf xs).Nodup):=by
        show(decide ((xs.length:Int)=wd)&&_&&_)=_
        rw[decide_eq_true hw,Bool.true_and]
       rw[E5]at q
       refine⟨_,rfl,?_⟩
       cases cz:((rowsOf xs).all fun r=>bq r 0 (hg - 1)) with
       |false=>
        rw[cz]at q
        exact aw (q _ (s1.trans (s2.trans (s3 _))))
       |true=>
        rw[cz,Bool.true_and]at q
        obtain⟨ns,en⟩:=UO cz
        have fv:(upd H4 p' (.lst (((rowsOf xs).map (fun r=>V.bl (bq r 0 (hg - 1))))))) p=some (.lst (rowsOf xs)):=s3 _ _ _ i9
        refine bf ?_
        have My:ns.length=(rowsOf xs).length:=by rw[en,List.length_map]
        refine⟨_,rfl,p,ns,rfl,by rw[←en];exact ag.of fv,by omega,fun q2 S bD=> ⟨q2,S,kG ns,rfl,Zd,_,rfl,p,rowsOf xs,rfl,.inl (ag.of ?_),rfl,?_⟩⟩
        ·rw[Zh (Zi fv bD)];exact fv
        ·have ed:decide (V.int (kG ns:Int)=V.int ((rowsOf xs).length:Int))=decide (rowsOf xs).Nodup:=by
          rw[decide_eq_decide]
          rw[en,WH,←Lf,List.length_map]
          constructor
          ·intro h;injection h with h;omega
          ·intro h;rw[h]
         rw[ed]
         exact q _ (s1.trans (s2.trans ((s3 _).trans fun b o hb=>by rw[Zh (Zi hb bD)];exact hb)))
   ·refine(show if (!decide ((xs.length:Int)=wd))=true then _ else _ from ?_)
    rw[decide_eq_false hw]
    have e3:bw wd hg (some xs)=false:=by
     show(decide ((xs.length:Int)=wd)&&_&&_)=false
     rw[decide_eq_false hw,Bool.false_and,Bool.false_and]
    rw[e3]at q
    exact bf (q H1 s1)
end
section
variable {P:Program}{w:World}{K:PySem.W.Frag}{mg:Str→Option Value}{base:Heap}{cB cL:Addr}
abbrev kK:Stmt:=top 21
def iO (K:PySem.W.Frag):Sp:=fun vs H Q _=> ∃x y wd hg,vs=[x,y]∧cR H x wd hg∧iK K H y∧bw wd hg (bS H y)=true∧∀H',ae H H'→Q .ab H'
theorem q5:aV ["board", "lay"] ["board", "lay"] (aC kK):=⟨rfl,rfl,rfl,by decide+kernel,rfl,by decide+kernel,by decide+kernel⟩
theorem sN {f:Addr}{fd:FuncData}(F:aM K "need_lay" "need_lay" kK f fd) (D1:Def P w K mg base 5 "is_lay" ["board", "thing"] (lZ K)):aG P w K mg base aH 6 f fd ["board", "lay"] (iO K):=by
 refine F.ok q5 (fun vs H Q E h=> ?_) (fun ao A outer s H vs Q E hr h=> ?_)
 ·obtain⟨x,y,wd,hg,rfl,_⟩:=h
  rfl
 ·obtain⟨x,y,wd,hg,rfl,b,p,fu,q⟩:=h
  refine⟨_,Zk (ZR (Z5 (ZX (Zf D1 hr (Za (pv 0) (Za (pv 1) Zb))))) Zw Zy),?_⟩
  refine⟨_,rfl,_,rfl,x,y,wd,hg,rfl,b,p,fun H1 s1=> ⟨_,rfl,?_⟩⟩
  rw[fu]
  exact aw (q H1 s1)
end
section
theorem cZ.same {H H':Hp}{p:Addr}(h:cZ H p) (s:ae H H'):cZ H' p:=by
 obtain⟨u,v,e,r⟩:=h
 exact⟨u,v,s _ _ e,r⟩
def jy (K:PySem.W.Frag):R2:=fun x y H Q=> (∃a b ys,x=.ref a∧y=.ref b∧af K H a []∧af K H b ys∧Q (.ref b) H)∨sD K x y H Q
theorem jB {X:Cx} :aY X (binaryOp .Add) (jy X.K):=UD.or zB
theorem pX {K:PySem.W.Frag}{H:Hp}{a b:Addr}{xs ys:List V}{Q:VK}(ha:H a=some (.tup xs)) (hb:H b=some (.tup ys)) (hl:xs.length+ys.length≤sizeLine) (q:∀(c:Addr) H',ae H H'→H' c=some (.tup (xs++ys))→Q (.ref c) H'):jy K (.ref a) (.ref b) H Q:=by
 by_cases hx:xs=[]
 ·subst hx
  exact .inl ⟨a,b,ys,rfl,rfl,af.of ha,af.of hb,q b H (ae.refl _) hb⟩
 ·refine .inr ⟨a,b,xs,ys,rfl,rfl,af.of ha,af.of hb,hx,hl,fun hy=> ?_,fun _ c hc=>q c _ (Zl hc) Zd⟩
  subst hy
  exact q a H (ae.refl _) (by rw[List.append_nil];exact ha)
theorem WZ {b a c:Int}(h0:a≤b) (h1:b≤c):bq (.int b) a c=true:=by
 show(decide (a≤b)&&decide (b≤c))=true
 rw[decide_eq_true h0,decide_eq_true h1];rfl
structure bB (K:PySem.W.Frag) (H:Hp) (x:V) (l:Addr) (xs:List V) (wd hg:Int):Prop where
 bd:cR H x wd hg
 at_:H l=some (.tup xs)
 ly:bw wd hg (some xs)=true
theorem bB.same {K:PySem.W.Frag}{H H':Hp}{x:V}{l:Addr}{xs:List V}{wd hg:Int}(a:bB K H x l xs wd hg) (s:ae H H'):bB K H' x l xs wd hg:=⟨a.bd.same s,s _ _ a.at_,a.ly⟩
theorem ZV {xs:List V}{wd hg:Int}(h:bw wd hg (some xs)=true):(xs.length:Int)=wd:=by
 unfold bw at h
 rw[Bool.and_eq_true,Bool.and_eq_true]at h
 exact of_decide_eq_true h.1.1
theorem ZJ {xs:List V}{wd hg:Int}{v:V}(h:bw wd hg (some xs)=true) (hv:v∈xs):v=.ab∨∃i:Int,v=.int i∧0≤i∧i<hg:=by
 unfold bw at h
 rw[Bool.and_eq_true,Bool.and_eq_true]at h
 by_cases e:v=.ab
 ·exact .inl e
 ·have:=List.all_eq_true.mp h.1.2 v (List.mem_filter.mpr ⟨hv,by simp[e]⟩)
  cases v with
  |int i=>
   have z:(decide (0≤i)&&decide (i≤hg - 1))=true:=this
   rw[Bool.and_eq_true]at z
   have z1:=of_decide_eq_true z.1
   have z2:=of_decide_eq_true z.2
   exact .inr ⟨i,rfl,z1,by omega⟩
  |_=>cases this
theorem bB.pl {K:PySem.W.Frag}{H:Hp}{x:V}{l:Addr}{xs:List V}{wd hg:Int}(a:bB K H x l xs wd hg):iK K H (.ref l):=by
 refine⟨⟨_,.tup a.at_⟩,fun ys e y hy=> ?_⟩
 rw[Zt a.at_]at e
 cases e
 rcases ZJ a.ly hy with rfl |⟨i,rfl,_⟩
 ·exact⟨_,.ab⟩
 ·exact⟨_,.int i⟩
theorem Lm (n:Nat):L2.upTo n=(fz 0 n).map V.int:=by
 unfold L2.upTo fz
 rw[List.map_map]
 refine List.map_congr_left fun k _=> ?_
 show V.int (k:Int)=V.int (0+(k:Int))
 rw[Int.zero_add]
theorem HA {n:Nat}{i:Int} :i∈fz 0 n↔0≤i∧i<n:=by
 unfold fz
 rw[List.mem_map]
 constructor
 ·rintro⟨k,hk,rfl⟩
  have:=List.mem_range.mp hk
  omega
 ·rintro⟨h1,h2⟩
  exact⟨i.toNat,List.mem_range.mpr (by omega),by omega⟩
theorem IA (n:Nat):(fz 0 n).length=n:=by unfold fz;rw[List.length_map,List.length_range]
theorem K2 (n:Nat):(fz 0 n).Nodup:=by
 unfold fz
 refine List.Pairwise.map _ (fun a b h=> ?_) List.nodup_range
 omega
theorem Wi:∀{ls:List Int}{k:Nat}(h:k<ls.length),(ls[k]::ls.eraseIdx k).Perm ls
 |_::_,0,_=> .refl _
 |a::ls,k+1,h=> ((List.Perm.swap _ _ _).trans (List.Perm.cons a (Wi (ls:=ls) (k:=k) (by simpa using h))))
theorem Y6 {t u:TS}{D:Ends}{σ:L2.St}{H:Hp}(R:L2.St→Hp→Prop) (h2:∀ah H',R ah H'→u D ah H') (h1:∀D':Ends,(∀ah H',R ah H'→D'.nx ah H')→t D' σ H):qx t u D σ H:=h1 _ h2
theorem Ld {p L:Addr}{H H1:Hp}{o:HO}(x:bz p H H1) (hp:H1 p=some o) (hL:H1 L=none):H L=none∧L≠p:=by
 have n:L≠p:=fun e=>by rw[e,hp]at hL;cases hL
 refine⟨?_,n⟩
 cases h:H L with
 |none=>rfl
 |some u=>rw[x _ _ h n]at hL;cases hL
theorem Le {p L:Addr}{H H1:Hp}{o:HO}(x:bz p H H1) (n:H L=none):bz p H (upd H1 L o):=fun b u h nb=>by
 rw[Zh (Zi h n)]
 exact x b u h nb
theorem Ij {p L:Addr}{H:Hp}{o:HO}(s:cZ H p) (n:L≠p):cZ (upd H L o) p:=by
 obtain⟨u,v,e,r⟩:=s
 exact⟨u,v,by rw[Zh n.symm];exact e,r⟩
theorem Hs {n:Nat}{k:Int}(h0:0≤k) (h1:k<n):iq n k=some k.toNat:=by
 unfold iq
 rw[if_pos h0,if_pos h1]
theorem WQ {α β:Type}(f:α→β):∀(xs:List α) (k:Nat),(xs.map f).eraseIdx k=(xs.eraseIdx k).map f
 | [],_=>rfl
 |_::_,0=>rfl
 |a::xs,k+1=>by
  show f a::(xs.map f).eraseIdx k=f a::(xs.eraseIdx k).map f
  rw[WQ f xs k]
theorem Kw {fs:List V} :rowsOf (fs++[.ab])=rowsOf fs:=by
 unfold rowsOf
 rw[List.filter_append]
 simp
theorem Kv {fs:List V}{i:Int} :rowsOf (fs++[.int i])=rowsOf fs++[.int i]:=by
 unfold rowsOf
 rw[List.filter_append]
 simp
theorem UI {fs:List V}{is ls:List Int}{wd hg:Int}(k9:1≤hg) (h1:rowsOf fs=is.map V.int) (h2:(is++ls).Perm (fz 0 hg.toNat)) (h3:(fs.length:Int)=wd):bw wd hg (some fs)=true:=by
 unfold bw
 dsimp only
 rw[h1,decide_eq_true h3]
 have a1:((is.map V.int).all fun r=>bq r 0 (hg - 1))=true:=by
  rw[List.all_eq_true]
  intro x hx
  obtain⟨i,hi,rfl⟩:=List.mem_map.mp hx
  have:=HA.mp (h2.mem_iff.mp (List.mem_append_left _ hi))
  exact WZ this.1 (by omega)
 have a2:(is.map V.int).Nodup:=(WH is).mpr (List.nodup_append.mp ((List.Perm.nodup_iff h2).mpr (K2 _))).1
 rw[a1,decide_eq_true a2]
 rfl
end
section
variable {P:Program}{w:World}{K:PySem.W.Frag}{mg:Str→Option Value}{base:Heap}
abbrev rS:Stmt:=top 51
def qR (K:PySem.W.Frag):Sp:=fun vs H Q _=> ∃(p b:Addr) (wd hg:Int),vs=[.ref p,.ref b]∧cZ H p∧cR H (.ref b) wd hg∧∀(l:Addr) H' (xs:List V),bz p H H'→cZ H' p→H' l=some (.tup xs)→bw wd hg (some xs)=true→Q (.ref l) H'
theorem kI:aV ["_law_state_here", "_law_board", "_law_left", "_law_found", "_law_line", "_law_row"] ["_law_state_here", "_law_board"] (aC rS):=⟨rfl,rfl,rfl,by decide+kernel,rfl,by decide+kernel,by decide+kernel⟩
theorem Gd {f:Addr}{fd:FuncData}(F:aM K "_law_lay" "_law_lay" rS f fd) (G:Gs mg) (D1:Def P w K mg base 1 "_law_take" ["_law_state_here", "_law_many"] lU):aG P w K mg base aH 2 f fd ["_law_state_here", "_law_board"] (qR K):=by
 refine F.ok kI (fun vs H Q E h=> ?_) (fun ao A outer s H vs Q E hr h=> ?_)
 ·obtain⟨p,b,wd,hg,rfl,_⟩:=h
  rfl
 ·obtain⟨p,b,wd,hg,rfl,st,bd,q⟩:=h
  obtain⟨_,w1,w2,g1,g2⟩:=id bd
  obtain⟨a',eb,hb⟩:=Zp bd.1
  cases eb
  refine⟨_,Zg (zh (i:=2) (j:=3) rfl kI.nd rfl rfl (by decide) rfl rfl (Za (Yc Wu rfl G.list boot_list (Za (Yc UY rfl G.range boot_range (Za (ZG ZH (pv 1) Ze (fun _ _=>rfl)) Zb)) Zb)) (Za (ZA Zb) Zb)) rfl)
   (Zg (YZ PassesOwn.never rfl (Z0 rfl G.range (Za (ZG ZH (pv 1) Ze (fun _ _=>rfl)) Zb)) (Zz (i:=4) kI.nd rfl (Or.inl rfl))
    (Zg (ZF (i:=5) kI.nd rfl (Or.inl rfl) W6)
    (Zg (ZR (PW.pt (vc (Zx (G8 hr.qt) (pv 2) (Jn Zb) (bM _)) (W4 (Zx uY (Zf D1 hr (Za (pv 0) (Za Ze Zb))) Ze (bM _)))))
     (Zk (ZF (i:=5) kI.nd rfl (Or.inl rfl) (yU PySem.F.plainAttrs_list PySem.F.slot_list_pop PySem.F.type_list_pop HR (pv 2) (Za (Zf D1 hr (Za (pv 0) (Za (Zv ZI rfl G.len boot_len (Za (pv 2) Zb)) Zb))) Zb)))) Zy)
    (Zk (ZF (i:=3) kI.nd rfl (Or.inl rfl) (Zo jB (pv 3) (ZA (Za (pv 5) Zb))))))))
   (Zk (Zu (pv 3)))),?_⟩
  obtain⟨u0,v0,yC,_⟩:=id st
  have Mo:b≠p:=YW hb yC (by intro z;cases z)
  refine Zn ⟨_,rfl,b,_,_,_,rfl,rfl,af.of hb,eC,hg,rfl,fun rg DK=> ⟨rg,hg,rfl,Zd,by omega,by omega,fun L hL=> ⟨Nat.zero_le _,fun f0 ud=> ⟨_,_,rfl,?_⟩⟩⟩⟩
  dsimp only[List.set]
  have sA:=Zl (o:=.fK 0 hg) DK
  have sB:=Zl (o:=.lst (L2.upTo hg.toNat)) hL
  have sC:=Zl (o:=.tup []) ud
  have eL:=sC _ _ (Zd (H:=upd H rg (.fK 0 hg)) (a:=L) (o:=.lst (L2.upTo hg.toNat)))
  have eF:upd (upd (upd H rg (.fK 0 hg)) L (.lst (L2.upTo hg.toNat))) f0 (.tup []) f0=some (.tup []):=Zd
  have oD:=sA.trans (sB.trans sC)
  have EG:H L=none∧L≠p:=Ld (p:=p) sA.x (sA _ _ yC) hL
  generalize upd (upd (upd H rg (.fK 0 hg)) L (.lst (L2.upTo hg.toNat))) f0 (.tup [])=H1 at oD eL eF
  obtain⟨EF,uw⟩:=EG
  rw[Lm]at eL
  have iD:=oD _ _ hb
  refine Zn ⟨_,rfl,b,_,_,_,rfl,rfl,af.of iD,gz,wd,rfl,by omega,by omega,?_⟩
  refine Yq (n:=wd.toNat) (fun i σ H2=> ∃(fa:Addr) (fs:List V) (is ls:List Int) (x4 x5:Option V),σ=[some (.ref p),some (.ref b),some (.ref L),some (.ref fa),x4,x5]∧bz p H H2∧cZ H2 p∧H2 L=some (.lst (ls.map V.int))∧H2 fa=some (.tup fs)∧fs.length=i∧rowsOf fs=is.map V.int∧(is++ls).Perm (fz 0 hg.toNat))
   ⟨f0,[],[],fz 0 hg.toNat,none,none,rfl,oD.x,st.same oD,eL,eF,rfl,rfl,.refl _⟩ ?_ ?_
  ·rintro i σ H2 hi ⟨fa,fs,is,ls,x4,x5,rfl,x2,ai,jh,nB,fl,oH,pm⟩
   have hlen:=pm.length_eq
   rw[List.length_append,IA]at hlen
   obtain⟨u2,v2,EZ,_⟩:=id ai
   have wU:fa≠p:=YW nB EZ (by intro z;cases z)
   have Cy:fa≠L:=YW nB jh (by intro z;cases z)
   refine Zq (Zn (ZD (Zq ?_)))
   dsimp only[List.set]
   refine Y6 (fun σ H3=> ∃(row:V) (oZ oU:List Int),σ=[some (.ref p),some (.ref b),some (.ref L),some (.ref fa),some (.int (0+(i:Int))),some row]∧bz p H H3∧cZ H3 p∧H3 L=some (.lst (oU.map V.int))∧H3 fa=some (.tup fs)∧rowsOf (fs++[row])=oZ.map V.int∧(oZ++oU).Perm (fz 0 hg.toNat)) ?_ ?_
   ·rintro σ H3 ⟨row,oZ,oU,rfl,x3,aK,nz,nA,BL,Cb⟩
    refine ZD ⟨_,rfl,_,rfl,(by show 1≤sizeLine;decide),fun t ht=> ?_⟩
    have s4:=Zl (o:=.tup [row]) ht
    refine pX (s4 _ _ nA) Zd (by rw[sizeLine_eq];show fs.length+1≤_;omega) fun c H5 s5 e5=>Zq ?_
    have sj:=s4.trans s5
    exact⟨c,fs++[row],oZ,oU,_,_,rfl,x3.trans sj.x,aK.same sj,sj _ _ nz,e5,by rw[List.length_append,fl];rfl,BL,Cb⟩
   ·intro D' hD
    refine⟨_,rfl,Nat.zero_le _,fun e he=> ⟨L,e,ls.map V.int,rfl,rfl,ag.of (Zl he _ _ jh),ag.of Zd,_,rfl,?_⟩⟩
    have se:=Zl (o:=.lst []) he
    have aK:=ai.same se
    have x3:=x2.trans se.x
    have nz:=se _ _ jh
    have nA:=se _ _ nB
    generalize upd H2 e (.lst [])=H3 at se aK x3 nz nA
    have none_:∀{H4:Hp},bz p H H4→cZ H4 p→H4 L=some (.lst (ls.map V.int))→H4 fa=some (.tup fs)→D'.nx [some (.ref p),some (.ref b),some (.ref L),some (.ref fa),some (.int (0+(i:Int))),some .ab] H4:=fun x s e1 e2=>hD _ _ ⟨.ab,is,ls,rfl,x,s,e1,e2,by rw[Kw];exact oH,pm⟩
    cases ls with
    |nil=>exact aw (aw (ZM (none_ x3 aK nz nA)))
    |cons l0 lr=>
     refine bf ⟨_,rfl,p,4,rfl,aK,by decide,by decide,fun r o r0 r4 cm=> ⟨_,_,rfl,rfl,_,rfl,?_⟩⟩
     have qq:bz p H (upd H3 p o):=x3.trans bz.upd
     have hG:upd H3 p o L=some (.lst ((l0::lr).map V.int)):=by rw[Zh uw];exact nz
     have uN:upd H3 p o fa=some (.tup fs):=by rw[Zh wU];exact nA
     generalize upd H3 p o=H4 at cm qq hG uN
     by_cases mM:(0:Int)<r
     ·rw[decide_eq_true mM]
      refine bf (ZD ⟨_,rfl,.inl ⟨rfl,_,ag.of hG⟩,_,rfl,_,rfl,L,_,rfl,.inl (ag.of hG),p,_,rfl,cm,by rw[List.length_map];simp,by rw[List.length_map];omega,fun r' o' B6 wy da=> ?_⟩)
      rw[List.length_map]at wy
      have e5:upd H4 p o' L=some (.lst ((l0::lr).map V.int)):=by rw[Zh uw];exact hG
      have cg:r'.toNat< (l0::lr).length:=by omega
      refine⟨L,_,r',r'.toNat,.int ((l0::lr)[r'.toNat]),rfl,rfl,e5,by omega,by omega,seqIndex_of B6 (by rw[List.length_map];exact wy),by rw[List.getElem?_map,List.getElem?_eq_getElem cg];rfl,Zq ?_⟩
      refine hD _ _ ⟨_,is++[(l0::lr)[r'.toNat]],(l0::lr).eraseIdx r'.toNat,rfl,Le (qq.trans bz.upd) EF,Ij da uw,?_,?_,?_,?_⟩
      ·rw[Zd,WQ]
      ·rw[Zh Cy,Zh wU];exact uN
      ·rw[Kv,oH,List.map_append];rfl
      ·rw[List.append_assoc]
       exact((Wi cg).append_left is).trans pm
     ·rw[decide_eq_false mM]
      exact aw (ZM (none_ qq cm hG uN))
  ·rintro σ H2 ⟨fa,fs,is,ls,x4,x5,rfl,x2,ai,jh,nB,fl,oH,pm⟩
   exact⟨_,rfl,q fa H2 fs x2 ai nB (UI g1 oH pm (by omega))⟩
end
section
def bi (b:Bool):Int:=if b=true then 1 else 0
abbrev tv (q:Bool×Bool×Bool):List V:=[.int (bi q.1),.int (bi q.2.1),.int (bi q.2.2)]
def kU:Option (List V)→Bool
 |some [a,b,c]=>bq a 0 1&&(bq b 0 1&&bq c 0 1)
 |_=>false
theorem Il (q:Bool×Bool×Bool):kU (some (tv q))=true:=by
 obtain⟨a,b,c⟩:=q
 cases a<;>cases b<;>cases c<;>decide
theorem Gq {K:PySem.W.Frag}{H:Hp}{t:Addr}{q:Bool×Bool×Bool}(h:H t=some (.tup (tv q))):iK K H (.ref t):=by
 refine⟨⟨_,.tup h⟩,fun ys e y hy=> ?_⟩
 rw[Zt h]at e
 cases e
 simp only[List.mem_cons,List.not_mem_nil,or_false]at hy
 rcases hy with rfl |rfl |rfl<;>exact⟨_,.int _⟩
end
section
variable {P:Program}{w:World}{K:PySem.W.Frag}{mg:Str→Option Value}{base:Heap}{aB aT:Addr}
abbrev rk:Stmt:=top 40
def qA (K:PySem.W.Frag):Sp:=fun vs H Q _=> ∃x,vs=[x]∧iK K H x∧∀H',ae H H'→Q (.bl (kU (bS H x))) H'
theorem Bg:aV ["thing"] ["thing"] (aC rk):=⟨rfl,rfl,rfl,by decide+kernel,rfl,by decide+kernel,by decide+kernel⟩
theorem GY {f:Addr}{fd:FuncData}(F:aM K "is_turn" "is_turn" rk f fd) (G:Gs mg) (D1:Def P w K mg base 1 "is_tuple_of" ["thing", "many"] (kF K)) (D2:Def P w K mg base 2 "is_whole_within" ["thing", "least", "most"] (js K)):
  aG P w K mg base aH 3 f fd ["thing"] (qA K):=by
 refine F.ok Bg (fun vs H Q E h=> ?_) (fun ao A outer s H vs Q E hr h=> ?_)
 ·obtain⟨x,rfl,_⟩:=h
  rfl
 ·obtain⟨x,rfl,⟨t,hi⟩,q⟩:=h
  refine⟨_,Zk (Zu (Y1 (Zf D1 (hr.mono (by decide)) (Za (pv 0) (Za Ze Zb)))
   (Y0 (Zv YI rfl G.all boot_all (Za (ZT ["part"] 1 [] (JS (pv 0)) (fun C s H fp=>pb 0) (fun C s H fp=>ZZ)
    (fun C s H fp D=>ZE rfl (Zf D2 (hr.mono (by decide)) (Za (pv 0) (Za Ze (Za Ze Zb)))))) Zb))))),?_⟩
  refine⟨x,rfl,x,3,rfl,t,_,rfl,?_⟩
  cases e:bS H x with
  |none=>rw[e]at q;exact aw (q H (ae.refl H))
  |some xs=>
   rw[e]at q
   obtain⟨a,rfl,ha⟩:=Zp e
   show if decide ((xs.length:Int)=3)=true then _ else _
   by_cases h2:xs.length=3
   ·rw[decide_eq_true (show(xs.length:Int)=3 by omega)]
    refine bf ⟨_,rfl,a,rfl,⟨xs,af.of ha⟩,?_⟩
    refine YC (xs:=xs) (fun i ys σ H2=>ys=(xs.take i).map (fun y=>V.bl (bq y 0 1))∧H2=H∧∃v,σ=[v]) ⟨rfl,rfl,none,rfl⟩ (fun i ys σ H2 _ ⟨_,e2,_⟩=>by rw[e2];exact af.of ha) ?_ ?_
    ·rintro i y ys σ H2 hy ⟨rfl,rfl,v,rfl⟩
     have my:y∈xs:=List.mem_of_getElem? hy
     refine⟨y,rfl,y,0,1,rfl,hi xs e y my,?_,?_⟩
     ·rw[List.length_map,sizeLine_eq,List.length_take];omega
     ·refine⟨?_,rfl,_,rfl⟩
      rw[List.take_add_one,hy,List.map_append]
      rfl
    ·rintro ys σ H2 ⟨rfl,rfl,v,rfl⟩ p hp
     rw[List.take_length]
     refine⟨p,xs.map (fun y=>bq y 0 1),rfl,?_,?_⟩
     ·rw[List.map_map];exact ag.of Zd
     ·have e3:kU (some xs)=(xs.map (fun y=>bq y 0 1)).all id:=by
       match xs,h2 with
       | [a,b,c],_=>simp[kU]
      rw[←e3]
      exact q _ fun b o hb=>by rw[Zh (Zi hb hp)];exact hb
   ·rw[decide_eq_false (show ¬(xs.length:Int)=3 by omega)]
    have e3:kU (some xs)=false:=by
     match xs,h2 with
     | [],_=>rfl
     | [a],_=>rfl
     | [a,b],_=>rfl
     | [a,b,c],h=>exact absurd rfl h
     |a::b::c::d::r,_=>rfl
    rw[e3]at q
    exact aw (q H (ae.refl H))
abbrev rL:Stmt:=top 41
def qL (K:PySem.W.Frag):Sp:=fun vs H Q _=> ∃x,vs=[x]∧iK K H x∧kU (bS H x)=true∧∀H',ae H H'→Q .ab H'
theorem Bn:aV ["turn"] ["turn"] (aC rL):=⟨rfl,rfl,rfl,by decide+kernel,rfl,by decide+kernel,by decide+kernel⟩
theorem Gg {f:Addr}{fd:FuncData}(F:aM K "need_turn" "need_turn" rL f fd) (D1:Def P w K mg base 3 "is_turn" ["thing"] (qA K)):aG P w K mg base aH 4 f fd ["turn"] (qL K):=by
 refine F.ok Bn (fun vs H Q E h=> ?_) (fun ao A outer s H vs Q E hr h=> ?_)
 ·obtain⟨x,rfl,_⟩:=h
  rfl
 ·obtain⟨x,rfl,p,fu,q⟩:=h
  refine⟨_,Zk (ZR (Z5 (ZX (Zf D1 hr (Za (pv 0) Zb)))) Zw Zy),?_⟩
  refine⟨x,rfl,x,rfl,p,fun H1 s1=> ⟨_,rfl,?_⟩⟩
  rw[fu]
  exact aw (q H1 s1)
def tA (n:Int) (l:Bool) (x:Int):Int:=if l=true then n - 1 - x else x
def kA (wd hg:Int) (q:Bool×Bool×Bool) (x:Int×Int):Int×Int:=if q.1=true then (tA hg q.2.2 x.2,tA wd q.2.1 x.1) else (tA wd q.2.1 x.1,tA hg q.2.2 x.2)
abbrev rB:Stmt:=top 42
def qE:Sp:=fun vs H Q _=> ∃(b p t:Addr) (wd hg:Int) (x:Int×Int) (q:Bool×Bool×Bool),vs=[.ref b,.ref p,.ref t]∧H b=some (.tup [.int wd,.int hg])∧H p=some (.tup [.int x.1,.int x.2])∧H t=some (.tup (tv q))∧∀(r:Addr) H',ae H H'→H' r=some (.tup [.int (kA wd hg q x).1,.int (kA wd hg q x).2])→Q (.ref r) H'
theorem iP:aV ["board", "point", "turn", "line", "row", "over", "lines", "rows"] ["board", "point", "turn"] (aC rB):=⟨rfl,rfl,rfl,by decide+kernel,rfl,by decide+kernel,by decide+kernel⟩
theorem Ul (b:Bool):decide (V.int (bi b)=V.int 1)=b:=by cases b<;>decide
theorem Gk {f:Addr}{fd:FuncData}(F:aM K "turned_point" "turned_point" rB f fd):aG P w K mg base aH 1 f fd ["board", "point", "turn"] qE:=by
 refine F.ok iP (fun vs H Q E h=> ?_) (fun ao A outer s H vs Q E hr h=> ?_)
 ·obtain⟨b,p,t,wd,hg,x,q,rfl,_⟩:=h
  rfl
 ·obtain⟨b,p,t,wd,hg,⟨x,y⟩,⟨o,l,r⟩,rfl,hb,hp,ht,q⟩:=h
  refine⟨_,Zg (Yk (pv 1) (ZS rfl (Zm (Zz (i:=3) iP.nd rfl (Or.inl rfl)) (Zm (Zz (i:=4) iP.nd rfl (Or.inl rfl)) ZK))))
   (Zg (Yk (pv 2) (ZS rfl (Zm (Zz (i:=5) iP.nd rfl (Or.inl rfl)) (Zm (Zz (i:=6) iP.nd rfl (Or.inl rfl)) (Zm (Zz (i:=7) iP.nd rfl (Or.inl rfl)) ZK)))))
   (Zg (ZR (Zx JX (pv 6) Ze (bM _)) (Zk (ZF (i:=3) iP.nd rfl (Or.inl rfl) (Zo ZP (Zo ZP (ZG ZH (pv 0) Ze (fun _ _=>rfl)) Ze) (pv 3)))) Zy)
   (Zg (ZR (Zx JX (pv 7) Ze (bM _)) (Zk (ZF (i:=4) iP.nd rfl (Or.inl rfl) (Zo ZP (Zo ZP (ZG ZH (pv 0) Ze (fun _ _=>rfl)) Ze) (pv 4)))) Zy)
   (Zk (Zu (YB (Zx JX (pv 5) Ze (bM _)) (ZA (Za (pv 4) (Za (pv 3) Zb))) (ZA (Za (pv 3) (Za (pv 4) Zb))))))))),?_⟩
  refine Zn (ZD ⟨_,rfl,p,_,rfl,af.of hp,rfl,_,_,rfl,_,_,rfl,rfl,?_⟩)
  dsimp only[List.set]
  refine Zn (ZD ⟨_,rfl,t,_,rfl,af.of ht,rfl,_,_,rfl,_,_,rfl,_,_,rfl,rfl,?_⟩)
  dsimp only[List.set]
  refine Y6 (fun σ H'=>H'=H∧σ=[some (.ref b),some (.ref p),some (.ref t),some (.int (tA wd l x)),some (.int y),some (.int (bi o)),some (.int (bi l)),some (.int (bi r))]) ?_ ?_
  ·rintro σ H' ⟨rfl,rfl⟩
   refine Y6 (fun σ H2=>H2=H'∧σ=[some (.ref b),some (.ref p),some (.ref t),some (.int (tA wd l x)),some (.int (tA hg r y)),some (.int (bi o)),some (.int (bi l)),some (.int (bi r))]) ?_ ?_
   ·rintro σ H2 ⟨rfl,rfl⟩
    refine⟨_,rfl,rfl,_,rfl,?_⟩
    rw[Ul]
    cases o with
    |true=>exact bf ⟨_,rfl,_,rfl,(by show 2≤sizeLine;decide),fun u hu=>q u _ (Zl hu) Zd⟩
    |false=>exact aw ⟨_,rfl,_,rfl,(by show 2≤sizeLine;decide),fun u hu=>q u _ (Zl hu) Zd⟩
   ·intro D' hD
    refine⟨_,rfl,rfl,_,rfl,?_⟩
    rw[Ul]
    cases r with
    |true=>exact bf (ZD ⟨_,rfl,b,_,_,_,rfl,rfl,af.of hb,eC,_,_,rfl,rfl,_,rfl,_,_,rfl,rfl,Zq (hD _ _ ⟨rfl,rfl⟩)⟩)
    |false=>exact aw (ZM (hD _ _ ⟨rfl,rfl⟩))
  ·intro D' hD
   refine⟨_,rfl,rfl,_,rfl,?_⟩
   rw[Ul]
   cases l with
   |true=>exact bf (ZD ⟨_,rfl,b,_,_,_,rfl,rfl,af.of hb,gz,_,_,rfl,rfl,_,rfl,_,_,rfl,rfl,Zq (hD _ _ ⟨rfl,rfl⟩)⟩)
   |false=>exact aw (ZM (hD _ _ ⟨rfl,rfl⟩))
abbrev tW (wd hg:Int) (q:Bool×Bool×Bool):Int:=if q.1=true then hg else wd
abbrev tH (wd hg:Int) (q:Bool×Bool×Bool):Int:=if q.1=true then wd else hg
abbrev rC:Stmt:=top 43
def qF:Sp:=fun vs H Q _=> ∃(b t:Addr) (wd hg:Int) (q:Bool×Bool×Bool),vs=[.ref b,.ref t]∧cR H (.ref b) wd hg∧H t=some (.tup (tv q))∧∀(c:Addr) H',ae H H'→cR H' (.ref c) (tW wd hg q) (tH wd hg q)→Q (.ref c) H'
theorem Bi:aV ["board", "turn"] ["board", "turn"] (aC rC):=⟨rfl,rfl,rfl,by decide+kernel,rfl,by decide+kernel,by decide+kernel⟩
theorem Gi {f:Addr}{fd:FuncData}(F:aM K "turned_board" "turned_board" rC f fd) (D1:Def P w K mg base 4 "need_board" ["board"] (lW K)) (D2:Def P w K mg base 4 "need_turn" ["turn"] (qL K)):aG P w K mg base aH 5 f fd ["board", "turn"] qF:=by
 refine F.ok Bi (fun vs H Q E h=> ?_) (fun ao A outer s H vs Q E hr h=> ?_)
 ·obtain⟨b,t,wd,hg,q,rfl,_⟩:=h
  rfl
 ·obtain⟨b,t,wd,hg,⟨o,l,r⟩,rfl,bd,ht,q⟩:=h
  refine⟨_,Zg (ZU (Zf D1 hr (Za (pv 0) Zb)))
   (Zg (ZU (Zf D2 hr (Za (pv 1) Zb)))
   (Zk (Zu (YB (Zx JX (ZG ZH (pv 1) Ze (fun _ _=>rfl)) Ze (bM _)) (ZA (Za (ZG ZH (pv 0) Ze (fun _ _=>rfl)) (Za (ZG ZH (pv 0) Ze (fun _ _=>rfl)) Zb))) (pv 0))))),?_⟩
  refine Zn ⟨_,rfl,.ref b,wd,hg,rfl,bd,fun H1 s1=> ?_⟩
  dsimp only
  have kX:=s1 _ _ ht
  refine Zn ⟨_,rfl,.ref t,rfl,Gq kX,by rw[Zt kX];exact Il _,fun H2 s2=> ?_⟩
  dsimp only
  have DB:=s2 _ _ kX
  have dM:=s1.trans s2
  obtain⟨_,w1,qr,g1,yz⟩:=id bd
  obtain⟨b',eb,hb⟩:=Zp bd.1
  cases eb
  have gT:=dM _ _ hb
  refine⟨_,rfl,t,_,_,_,rfl,rfl,af.of DB,rfl,rfl,_,rfl,?_⟩
  rw[Ul]
  cases o with
  |true=>
   refine bf ⟨_,rfl,b,_,_,_,rfl,rfl,af.of gT,eC,_,rfl,b,_,_,_,rfl,rfl,af.of gT,gz,(by show 2≤sizeLine;decide),fun u hu=>q u _ (dM.trans (Zl hu)) ⟨Zt Zd,g1,yz,w1,qr⟩⟩
  |false=>exact aw ⟨_,rfl,q b _ dM (bd.same dM)⟩
end
section
def dr:V→Option Int
 | .int r=>some r
 |_=>none
theorem Gz {α β:Type}(g:α→Option β) (a:α):[a].filterMap g=(g a).toList:=by
 rw[List.filterMap_cons]
 cases g a<;>rfl
def cC (xs:List V) (n:Nat):List (Int×Int):=(List.range n).filterMap fun(l:Nat)=> ((xs[l]?).bind dr).map fun r=> ((l:Int),r)
theorem ij (xs:List V) (n:Nat):cC xs (n+1)=cC xs n++(((xs[n]?).bind dr).map fun r=> ((n:Int),r)).toList:=by
 unfold cC
 rw[List.range_succ,List.filterMap_append,Gz]
abbrev aE (xs:List V):List (Int×Int):=cC xs xs.length
def fF (H:Hp) (v:V) (q:Int×Int):Prop:=∃t:Addr,v=.ref t∧H t=some (.tup [.int q.1,.int q.2])
theorem fF.same {H H':Hp}{v:V}{q:Int×Int}(h:fF H v q) (s:ae H H'):fF H' v q:=by
 obtain⟨t,e,h1⟩:=h
 exact⟨t,e,s _ _ h1⟩
theorem zd {xs:List V}{n:Nat}{q:Int×Int}(h:q∈cC xs n):∃k:Nat,k<n∧q.1=k∧xs[k]? =some (.int q.2):=by
 unfold cC at h
 obtain⟨k,hk,e⟩:=List.mem_filterMap.mp h
 refine⟨k,List.mem_range.mp hk,?_⟩
 cases e1:xs[k]? with
 |none=>rw[e1]at e;cases e
 |some v=>
  rw[e1]at e
  cases v with
  |int r=>cases e;exact⟨rfl,rfl⟩
  |_=>cases e
def lJ (qs:List (Int×Int)):Prop:=qs.Pairwise fun a b=>a.1≠b.1∧a.2≠b.2
def qi (wd hg:Int) (qs:List (Int×Int)):Prop:=∀q∈qs,(0≤q.1∧q.1<wd)∧0≤q.2∧q.2<hg
theorem IK {xs:List V}{wd hg:Int}(h:bw wd hg (some xs)=true):qi wd hg (aE xs):=fun q hq=>by
 obtain⟨k,hk,e1,e2⟩:=zd hq
 have hl:=ZV h
 rcases ZJ h (List.mem_of_getElem? e2) with z |⟨i,z,i0,i1⟩
 ·cases z
 ·cases z
  exact⟨⟨by omega,by omega⟩,i0,i1⟩
def eP (ps:List (Int×Int)) (k:Int):V:=ps.foldl (fun v p=>if k=p.1 then .int p.2 else v) .ab
theorem Uz {ps:List (Int×Int)}{p:Int×Int}{k:Int} :eP (ps++[p]) k=if k=p.1 then .int p.2 else eP ps k:=by
 unfold eP
 rw[List.foldl_append]
 rfl
theorem zj {k:Int} :∀(ps:List (Int×Int)) (v:V),ps.foldl (fun v p=>if k=p.1 then V.int p.2 else v) v=v∨∃p∈ps,p.1=k∧ps.foldl (fun v p=>if k=p.1 then V.int p.2 else v) v=.int p.2
 | [],v=> .inl rfl
 |p::ps,v=>by
  rw[List.foldl_cons]
  rcases zj ps (if k=p.1 then V.int p.2 else v) with h |⟨q,hq,e1,e2⟩
  ·by_cases z:k=p.1
   ·right
    refine⟨p,List.mem_cons_self,z.symm,?_⟩
    rw[h,if_pos z]
   ·left
    rw[h,if_neg z]
  ·exact .inr ⟨q,List.mem_cons_of_mem _ hq,e1,e2⟩
theorem WE (ps:List (Int×Int)) (k:Int):eP ps k=.ab∨∃p∈ps,p.1=k∧eP ps k=.int p.2:=zj ps .ab
theorem KW {ps:List (Int×Int)}{k:Int}(h:∀p∈ps,p.1≠k):eP ps k=.ab:=by
 rcases WE ps k with z |⟨p,hp,e,_⟩
 ·exact z
 ·exact absurd e (h p hp)
def cO (W:Nat) (ps:List (Int×Int)):List V:=(List.range W).map fun(k:Nat)=>eP ps k
theorem Yd (W:Nat) (ps:List (Int×Int)):(cO W ps).length=W:=by unfold cO;rw[List.length_map,List.length_range]
theorem IV (W:Nat):cO W []=List.replicate W .ab:=by
 unfold cO
 rw[show(fun(k:Nat)=>eP [] (k:Int))=fun _=>V.ab from rfl,List.map_const',List.length_range]
theorem YF {W:Nat}{ps:List (Int×Int)}{k:Nat}(h:k<W):(cO W ps)[k]? =some (eP ps k):=by
 unfold cO
 rw[List.getElem?_map,List.getElem?_range h]
 rfl
theorem IW {W:Nat}{ps:List (Int×Int)}{p:Int×Int}(h0:0≤p.1):(cO W ps).set p.1.toNat (.int p.2)=cO W (ps++[p]):=by
 refine List.ext_getElem (by rw[List.length_set,Yd,Yd]) fun i h1 h2=> ?_
 rw[Yd]at h2
 have e1:=List.getElem?_eq_some_iff.mp (YF (ps:=ps) h2)
 have e2:=List.getElem?_eq_some_iff.mp (YF (ps:=ps++[p]) h2)
 rw[List.getElem_set]
 obtain⟨_,e1⟩:=e1
 obtain⟨_,e2⟩:=e2
 rw[e1,e2,Uz]
 by_cases z:p.1.toNat=i
 ·rw[if_pos z,if_pos (by omega)]
 ·rw[if_neg z,if_neg (by omega)]
theorem WK {W:Nat}{ps:List (Int×Int)}{v:V}(h:v∈cO W ps):v=.ab∨∃p∈ps,v=.int p.2:=by
 unfold cO at h
 obtain⟨k,_,rfl⟩:=List.mem_map.mp h
 rcases WE ps (k:Int) with z |⟨p,hp,_,e⟩
 ·exact .inl z
 ·exact .inr ⟨p,hp,e⟩
theorem HJ {W:Nat}{ps:List (Int×Int)}{r:Int}(h:∀p∈ps,p.2≠r):cH (.int r) (cO W ps)=false:=by
 unfold cH
 rw[List.any_eq_false]
 intro y hy
 rcases WK hy with rfl |⟨p,hp,rfl⟩
 ·show ¬false=true
  exact Bool.false_ne_true
 ·show ¬(p.2==r)=true
  rw[beq_iff_eq]
  exact h p hp
theorem K6 {W:Nat}{ps:List (Int×Int)} :(cO W ps).all g9=true:=by
 rw[List.all_eq_true]
 intro y hy
 rcases WK hy with rfl |⟨p,hp,rfl⟩<;>rfl
theorem Ku (n:Nat) (v:V):(List.replicate n [v]).flatten=List.replicate n v:=by
 induction n with
 |zero=>rfl
 |succ n ih=>rw[List.replicate_succ,List.flatten_cons,ih,List.replicate_succ];rfl
theorem rd {H H1:Hp}{L:Addr}{o:HO}(s:ae H H1) (n:H L=none):ae H (upd H1 L o):=fun b u h=>by
 rw[Zh (Zi h n)]
 exact s b u h
end
section
variable {P:Program}{w:World}{K:PySem.W.Frag}{mg:Str→Option Value}{base:Heap}{aB aL aT:Addr}
abbrev kJ:Stmt:=top 22
def iN (K:PySem.W.Frag):Sp:=fun vs H Q _=> ∃(x:V) (l:Addr) (xs:List V) (wd hg:Int),vs=[x,.ref l]∧bB K H x l xs wd hg∧∀(L:Addr) (H':Hp) (ps:List V),ae H H'→H' L=some (.lst ps)→Paired (fF H') ps (aE xs)→Q (.ref L) H'
theorem q0:aV ["board", "lay"] ["board", "lay"] (aC kJ):=⟨rfl,rfl,rfl,by decide+kernel,rfl,by decide+kernel,by decide+kernel⟩
theorem sJ {f:Addr}{fd:FuncData}(F:aM K "points" "points" kJ f fd) (G:Gs mg) (D1:Def P w K mg base 6 "need_lay" ["board", "lay"] (iO K)):aG P w K mg base aH 7 f fd ["board", "lay"] (iN K):=by
 refine F.ok q0 (fun vs H Q E h=> ?_) (fun ao A outer s H vs Q E hr h=> ?_)
 ·obtain⟨x,l,xs,wd,hg,rfl,_⟩:=h
  rfl
 ·obtain⟨x,a,xs,wd,hg,rfl,la,q⟩:=h
  refine⟨_,Zg (ZU (Zf D1 hr (Za (pv 0) (Za (pv 1) Zb))))
   (Zk (Zu (ZT ["line", "row"] 2 [] (zD rfl G.enumerate (Za (pv 1) Zb))
    (fun C s H fp=>show PG (bj _ _ _ C s H fp) _ (gW K 2 (cj (bR 0) (cj (bR 1) gX))) from ZS rfl (Zm (pb 0) (Zm (pb 1) ZK)))
    (fun C s H fp=>Yg (YY (Jc (pv 1)))) (fun C s H fp D=>ZE rfl (ZA (Za (pv 0) (Za (pv 1) Zb))))))),?_⟩
  refine Zn ⟨_,rfl,_,rfl,x,.ref a,wd,hg,rfl,la.bd,la.pl,by rw[Zt la.at_];exact la.ly,fun H1 s1=> ?_⟩
  dsimp only
  have ha:=s1 _ _ la.at_
  have hl:=ZV la.ly
  have hlen:xs.length≤12:=by
   have h2:=la.bd.2.2.1
   omega
  refine⟨_,rfl,a,rfl,⟨xs,af.of ha⟩,?_⟩
  refine WI (xs:=xs) (fun i ys σ H2=> ∃v0 v1,σ=[v0,v1]∧ae H1 H2∧Paired (fF H2) ys (cC xs i)∧ys.length≤i) ⟨_,_,rfl,ae.refl _,.nil,Nat.zero_le _⟩ (fun i ys σ H2 _ ⟨_,_,_,s2,_⟩=>af.of (s2 _ _ ha)) ?_ ?_
  ·rintro i v T ys σ H2 hv hT ⟨v0,v1,rfl,s2,cD,iA⟩
   have hi:i<xs.length:=(List.getElem?_eq_some_iff.mp hv).1
   have sT:ae H2 (upd H2 T (.par [.int (i:Int),v])):=Zl hT
   refine⟨T,_,rfl,af.me Zd,rfl,_,_,rfl,_,_,rfl,rfl,?_⟩
   refine⟨_,rfl,_,rfl,?_⟩
   generalize uA:upd H2 T (HO.par [V.int (i:Int),v])=H3 at sT
   rcases ZJ la.ly (List.mem_of_getElem? hv) with rfl |⟨r,rfl,_⟩
   ·refine aw ⟨_,_,rfl,s2.trans sT,?_,by omega⟩
    rw[ij,hv]
    exact(by simpa[dr] using Paired.bT cD fun v q' hq=>hq.same sT)
   ·refine bf ?_
    refine⟨_,rfl,_,rfl,(by show 2≤sizeLine;decide),fun t ht=> ⟨by rw[sizeLine_eq];omega,?_⟩⟩
    have s4:ae H3 (upd H3 t (.tup [.int (i:Int),.int r])):=Zl ht
    refine⟨_,_,rfl,s2.trans (sT.trans s4),?_,by rw[List.length_append];simp;omega⟩
    rw[ij,hv]
    exact Paired.snoc (Paired.bT cD fun v q' hq=>hq.same (sT.trans s4)) ⟨t,rfl,Zd⟩
  ·rintro ys σ H2 ⟨v0,v1,rfl,s2,cD,iA⟩ p hp
   have s4:ae H2 (upd H2 p (.lst ys)):=Zl hp
   exact q p _ ys (s1.trans (s2.trans s4)) Zd (Paired.bT cD fun v q' hq=>hq.same s4)
abbrev rT:Stmt:=top 23
def qS (K:PySem.W.Frag):Sp:=fun vs H Q _=> ∃(b:Addr) (v:V) (wd hg:Int) (x:Int×Int),vs=[.ref b,v]∧H b=some (.tup [.int wd,.int hg])∧fF H v x∧(0≤x.1∧x.1<wd)∧(0≤x.2∧x.2<hg)∧∀H',ae H H'→Q (.bl true) H'
theorem Bq:aV ["board", "thing"] ["board", "thing"] (aC rT):=⟨rfl,rfl,rfl,by decide+kernel,rfl,by decide+kernel,by decide+kernel⟩
theorem Gb {f:Addr}{fd:FuncData}(F:aM K "is_point" "is_point" rT f fd) (G:Gs mg) (D1:Def P w K mg base 1 "is_tuple_of" ["thing", "many"] (kF K)) (D2:Def P w K mg base 2 "is_whole_within" ["thing", "least", "most"] (js K)):
  aG P w K mg base aH 3 f fd ["board", "thing"] (qS K):=by
 refine F.ok Bq (fun vs H Q E h=> ?_) (fun ao A outer s H vs Q E hr h=> ?_)
 ·obtain⟨b,v,wd,hg,x,rfl,_⟩:=h
  rfl
 ·obtain⟨b,v,wd,hg,⟨x,y⟩,rfl,hb,⟨t,rfl,ht⟩,hx,hy,q⟩:=h
  refine⟨_,Zk (Zu (Y1 (Zf D1 (hr.mono (by decide)) (Za (pv 1) (Za Ze Zb)))
   (Y0 (Zv YI rfl G.all boot_all (Za (ZT ["at", "side"] 2 [] (II rfl G.zip (Za (pv 1) (Za (pv 0) Zb)))
    (fun C s H fp=>show PG (bj _ _ _ C s H fp) _ (gW K 2 (cj (bR 0) (cj (bR 1) gX))) from ZS rfl (Zm (pb 0) (Zm (pb 1) ZK))) (fun C s H fp=>ZZ)
    (fun C s H fp D=>ZE rfl (Zf D2 (hr.mono (by decide)) (Za (pv 0) (Za Ze (Za (Zo ZP (pv 1) Ze) Zb)))))) Zb))))),?_⟩
  refine⟨_,rfl,.ref t,2,rfl,⟨_,.tup ht⟩,_,rfl,?_⟩
  rw[Zt ht]
  show if decide ((2:Int)=2)=true then _ else _
  rw[decide_eq_true rfl]
  refine bf ⟨_,rfl,_,rfl,t,b,rfl,⟨_,_,af.of ht,af.of hb⟩,?_⟩
  refine Ka (xs:=[.int x,.int y]) (zs:=[.int wd,.int hg]) rfl (fun i zs σ H2=> ∃v0 v1,σ=[v0,v1]∧ae H H2∧zs=List.replicate i (V.bl true)) ⟨_,_,rfl,ae.refl _,rfl⟩ (fun i zs σ H2 _ ⟨_,_,_,s2,_⟩=> ⟨af.of (s2 _ _ ht),af.of (s2 _ _ hb)⟩) ?_ ?_
  ·rintro i u v T zs σ H2 hu hv hT ⟨v0,v1,rfl,s2,rfl⟩
   have sT:=Zl (o:=.par [u,v]) hT
   obtain⟨a,sd,rfl,rfl,h0,h1⟩:∃a sd:Int,u=.int a∧v=.int sd∧0≤a∧a<sd:=by
    match i,hu,hv with
    |0,hu,hv=>cases hu;cases hv;exact⟨_,_,rfl,rfl,hx.1,hx.2⟩
    |1,hu,hv=>cases hu;cases hv;exact⟨_,_,rfl,rfl,hy.1,hy.2⟩
   have hi:i<2:=(List.getElem?_eq_some_iff.mp hu).1
   refine⟨T,_,rfl,af.me Zd,rfl,_,_,rfl,_,_,rfl,rfl,?_⟩
   refine⟨_,rfl,_,rfl,_,_,rfl,rfl,.int a,0,sd - 1,rfl,⟨_,.int a⟩,by rw[List.length_replicate,sizeLine_eq];omega,_,_,rfl,s2.trans sT,?_⟩
   rw[WZ h0 (by omega),List.replicate_succ']
  ·rintro zs σ H2 ⟨v0,v1,rfl,s2,rfl⟩ p hp
   refine⟨p,List.replicate 2 true,rfl,ag.of Zd,?_⟩
   exact q _ (s2.trans (Zl hp))
abbrev rR:Stmt:=top 24
def qQ (K:PySem.W.Frag):Sp:=fun vs H Q _=> ∃(b L:Addr) (ps:List V) (qs:List (Int×Int)) (wd hg:Int),vs=[.ref b,.ref L]∧cR H (.ref b) wd hg∧H L=some (.lst ps)∧Paired (fF H) ps qs∧qi wd hg qs∧lJ qs∧qs.length≤12∧∀(t:Addr) H',ae H H'→H' t=some (.tup (cO wd.toNat qs))→Q (.ref t) H'
theorem oA:aV ["board", "points", "rows", "line", "row"] ["board", "points"] (aC rR):=⟨rfl,rfl,rfl,by decide+kernel,rfl,by decide+kernel,by decide+kernel⟩
theorem Ge {f:Addr}{fd:FuncData}(F:aM K "lay_of" "lay_of" rR f fd) (G:Gs mg) (D1:Def P w K mg base 4 "need_board" ["board"] (lW K)) (D2:Def P w K mg base 3 "is_point" ["board", "thing"] (qS K)):aG P w K mg base aH 5 f fd ["board", "points"] (qQ K):=by
 refine F.ok oA (fun vs H Q E h=> ?_) (fun ao A outer s H vs Q E hr h=> ?_)
 ·obtain⟨b,L,ps,qs,wd,hg,rfl,_⟩:=h
  rfl
 ·obtain⟨b,L,ps,qs,wd,hg,rfl,bd,hL,pr,xm,Fc,hlen,q⟩:=h
  refine⟨_,Zg (ZU (Zf D1 hr (Za (pv 0) Zb)))
   (Zg (ZR (PW.pt (Jz (Z5 (ZX (Zv (Yj (c:= "list")) rfl G.isinstance boot_isinstance (Za (pv 1) (Za (JL (v:=.ty "list") rfl G.list boot_list rfl) Zb)))))
     (YA (Z5 (ZX (Zv YI rfl G.all boot_all (Za (ZT ["point", "board"] 1 [0] (Z9 (pv 1)) (fun C s H fp=>pb 0) (fun C s H fp=>ZZ)
      (fun C s H fp D=>ZE rfl (Zf D2 (hr.mono (by decide)) (Za (pv 1) (Za (pv 0) Zb))))) Zb))))))) Zw Zy)
   (Zg (ZF (i:=2) oA.nd rfl (Or.inl rfl) (Zo Ha (Jn (Za W6 Zb)) (ZG ZH (pv 0) Ze (fun _ _=>rfl))))
   (Zg (YZ PassesOwn.never rfl (Z9 (pv 1)) (ZS rfl (Zm (Zz (i:=3) oA.nd rfl (Or.inl rfl)) (Zm (Zz (i:=4) oA.nd rfl (Or.inl rfl)) ZK)))
    (Zg (ZR (PW.pt (Jz (YY (Jc (ZG Z4 (pv 2) (pv 3) (fun _ _=>rfl)))) (YA (Zx Jq (pv 4) (pv 2) rfl)))) Zw Zy)
    (Zk (Yk (pv 4) (u6 (pv 2) (pv 3) JQ)))))
   (Zk (Zu (Yc Yl rfl G.tuple boot_tuple (Za (pv 2) Zb))))))),?_⟩
  obtain⟨_,w1,qr,g1,yz⟩:=id bd
  obtain⟨b',eb,hb⟩:=Zp bd.1
  cases eb
  have lp:ps.length=qs.length:=Paired.length pr
  refine Zn ⟨_,rfl,.ref b,wd,hg,rfl,bd,fun H1 s1=> ?_⟩
  dsimp only
  have pR:=s1 _ _ hL
  have iD:=s1 _ _ hb
  refine Zn ⟨_,rfl,_,_,_,rfl,.lst pR,(show _=some true from rfl),_,rfl,aw ?_⟩
  refine⟨_,rfl,L,rfl,⟨ps,ag.of pR⟩,?_⟩
  refine Z1 (xs:=ps) (fun i zs σ H2=> ∃v0,σ=[v0,some (.ref b)]∧ae H1 H2∧zs=List.replicate i (V.bl true)) ⟨_,rfl,ae.refl _,rfl⟩ (fun i zs σ H2 _ ⟨_,_,s2,_⟩=>ag.of (s2 _ _ pR)) ?_ ?_
  ·rintro i v zs σ H2 hv ⟨v0,rfl,s2,rfl⟩
   obtain⟨x,hx,px⟩:=JA pr hv
   obtain⟨o8,iw⟩:=xm x (List.mem_of_getElem? hx)
   have hi:i<ps.length:=(List.getElem?_eq_some_iff.mp hv).1
   refine⟨_,rfl,_,rfl,b,v,wd,hg,x,rfl,s2 _ _ iD,px.same (s1.trans s2),o8,iw,fun H3 s3=> ⟨by rw[List.length_replicate,sizeLine_eq];omega,_,rfl,s2.trans s3,?_⟩⟩
   rw[List.replicate_succ']
  rintro zs σ H2 ⟨v0,rfl,s2,rfl⟩ p hp
  refine⟨p,List.replicate ps.length true,rfl,?_,?_⟩
  ·rw[List.map_replicate]
   exact ag.of Zd
  have ea:(List.replicate ps.length true).all id=true:=by simp
  rw[ea]
  refine⟨_,rfl,aw (ZM ?_)⟩
  dsimp only
  have s3:=s2.trans (Zl (o:=.lst (List.replicate ps.length (V.bl true))) hp)
  generalize upd H2 p (.lst (List.replicate ps.length (V.bl true)))=H3 at s3
  have Ez:=s3 _ _ iD
  have EH:=s3 _ _ pR
  refine Zn (ZD ⟨(by show 1≤sizeLine;decide),fun l0 h0=> ?_⟩)
  have s4:=Zl (o:=.lst [V.ab]) h0
  have e4:upd H3 l0 (.lst [V.ab]) l0=some (.lst [V.ab]):=Zd
  generalize upd H3 l0 (HO.lst [V.ab])=H4 at s4 e4
  refine⟨_,rfl,b,_,_,_,rfl,rfl,af.of (s4 _ _ Ez),gz,l0,wd,_,rfl,rfl,e4,by omega,by omega,(by rw[sizeLine_eq];show 1*wd.toNat≤_;omega),fun R hR=>Zq ?_⟩
  dsimp only[List.set]
  have er:(List.replicate wd.toNat [V.ab]).flatten=cO wd.toNat []:=by rw[Ku,IV]
  rw[er]
  have yn:=s4 _ _ EH
  have kL:=s3.trans s4
  have B7:Paired (fF H4) ps qs:=Paired.bT pr fun v q' hq=>hq.same (s1.trans kL)
  refine Zn ⟨_,rfl,L,rfl,⟨ps,ag.of ((Zl hR) _ _ yn)⟩,?_⟩
  refine Iz (xs:=ps) (fun i σ H5=> ∃v3 v4,σ=[some (.ref b),some (.ref L),some (.ref R),v3,v4]∧ae H4 H5∧H5 R=some (.lst (cO wd.toNat (qs.take i)))) ⟨_,_,rfl,Zl hR,Zd⟩ (fun i σ H5 _ ⟨_,_,_,s5,_⟩=>ag.of (s5 _ _ yn)) ?_ ?_
  ·rintro i v σ H5 hv ⟨v3,v4,rfl,s5,e5⟩
   obtain⟨x,hx,px⟩:=JA B7 hv
   obtain⟨t,rfl,ht⟩:=px.same s5
   obtain⟨⟨x0,x1⟩,y0,y1⟩:=xm x (List.mem_of_getElem? hx)
   have hi:i<qs.length:=(List.getElem?_eq_some_iff.mp hx).1
   have yA:∀p∈qs.take i,p.1≠x.1∧p.2≠x.2:=fun p hp=>by
    obtain⟨j,hj,e⟩:=List.getElem_of_mem hp
    rw[List.length_take]at hj
    rw[List.getElem_take]at e
    have:=List.pairwise_iff_getElem.mp Fc j i (by omega) hi (by omega)
    rw[e,(List.getElem?_eq_some_iff.mp hx).2]at this
    exact this
   refine⟨t,_,rfl,af.of ht,rfl,_,_,rfl,_,_,rfl,rfl,?_⟩
   dsimp only[List.set]
   have ek:x.1=(x.1.toNat:Int):=by omega
   have uj:dQ (cO wd.toNat (qs.take i)) x.1=some .ab:=by
    rw[ek]
    refine YS ?_
    rw[YF (by omega),←ek,KW fun p hp=> (yA p hp).1]
   refine Zn ⟨_,rfl,_,rfl,R,_,_,_,rfl,rfl,ag.of e5,uj,?_⟩
   refine⟨_,rfl,aw ?_⟩
   refine⟨_,rfl,_,rfl,R,_,rfl,.inl (ag.of e5),rfl,K6,?_⟩
   have zi:cH (.int x.2) (cO wd.toNat (qs.take i))=false:=HJ fun p hp=> (yA p hp).2
   rw[if_neg Bool.false_ne_true,zi]
   refine⟨_,rfl,aw (ZM ?_)⟩
   dsimp only
   refine ZD ⟨_,rfl,_,rfl,_,rfl,R,_,x.1,x.1.toNat,rfl,rfl,e5,Hs x0 (by rw[Yd];omega),?_⟩
   refine⟨_,_,rfl,rd s5 hR,?_⟩
   rw[Zd,IW x0,List.take_add_one,hx]
   rfl
  ·rintro σ H5 ⟨v3,v4,rfl,s5,e5⟩
   rw[lp,List.take_length]at e5
   refine⟨_,rfl,R,_,rfl,.inl ⟨ag.of e5,fun t ht=> ?_⟩⟩
   exact q t _ (s1.trans (kL.trans (s5.trans (Zl ht)))) Zd
end
section
theorem Yv {xs:List V}{wd hg:Int} :bw wd hg (some xs)=true↔(xs.length:Int)=wd∧(∀v∈xs,v=.ab∨bq v 0 (hg - 1)=true)∧xs.Pairwise fun a b=>a=b→a=.ab:=by
 have pw:(rowsOf xs).Nodup↔xs.Pairwise fun a b=>a=b→a=.ab:=by
  unfold rowsOf List.Nodup
  rw[List.pairwise_filter]
  constructor
  ·intro h
   refine h.imp fun {a b} h e=> ?_
   by_cases z:a=.ab
   ·exact z
   ·exact absurd e (h (by simp[z]) (by rw[←e];simp[z]))
  ·intro h
   refine h.imp fun {a b} h p1 p2 e=> ?_
   rw[h e]at p1
   simp at p1
 have al:((rowsOf xs).all fun r=>bq r 0 (hg - 1))=true↔∀v∈xs,v=.ab∨bq v 0 (hg - 1)=true:=by
  rw[List.all_eq_true]
  unfold rowsOf
  constructor
  ·intro h v hv
   by_cases z:v=.ab
   ·exact .inl z
   ·exact .inr (h v (List.mem_filter.mpr ⟨hv,by simp[z]⟩))
  ·intro h v hv
   obtain⟨h1,h2⟩:=List.mem_filter.mp hv
   rcases h v h1 with z |z
   ·rw[z]at h2;simp at h2
   ·exact z
 unfold bw
 rw[Bool.and_eq_true,Bool.and_eq_true,decide_eq_true_iff,decide_eq_true_iff,al,pw,and_assoc]
theorem zF {xs:List V}{wd hg:Int}(h:bw wd hg (some xs)=true):∀n,lJ (cC xs n)
 |0=> .nil
 |n+1=>by
  rw[ij]
  unfold lJ
  rw[List.pairwise_append]
  refine⟨zF h n,?_,fun a ha b hb=> ?_⟩
  ·cases ((xs[n]?).bind dr).map fun r=> ((n:Int),r)<;>simp
  ·obtain⟨k,hk,e1,e2⟩:=zd ha
   cases e3:xs[n]? with
   |none=>rw[e3]at hb;cases hb
   |some v=>
    rw[e3]at hb
    cases v with
    |int r=>
     obtain rfl:b=((n:Int),r):=List.mem_singleton.mp hb
     refine⟨by show a.1≠(n:Int);omega,fun z=> ?_⟩
     obtain⟨_,_,h3⟩:=Yv.mp h
     obtain⟨k1,g1⟩:=List.getElem?_eq_some_iff.mp e2
     obtain⟨n1,g2⟩:=List.getElem?_eq_some_iff.mp e3
     have:=List.pairwise_iff_getElem.mp h3 k n k1 n1 hk (by rw[g1,g2,z])
     rw[g1]at this
     cases this
    |_=>cases hb
theorem sF (xs:List V):(aE xs).length≤xs.length:=by
 have:=List.length_filterMap_le (fun(l:Nat)=> ((xs[l]?).bind dr).map fun r=> ((l:Int),r)) (List.range xs.length)
 rw[List.length_range]at this
 exact this
theorem yX {n x:Int}{l:Bool}(h0:0≤x) (h1:x<n):0≤tA n l x∧tA n l x<n:=by
 unfold tA
 cases l
 ·rw[if_neg Bool.false_ne_true];exact⟨h0,h1⟩
 ·rw[if_pos rfl];omega
theorem yY {n x y:Int}{l:Bool}(h:x≠y):tA n l x≠tA n l y:=by
 unfold tA
 cases l
 ·rw[if_neg Bool.false_ne_true,if_neg Bool.false_ne_true];exact h
 ·rw[if_pos rfl,if_pos rfl];omega
theorem Hn {wd hg:Int}{q:Bool×Bool×Bool}{ps:List (Int×Int)}(h:qi wd hg ps):qi (tW wd hg q) (tH wd hg q) (ps.map (kA wd hg q)):=fun x hx=>by
 obtain⟨y,hy,rfl⟩:=List.mem_map.mp hx
 obtain⟨⟨a0,a1⟩,b0,b1⟩:=h y hy
 obtain⟨o,l,r⟩:=q
 have z1:=yX (l:=l) a0 a1
 have z2:=yX (l:=r) b0 b1
 cases o
 ·exact⟨z1,z2⟩
 ·exact⟨z2,z1⟩
theorem Ik {wd hg:Int}{q:Bool×Bool×Bool}{ps:List (Int×Int)}(h:lJ ps):lJ (ps.map (kA wd hg q)):=by
 unfold lJ
 rw[List.pairwise_map]
 refine List.Pairwise.imp (fun {a b} gU=> ?_) h
 obtain⟨o,l,r⟩:=q
 have z1:=yY (n:=wd) (l:=l) gU.1
 have z2:=yY (n:=hg) (l:=r) gU.2
 cases o
 ·exact⟨z1,z2⟩
 ·exact⟨z2,z1⟩
end
section
variable {P:Program}{w:World}{K:PySem.W.Frag}{mg:Str→Option Value}{base:Heap}{aB aL aT:Addr}
abbrev lS (wd hg:Int) (q:Bool×Bool×Bool) (xs:List V):List V:=cO (tW wd hg q).toNat ((aE xs).map (kA wd hg q))
abbrev rn:Stmt:=top 44
def qB (K:PySem.W.Frag):Sp:=fun vs H Q _=> ∃(b l t:Addr) (xs:List V) (wd hg:Int) (q:Bool×Bool×Bool),vs=[.ref b,.ref l,.ref t]∧bB K H (.ref b) l xs wd hg∧H t=some (.tup (tv q))∧∀(u:Addr) H',ae H H'→H' u=some (.tup (lS wd hg q xs))→Q (.ref u) H'
theorem qZ:aV ["board", "lay", "turn", "elder", "come"] ["board", "lay", "turn"] (aC rn):=⟨rfl,rfl,rfl,by decide+kernel,rfl,by decide+kernel,by decide+kernel⟩
theorem Gm {f:Addr}{fd:FuncData}(F:aM K "turned" "turned" rn f fd) (D1:Def P w K mg base 7 "points" ["board", "lay"] (iN K)) (D2:Def P w K mg base 5 "turned_board" ["board", "turn"] qF) (D3:Def P w K mg base 5 "lay_of" ["board", "points"] (qQ K)) (D4:Def P w K mg base 1 "turned_point" ["board", "point", "turn"] qE):
  aG P w K mg base aH 8 f fd ["board", "lay", "turn"] (qB K):=by
 refine F.ok qZ (fun vs H Q E h=> ?_) (fun ao A outer s H vs Q E hr h=> ?_)
 ·obtain⟨b,l,t,xs,wd,hg,q,rfl,_⟩:=h
  rfl
 ·obtain⟨b,l,t,xs,wd,hg,x,rfl,la,ht,q⟩:=h
  refine⟨_,Zg (ZF (i:=3) qZ.nd rfl (Or.inl rfl) (Zf D1 hr (Za (pv 0) (Za (pv 1) Zb))))
   (Zg (ZF (i:=4) qZ.nd rfl (Or.inl rfl) (Zf D2 (hr.mono (by decide)) (Za (pv 0) (Za (pv 2) Zb))))
   (Zk (Zu (Zf D3 (hr.mono (by decide)) (Za (pv 4) (Za (ZT ["point", "board", "turn"] 1 [0,2] (Z9 (pv 3)) (fun C s H fp=>pb 0) (fun C s H fp=>ZZ)
    (fun C s H fp D=>ZE rfl (Zf D4 (hr.mono (by decide)) (Za (pv 1) (Za (pv 0) (Za (pv 2) Zb)))))) Zb)))))),?_⟩
  refine Zn (ZD ⟨_,rfl,_,rfl,.ref b,l,xs,wd,hg,rfl,la,fun L H1 ps s1 e1 pr=>Zq ?_⟩)
  dsimp only[List.set]
  have kX:=s1 _ _ ht
  refine Zn (ZD ⟨_,rfl,_,rfl,b,t,wd,hg,x,rfl,la.bd.same s1,kX,fun c H2 s2 FZ=>Zq ?_⟩)
  dsimp only[List.set]
  obtain⟨b',eb,hb⟩:=Zp la.bd.1
  cases eb
  have dM:=s1.trans s2
  have e2:=s2 _ _ e1
  have cD:Paired (fF H2) ps (aE xs):=Paired.bT pr fun v q' hq=>hq.same s2
  have lp:ps.length=(aE xs).length:=Paired.length pr
  have oY:(aE xs).length≤12:=by
   have h1:=sF xs
   have h2:=ZV la.ly
   have h3:=la.bd.2.2.1
   omega
  refine⟨_,rfl,_,rfl,L,rfl,⟨ps,ag.of e2⟩,?_⟩
  refine Z1 (xs:=ps) (fun i zs σ H3=> ∃v0,σ=[v0,some (.ref b),some (.ref t)]∧ae H2 H3∧Paired (fF H3) zs (((aE xs).take i).map (kA wd hg x))) ⟨_,rfl,ae.refl _,.nil⟩ (fun i zs σ H3 _ ⟨_,_,s3,_⟩=>ag.of (s3 _ _ e2)) ?_ ?_
  ·rintro i v zs σ H3 hv ⟨v0,rfl,s3,dc⟩
   obtain⟨y,hy,py⟩:=JA cD hv
   obtain⟨t',rfl,gO⟩:=py.same s3
   have hi:i<ps.length:=(List.getElem?_eq_some_iff.mp hv).1
   have lz:zs.length≤12:=by
    have:=Paired.length dc
    rw[List.length_map,List.length_take]at this
    omega
   refine⟨_,rfl,_,rfl,_,rfl,b,t',t,wd,hg,y,x,rfl,(dM.trans s3) _ _ hb,gO,(s2.trans s3) _ _ kX,fun r H4 s4 e4=> ⟨by rw[sizeLine_eq];omega,_,rfl,s3.trans s4,?_⟩⟩
   rw[List.take_add_one,hy,List.map_append]
   exact Paired.snoc (Paired.bT dc fun v q' hq=>hq.same s4) ⟨r,rfl,e4⟩
  ·rintro zs σ H3 ⟨v0,rfl,s3,dc⟩ p hp
   rw[lp,List.take_length]at dc
   have s4:=Zl (o:=.lst zs) hp
   refine⟨c,p,zs,_,tW wd hg x,tH wd hg x,rfl,FZ.same (s3.trans s4),Zd,Paired.bT dc fun v q' hq=>hq.same s4,Hn (IK la.ly),Ik (zF la.ly _),by rw[List.length_map];exact oY,fun u H5 s5 e5=> ?_⟩
   exact q u H5 (dM.trans (s3.trans (s4.trans s5))) e5
end
section
variable {P:Program}{w:World}{K:PySem.W.Frag}{mg:Str→Option Value}{base:Heap}{cB cL:Addr}
abbrev rJ:Stmt:=top 15
def qJ (K:PySem.W.Frag):Sp:=fun vs H Q _=> ∃x a b,vs=[x,.int a,.int b]∧jn K H x∧bq x a b=true∧Q .ab H
theorem Bl:aV ["number", "least", "most"] ["number", "least", "most"] (aC rJ):=⟨rfl,rfl,rfl,by decide+kernel,rfl,by decide+kernel,by decide+kernel⟩
theorem G4 {f:Addr}{fd:FuncData}(F:aM K "need_whole_within" "need_whole_within" rJ f fd) (D1:Def P w K mg base 2 "is_whole_within" ["thing", "least", "most"] (js K)):aG P w K mg base aH 3 f fd ["number", "least", "most"] (qJ K):=by
 refine F.ok Bl (fun vs H Q E h=> ?_) (fun ao A outer s H vs Q E hr h=> ?_)
 ·obtain⟨x,a,b,rfl,_⟩:=h
  rfl
 ·obtain⟨x,a,b,rfl,t,hw,q⟩:=h
  refine⟨_,Zk (ZR (Z5 (ZX (Zf D1 hr (Za (pv 0) (Za (pv 1) (Za (pv 2) Zb)))))) Zw Zy),?_⟩
  refine⟨x,rfl,_,rfl,_,rfl,x,a,b,rfl,t,_,rfl,?_⟩
  rw[hw]
  exact aw q
end
section
theorem uP {xs:List V}{k:Nat}(h:k≤xs.length):ck xs (some (k:Int)) none=xs.drop k:=by
 unfold ck
 have e1:HT.ax xs.length 0 (some (k:Int))=k:=by rw[HT.l8];omega
 rw[e1,HT.l6,List.take_of_length_le (by rw[List.length_drop];exact Nat.le_refl _)]
theorem Gx {xs:List V}{k:Nat}(h:k≤xs.length):ck xs none (some (k:Int))=xs.take k:=by
 unfold ck
 have e1:HT.ax xs.length xs.length (some (k:Int))=k:=by rw[HT.l8];omega
 rw[e1,HT.l6,List.drop_zero,Nat.sub_zero]
def bo (wd c:Int):Int:=if c<2 then 0 else wd - 1
def bb (hg c:Int):Int:=if c%2=0 then 0 else hg - 1
def eQ (row:Int):V→V
 | .int i=>if i<row then .int i else .int (i - 1)
 |v=>v
def nT (xs:List V) (line:Nat) (row:Int):List V:=(xs.take line++xs.drop (line+1)).map (eQ row)
end
section
variable {P:Program}{w:World}{K:PySem.W.Frag}{mg:Str→Option Value}{base:Heap}{aB aL aN:Addr}
abbrev rM:Stmt:=top 33
def og (K:PySem.W.Frag):Sp:=fun vs H Q _=> ∃(x:V) (l:Addr) (xs:List V) (wd hg c:Int),vs=[x,.ref l,.int c]∧bB K H x l xs wd hg∧0≤c∧c≤3∧∀H',ae H H'→Q .ab H'
theorem Bo:aV ["board", "lay", "corner"] ["board", "lay", "corner"] (aC rM):=⟨rfl,rfl,rfl,by decide+kernel,rfl,by decide+kernel,by decide+kernel⟩
theorem Gf {f:Addr}{fd:FuncData}{tk:Tok}(hL:mg "LAST_CORNER" =some (.int 3 tk)) (F:aM K "need_corner" "need_corner" rM f fd) (D1:Def P w K mg base 6 "need_lay" ["board", "lay"] (iO K)) (D2:Def P w K mg base 3 "need_whole_within" ["number", "least", "most"] (qJ K)):aG P w K mg base aH 7 f fd ["board", "lay", "corner"] (og K):=by
 refine F.ok Bo (fun vs H Q E h=> ?_) (fun ao A outer s H vs Q E hr h=> ?_)
 ·obtain⟨x,l,xs,wd,hg,c,rfl,_⟩:=h
  rfl
 ·obtain⟨x,l,xs,wd,hg,c,rfl,la,c0,c3,q⟩:=h
  refine⟨_,Zg (ZU (Zf D1 hr (Za (pv 0) (Za (pv 1) Zb))))
   (Zk (ZU (Zf D2 (hr.mono (by decide)) (Za (pv 2) (Za Ze (Za (Ja (v:=.int 3) rfl hL ⟨_,rfl⟩) Zb)))))),?_⟩
  refine Zn ⟨_,rfl,_,rfl,x,.ref l,wd,hg,rfl,la.bd,la.pl,by rw[Zt la.at_];exact la.ly,fun H1 s1=> ?_⟩
  dsimp only
  exact⟨_,rfl,.int c,0,3,rfl,⟨_,.int c⟩,WZ c0 c3,q H1 s1⟩
abbrev r6:Stmt:=top 34
def oj (K:PySem.W.Frag):Sp:=fun vs H Q _=> ∃(x:V) (wd hg c:Int),vs=[x,.int c]∧cR H x wd hg∧0≤c∧c≤3∧∀(t:Addr) H',ae H H'→H' t=some (.tup [.int (bo wd c),.int (bb hg c)])→Q (.ref t) H'
theorem oB:aV ["board", "corner", "wide", "high", "found"] ["board", "corner"] (aC r6):=⟨rfl,rfl,rfl,by decide+kernel,rfl,by decide+kernel,by decide+kernel⟩
theorem F8 {f:Addr}{fd:FuncData}(F:aM K "corner_point" "corner_point" r6 f fd):aG P w K mg base aH 1 f fd ["board", "corner"] (oj K):=by
 refine F.ok oB (fun vs H Q E h=> ?_) (fun ao A outer s H vs Q E hr h=> ?_)
 ·obtain⟨x,wd,hg,c,rfl,_⟩:=h
  rfl
 ·obtain⟨x,wd,hg,c,rfl,bd,c0,c3,q⟩:=h
  obtain⟨a,rfl,ha⟩:=Zp bd.1
  refine⟨_,Zg (Yk (pv 0) (ZS rfl (Zm (Zz (i:=2) oB.nd rfl (Or.inl rfl)) (Zm (Zz (i:=3) oB.nd rfl (Or.inl rfl)) ZK))))
   (Zg (ZF (i:=4) oB.nd rfl (Or.inl rfl) (Jn (Za (ZA (Za Ze (Za Ze Zb))) (Za (ZA (Za Ze (Za (Zo ZP (pv 3) Ze) Zb))) (Za (ZA (Za (Zo ZP (pv 2) Ze) (Za Ze Zb))) (Za (ZA (Za (Zo ZP (pv 2) Ze) (Za (Zo ZP (pv 3) Ze) Zb))) Zb))))))
   (Zk (Zu (ZG Z4 (pv 4) (pv 1) (fun _ _=>rfl))))),?_⟩
  refine Zn (ZD ⟨_,rfl,a,_,rfl,af.of ha,rfl,_,_,rfl,_,_,rfl,rfl,?_⟩)
  dsimp only[List.set]
  refine Zn (ZD ⟨(by show 2≤sizeLine;decide),fun t1 h1=> ?_⟩)
  have s1:=Zl (o:=.tup [V.int 0,V.int 0]) h1
  have e1:upd H t1 (.tup [V.int 0,V.int 0]) t1=some (.tup [V.int 0,V.int 0]):=Zd
  generalize upd H t1 (HO.tup [V.int 0,V.int 0])=H1 at s1 e1
  refine⟨_,rfl,_,_,rfl,rfl,(by show 2≤sizeLine;decide),fun t2 h2=> ?_⟩
  have s2:=Zl (o:=.tup [V.int 0,V.int (hg - 1)]) h2
  have e2:upd H1 t2 (.tup [V.int 0,V.int (hg - 1)]) t2=some (.tup [V.int 0,V.int (hg - 1)]):=Zd
  generalize upd H1 t2 (HO.tup [V.int 0,V.int (hg - 1)])=H2 at s2 e2
  refine⟨_,rfl,_,_,rfl,rfl,(by show 2≤sizeLine;decide),fun t3 h3=> ?_⟩
  have s3:=Zl (o:=.tup [V.int (wd - 1),V.int 0]) h3
  have e3:upd H2 t3 (.tup [V.int (wd - 1),V.int 0]) t3=some (.tup [V.int (wd - 1),V.int 0]):=Zd
  generalize upd H2 t3 (HO.tup [V.int (wd - 1),V.int 0])=H3 at s3 e3
  refine⟨_,rfl,_,_,rfl,rfl,_,rfl,_,_,rfl,rfl,(by show 2≤sizeLine;decide),fun t4 h4=> ?_⟩
  have s4:=Zl (o:=.tup [V.int (wd - 1),V.int (hg - 1)]) h4
  have e4:upd H3 t4 (.tup [V.int (wd - 1),V.int (hg - 1)]) t4=some (.tup [V.int (wd - 1),V.int (hg - 1)]):=Zd
  generalize upd H3 t4 (HO.tup [V.int (wd - 1),V.int (hg - 1)])=H4 at s4 e4
  refine⟨(by show 4≤sizeLine;decide),fun L hL=>Zq ?_⟩
  dsimp only[List.set]
  have s5:=Zl (o:=.lst [V.ref t1,V.ref t2,V.ref t3,V.ref t4]) hL
  have e5:upd H4 L (.lst [V.ref t1,V.ref t2,V.ref t3,V.ref t4]) L=some (.lst [V.ref t1,V.ref t2,V.ref t3,V.ref t4]):=Zd
  generalize upd H4 L (HO.lst [V.ref t1,V.ref t2,V.ref t3,V.ref t4])=H5 at s5 e5
  have sA:=s1.trans (s2.trans (s3.trans (s4.trans s5)))
  refine⟨_,rfl,_,rfl,L,[V.ref t1,V.ref t2,V.ref t3,V.ref t4],c,?_⟩
  rcases (by omega:c=0∨c=1∨c=2∨c=3) with rfl |rfl |rfl |rfl
  ·exact⟨V.ref t1,rfl,rfl,ag.of e5,rfl,q _ _ sA ((s2.trans (s3.trans (s4.trans s5))) _ _ e1)⟩
  ·exact⟨V.ref t2,rfl,rfl,ag.of e5,rfl,q _ _ sA ((s3.trans (s4.trans s5)) _ _ e2)⟩
  ·exact⟨V.ref t3,rfl,rfl,ag.of e5,rfl,q _ _ sA ((s4.trans s5) _ _ e3)⟩
  ·exact⟨V.ref t4,rfl,rfl,ag.of e5,rfl,q _ _ sA (s5 _ _ e4)⟩
end
section
theorem Jj {wd c:Int}(h:1≤wd):0≤bo wd c∧bo wd c<wd:=by
 unfold bo
 split<;>omega
theorem Wl {hg c:Int}(h:1≤hg):0≤bb hg c∧bb hg c<hg:=by
 unfold bb
 split<;>omega
theorem Hx {xs:List V}{wd hg k:Int}(h:bw wd hg (some xs)=true) (k0:0≤k) (k1:k<wd):∃v,dQ xs k=some v∧xs[k.toNat]? =some v∧(v=.ab∨∃i:Int,v=.int i∧0≤i∧i<hg):=by
 have hl:=ZV h
 have ak:k.toNat<xs.length:=by omega
 have e:=List.getElem?_eq_getElem ak
 have a:=YS e
 rw[Int.toNat_of_nonneg k0]at a
 exact⟨_,a,e,ZJ h (List.getElem_mem ak)⟩
end
section
variable {P:Program}{w:World}{K:PySem.W.Frag}{mg:Str→Option Value}{base:Heap}{aB aL aN aP aF:Addr}
abbrev rp:Stmt:=top 35
def zU (xs:List V) (wd hg c:Int):Prop:=xs[(bo wd c).toNat]? =some (.int (bb hg c))
def qC (K:PySem.W.Frag):Sp:=fun vs H Q _=> ∃(x:V) (l:Addr) (xs:List V) (wd hg c:Int),vs=[x,.ref l,.int c]∧bB K H x l xs wd hg∧0≤c∧c≤3∧zU xs wd hg c∧2≤wd∧2≤hg∧
 ∀(t:Addr) H',ae H H'→H' t=some (.tup (nT xs (bo wd c).toNat (bb hg c)))→Q (.ref t) H'
theorem oo:aV ["board", "lay", "corner", "line", "row", "rest"] ["board", "lay", "corner"] (aC rp):=⟨rfl,rfl,rfl,by decide+kernel,rfl,by decide+kernel,by decide+kernel⟩
theorem Gj {f:Addr}{fd:FuncData}(F:aM K "taken" "taken" rp f fd) (G:Gs mg) (D1:Def P w K mg base 7 "need_corner" ["board", "lay", "corner"] (og K)) (D2:Def P w K mg base 1 "corner_point" ["board", "corner"] (oj K)):aG P w K mg base aH 8 f fd ["board", "lay", "corner"] (qC K):=by
 refine F.ok oo (fun vs H Q E h=> ?_) (fun ao A outer s H vs Q E hr h=> ?_)
 ·obtain⟨x,l,xs,wd,hg,c,rfl,_⟩:=h
  rfl
 ·obtain⟨x,l,xs,wd,hg,c,rfl,la,c0,c3,hc,w2,g2,q⟩:=h
  refine⟨_,Zg (ZU (Zf D1 hr (Za (pv 0) (Za (pv 1) (Za (pv 2) Zb)))))
   (Zg (Yk (Zf D2 (hr.mono (by decide)) (Za (pv 0) (Za (pv 2) Zb))) (ZS rfl (Zm (Zz (i:=3) oo.nd rfl (Or.inl rfl)) (Zm (Zz (i:=4) oo.nd rfl (Or.inr rfl)) ZK))))
   (Zg (ZR (Zx uZ (ZG ZH (pv 1) (pv 3) (fun _ _=>rfl)) (pv 4) (bM _)) Zw Zy)
   (Zg (ZR (Zx Jq Ze (pv 0) rfl) Zw Zy)
   (Zg (ZF (i:=5) oo.nd rfl (Or.inl rfl) (Zo jB (Yn JI (pv 1) YM (YL (pv 3))) (Yn JI (pv 1) (YL (Zo ZO (pv 3) Ze)) YM)))
   (Zk (Zu (Yc Yl rfl G.tuple boot_tuple (Za (ZT ["at", "row"] 1 [4] (JS (pv 5)) (fun C s H fp=>pb 0) (fun C s H fp=>ZZ)
    (fun C s H fp D=>ZE rfl (YB (PW.pt (Jz (YY (u5 (pv 0))) (YA (Zx UC (pv 0) (pv 1) (bM _))))) (pv 0) (Zo ZP (pv 0) Ze)))) Zb)))))))),?_⟩
  obtain⟨a,rfl,ha⟩:=Zp la.bd.1
  obtain⟨k0,k1⟩:=Jj (wd:=wd) (c:=c) (by omega)
  obtain⟨r0,r1⟩:=Wl (hg:=hg) (c:=c) (by omega)
  refine Zn ⟨_,rfl,_,rfl,_,rfl,.ref a,l,xs,wd,hg,c,rfl,la,c0,c3,fun H1 s1=> ?_⟩
  dsimp only
  have xh:=la.same s1
  refine Zn (ZD ⟨_,rfl,_,rfl,.ref a,wd,hg,c,rfl,xh.bd,c0,c3,fun t H2 s2 e2=> ⟨t,_,rfl,af.of e2,rfl,_,_,rfl,_,_,rfl,rfl,?_⟩⟩)
  dsimp only[List.set]
  have oX:=xh.same s2
  obtain⟨v,eC,at2,_⟩:=Hx oX.ly k0 k1
  rw[hc]at at2
  cases at2
  generalize hk:bo wd c=k at *
  generalize cg:bb hg c=row at *
  refine Zn ⟨_,rfl,_,rfl,l,_,_,_,rfl,rfl,af.of oX.at_,eC,_,rfl,rfl,?_⟩
  have z1:decide (V.int row=V.int row)=true:=decide_eq_true rfl
  rw[z1]
  refine⟨_,rfl,aw (ZM ?_)⟩
  dsimp only
  have gT:H2 a=some (.tup [.int wd,.int hg]):=(s1.trans s2) _ _ ha
  refine Zn ⟨_,rfl,a,_,rfl,.inr (af.of gT),rfl,rfl,_,rfl,?_⟩
  have z2:cH (.int 1) [V.int wd,V.int hg]=false:=by
   unfold cH
   rw[List.any_eq_false]
   intro y hy
   simp only[List.mem_cons,List.not_mem_nil,or_false]at hy
   rcases hy with rfl |rfl
   ·show ¬(wd==1)=true
    rw[beq_iff_eq];omega
   ·show ¬(hg==1)=true
    rw[beq_iff_eq];omega
  refine(show if (if false=true then !cH (.int 1) [V.int wd,V.int hg] else cH (.int 1) [V.int wd,V.int hg])=true then _ else _ from ?_)
  rw[if_neg Bool.false_ne_true,z2]
  refine aw (ZM ?_)
  dsimp only
  have ll:=ZV la.ly
  have qr:=la.bd.2.2.1
  have ek:k=(k.toNat:Int):=by omega
  refine Zn (ZD ⟨_,rfl,_,rfl,_,rfl,l,_,rfl,oX.at_,fun c1 H3 s3 e3=> ⟨_,rfl,_,rfl,_,_,rfl,rfl,_,rfl,l,_,rfl,s3 _ _ oX.at_,fun c2 H4 s4 e4=> ?_⟩⟩)
  have q1:=Yi xs none (some k)
  have q2:=Yi xs (some (k+1)) none
  refine pX (s4 _ _ e3) e4 (by rw[sizeLine_eq];omega) fun FW H5 s5 e5=>Zq ?_
  dsimp only[List.set]
  rw[ek,Gx (by omega),show((k.toNat:Int)+1)=((k.toNat+1:Nat):Int) by omega,uP (by omega)]at e5
  have hlen:(xs.take k.toNat++xs.drop (k.toNat+1)).length≤12:=by
   rw[List.length_append,List.length_take,List.length_drop];omega
  have items:∀v∈xs.take k.toNat++xs.drop (k.toNat+1),v=.ab∨∃i:Int,v=.int i∧0≤i∧i<hg:=fun v hv=>by
   rcases List.mem_append.mp hv with h |h
   ·exact ZJ la.ly (List.mem_of_mem_take h)
   ·exact ZJ la.ly (List.mem_of_mem_drop h)
  unfold nT at q
  generalize xs.take k.toNat++xs.drop (k.toNat+1)=zs at e5 hlen items q
  refine⟨_,rfl,FW,rfl,⟨zs,af.of e5⟩,?_⟩
  refine YC (xs:=zs) (fun j ys σ H6=>ys=(zs.take j).map (eQ row)∧H6=H5∧∃v,σ=[v,some (.int row)]) ⟨rfl,rfl,none,rfl⟩ (fun j ys σ H6 _ ⟨_,e,_⟩=>by rw[e];exact af.of e5) ?_ ?_
  ·rintro j y ys σ H6 hy ⟨rfl,rfl,v,rfl⟩
   have hj:=(List.getElem?_eq_some_iff.mp hy).1
   have eu:(zs.take (j+1)).map (eQ row)=(zs.take j).map (eQ row)++[eQ row y]:=by
    rw[List.take_add_one,hy,List.map_append]
    rfl
   have fin:∀u,eQ row y=u→((zs.take j).map (eQ row)).length<sizeLine∧((zs.take j).map (eQ row)++[u]=(zs.take (j+1)).map (eQ row)∧H6=H6∧∃v,[some y,some (V.int row)]=[v,some (.int row)]):=fun u e=>by
    refine⟨?_,?_,rfl,_,rfl⟩
    ·rw[List.length_map,List.length_take,sizeLine_eq];omega
    ·rw[eu,e]
   rcases items y (List.mem_of_getElem? hy) with rfl |⟨i,rfl,i0,i1⟩
   ·exact⟨_,rfl,_,rfl,bf (bf ⟨_,rfl,fin _ rfl⟩)⟩
   ·refine⟨_,rfl,_,rfl,aw ⟨_,rfl,_,rfl,_,_,rfl,rfl,_,rfl,?_⟩⟩
    by_cases ak:i<row
    ·rw[decide_eq_true ak]
     exact bf ⟨_,rfl,fin _ (by show(if i<row then _ else _)=_;rw[if_pos ak])⟩
    ·rw[decide_eq_false ak]
     exact aw ⟨_,rfl,_,_,rfl,rfl,fin _ (by show(if i<row then _ else _)=_;rw[if_neg ak])⟩
  ·rintro ys σ H6 ⟨rfl,rfl,v,rfl⟩ L hL
   rw[List.take_length]
   have s7:=Zl (o:=.lst (zs.map (eQ row))) hL
   refine⟨L,_,rfl,.inl ⟨ag.of Zd,fun t' gO=> ?_⟩⟩
   have s8:=Zl (o:=.tup (zs.map (eQ row))) gO
   exact q t' _ (s1.trans (s2.trans (s3.trans (s4.trans (s5.trans (s7.trans s8)))))) Zd
end
end U
namespace U.S
open PySem L2 PyProof.Rows
section
variable {P:Program}{w:World}{K:PySem.W.Frag}{mg:Str→Option Value}{base:Heap}
structure hV (wd hg:Int) (xs:List V):Prop where
 len:(xs.length:Int)=wd
 row:∀r∈rowsOf xs,bq r 0 (hg - 1)=true
 nd:(rowsOf xs).Nodup
theorem hV.is {wd hg:Int}{xs:List V}(h:hV wd hg xs):bw wd hg (some xs)=true:=by
 show(decide ((xs.length:Int)=wd)&&((rowsOf xs).all fun r=>bq r 0 (hg - 1))&&decide (rowsOf xs).Nodup)=true
 rw[decide_eq_true h.len,decide_eq_true h.nd,List.all_eq_true.mpr h.row]
 rfl
end
section
def rowAt (xs:List V) (i:Nat):Option Int:=xs[i]?.bind dr
abbrev az:=Int×Int×Int×Int
def n9 (xs:List V) (o l:Nat):Option az:=(rowAt xs l).bind fun a=> (rowAt xs o).map fun b=> ((o:Int) - l,b - a,(l:Int),(o:Int))
def n8 (xs:List V) (o j:Nat):List az:=(List.range j).filterMap (n9 xs o)
def fq (xs:List V) (n:Nat):List az:=(List.range n).flatMap fun o=>n8 xs o o
def lD (H:Hp) (v:V) (q:az):Prop:=∃t t':Addr,v=.ref t∧H t=some (.tup [.ref t',.int q.2.2.1,.int q.2.2.2])∧H t'=some (.tup [.int q.1,.int q.2.1])
def qe (xs:List V):Prop:=∀x∈xs,x=.ab∨∃i,x=.int i
theorem hV.ok {wd hg:Int}{xs:List V}(h:hV wd hg xs):qe xs:=fun x hx=>by
 by_cases e:x=.ab
 ·exact .inl e
 ·have m:x∈rowsOf xs:=List.mem_filter.mpr ⟨hx,by simp[e]⟩
  have q:=h.row x m
  cases x with
  |int i=>exact .inr ⟨i,rfl⟩
  |_=>cases q
end
section
variable {P:Program}{w:World}{K:PySem.W.Frag}{mg:Str→Option Value}{base:Heap}
theorem Paired.at {α β:Type}{F:α→β→Prop} :∀{iX:List α}{iW:List β}{i:Nat}{a:α},Paired F iX iW→iX[i]? =some a→∃b,iW[i]? =some b∧F a b
 |_,_,_,_,.nil,e=>by simp at e
 |_,_,0,_,.cons r _,e=>by simp at e;subst e;exact⟨_,rfl,r⟩
 |_,_,i+1,a,.cons _ t,e=>by
  obtain⟨u,h1,h2⟩:=Paired.at (i:=i) (a:=a) t (by simpa using e)
  exact⟨u,by simpa using h1,h2⟩
end
section
def B5 (K:PySem.W.Frag):R2:=fun x y H Q=> ∃a b ys,x=.ref a∧y=.ref b∧af K H a []∧af K H b ys∧Q (.ref b) H
def jy (K:PySem.W.Frag):R2:=fun x y H Q=>B5 K x y H Q∨sD K x y H Q
theorem jB {X:Cx} :aY X (binaryOp .Add) (jy X.K):=UD.or zB
def aE (xs:List V):List (Int×Int):=(List.range xs.length).filterMap fun l=> (rowAt xs l).map fun r=> ((l:Int),r)
def gA (H:Hp) (v:V) (q:az):Prop:=∃t:Addr,v=.ref t∧H t=some (.tup [.int q.1,.int q.2.1,.int q.2.2.1,.int q.2.2.2])
theorem gA.same {H H':Hp}{v:V}{q:az}(h:gA H v q) (s:ae H H'):gA H' v q:=by
 obtain⟨t,e,h1⟩:=h
 exact⟨t,e,s _ _ h1⟩
def pairsOf (ps:List (Int×Int)) (a:Int×Int) (j:Nat):List az:=((ps.take j).filter fun b=>decide (a.1<b.1)).map fun b=> (a.1,a.2,b.1,b.2)
def gM (ps:List (Int×Int)) (i:Nat):List az:=(ps.take i).flatMap fun a=>pairsOf ps a ps.length
def df (ps:List (Int×Int)):List az:=gM ps ps.length
theorem W8 {ps:List (Int×Int)}{a b:Int×Int}{j:Nat}(h:ps[j]? =some b):pairsOf ps a (j+1)=pairsOf ps a j++(if decide (a.1<b.1)=true then [(a.1,a.2,b.1,b.2)] else []):=by
 unfold pairsOf
 rw[List.take_add_one,h,List.filter_append,List.map_append]
 cases hh:decide (a.1<b.1)<;>simp_all
theorem W7 {ps:List (Int×Int)}{a:Int×Int}{i:Nat}(h:ps[i]? =some a):gM ps (i+1)=gM ps i++pairsOf ps a ps.length:=by
 unfold gM
 rw[List.take_add_one,h,List.flatMap_append]
 simp
end
section
variable {P:Program}{w:World}{K:PySem.W.Frag}{mg:Str→Option Value}{base:Heap}
abbrev kK:Stmt:=top 21
def bB (H:Hp) (x y:V) (wd hg:Int) (xs:List V):Prop:=cR H x wd hg∧bS H y=some xs∧hV wd hg xs
theorem bB.same {H H':Hp}{x y:V}{wd hg:Int}{xs:List V}(h:bB H x y wd hg xs) (s:ae H H'):bB H' x y wd hg xs:=⟨h.1.same s,s.bS h.2.1,h.2.2⟩
theorem bB.pl {H:Hp}{x y:V}{wd hg:Int}{xs:List V}(h:bB H x y wd hg xs):iK K H y:=by
 obtain⟨a,rfl,ha⟩:=Zp h.2.1
 refine⟨⟨_,.tup ha⟩,fun zs e z hz=> ?_⟩
 rw[h.2.1]at e
 cases e
 rcases h.2.2.ok z hz with rfl |⟨i,rfl⟩
 ·exact⟨_,.ab⟩
 ·exact⟨_,.int i⟩
def iO:Sp:=fun vs H Q _=> ∃x y wd hg xs,vs=[x,y]∧bB H x y wd hg xs∧∀H',ae H H'→Q .ab H'
theorem q5:aV ["board", "lay"] ["board", "lay"] (aC kK):=⟨rfl,rfl,rfl,by decide+kernel,rfl,by decide+kernel,by decide+kernel⟩
theorem sN {f:Addr}{fd:FuncData}(F:aM K "need_lay" "need_lay" kK f fd) (D1:Def P w K mg base 5 "is_lay" ["board", "thing"] (lZ K)):aG P w K mg base aH 6 f fd ["board", "lay"] iO:=by
 refine F.ok q5 (fun vs H Q E h=> ?_) (fun ao A outer s H vs Q E hr h=> ?_)
 ·obtain⟨x,y,wd,hg,xs,rfl,_⟩:=h
  rfl
 ·obtain⟨x,y,wd,hg,xs,rfl,l,q⟩:=h
  refine⟨_,Zk (ZR (Z5 (ZX (Zf D1 hr (Za (pv 0) (Za (pv 1) Zb))))) Zw Zy),?_⟩
  refine⟨x,rfl,y,rfl,x,y,wd,hg,rfl,l.1,l.pl,fun H' sm=> ⟨_,rfl,?_⟩⟩
  rw[l.2.1,l.2.2.is]
  exact aw (q H' sm)
def iN:Sp:=fun vs H Q _=> ∃x y wd hg xs,vs=[x,y]∧bB H x y wd hg xs∧∀(l:Addr) (H':Hp) (ps:List V),ae H H'→H l=none→H' l=some (.lst ps)→Paired (fF H') ps (aE xs)→Q (.ref l) H'
abbrev rG:Stmt:=top 26
def qI:Sp:=fun vs H Q _=> ∃x y wd hg xs,vs=[x,y]∧bB H x y wd hg xs∧∀(l:Addr) (H':Hp) (ps:List V),ae H H'→H l=none→H' l=some (.lst ps)→Paired (gA H') ps (df (aE xs))→Q (.ref l) H'
theorem vX:aV ["board", "lay", "found"] ["board", "lay"] (aC rG):=⟨rfl,rfl,rfl,by decide+kernel,rfl,by decide+kernel,by decide+kernel⟩
theorem Cg {f:Addr}{fd:FuncData}(F:aM K "point_pairs" "point_pairs" rG f fd) (D1:Def P w K mg base 7 "points" ["board", "lay"] iN):aG P w K mg base aH 8 f fd ["board", "lay"] qI:=by
 refine F.ok vX (fun vs H Q E h=> ?_) (fun ao A outer s H vs Q E hr h=> ?_)
 ·obtain⟨x,y,wd,hg,xs,rfl,_⟩:=h
  rfl
 ·obtain⟨x,y,wd,hg,xs,rfl,l,q⟩:=h
  refine⟨_,Zg (ZF (i:=2) vX.nd rfl (Or.inr rfl) (Zf D1 hr (Za (pv 0) (Za (pv 1) Zb))))
   (Zk (Zu (ZT ["line", "row", "other", "there", "found"] 4 [2] (Z9 (pv 2))
    (fun C s H fp=>show PG (bj _ _ _ C s H fp) _ (gW K 2 (cj (bR 0) (cj (bR 1) gX))) from ZS rfl (Zm (pb 0) (Zm (pb 1) ZK))) (fun C s H fp=>ZZ)
    (fun C s H fp D=>KU rfl rfl rfl (show PI (bj _ _ _ C s H fp) _ _ (xp K (qv 4)) from Z9 (pv 4))
     (show PG (bj _ _ _ C s H fp) _ (gW K 2 (cj (bR 2) (cj (bR 3) gX))) from ZS rfl (Zm (pb 2) (Zm (pb 3) ZK)))
     (Yg (Zx UC (pv 0) (pv 2) (bM _))) (ZE rfl (ZA (Za (pv 0) (Za (pv 1) (Za (pv 2) (Za (pv 3) Zb)))))) (by intro _;rfl) (by intro g' h;cases h))))),?_⟩
  refine⟨x,rfl,y,rfl,x,y,wd,hg,xs,rfl,l,fun fa H1 ps s1 gk hf pr=> ?_⟩
  generalize xE:aE xs=qs at pr q
  have pG:ps.length=qs.length:=Paired.length pr
  have Mw:qs.length≤12:=by
   rw[←xE]
   unfold aE
   have:=List.length_filterMap_le (fun l:Nat=> (rowAt xs l).map fun r=> ((l:Int),r)) (List.range xs.length)
   rw[List.length_range]at this
   have h1:=l.2.2.len
   have h2:=l.1.2.2.1
   omega
  refine⟨_,rfl,fa,rfl,⟨ps,ag.of hf⟩,?_⟩
  refine Z1 (xs:=ps) (fun i ys σ H2=> ∃v0 v1 v2 v3,σ=[v0,v1,v2,v3,some (.ref fa)]∧ae H1 H2∧Paired (gA H2) ys (gM qs i)∧ys.length≤i*12) ⟨_,_,_,_,rfl,ae.refl _,.nil,Nat.zero_le _⟩ (fun i ys σ H2 _ ⟨_,_,_,_,_,s2,_⟩=>ag.of (s2 _ _ hf)) ?_ ?_
  ·rintro i v ys σ H2 hv ⟨v0,v1,v2,v3,rfl,s2,cD,iA⟩
   obtain⟨a,DO,t,rfl,ht⟩:=Paired.at pr hv
   have hi:i<ps.length:=(List.getElem?_eq_some_iff.mp hv).1
   refine⟨t,_,rfl,af.of (s2 _ _ ht),rfl,_,_,rfl,_,_,rfl,rfl,?_⟩
   refine⟨_,rfl,fa,rfl,⟨ps,ag.of (s2 _ _ hf)⟩,?_⟩
   refine Z1 (xs:=ps) (fun j ys σ H3=> ∃v2 v3,σ=[some (.int a.1),some (.int a.2),v2,v3,some (.ref fa)]∧ae H1 H3∧Paired (gA H3) ys (gM qs i++pairsOf qs a j)∧ys.length≤i*12+j) ⟨_,_,rfl,s2,by simpa[pairsOf] using cD,iA⟩ (fun i ys σ H2 _ ⟨_,_,_,s2,_⟩=>ag.of (s2 _ _ hf)) ?_ ?_
   ·rintro j v ys σ H3 mF ⟨v2,v3,rfl,s3,dc,k8⟩
    obtain⟨b,DN,t',rfl,gO⟩:=Paired.at pr mF
    have hj:j<ps.length:=(List.getElem?_eq_some_iff.mp mF).1
    have es:=W8 (a:=a) DN
    refine⟨t',_,rfl,af.of (s3 _ _ gO),rfl,_,_,rfl,_,_,rfl,rfl,?_⟩
    refine⟨_,rfl,_,rfl,_,_,rfl,rfl,_,rfl,?_⟩
    cases hh:decide (a.1<b.1) with
    |true=>
     rw[hh]at es
     refine bf ?_
     refine⟨_,rfl,_,rfl,_,rfl,_,rfl,(by show 4≤sizeLine;decide),fun t4 jK=> ⟨by rw[sizeLine_eq];omega,?_⟩⟩
     have s4:ae H3 (upd H3 t4 (.tup [.int a.1,.int a.2,.int b.1,.int b.2])):=fun c o hc=>by rw[Zh (Zi hc jK)];exact hc
     refine⟨_,_,rfl,s3.trans s4,?_,by rw[List.length_append];simp;omega⟩
     rw[es,if_pos rfl,←List.append_assoc]
     exact Paired.snoc (Paired.bT dc fun v q' hq=>hq.same s4) ⟨t4,rfl,Zd⟩
    |false=>
     rw[hh]at es
     refine aw ⟨_,_,rfl,s3,?_,by omega⟩
     rw[es,if_neg Bool.false_ne_true,List.append_nil]
     exact dc
   ·rintro ys σ H3 ⟨v2,v3,rfl,s3,dc,k8⟩
    refine⟨_,_,_,_,rfl,s3,?_,by omega⟩
    rw[W7 DO,←pG]
    exact dc
  ·rintro ys σ H2 ⟨v0,v1,v2,v3,rfl,s2,cD,iA⟩ p hp
   have s4:ae H2 (upd H2 p (.lst ys)):=fun c o hc=>by rw[Zh (Zi hc hp)];exact hc
   refine q p _ ys (s1.trans (s2.trans s4)) ((s1.trans s2).free hp) Zd ?_
   rw[pG]at cD
   exact Paired.bT cD fun v q' hq=>hq.same s4
end
section
def cC (xs:List V) (n:Nat):List (Int×Int):=(List.range n).filterMap fun l=> (rowAt xs l).map fun r=> ((l:Int),r)
theorem ij (xs:List V) (n:Nat):cC xs (n+1)=cC xs n++((rowAt xs n).map fun r=> ((n:Int),r)).toList:=by
 unfold cC
 rw[List.range_succ,List.filterMap_append]
 cases h:rowAt xs n<;>simp[h]
end
section
variable {P:Program}{w:World}{K:PySem.W.Frag}{mg:Str→Option Value}{base:Heap}
abbrev kJ:Stmt:=top 22
theorem q0:aV ["board", "lay"] ["board", "lay"] (aC kJ):=⟨rfl,rfl,rfl,by decide+kernel,rfl,by decide+kernel,by decide+kernel⟩
theorem sJ {f:Addr}{fd:FuncData}(F:aM K "points" "points" kJ f fd) (G:Gs mg) (D1:Def P w K mg base 6 "need_lay" ["board", "lay"] iO):aG P w K mg base aH 7 f fd ["board", "lay"] iN:=by
 refine F.ok q0 (fun vs H Q E h=> ?_) (fun ao A outer s H vs Q E hr h=> ?_)
 ·obtain⟨x,y,wd,hg,xs,rfl,_⟩:=h
  rfl
 ·obtain⟨x,y,wd,hg,xs,rfl,l,q⟩:=h
  refine⟨_,Zg (ZU (Zf D1 hr (Za (pv 0) (Za (pv 1) Zb))))
   (Zk (Zu (ZT ["line", "row"] 2 [] (zD rfl G.enumerate (Za (pv 1) Zb))
    (fun C s H fp=>show PG (bj _ _ _ C s H fp) _ (gW K 2 (cj (bR 0) (cj (bR 1) gX))) from ZS rfl (Zm (pb 0) (Zm (pb 1) ZK)))
    (fun C s H fp=>Yg (YY (Jc (pv 1)))) (fun C s H fp D=>ZE rfl (ZA (Za (pv 0) (Za (pv 1) Zb))))))),?_⟩
  refine⟨x,rfl,y,rfl,x,y,wd,hg,xs,rfl,l,fun H1 s1=> ?_⟩
  obtain⟨a,rfl,ha⟩:=Zp (l.same s1).2.1
  have hlen:xs.length≤12:=by
   have h1:=l.2.2.len
   have h2:=l.1.2.2.1
   omega
  refine⟨_,rfl,a,rfl,⟨xs,af.of ha⟩,?_⟩
  refine WI (xs:=xs) (fun i ys σ H2=> ∃v0 v1,σ=[v0,v1]∧ae H1 H2∧Paired (fF H2) ys (cC xs i)∧ys.length≤i) ⟨_,_,rfl,ae.refl _,.nil,Nat.zero_le _⟩ (fun i ys σ H2 _ ⟨_,_,_,s2,_⟩=>af.of (s2 _ _ ha)) ?_ ?_
  ·rintro i v T ys σ H2 hv hT ⟨v0,v1,rfl,s2,cD,iA⟩
   have hi:i<xs.length:=(List.getElem?_eq_some_iff.mp hv).1
   have sT:ae H2 (upd H2 T (.par [.int (i:Int),v])):=fun c o hc=>by rw[Zh (Zi hc hT)];exact hc
   have er:rowAt xs i=dr v:=by unfold rowAt;rw[hv];rfl
   refine⟨T,_,rfl,af.me Zd,rfl,_,_,rfl,_,_,rfl,rfl,?_⟩
   refine⟨_,rfl,_,rfl,?_⟩
   generalize uA:upd H2 T (HO.par [V.int (i:Int),v])=H3 at sT
   rcases l.2.2.ok v (List.mem_of_getElem? hv) with rfl |⟨r,rfl⟩
   ·refine aw ⟨_,_,rfl,s2.trans sT,?_,by omega⟩
    rw[ij,er]
    exact(by simpa[dr] using Paired.bT cD fun v q' hq=>hq.same sT)
   ·refine bf ?_
    refine⟨_,rfl,_,rfl,(by show 2≤sizeLine;decide),fun t ht=> ⟨by rw[sizeLine_eq];omega,?_⟩⟩
    have s4:ae H3 (upd H3 t (.tup [.int (i:Int),.int r])):=fun c o hc=>by rw[Zh (Zi hc ht)];exact hc
    refine⟨_,_,rfl,s2.trans (sT.trans s4),?_,by rw[List.length_append];simp;omega⟩
    rw[ij,er]
    exact Paired.snoc (Paired.bT cD fun v q' hq=>hq.same (sT.trans s4)) ⟨t,rfl,Zd⟩
  ·rintro ys σ H2 ⟨v0,v1,rfl,s2,cD,iA⟩ p hp
   have s4:ae H2 (upd H2 p (.lst ys)):=fun c o hc=>by rw[Zh (Zi hc hp)];exact hc
   exact q p _ ys (s1.trans (s2.trans s4)) ((s1.trans s2).free hp) Zd (Paired.bT cD fun v q' hq=>hq.same s4)
end
end U.S
namespace U.S
open PySem L2 PyProof.Rows PyProof.Rows.fb
section
def dn (p:az):az:=(p.2.2.1 - p.1,p.2.2.2 - p.2.1,p.1,p.2.2.1)
def kg (ks:List az):Prop:=(ks.map ba).Pairwise fun a b=>ay b a=false
theorem lD.same {H H':Hp}{v:V}{q:az}(h:lD H v q) (s:ae H H'):lD H' v q:=by
 obtain⟨t,t',e,h1,h2⟩:=h
 exact⟨t,t',e,s _ _ h1,s _ _ h2⟩
theorem sF (xs:List V):(aE xs).length≤xs.length:=by
 unfold aE
 have:=List.length_filterMap_le (fun l:Nat=> (rowAt xs l).map fun r=> ((l:Int),r)) (List.range xs.length)
 rw[List.length_range]at this
 exact this
theorem UR {α β:Type}(f:α→List β) (n:Nat):∀l:List α,(∀a∈l,(f a).length≤n)→(l.flatMap f).length≤l.length*n
 | [],_=>by simp
 |a::l,h=>by
  have h1:=h a List.mem_cons_self
  have h2:=UR f n l fun b hb=>h b (List.mem_cons_of_mem _ hb)
  rw[List.flatMap_cons,List.length_append,List.length_cons,Nat.succ_mul]
  omega
theorem Ke (ps:List (Int×Int)):(df ps).length≤ps.length*ps.length:=by
 unfold df gM
 rw[List.take_length]
 refine UR _ _ _ fun a _=> ?_
 unfold pairsOf
 rw[List.length_map]
 refine Nat.le_trans (List.length_filter_le ..) ?_
 rw[List.length_take]
 exact Nat.min_le_right ..
theorem C3 {H:Hp}{x y:V}{wd hg:Int}{xs:List V}(l:bB H x y wd hg xs):xs.length≤12:=by
 have h1:=l.2.2.len
 have h2:=l.1.2.2.1
 omega
theorem wH {H:Hp}{x y:V}{wd hg:Int}{xs:List V}(l:bB H x y wd hg xs):(df (aE xs)).length≤144:=by
 have h1:=Ke (aE xs)
 have h2:=sF xs
 have h3:=C3 l
 have h4:(aE xs).length≤12:=by omega
 have h5:=Nat.mul_le_mul h4 h4
 omega
end
section
variable {P:Program}{w:World}{K:PySem.W.Frag}{mg:Str→Option Value}{base:Heap}
abbrev rD:Stmt:=top 27
def qG:Sp:=fun vs H Q _=> ∃x y wd hg xs,vs=[x,y]∧bB H x y wd hg xs∧∀(l:Addr) (H':Hp) (rs:List V) (ks:List az),ae H H'→H l=none→H' l=some (.lst rs)→Paired (lD H') rs ks→ks.Perm ((df (aE xs)).map dn)→kg ks→Q (.ref l) H'
theorem Bj:aV ["board", "lay"] ["board", "lay"] (aC rD):=⟨rfl,rfl,rfl,by decide+kernel,rfl,by decide+kernel,by decide+kernel⟩
theorem Cf {f:Addr}{fd:FuncData}(F:aM K "steps" "steps" rD f fd) (G:Gs mg) (D1:Def P w K mg base 8 "point_pairs" ["board", "lay"] qI):aG P w K mg base aH 9 f fd ["board", "lay"] qG:=by
 refine F.ok Bj (fun vs H Q E h=> ?_) (fun ao A outer s H vs Q E hr h=> ?_)
 ·obtain⟨x,y,wd,hg,xs,rfl,_⟩:=h
  rfl
 ·obtain⟨x,y,wd,hg,xs,rfl,l,q⟩:=h
  have hu:=hr.units
  refine⟨_,Zk (Zu (Zv (Uk (Nat.lt_of_le_of_lt (Nat.add_le_add_left (by decide:2≤64) _) hu)) rfl G.sorted PyProof.Rows.Boot.«sorted» (Za (ZT ["line", "row", "other", "there"] 4 [] (Z9 (Zf D1 hr (Za (pv 0) (Za (pv 1) Zb))))
    (fun C s H fp=>show PG (bj _ _ _ C s H fp) _ (gW K 4 (cj (bR 0) (cj (bR 1) (cj (bR 2) (cj (bR 3) gX))))) from ZS rfl (Zm (pb 0) (Zm (pb 1) (Zm (pb 2) (Zm (pb 3) ZK))))) (fun C s H fp=>ZZ)
    (fun C s H fp D=>ZE rfl (ZA (Za (ZA (Za (Zo ZP (pv 2) (pv 0)) (Za (Zo ZP (pv 3) (pv 1)) Zb))) (Za (pv 0) (Za (pv 2) Zb)))))) Zb))),?_⟩
  refine⟨x,rfl,y,rfl,x,y,wd,hg,xs,rfl,l,fun fa H1 ps s1 gk hf pr=> ?_⟩
  have hlen:=wH l
  generalize xE:df (aE xs)=qs at pr q hlen
  have pG:ps.length=qs.length:=Paired.length pr
  refine⟨fa,rfl,⟨ps,ag.of hf⟩,?_⟩
  refine Z1 (xs:=ps) (fun i ys σ H2=> ∃v0 v1 v2 v3,σ=[v0,v1,v2,v3]∧ae H1 H2∧Paired (lD H2) ys ((qs.take i).map dn)∧ys.length≤i) ⟨_,_,_,_,rfl,ae.refl _,.nil,Nat.zero_le _⟩ (fun i ys σ H2 _ ⟨_,_,_,_,_,s2,_⟩=>ag.of (s2 _ _ hf)) ?_ ?_
  ·rintro i v ys σ H2 hv ⟨v0,v1,v2,v3,rfl,s2,cD,iA⟩
   obtain⟨⟨a,b,c,d⟩,hq,tt,rfl,DF⟩:=JA pr hv
   have hi:i<ps.length:=(List.getElem?_eq_some_iff.mp hv).1
   refine⟨tt,_,rfl,af.of (s2 _ _ DF),rfl,_,_,rfl,_,_,rfl,_,_,rfl,_,_,rfl,rfl,?_⟩
   refine⟨_,rfl,_,rfl,c,a,rfl,rfl,_,rfl,_,rfl,d,b,rfl,rfl,(by show 2≤sizeLine;decide),fun t' gO=> ?_⟩
   refine⟨_,rfl,_,rfl,(by show 3≤sizeLine;decide),fun t ht=> ⟨by rw[sizeLine_eq];omega,?_⟩⟩
   generalize uy:upd H2 t' (HO.tup [V.int (c - a),V.int (d - b)])=H4 at ht
   have s4:ae H2 H4:=fun e o hc=>by rw[←uy,Zh (Zi hc gO)];exact hc
   have jK:H4 t'=some (.tup [V.int (c - a),V.int (d - b)]):=by rw[←uy];exact Zd
   generalize nh:upd H4 t (HO.tup [V.ref t',V.int a,V.int c])=H5
   have s5:ae H4 H5:=fun e o hc=>by rw[←nh,Zh (Zi hc ht)];exact hc
   have DA:H5 t=some (.tup [V.ref t',V.int a,V.int c]):=by rw[←nh];exact Zd
   refine⟨_,_,_,_,rfl,s2.trans (s4.trans s5),?_,by rw[List.length_append];simp;omega⟩
   rw[List.take_add_one,hq,List.map_append]
   exact Paired.snoc (Paired.bT cD fun v q' hq=>hq.same (s4.trans s5)) ⟨t,t',rfl,DA,s5 _ _ jK⟩
  ·rintro ys σ H2 ⟨v0,v1,v2,v3,rfl,s2,cD,iA⟩ p hp
   have s4:ae H2 (upd H2 p (.lst ys)):=fun c o hc=>by rw[Zh (Zi hc hp)];exact hc
   rw[pG,List.take_length]at cD
   refine⟨p,ys,qs.map dn,rfl,ag.of Zd,Paired.bT cD fun v q' hq=>hq.same s4,by omega,fun r lP mq xC kY DP dc=> ?_⟩
   have s5:ae (upd H2 p (.lst ys)) (upd (upd H2 p (.lst ys)) r (.lst lP)):=fun c o hc=>by rw[Zh (Zi hc xC)];exact hc
   exact q r _ lP mq (s1.trans (s2.trans (s4.trans s5))) ((s1.trans (s2.trans s4)).free xC) Zd (Paired.bT dc fun v q' hq=>lD.same hq s5) kY DP
end
section
theorem YO (a b:Int) (l m:List Int):ay (a::l) (b::m)=true↔a<b∨(a=b∧ay l m=true):=by
 have z:ay (a::l) (b::m)=if a=b then ay l m else decide (a<b):=rfl
 rw[z]
 by_cases e:a=b
 ·rw[if_pos e]
  constructor
  ·exact fun h=> .inr ⟨e,h⟩
  ·rintro(h |h)
   ·omega
   ·exact h.2
 ·rw[if_neg e,decide_eq_true_eq]
  constructor
  ·exact fun h=> .inl h
  ·rintro(h |h)
   ·exact h
   ·exact absurd h.1 e
theorem Jf:ay [] []=true↔False:=by simp[ay]
def cJ (a b:az):Prop:=a.1=b.1∧a.2.1=b.2.1
instance (a b:az):Decidable (cJ a b):=inferInstanceAs (Decidable (_∧_))
def four (a b:az):az:=(a.2.2.1,a.2.2.2,b.2.2.1,b.2.2.2)
def fm (a b:az):Bool:=ay [a.2.2.1,a.2.2.2] [b.2.2.1,b.2.2.2]
def jo (S:List az):Option az→Prop
 |none=> ∀a∈S,∀b∈S,cJ a b→fm a b=false
 |some k=> (∃a∈S,∃b∈S,cJ a b∧fm a b=true∧k=four a b)∧∀a∈S,∀b∈S,cJ a b→fm a b=true→ay (ba (four a b)) (ba k)=false
def jm (ks:List az):List (az×az):=ks.zip (ks.drop 1)
def fQ (ks:List az):List az:=((jm ks).filter fun p=>decide (cJ p.1 p.2)).map fun p=>four p.1 p.2
theorem nf {b:Bool} :b=false↔¬b=true:=by cases b<;>simp
theorem mid {h d b:az}(h1:ay (ba d) (ba h)=false) (h2:ay (ba b) (ba d)=false) (s:cJ h b):cJ h d∧ay (ba (four h b)) (ba (four h d))=false:=by
 unfold ba at *
 unfold cJ at *
 unfold four
 rw[nf]at *
 simp only[YO,Jf,and_false,or_false,false_or]at *
 omega
theorem yZ {a b:az}(s:cJ a b):ay (ba a) (ba b)=true↔fm a b=true:=by
 unfold ba fm cJ at *
 simp only[YO,Jf,and_false,or_false]at *
 omega
theorem y8 {ks:List az}(hr:kg ks):∀a∈ks,∀b∈ks,cJ a b→fm a b=true→∃p∈jm ks,cJ p.1 p.2∧ay (ba (four a b)) (ba (four p.1 p.2))=false:=by
 induction ks with
 |nil=>intro a ha;cases ha
 |cons h r ih=>
  have cg:kg r:=(List.pairwise_cons.mp hr).2
  have hh:∀d∈r,ay (ba d) (ba h)=false:=fun d hd=> (List.pairwise_cons.mp hr).1 _ (List.mem_map_of_mem hd)
  intro a ha b hb s l
  have kl:=(yZ s).mpr l
  rcases List.mem_cons.mp ha with rfl |uk
  ·have dY:b∈r:=by
    rcases List.mem_cons.mp hb with rfl |hb
    ·have:=Yo _ _ kl
     rw[kl]at this;cases this
    ·exact hb
   cases r with
   |nil=>cases dY
   |cons d r'=>
    have iC:ay (ba b) (ba d)=false:=by
     rcases List.mem_cons.mp dY with rfl |gT
     ·cases hx:ay (ba b) (ba b) with
      |false=>rfl
      |true=>
       have:=Yo _ _ hx
       rw[hx]at this;cases this
     ·exact(List.pairwise_cons.mp cg).1 _ (List.mem_map_of_mem gT)
    obtain⟨m1,m2⟩:=mid (hh d List.mem_cons_self) iC s
    exact⟨(a,d),List.mem_cons_self,m1,m2⟩
  ·have dY:b∈r:=by
    rcases List.mem_cons.mp hb with rfl |hb
    ·have:=hh a uk
     rw[kl]at this;cases this
    ·exact hb
   obtain⟨p,hp,q1,q2⟩:=ih cg a uk b dY s l
   refine⟨p,?_,q1,q2⟩
   cases r with
   |nil=>cases uk
   |cons d r'=>exact List.mem_cons_of_mem _ hp
theorem Gr {ks:List az}(hr:kg ks) (hn:ks.Nodup):∀p∈jm ks,cJ p.1 p.2→p.1∈ks∧p.2∈ks∧fm p.1 p.2=true:=by
 induction ks with
 |nil=>intro p hp;cases hp
 |cons h r ih=>
  have cg:kg r:=(List.pairwise_cons.mp hr).2
  have hh:∀d∈r,ay (ba d) (ba h)=false:=fun d hd=> (List.pairwise_cons.mp hr).1 _ (List.mem_map_of_mem hd)
  have mP:=(List.nodup_cons.mp hn)
  intro p hp s
  cases r with
  |nil=>cases hp
  |cons d r'=>
   rcases List.mem_cons.mp (show p∈(h,d)::jm (d::r') from hp) with rfl |hp
   ·refine⟨List.mem_cons_self,List.mem_cons_of_mem _ List.mem_cons_self,(yZ s).mp ?_⟩
    cases hx:ay (ba h) (ba d) with
    |true=>rfl
    |false=>
     have e:=HG (zy _ _ hx (hh d List.mem_cons_self))
     rw[e]at mP
     exact absurd List.mem_cons_self mP.1
   ·obtain⟨q1,q2,q3⟩:=ih cg mP.2 p hp s
    exact⟨List.mem_cons_of_mem _ q1,List.mem_cons_of_mem _ q2,q3⟩
theorem Js {ks:List az}{k:az} :k∈fQ ks↔∃p∈jm ks,cJ p.1 p.2∧four p.1 p.2=k:=by
 unfold fQ
 rw[List.mem_map]
 constructor
 ·rintro⟨p,hp,e⟩
  rw[List.mem_filter,decide_eq_true_eq]at hp
  exact⟨p,hp.1,hp.2,e⟩
 ·rintro⟨p,hp,s,e⟩
  exact⟨p,List.mem_filter.mpr ⟨hp,decide_eq_true s⟩,e⟩
theorem K0 {ks:List az}(hr:kg ks) (h:fQ ks=[]):jo ks none:=fun a ha b hb s=>by
 cases hl:fm a b with
 |false=>rfl
 |true=>
  obtain⟨p,hp,q,_⟩:=y8 hr a ha b hb s hl
  have:four p.1 p.2∈fQ ks:=Js.mpr ⟨p,hp,q,rfl⟩
  rw[h]at this;cases this
theorem K1 {ks:List az}(hr:kg ks) (hn:ks.Nodup) {k:az}(hk:k∈fQ ks) (hm:∀k'∈fQ ks,ay (ba k') (ba k)=false):jo ks (some k):=by
 obtain⟨p,hp,s,e⟩:=Js.mp hk
 obtain⟨m1,m2,m3⟩:=Gr hr hn p hp s
 refine⟨⟨p.1,m1,p.2,m2,s,m3,e.symm⟩,fun a ha b hb s' l=> ?_⟩
 obtain⟨p',tK,q1,q2⟩:=y8 hr a ha b hb s' l
 exact YE _ _ _ (hm _ (Js.mpr ⟨p',tK,q1,rfl⟩)) q2
def vm (xs:List V) (q:az):Prop:=∃l o:Nat,l<o∧o<xs.length∧n9 xs o l=some q
theorem Ya {xs:List V}{p:Int×Int} :p∈aE xs↔∃l:Nat,l<xs.length∧rowAt xs l=some p.2∧p.1=(l:Int):=by
 unfold aE
 rw[List.mem_filterMap]
 constructor
 ·rintro⟨l,hl,e⟩
  rw[Option.map_eq_some_iff]at e
  obtain⟨r,hr,rfl⟩:=e
  exact⟨l,List.mem_range.mp hl,hr,rfl⟩
 ·rintro⟨l,hl,hr,e⟩
  refine⟨l,List.mem_range.mpr hl,?_⟩
  rw[hr,Option.map_some,←e]
theorem GU {xs:List V}{q:az} :q∈fq xs xs.length↔vm xs q:=by
 unfold fq n8 vm
 simp only[List.mem_flatMap,List.mem_filterMap,List.mem_range]
 constructor
 ·rintro⟨o,ho,l,hl,e⟩
  exact⟨l,o,hl,ho,e⟩
 ·rintro⟨l,o,hl,ho,e⟩
  exact⟨o,ho,l,hl,e⟩
theorem Yb {xs:List V}{o l:Nat}{q:az} :n9 xs o l=some q↔∃a b,rowAt xs l=some a∧rowAt xs o=some b∧q=((o:Int) - l,b - a,(l:Int),(o:Int)):=by
 unfold n9
 cases h1:rowAt xs l with
 |none=>simp
 |some a=>
  cases h2:rowAt xs o with
  |none=>simp
  |some b=>
   simp only[Option.bind_some,Option.map_some,Option.some.injEq]
   constructor
   ·rintro rfl
    exact⟨a,b,rfl,rfl,rfl⟩
   ·rintro⟨_,_,rfl,rfl,rfl⟩
    rfl
theorem HP {xs:List V}{q:az} :q∈(df (aE xs)).map dn↔vm xs q:=by
 unfold df gM
 rw[List.take_length]
 simp only[List.mem_map,List.mem_flatMap,pairsOf,List.take_length,List.mem_filter,decide_eq_true_eq]
 constructor
 ·rintro⟨_,⟨a,ha,b,⟨hb,ak⟩,rfl⟩,rfl⟩
  obtain⟨l,hl,hr,e⟩:=Ya.mp ha
  obtain⟨o,ho,cg,e'⟩:=Ya.mp hb
  refine⟨l,o,by omega,ho,Yb.mpr ⟨a.2,b.2,hr,cg,?_⟩⟩
  unfold dn
  rw[e,e']
 ·rintro⟨l,o,hl,ho,e⟩
  obtain⟨a,b,h1,h2,rfl⟩:=Yb.mp e
  exact⟨((l:Int),a,(o:Int),b),⟨((l:Int),a),Ya.mpr ⟨l,by omega,h1,rfl⟩,((o:Int),b),⟨Ya.mpr ⟨o,ho,h2,rfl⟩,by show(l:Int)< (o:Int);omega⟩,rfl⟩,rfl⟩
theorem WG (xs:List V) (n:Nat):(fq xs n).Nodup:=by
 unfold fq
 rw[List.nodup_iff_pairwise_ne,List.pairwise_flatMap]
 refine⟨fun o _=> ?_,?_⟩
 ·unfold n8
  rw[List.pairwise_filterMap]
  refine List.Pairwise.imp ?_ (List.nodup_iff_pairwise_ne.mp List.nodup_range)
  intro l l' cw q hq q' dj e
  obtain⟨_,_,_,_,rfl⟩:=Yb.mp hq
  obtain⟨_,_,_,_,rfl⟩:=Yb.mp dj
  simp only[Prod.mk.injEq]at e
  omega
 ·refine List.Pairwise.imp ?_ (List.nodup_iff_pairwise_ne.mp List.nodup_range)
  intro o o' cw q hq q' dj e
  unfold n8 at hq dj
  rw[List.mem_filterMap]at hq dj
  obtain⟨l,_,hq⟩:=hq
  obtain⟨l',_,dj⟩:=dj
  obtain⟨_,_,_,_,rfl⟩:=Yb.mp hq
  obtain⟨_,_,_,_,rfl⟩:=Yb.mp dj
  simp only[Prod.mk.injEq]at e
  omega
theorem ze (xs:List V):(aE xs).Pairwise fun a b=>a.1≠b.1:=by
 unfold aE
 rw[List.pairwise_filterMap]
 refine List.Pairwise.imp ?_ (List.nodup_iff_pairwise_ne.mp List.nodup_range)
 intro l l' cw q hq q' dj
 rw[Option.map_eq_some_iff]at hq dj
 obtain⟨_,_,rfl⟩:=hq
 obtain⟨_,_,rfl⟩:=dj
 show(l:Int)≠(l':Int)
 omega
theorem JY (xs:List V):((df (aE xs)).map dn).Nodup:=by
 unfold df gM
 rw[List.take_length,List.nodup_iff_pairwise_ne,List.pairwise_map,List.pairwise_flatMap]
 refine⟨fun a _=> ?_,?_⟩
 ·unfold pairsOf
  rw[List.take_length,List.pairwise_map]
  refine List.Pairwise.imp ?_ ((ze xs).filter _)
  intro b b' cw e
  unfold dn at e
  simp only[Prod.mk.injEq]at e
  exact cw e.2.2.2
 ·refine List.Pairwise.imp ?_ (ze xs)
  intro a a' cw q hq q' dj e
  unfold pairsOf at hq dj
  rw[List.mem_map]at hq dj
  obtain⟨b,_,rfl⟩:=hq
  obtain⟨b',_,rfl⟩:=dj
  unfold dn at e
  simp only[Prod.mk.injEq]at e
  exact cw e.2.2.1
theorem Ye (xs:List V):((df (aE xs)).map dn).Perm (fq xs xs.length):=
 (List.perm_ext_iff_of_nodup (JY xs) (WG xs _)).mpr fun q=>HP.trans GU.symm
theorem FP (vs:List V):ck vs (some 1) none=vs.drop 1:=by
 unfold ck HT.ax
 cases vs with
 |nil=>rfl
 |cons a r=>simp
def kS (ks:List az) (i:Nat):List az:=(((jm ks).take i).filter fun p=>decide (cJ p.1 p.2)).map fun p=>four p.1 p.2
theorem Ue {ks:List az}{i:Nat}{a b:az}(h1:ks[i]? =some a) (h2:(ks.drop 1)[i]? =some b):kS ks (i+1)=kS ks i++(if decide (cJ a b)=true then [four a b] else []):=by
 have e:(jm ks)[i]? =some (a,b):=List.getElem?_zip_eq_some.mpr ⟨h1,h2⟩
 unfold kS
 rw[List.take_add_one,e,List.filter_append,List.map_append]
 by_cases h:cJ a b<;>simp[h]
def Lu (H:Hp) (v:V):Option az→Prop
 |none=>v=.ab
 |some k=>gA H v k
end
section
variable {P:Program}{w:World}{K:PySem.W.Frag}{mg:Str→Option Value}{base:Heap}
abbrev rY:Stmt:=top 28
def qW:Sp:=fun vs H Q _=> ∃x y wd hg xs,vs=[x,y]∧bB H x y wd hg xs∧∀(H':Hp) (v:V) (r:Option az),ae H H'→jo (fq xs xs.length) r→Lu H' v r→Q v H'
theorem rb:aV ["board", "lay", "told", "likes"] ["board", "lay"] (aC rY):=⟨rfl,rfl,rfl,by decide+kernel,rfl,by decide+kernel,by decide+kernel⟩
theorem Co {f:Addr}{fd:FuncData}(F:aM K "first_like" "first_like" rY f fd) (G:Gs mg) (D1:Def P w K mg base 9 "steps" ["board", "lay"] qG):aG P w K mg base aH 10 f fd ["board", "lay"] qW:=by
 refine F.ok rb (fun vs H Q E h=> ?_) (fun ao A outer s H vs Q E hr h=> ?_)
 ·obtain⟨x,y,wd,hg,xs,rfl,_⟩:=h
  rfl
 ·obtain⟨x,y,wd,hg,xs,rfl,l,q⟩:=h
  have hu:=uX hr
  refine⟨_,Zg (ZF (i:=2) rb.nd rfl (Or.inl rfl) (Zf D1 hr (Za (pv 0) (Za (pv 1) Zb))))
   (Zg (Y9 ["step", "line", "other", "beside", "here", "there"] 6 [] (i:=3) rb.nd rfl (Or.inl rfl) (IH rfl G.zip (Za (pv 2) (Za (Yn zl (pv 2) (YL Ze) YM) Zb)))
    (fun C s H fp=>show PG (bj _ _ _ C s H fp) _ (gW K 2 (cj (gW K 3 (cj (bR 0) (cj (bR 1) (cj (bR 2) gX)))) (cj (gW K 3 (cj (bR 3) (cj (bR 4) (cj (bR 5) gX)))) gX))) from
     ZS rfl (Zm (ZS rfl (Zm (pb 0) (Zm (pb 1) (Zm (pb 2) ZK)))) (Zm (ZS rfl (Zm (pb 3) (Zm (pb 4) (Zm (pb 5) ZK)))) ZK)))
    (fun C s H fp=>Yg (Zx (show aY (bj _ _ _ C s H fp) (compareOp .Eq) (fun x y H Q=> ∃(a b:Addr) (ns ms:List Int),x=.ref a∧y=.ref b∧af K H a (ns.map V.int)∧af K H b (ms.map V.int)∧Q (.bl (decide (ns=ms))) H) from IC hr.qt) (pv 0) (pv 3) (bM _)))
    (fun C s H fp D=>ZE rfl (ZA (Za (pv 1) (Za (pv 2) (Za (pv 4) (Za (pv 5) Zb)))))))
   (Zk (Zu (IG rfl hu rfl G.min (pv 3))))),?_⟩
  refine⟨x,rfl,y,rfl,x,y,wd,hg,xs,rfl,l,fun fa H1 ps ks s1 gk hf pr perm rise=> ?_⟩
  have D7:ps.length=ks.length:=Paired.length pr
  have hlen:ks.length≤144:=by
   rw[perm.length_eq,List.length_map]
   exact wH l
  refine⟨_,rfl,_,rfl,_,rfl,fa,ps,rfl,ag.of hf,fun c hc=> ?_⟩
  generalize lq:upd H1 c (HO.lst (ck ps (some 1) none))=H2
  have s2:ae H1 H2:=fun b o hb=>by rw[←lq,Zh (Zi hb hc)];exact hb
  have gm:H2 c=some (.lst (ps.drop 1)):=by rw[←lq,FP];exact Zd
  have jd:=s2 _ _ hf
  refine⟨fa,c,rfl,⟨_,_,ag.of jd,ag.of gm⟩,?_⟩
  refine I9 (xs:=ps) (zs:=ps.drop 1) (fun i ys σ H3=> ∃v0 v1 v2 v3 v4 v5,σ=[v0,v1,v2,v3,v4,v5]∧ae H2 H3∧Paired (gA H3) ys (kS ks i)∧ys.length≤i) ⟨_,_,_,_,_,_,rfl,ae.refl _,.nil,Nat.zero_le _⟩
   (fun i ys σ H3 _ ⟨_,_,_,_,_,_,_,s3,_⟩=> ⟨ag.of (s3 _ _ jd),ag.of (s3 _ _ gm)⟩) ?_ ?_
  ·rintro i va vb T ys σ H3 xv Dp hT ⟨v0,v1,v2,v3,v4,v5,rfl,s3,dc,k8⟩
   have hi:i<ps.length:=(List.getElem?_eq_some_iff.mp xv).1
   obtain⟨a,jQ,ta,Ax,rfl,Dy,Dx⟩:=JA pr xv
   have Dn:ps[1+i]? =some vb:=by rw[←List.getElem?_drop];exact Dp
   obtain⟨b,jP,tb,Aw,rfl,Dw,Dv⟩:=JA pr Dn
   have tX:(ks.drop 1)[i]? =some b:=by rw[List.getElem?_drop];exact jP
   have es:=Ue jQ tX
   have sT:ae H3 (upd H3 T (.par [.ref ta,.ref tb])):=fun e o hc=>by rw[Zh (Zi hc hT)];exact hc
   have sA:ae H1 (upd H3 T (.par [.ref ta,.ref tb])):=s2.trans (s3.trans sT)
   refine⟨T,_,rfl,af.me Zd,rfl,_,_,rfl,ta,_,rfl,af.of (sA _ _ Dy),rfl,_,_,rfl,_,_,rfl,_,_,rfl,rfl,_,_,rfl,tb,_,rfl,af.of (sA _ _ Dw),rfl,_,_,rfl,_,_,rfl,_,_,rfl,rfl,rfl,?_⟩
   generalize uy:upd H3 T (HO.par [V.ref ta,V.ref tb])=H4 at sT sA
   refine⟨_,rfl,_,rfl,Ax,Aw,[a.1,a.2.1],[b.1,b.2.1],rfl,rfl,af.of (sA _ _ Dx),af.of (sA _ _ Dv),_,rfl,?_⟩
   by_cases hs:cJ a b
   ·rw[decide_eq_true hs,if_pos rfl]at es
    have ed:decide ([a.1,a.2.1]=[b.1,b.2.1])=true:=decide_eq_true (by rw[hs.1,hs.2])
    rw[ed]
    refine bf ?_
    refine⟨_,rfl,_,rfl,_,rfl,_,rfl,(by show 4≤sizeLine;decide),fun t4 jK=> ⟨by rw[sizeLine_eq];omega,?_⟩⟩
    generalize nh:upd H4 t4 (HO.tup [V.int a.2.2.1,V.int a.2.2.2,V.int b.2.2.1,V.int b.2.2.2])=H5
    have s5:ae H4 H5:=fun e o hc=>by rw[←nh,Zh (Zi hc jK)];exact hc
    refine⟨_,_,_,_,_,_,rfl,s3.trans (sT.trans s5),?_,by rw[List.length_append];simp;omega⟩
    rw[es]
    exact Paired.snoc (Paired.bT dc fun v q' hq=>hq.same (sT.trans s5)) ⟨t4,rfl,by rw[←nh];exact Zd⟩
   ·rw[decide_eq_false hs,if_neg Bool.false_ne_true,List.append_nil]at es
    have ed:decide ([a.1,a.2.1]=[b.1,b.2.1])=false:=decide_eq_false (fun e=>hs (by simp only[List.cons.injEq,and_true]at e;exact e))
    rw[ed]
    refine aw ⟨_,_,_,_,_,_,rfl,s3.trans sT,?_,by omega⟩
    rw[es]
    exact Paired.bT dc fun v q' hq=>hq.same sT
  ·rintro ys σ H3 ⟨v0,v1,v2,v3,v4,v5,rfl,s3,dc,k8⟩ p hp
   have s4:ae H3 (upd H3 p (.lst ys)):=fun e o hc=>by rw[Zh (Zi hc hp)];exact hc
   have et:kS ks (min ps.length (ps.drop 1).length)=fQ ks:=by
    unfold kS fQ
    rw[List.take_of_length_le]
    unfold jm
    rw[List.length_zip,List.length_drop,List.length_drop,D7]
    exact Nat.le_refl _
   rw[et]at dc
   have iV:Paired (gA (upd H3 p (.lst ys))) ys (fQ ks):=Paired.bT dc fun v q' hq=>hq.same s4
   have sA:ae H (upd H3 p (.lst ys)):=s1.trans (s2.trans (s3.trans s4))
   have cP:∀z,z∈ks↔z∈fq xs xs.length:=fun z=> (perm.trans (Ye xs)).mem_iff
   have xK:ks.Nodup:=(perm.trans (Ye xs)).nodup_iff.mpr (WG xs _)
   have conv:∀r,jo ks r→jo (fq xs xs.length) r:=fun r hr=>by
    cases r with
    |none=>exact fun a ha b hb s=>hr a ((cP a).mpr ha) b ((cP b).mpr hb) s
    |some k=>
     obtain⟨⟨a,ha,b,hb,w⟩,h2⟩:=hr
     exact⟨⟨a,(cP a).mp ha,b,(cP b).mp hb,w⟩,fun a ha b hb s l=>h2 a ((cP a).mpr ha) b ((cP b).mpr hb) s l⟩
   refine⟨_,rfl,p,ys,(fQ ks).map ba,rfl,ag.of Zd,?_,fun e=> ?_,fun v k hv hk tj D0=> ?_⟩
   ·have:∀{ys:List V}{ls:List az},Paired (gA (upd H3 p (.lst ys))) ys ls→Paired (cA (upd H3 p (.lst ys))) ys (ls.map ba):=by
     intro ys ls h
     generalize (upd H3 p (.lst ys))=H9 at h
     induction h with
     |nil=>exact .nil
     |cons h1 _ ih=>exact .cons h1 ih
    exact this iV
   ·subst e
    have el:fQ ks=[]:=by
     have:=Paired.length iV
     exact List.length_eq_zero_iff.mp this.symm
    exact q _ .ab none sA (conv _ (K0 rise el)) rfl
   ·obtain⟨k4,tY,rfl⟩:=List.mem_map.mp hk
    exact q _ v (some k4) sA (conv _ (K1 rise xK tY fun k' aQ=>D0 _ (List.mem_map_of_mem aQ))) tj
abbrev rj:Stmt:=top 29
def kE:Sp:=fun vs H Q _=> ∃x y wd hg xs,vs=[x,y]∧bB H x y wd hg xs∧∀(H':Hp) (r:Option az),ae H H'→jo (fq xs xs.length) r→Q (.bl r.isNone) H'
theorem Bf:aV ["board", "lay"] ["board", "lay"] (aC rj):=⟨rfl,rfl,rfl,by decide+kernel,rfl,by decide+kernel,by decide+kernel⟩
theorem Ce {f:Addr}{fd:FuncData}(F:aM K "is_unlike" "is_unlike" rj f fd) (D1:Def P w K mg base 10 "first_like" ["board", "lay"] qW):aG P w K mg base aH 11 f fd ["board", "lay"] kE:=by
 refine F.ok Bf (fun vs H Q E h=> ?_) (fun ao A outer s H vs Q E hr h=> ?_)
 ·obtain⟨x,y,wd,hg,xs,rfl,_⟩:=h
  rfl
 ·obtain⟨x,y,wd,hg,xs,rfl,l,q⟩:=h
  refine⟨_,Zk (Zu (Hc (u5 (Zf D1 hr (Za (pv 0) (Za (pv 1) Zb)))))),?_⟩
  refine⟨x,rfl,y,rfl,x,y,wd,hg,xs,rfl,l,fun H1 v r s1 hf ho=> ?_⟩
  have:=q H1 r s1 hf
  cases r with
  |none=>
   have e:v=.ab:=ho
   subst e
   exact this
  |some k=>
   obtain⟨t,rfl,_⟩:=(show gA H1 v k from ho)
   exact this
end
section
theorem Hg (xs:List V):(aE xs).Pairwise fun a b=>a.1<b.1:=by
 unfold aE
 refine List.pairwise_filterMap.mpr (List.Pairwise.imp ?_ (List.pairwise_lt_range (n:=xs.length)))
 intro a b gU p hp q hq
 obtain⟨r,hr,rfl⟩:=Option.map_eq_some_iff.mp hp
 obtain⟨r',cg,rfl⟩:=Option.map_eq_some_iff.mp hq
 show(a:Int)< (b:Int)
 omega
def jz (ps:List (Int×Int)):List az:=ps.flatMap fun a=> (ps.filter fun b=>decide (a.1<b.1)).map fun b=> (a.1,a.2,b.1,b.2)
theorem WF (ps:List (Int×Int)):df ps=jz ps:=by
 unfold df gM jz pairsOf
 rw[List.take_length]
theorem Wr {α β:Type}{f:α→β}{l:List α}(h:l.Nodup):(l.map f).Nodup↔∀a∈l,∀b∈l,f a=f b→a=b:=by
 rw[List.nodup_iff_pairwise_ne,List.pairwise_map]
 constructor
 ·intro pw a ha b hb e
  obtain⟨i,hi,rfl⟩:=List.getElem_of_mem ha
  obtain⟨j,hj,rfl⟩:=List.getElem_of_mem hb
  have p:=List.pairwise_iff_getElem.mp pw
  rcases Nat.lt_trichotomy i j with q |q |q
  ·exact absurd e (p i j hi hj q)
  ·subst q;rfl
  ·exact absurd e.symm (p j i hj hi q)
 ·intro inj
  refine List.Pairwise.imp_of_mem ?_ (List.nodup_iff_pairwise_ne.mp h)
  intro a b ha hb ne e
  exact ne (inj a ha b hb e)
theorem UA (xs:List V):(df (aE xs)).Nodup:=by
 have:=JY xs
 rw[List.nodup_iff_pairwise_ne,List.pairwise_map]at this
 exact List.nodup_iff_pairwise_ne.mpr (List.Pairwise.imp (fun h e=>h (by rw[e])) this)
theorem YN {xs:List V}{p:az} :p∈df (aE xs)↔∃l o:Nat,l<o∧o<xs.length∧∃a b,rowAt xs l=some a∧rowAt xs o=some b∧p=((l:Int),a,(o:Int),b):=by
 rw[WF]
 unfold jz
 rw[List.mem_flatMap]
 constructor
 ·rintro⟨a,ha,hq⟩
  obtain⟨b,hb,rfl⟩:=List.mem_map.mp hq
  obtain⟨iD,gT⟩:=List.mem_filter.mp hb
  obtain⟨l,hl,hr,e⟩:=Ya.mp ha
  obtain⟨o,ho,cg,e'⟩:=Ya.mp iD
  have:=of_decide_eq_true gT
  refine⟨l,o,by omega,ho,a.2,b.2,hr,cg,by rw[e,e']⟩
 ·rintro⟨l,o,h1,h2,a,b,h3,h4,rfl⟩
  exact⟨((l:Int),a),Ya.mpr ⟨l,by omega,h3,rfl⟩,List.mem_map.mpr ⟨((o:Int),b),List.mem_filter.mpr ⟨Ya.mpr ⟨o,h2,h4,rfl⟩,decide_eq_true (by show(l:Int)<o;omega)⟩,rfl⟩⟩
def nF (xs:List V):Prop:=∀p∈df (aE xs),∀q∈df (aE xs),cJ (dn p) (dn q)→p=q
theorem F5 {a b:az}(h:a.2.2.1≠b.2.2.1∨a.2.2.2≠b.2.2.2):fm a b=true∨fm b a=true:=by
 unfold fm
 simp only[YO,Jf,and_false,or_false]
 omega
theorem Im {xs:List V}{r:Option az}(f:jo (fq xs xs.length) r):r.isNone=true↔nF xs:=by
 have mem:∀{p:az},p∈df (aE xs)→dn p∈fq xs xs.length:=fun hp=> (Ye xs).mem_iff.mp (List.mem_map_of_mem hp)
 cases r with
 |none=>
  refine⟨fun _ p hp q hq s=> ?_,fun _=>rfl⟩
  refine Classical.byContradiction fun ne=> ?_
  obtain⟨l,o,_,_,a,b,g1,g2,rfl⟩:=YN.mp hp
  obtain⟨l',o',_,_,a',b',g3,g4,rfl⟩:=YN.mp hq
  have d:(l:Int)≠(l':Int)∨(o:Int)≠(o':Int):=by
   refine Classical.byContradiction fun c=>ne ?_
   have e1:l=l':=by omega
   have e2:o=o':=by omega
   subst e1 e2
   rw[g1]at g3
   rw[g2]at g4
   cases g3
   cases g4
   rfl
  rcases F5 (a:=dn ((l:Int),a,(o:Int),b)) (b:=dn ((l':Int),a',(o':Int),b')) d with z |z
  ·have:=f _ (mem hp) _ (mem hq) s
   rw[z]at this
   cases this
  ·have:=f _ (mem hq) _ (mem hp) ⟨s.1.symm,s.2.symm⟩
   rw[z]at this
   cases this
 |some k=>
  refine⟨fun h=> (by cases h),fun h=> ?_⟩
  obtain⟨⟨a,ha,b,hb,s,l,_⟩,_⟩:=f
  obtain⟨p,hp,rfl⟩:=List.mem_map.mp ((Ye xs).mem_iff.mpr ha)
  obtain⟨q,hq,rfl⟩:=List.mem_map.mp ((Ye xs).mem_iff.mpr hb)
  rw[h p hp q hq s]at l
  unfold fm at l
  simp only[YO,Jf,and_false,or_false]at l
  omega
end
end U.S
namespace U.S
open PySem L2 PyProof.Rows
section
def sk (a b:Int×Int):List Int:=[b.1 - a.1,b.2 - a.2]
def pk:List (Int×Int)→List (List Int)
 | []=> []
 |a::r=>r.map (sk a)++pk r
def bK (xs:List V):Bool:=decide (pk (aE xs)).Nodup
def om (p:az):List Int:=[p.2.2.1 - p.1,p.2.2.2 - p.2.1]
theorem yV:∀{ps:List (Int×Int)},(ps.Pairwise fun a b=>a.1<b.1)→(jz ps).map om=pk ps
 | [],_=>rfl
 |a::l,h=>by
  obtain⟨h1,h2⟩:=List.pairwise_cons.mp h
  have ih:=yV h2
  have e:jz (a::l)=(l.map fun b=> (a.1,a.2,b.1,b.2))++jz l:=by
   unfold jz
   rw[List.flatMap_cons]
   congr 1
   ·rw[List.filter_cons_of_neg (by simp),List.filter_eq_self.mpr fun b hb=>decide_eq_true (h1 b hb)]
   ·rw[List.flatMap_def,List.flatMap_def]
    congr 1
    refine List.map_congr_left fun c hc=> ?_
    rw[List.filter_cons_of_neg (by have:=h1 c hc;simp;omega)]
  rw[e,List.map_append,ih,List.map_map]
  rfl
theorem zK (p q:az):cJ (dn p) (dn q)↔om p=om q:=by
 unfold cJ dn om
 simp
theorem vF (xs:List V):bK xs=true↔nF xs:=by
 unfold bK
 rw[decide_eq_true_iff,←yV (Hg xs),←WF,Wr (UA xs)]
 unfold nF
 constructor
 ·intro h p hp q hq s
  exact h p hp q hq ((zK p q).mp s)
 ·intro h p hp q hq s
  exact h p hp q hq ((zK p q).mpr s)
theorem lQ {xs:List V}{r:Option az}(f:jo (fq xs xs.length) r):r.isNone=bK xs:=by
 have h1:=Im f
 have h2:=vF xs
 cases hr:r.isNone<;>cases hu:bK xs<;>simp_all
def uF (hg:Nat) (xs:List V) (l:Nat):List Int:=((List.range hg).map fun(k:Nat)=> (k:Int)).filter fun r=> !cH (.int r) xs&&bK (xs.set l (.int r))
def eW (wd hg:Nat):Nat→List (List V)
 |0=> [List.replicate wd .ab]
 |i+1=> (eW wd hg i).flatMap fun xs=> (V.ab::(uF hg xs i).map V.int).map fun v=>xs.set i v
theorem ZW {H:Hp}{p:Addr}{o:HO}(h:H p=none):ae H (upd H p o):=fun b u hb=>by rw[Zh (Zi hb h)];exact hb
theorem Ux {v:V}(hv:v≠.ab):∀{xs:List V}{i:Nat},xs[i]? =some V.ab→(rowsOf (xs.set i v)).Perm (v::rowsOf xs)
 | [],_,h=>by simp at h
 |x::xs,0,h=>by
  have:x=.ab:=by simpa using h
  subst this
  rw[List.set_cons_zero]
  unfold rowsOf
  rw[List.filter_cons_of_pos (by simpa using hv),List.filter_cons_of_neg (by simp)]
 |x::xs,i+1,h=>by
  have ih:=Ux hv (xs:=xs) (i:=i) (by simpa using h)
  rw[List.set_cons_succ]
  unfold rowsOf at ih ⊢
  by_cases z:(!decide (x=V.ab))=true
  ·rw[List.filter_cons_of_pos (p:=fun x=> !decide (x=V.ab)) z,List.filter_cons_of_pos (p:=fun x=> !decide (x=V.ab)) z]
   exact(ih.cons x).trans (List.Perm.swap v x _)
  ·rw[List.filter_cons_of_neg (p:=fun x=> !decide (x=V.ab)) z,List.filter_cons_of_neg (p:=fun x=> !decide (x=V.ab)) z]
   exact ih
theorem IP {r:Int}{xs:List V}(h:V.int r∈xs):cH (.int r) xs=true:=by
 unfold cH
 exact List.any_eq_true.mpr ⟨_,h,by simp[eY]⟩
theorem GP {wd hg:Int}{xs:List V}{i:Nat}{r:Int}(h:hV wd hg xs) (hi:xs[i]? =some V.ab) (h0:0≤r) (h1:r<hg) (hn:cH (.int r) xs=false):hV wd hg (xs.set i (.int r)):=by
 have pm:=Ux (v:=.int r) (by intro z;cases z) hi
 refine⟨by rw[List.length_set];exact h.len,fun x hx=> ?_,pm.nodup_iff.mpr (List.nodup_cons.mpr ⟨fun m=> ?_,h.nd⟩)⟩
 ·rcases List.mem_cons.mp (pm.mem_iff.mp hx) with rfl |hx
  ·show(decide (0≤r)&&decide (r≤hg - 1))=true
   rw[decide_eq_true h0,decide_eq_true (by omega)]
   rfl
  ·exact h.row x hx
 ·have:=IP (List.mem_filter.mp m).1
  rw[hn]at this
  cases this
theorem u3 {K:PySem.W.Frag}{H:Hp}{a b:Addr}{xs ys:List V}{Q:VK}(h1:H a=some (.tup xs)) (h2:H b=some (.tup ys)) (hl:xs.length+ys.length≤1000) (q:∀t H',ae H H'→H' t=some (.tup (xs++ys))→Q (.ref t) H'):jy K (.ref a) (.ref b) H Q:=by
 cases xs with
 |nil=>exact .inl ⟨a,b,ys,rfl,rfl,af.of h1,af.of h2,q b H (ae.refl _) h2⟩
 |cons x xs=>
  refine .inr ⟨a,b,_,_,rfl,rfl,af.of h1,af.of h2,by simp,by rw[sizeLine_eq];omega,fun e=> ?_,fun _ p hp=>q p _ (ZW hp) Zd⟩
  subst e
  exact q a H (ae.refl _) (by rw[List.append_nil];exact h1)
theorem uP {xs:List V}{i:Nat}(h:i<xs.length):ck xs (some ((i:Int)+1)) none=xs.drop (i+1):=by
 unfold ck
 rw[show(i:Int)+1=((i+1:Nat):Int) from rfl,HT.l6,HT.l8,Nat.min_eq_left (by omega)]
 exact List.take_of_length_le (by simp)
end
section
variable {P:Program}{w:World}{K:PySem.W.Frag}{mg:Str→Option Value}{base:Heap}
abbrev rK:Stmt:=top 30
def qK:Sp:=fun vs H Q _=> ∃x y wd hg xs,vs=[x,y]∧bB H x y wd hg xs∧bK xs=true∧∀(H':Hp),ae H H'→Q .ab H'
theorem Bm:aV ["board", "lay"] ["board", "lay"] (aC rK):=⟨rfl,rfl,rfl,by decide+kernel,rfl,by decide+kernel,by decide+kernel⟩
theorem Ci {f:Addr}{fd:FuncData}(F:aM K "need_unlike" "need_unlike" rK f fd) (D1:Def P w K mg base 11 "is_unlike" ["board", "lay"] kE):aG P w K mg base aH 12 f fd ["board", "lay"] qK:=by
 refine F.ok Bm (fun vs H Q E h=> ?_) (fun ao A outer s H vs Q E hr h=> ?_)
 ·obtain⟨x,y,wd,hg,xs,rfl,_⟩:=h
  rfl
 ·obtain⟨x,y,wd,hg,xs,rfl,l,u,q⟩:=h
  refine⟨_,Zk (ZR (Z5 (ZX (Zf D1 hr (Za (pv 0) (Za (pv 1) Zb))))) Zw Zy),?_⟩
  refine⟨x,rfl,y,rfl,x,y,wd,hg,xs,rfl,l,fun H' r sm fi=> ⟨_,rfl,?_⟩⟩
  rw[lQ fi,u]
  exact aw (q H' sm)
abbrev rN:Stmt:=top 19
def qM:Sp:=fun vs H Q _=> ∃(b:Addr) (wd hg W T:Int),vs=[.ref b,.int W,.int T]∧H b=some (.tup [.int wd,.int hg])∧wd≤W∧hg≤T∧Q .ab H
theorem Bp:aV ["board", "wide", "high"] ["board", "wide", "high"] (aC rN):=⟨rfl,rfl,rfl,by decide+kernel,rfl,by decide+kernel,by decide+kernel⟩
theorem Cj {f:Addr}{fd:FuncData}(F:aM K "need_at_most" "need_at_most" rN f fd):aG P w K mg base aH 1 f fd ["board", "wide", "high"] qM:=by
 refine F.ok Bp (fun vs H Q E h=> ?_) (fun ao A outer s H vs Q E hr h=> ?_)
 ·obtain⟨b,wd,hg,W,T,rfl,_⟩:=h
  rfl
 ·obtain⟨b,wd,hg,W,T,rfl,hb,h1,h2,q⟩:=h
  refine⟨_,Zk (ZR (PW.pt (Jz (Zx uY (ZG ZH (pv 0) Ze (fun _ _=>rfl)) (pv 1) (bM _)) (YA (Zx uY (ZG ZH (pv 0) Ze (fun _ _=>rfl)) (pv 2) (bM _))))) Zw Zy),?_⟩
  refine⟨_,rfl,b,_,0,.int wd,rfl,rfl,af.of hb,rfl,_,rfl,_,_,rfl,rfl,_,rfl,?_⟩
  rw[decide_eq_false (by omega)]
  refine aw ?_
  refine⟨_,rfl,b,_,1,.int hg,rfl,rfl,af.of hb,rfl,_,rfl,_,_,rfl,rfl,_,rfl,?_⟩
  rw[decide_eq_false (by omega)]
  exact aw q
end
section
theorem Uy (n:Nat):rowsOf (List.replicate n V.ab)=[]:=by
 unfold rowsOf
 exact List.filter_eq_nil_iff.mpr fun x hx=>by rw[List.eq_of_mem_replicate hx];simp
theorem Ia (n:Nat):aE (List.replicate n V.ab)=[]:=by
 unfold aE
 rw[List.filterMap_eq_nil_iff]
 intro l hl
 unfold rowAt
 rw[List.getElem?_replicate]
 split<;>rfl
theorem uH (w h:Nat):∀i,∀xs∈eW w h i,hV w h xs∧bK xs=true∧∀j,i≤j→j<w→xs[j]? =some V.ab
 |0,xs,hx=>by
  have e:xs=List.replicate w V.ab:=by simpa[eW] using hx
  subst e
  refine⟨⟨by rw[List.length_replicate],fun r hr=> ?_,by rw[Uy];exact List.nodup_nil⟩,?_,fun j _ hj=>by rw[List.getElem?_replicate,if_pos hj]⟩
  ·rw[Uy]at hr
   cases hr
  ·unfold bK
   rw[Ia]
   rfl
 |i+1,xs,hx=>by
  unfold eW at hx
  obtain⟨ys,hy,hm⟩:=List.mem_flatMap.mp hx
  obtain⟨h1,h2,h3⟩:=uH w h i ys hy
  obtain⟨v,hv,rfl⟩:=List.mem_map.mp hm
  have hlen:ys.length=w:=by have:=h1.len;omega
  have later:∀v j,i+1≤j→j<w→(ys.set i v)[j]? =some V.ab:=fun v j hj pK=>by
   rw[List.getElem?_set_ne (by omega)]
   exact h3 j (by omega) pK
  by_cases hi:i<w
  ·have hn:=h3 i (Nat.le_refl _) hi
   rcases List.mem_cons.mp hv with rfl |hv
   ·have e:ys.set i V.ab=ys:=by
     refine List.ext_getElem? fun j=> ?_
     by_cases hj:i=j
     ·subst hj
      rw[List.getElem?_set_self (by omega),hn]
     ·rw[List.getElem?_set_ne hj]
    rw[e]
    exact⟨h1,h2,fun j hj pK=>h3 j (by omega) pK⟩
   ·obtain⟨r,hr,rfl⟩:=List.mem_map.mp hv
    unfold uF at hr
    obtain⟨pj,eT⟩:=List.mem_filter.mp hr
    obtain⟨k,hk,rfl⟩:=List.mem_map.mp pj
    rw[List.mem_range]at hk
    rw[Bool.and_eq_true,Bool.not_eq_true']at eT
    exact⟨GP h1 hn (by omega) (by omega) eT.1,eT.2,later _⟩
  ·have e:∀v,ys.set i v=ys:=fun v=>List.set_eq_of_length_le (by omega)
   rw[e]
   exact⟨h1,h2,fun j hj pK=>by omega⟩
def kN (ps:List (Int×Int)) (i:Nat):List (List Int):=(List.range i).flatMap fun k=>match ps[k]? with
 |some a=> (ps.drop (k+1)).map (sk a)
 |none=> []
theorem Kh {ps:List (Int×Int)}{i:Nat}{a:Int×Int}(h:ps[i]? =some a):kN ps (i+1)=kN ps i++(ps.drop (i+1)).map (sk a):=by
 unfold kN
 rw[List.range_succ,List.flatMap_append]
 simp[h]
theorem yW:∀ps:List (Int×Int),kN ps ps.length=pk ps
 | []=>rfl
 |a::r=>by
  have ih:=yW r
  unfold kN at ih ⊢
  rw[List.length_cons,List.range_succ_eq_map,List.flatMap_cons,List.flatMap_map]
  unfold pk
  rw[←ih]
  rfl
theorem Ii {xs:List V}{i:Nat}{r:Int}(h:rowAt xs i=some r):dQ xs (i:Int)=some (.int r):=by
 refine YS ?_
 unfold rowAt at h
 cases e:xs[i]? with
 |none=>rw[e]at h;cases h
 |some v=>
  rw[e]at h
  cases v with
  |int y=>have:y=r:=Option.some.inj h;rw[this]
  |_=>cases h
theorem Gp {xs:List V}{q:Int×Int}(h:q∈aE xs):dQ xs q.1=some (.int q.2):=by
 obtain⟨l,hl,hr,e⟩:=Ya.mp h
 rw[e]
 exact Ii hr
theorem Ur {H:Hp}{L:Addr}{zs:List V}{o:HO}(e:H L=some (.lst zs)) {v:V}{k:List Int}(h:cA H v k):cA (upd H L o) v k:=by
 obtain⟨t,rfl,ht⟩:=h
 refine⟨t,rfl,?_⟩
 rw[Zh (fun z=> ?_)]
 ·exact ht
 ·subst z
  rw[e]at ht
  cases ht
theorem rd {H H1:Hp}{L:Addr}{o:HO}(s:ae H H1) (n:H L=none):ae H (upd H1 L o):=fun b u h=>by
 rw[Zh (Zi h n)]
 exact s b u h
theorem JT {α β:Type}{F:α→β→Prop} :∀{a c:List α}{b d:List β},Paired F a b→Paired F c d→Paired F (a++c) (b++d)
 |_,_,_,_,.nil,h=>h
 |_,_,_,_,.cons x y,h=> .cons x (JT y h)
theorem Kn (xs:List V):(aE xs).length≤xs.length:=by
 unfold aE
 refine Nat.le_trans (List.length_filterMap_le _ _) ?_
 rw[List.length_range]
 exact Nat.le_refl _
end
section
variable {P:Program}{w:World}{K:PySem.W.Frag}{mg:Str→Option Value}{base:Heap}
abbrev rQ:Stmt:=top 49
def qP:Sp:=fun vs H Q _=> ∃(a:Addr) (xs:List V),vs=[.ref a]∧H a=some (.tup xs)∧qe xs∧xs.length≤12∧∀(q:Addr) (H':Hp) (ts:List V),ae H H'→H q=none→H' q=some (.lst ts)→Paired (cA H') ts (pk (aE xs))→ts.length≤144→Q (.ref q) H'
abbrev CI:List Str:=["_law_lay_here", "_law_some", "_law_found", "_law_at", "_law_line"]
theorem l5:aV CI ["_law_lay_here"] (aC rQ):=⟨rfl,rfl,rfl,by decide+kernel,rfl,by decide+kernel,by decide+kernel⟩
theorem Cm {f:Addr}{fd:FuncData}(F:aM K "_law_steps" "_law_steps" rQ f fd) (G:Gs mg):aG P w K mg base aH 1 f fd ["_law_lay_here"] qP:=by
 refine F.ok l5 (fun vs H Q E h=> ?_) (fun ao A outer s H vs Q E hr h=> ?_)
 ·obtain⟨a,xs,rfl,_⟩:=h
  rfl
 ·obtain⟨a,xs,rfl,ha,ok,oY,q⟩:=h
  refine⟨_,Zg (Y9 ["_law_line", "_law_lay_here"] 1 [0] (i:=1) l5.nd rfl (Or.inl rfl) (Z0 rfl G.range (Za (Zv ZI rfl G.len boot_len (Za (pv 0) Zb)) Zb)) (fun C s H fp=>pb 0)
    (fun C s H fp=>Yg (YY (Jc (ZG (show km (bj _ _ _ C s H fp) (l9 K) from ZH) (pv 1) (pv 0) (fun _ _=>rfl))))) (fun C s H fp D=>ZE rfl (pv 0)))
   (Zg (ZF (i:=2) l5.nd rfl (Or.inl rfl) (Jn Zb))
   (Zg (YZ PassesOwn.never rfl (KR rfl G.enumerate (Za (pv 1) Zb)) (ZS rfl (Zm (Zz (i:=3) l5.nd rfl (Or.inl rfl)) (Zm (Zz (i:=4) l5.nd rfl (Or.inr rfl)) ZK)))
    (Zk (ZU (yU PySem.F.plainAttrs_list PySem.F.slot_list_extend PySem.F.type_list_extend I0 (pv 2) (Za
     (ZT ["_law_other", "_law_lay_here", "_law_line"] 1 [0,4] (Z9 (Yn zl (pv 1) (YL (Zo ZO (pv 3) Ze)) YM)) (fun C s H fp=>pb 0) (fun C s H fp=>ZZ)
      (fun C s H fp D=>ZE rfl (ZA (Za (Zo ZP (pv 0) (pv 2)) (Za (Zo ZP (ZG (show km (bj _ _ _ C s H fp) (l9 K) from ZH) (pv 1) (pv 0) (fun _ _=>rfl)) (ZG (show km (bj _ _ _ C s H fp) (l9 K) from ZH) (pv 1) (pv 2) (fun _ _=>rfl))) Zb))))) Zb)))))
   (Zk (Zu (pv 2))))),?_⟩
  have CW:=Kn xs
  refine Zn ⟨_,rfl,a,xs,rfl,.inr (af.of ha),_,rfl,by omega,by omega,?_⟩
  refine Y2 (fun k ys σ H1=> ∃v,σ=[v,some (.ref a)]∧ae H H1∧ys=((cC xs k).map (·.1)).map V.int∧ys.length≤k) ⟨_,rfl,ae.refl _,rfl,Nat.zero_le _⟩ ?_ ?_
  ·rintro k ys σ H1 hk ⟨v,rfl,s1,rfl,hlen⟩
   have aQ:k<xs.length:=by omega
   rw[Int.zero_add]
   refine Zq ?_
   dsimp only[List.set]
   obtain⟨v,hv⟩:∃v,xs[k]? =some v:=⟨_,List.getElem?_eq_getElem aQ⟩
   have uj:dQ xs (k:Int)=some v:=YS hv
   refine⟨_,rfl,_,rfl,a,xs,(k:Int),v,rfl,rfl,af.of (s1 _ _ ha),uj,_,rfl,?_⟩
   have er:rowAt xs k=dr v:=by unfold rowAt;rw[hv];rfl
   have es:=ij xs k
   rw[er]at es
   rcases ok v (List.mem_of_getElem? hv) with rfl |⟨r,rfl⟩
   ·refine aw ⟨_,rfl,s1,?_,by omega⟩
    rw[es]
    simp[dr]
   ·refine bf ⟨_,rfl,by rw[sizeLine_eq];omega,⟨_,rfl,s1,?_,by rw[List.length_append];simp at hlen ⊢;omega⟩⟩
    rw[es]
    simp[dr]
  ·rintro ys σ H1 ⟨v,rfl,s1,rfl,hlen⟩ m hm
   have e0:cC xs (Int.toNat (xs.length:Int))=aE xs:=by rw[Int.toNat_natCast];rfl
   have sm:=ZW (o:=.lst (((cC xs (Int.toNat (xs.length:Int))).map (·.1)).map V.int)) hm
   have em:upd H1 m (.lst (((cC xs (Int.toNat (xs.length:Int))).map (·.1)).map V.int)) m=some (.lst (((cC xs (Int.toNat (xs.length:Int))).map (·.1)).map V.int)):=Zd
   generalize upd H1 m (HO.lst (((cC xs (Int.toNat (xs.length:Int))).map (·.1)).map V.int))=H2 at sm em
   rw[e0]at em
   have cP:∀q'∈aE xs,dQ xs q'.1=some (.int q'.2):=fun q' h=>Gp h
   generalize aE xs=ps at em CW q cP
   have nm:H m=none:=s1.free hm
   have wq:=s1.trans sm
   dsimp only[List.set]
   refine Zn (ZD ⟨by show 0≤sizeLine;decide,fun L hL=>Zq ?_⟩)
   dsimp only[List.set]
   have nL:H L=none:=wq.free hL
   have D5:m≠L:=Zi em hL
   have sL:=ZW (o:=.lst []) hL
   have eL:upd H2 L (.lst []) L=some (.lst []):=Zd
   generalize upd H2 L (HO.lst [])=H3 at sL eL
   have oG:=wq.trans sL
   refine Zn ⟨_,rfl,m,rfl,⟨_,ag.of (sL _ _ em)⟩,?_⟩
   refine KN (xs:=(ps.map (·.1)).map V.int) (fun i σ H4=> ∃zs v3 v4,σ=[some (.ref a),some (.ref m),some (.ref L),v3,v4]∧ae H H4∧H4 m=some (.lst ((ps.map (·.1)).map V.int))∧H4 L=some (.lst zs)∧Paired (cA H4) zs (kN ps i)∧zs.length≤i*12) ⟨_,_,_,rfl,oG,sL _ _ em,eL,.nil,Nat.zero_le _⟩ (fun i σ H4 _ ⟨_,_,_,_,_,e,_⟩=>ag.of e) ?_ ?_
   ·rintro i v T σ H4 hv hT ⟨zs,v3,v4,rfl,s4,uK,hG,iV,xQ⟩
    rw[List.getElem?_map,List.getElem?_map]at hv
    obtain⟨z,hz,rfl⟩:=Option.map_eq_some_iff.mp hv
    obtain⟨p0,tJ,rfl⟩:=Option.map_eq_some_iff.mp hz
    have hi:i<ps.length:=(List.getElem?_eq_some_iff.mp tJ).1
    have sT:=ZW (o:=.par [.int (i:Int),.int p0.1]) hT
    refine⟨T,_,rfl,af.me Zd,rfl,_,_,rfl,_,_,rfl,rfl,?_⟩
    generalize upd H4 T (HO.par [V.int (i:Int),V.int p0.1])=H5 at sT
    have E9:=sT _ _ hG
    have E3:=sT _ _ uK
    refine⟨_,rfl,.inl ⟨rfl,_,ag.of E9⟩,?_⟩
    refine⟨_,rfl,_,rfl,_,_,rfl,rfl,_,rfl,m,_,rfl,ag.of E3,fun p6 DT=> ?_⟩
    have Eo:ck ((ps.map (·.1)).map V.int) (some ((i:Int)+1)) none=((ps.drop (i+1)).map (·.1)).map V.int:=by
     rw[uP (by simpa using hi),←List.map_drop,←List.map_drop]
    rw[Eo]
    have s6:=ZW (o:=.lst (((ps.drop (i+1)).map (·.1)).map V.int)) DT
    have e6:upd H5 p6 (.lst (((ps.drop (i+1)).map (·.1)).map V.int)) p6=some (.lst (((ps.drop (i+1)).map (·.1)).map V.int)):=Zd
    generalize upd H5 p6 (HO.lst (((ps.drop (i+1)).map (·.1)).map V.int))=H6 at s6 e6
    refine⟨p6,rfl,⟨_,ag.of e6⟩,?_⟩
    have es:=Kh tJ
    have fV:∀q'∈ps.drop (i+1),dQ xs q'.1=some (.int q'.2):=fun q' h=>cP q' (List.mem_of_mem_drop h)
    have C4:(ps.drop (i+1)).length≤12:=by rw[List.length_drop];omega
    generalize ps.drop (i+1)=rs at e6 es fV C4
    have EA:=(s4.trans (sT.trans s6)) _ _ ha
    have h0:=cP p0 (List.mem_of_getElem? tJ)
    refine Z1 (xs:=(rs.map (·.1)).map V.int) (fun j ys σ H7=> ∃v,σ=[v,some (.ref a),some (.int p0.1)]∧ae H6 H7∧Paired (cA H7) ys ((rs.take j).map (sk p0))∧ys.length≤j) ⟨_,rfl,ae.refl _,.nil,Nat.zero_le _⟩ (fun i ys σ H2 _ ⟨_,_,s2,_⟩=>ag.of (s2 _ _ e6)) ?_ ?_
    ·rintro j v ys σ H7 mF ⟨v0,rfl,s7,md,xP⟩
     rw[List.getElem?_map,List.getElem?_map]at mF
     obtain⟨z,bh,rfl⟩:=Option.map_eq_some_iff.mp mF
     obtain⟨p1,kZ,rfl⟩:=Option.map_eq_some_iff.mp bh
     have hj:j<rs.length:=(List.getElem?_eq_some_iff.mp kZ).1
     have h1:=fV p1 (List.mem_of_getElem? kZ)
     have yl:=af.of (K:=K) (s7 _ _ EA)
     refine Zq ?_
     dsimp only[List.set]
     try unfold qw
     refine bf ?_
     refine⟨_,rfl,_,rfl,_,_,rfl,rfl,_,rfl,_,rfl,a,xs,p1.1,_,rfl,rfl,yl,h1,_,rfl,_,rfl,a,xs,p0.1,_,rfl,rfl,yl,h0,_,_,rfl,rfl,(by show 2≤sizeLine;decide),fun t8 mI=> ⟨by rw[sizeLine_eq];omega,?_⟩⟩
     have s8:=ZW (o:=.tup [.int (p1.1 - p0.1),.int (p1.2 - p0.2)]) mI
     refine⟨_,rfl,s7.trans s8,?_,by rw[List.length_append];simp;omega⟩
     rw[List.take_add_one,kZ,List.map_append]
     exact Paired.snoc (Paired.bT md fun v q' hq=>hq.same s8) ⟨t8,rfl,Zd⟩
    ·rintro ys σ H7 ⟨v0,rfl,s7,md,xP⟩ p8 DS
     rw[List.length_map,List.length_map]at md xP
     rw[List.take_length]at md
     have s8:=ZW (o:=.lst ys) DS
     have e8:upd H7 p8 (.lst ys) p8=some (.lst ys):=Zd
     generalize upd H7 p8 (HO.lst ys)=H8 at s8 e8
     have oE:=sT.trans (s6.trans (s7.trans s8))
     have uM:=oE _ _ hG
     have E2:=oE _ _ uK
     refine⟨L,p8,zs,ys,rfl,rfl,uM,e8,by rw[sizeLine_eq];omega,?_⟩
     refine⟨_,_,_,rfl,rd (s4.trans oE) nL,?_,Zd,?_,by rw[List.length_append];omega⟩
     ·rw[Zh D5]
      exact E2
     ·rw[es]
      exact JT (Paired.bT iV fun v q' hq=>Ur uM (hq.same oE)) (Paired.bT md fun v q' hq=>Ur uM (hq.same s8))
   ·rintro σ H4 ⟨zs,v3,v4,rfl,s4,uK,hG,iV,xQ⟩
    rw[List.length_map,List.length_map]at iV xQ
    rw[yW]at iV
    exact⟨_,rfl,q L H4 zs s4 nL hG iV (by omega)⟩
abbrev oC:Stmt:=top 50
def qO:Sp:=fun vs H Q _=> ∃(a:Addr) (xs:List V),vs=[.ref a]∧H a=some (.tup xs)∧qe xs∧xs.length≤12∧∀(H':Hp),ae H H'→Q (.bl (bK xs)) H'
theorem vY:aV ["_law_lay_here", "_law_some"] ["_law_lay_here"] (aC oC):=⟨rfl,rfl,rfl,by decide+kernel,rfl,by decide+kernel,by decide+kernel⟩
theorem Ck {f:Addr}{fd:FuncData}(F:aM K "_law_unlike" "_law_unlike" oC f fd) (G:Gs mg) (LG:Def P w K mg base 1 "_law_steps" ["_law_lay_here"] qP):aG P w K mg base aH 2 f fd ["_law_lay_here"] qO:=by
 refine F.ok vY (fun vs H Q E h=> ?_) (fun ao A outer s H vs Q E hr h=> ?_)
 ·obtain⟨a,xs,rfl,_⟩:=h
  rfl
 ·obtain⟨a,xs,rfl,ha,ok,oY,q⟩:=h
  have hu:(j7 aH P w K mg base ["_law_lay_here", "_law_some"] "_law_unlike" (aC oC) f ao A outer s H E).mf.A.units+4<cLine:=Nat.lt_of_le_of_lt (Nat.add_le_add_left (by decide:4≤64) _) hr.units
  refine⟨_,Zg (ZF (i:=1) vY.nd rfl (Or.inl rfl) (Zf LG hr (Za (pv 0) Zb)))
   (Zk (Zu (Jb JX (Kf rfl hu rfl G.len rfl G.set (pv 1)) (Zv ZI rfl G.len boot_len (Za (pv 1) Zb)) (bM _)))),?_⟩
  refine Zn (ZD ⟨_,rfl,a,xs,rfl,ha,ok,oY,fun t H1 ts s1 nt e1 pr Mr=>Zq ?_⟩)
  dsimp only[List.set]
  have lk:=Paired.length pr
  refine⟨_,rfl,t,ts,_,rfl,ag.of e1,pr,by omega,_,rfl,t,ts,rfl,.inl (ag.of e1),rfl,?_⟩
  have z:decide (V.int (fR (pk (aE xs)):Int)=V.int (ts.length:Int))=bK xs:=by
   unfold bK
   rw[decide_eq_decide,lk,←GQ]
   constructor
   ·intro h
    injection h with h
    omega
   ·intro h
    rw[h]
  rw[z]
  exact q H1 s1
end
section
theorem UQ {α β:Type}{f g:α→Option β} :∀{l:List α},(∀x∈l,f x=g x)→l.filterMap f=l.filterMap g
 | [],_=>rfl
 |a::l,h=>by
  rw[List.filterMap_cons,List.filterMap_cons,h a List.mem_cons_self,UQ fun x hx=>h x (List.mem_cons_of_mem _ hx)]
theorem HZ (xs:List V) (n:Nat):aE (xs++List.replicate n V.ab)=aE xs:=by
 unfold aE
 rw[List.length_append,List.length_replicate,List.range_add,List.filterMap_append]
 have e2:(((List.range n).map fun x=>xs.length+x).filterMap fun l=> (rowAt (xs++List.replicate n V.ab) l).map fun r=> ((l:Int),r))=[]:=by
  rw[List.filterMap_eq_nil_iff]
  intro l hl
  obtain⟨k,hk,rfl⟩:=List.mem_map.mp hl
  unfold rowAt
  rw[List.getElem?_append_right (by omega),List.getElem?_replicate]
  split<;>rfl
 rw[e2,List.append_nil]
 refine UQ fun l hl=> ?_
 rw[List.mem_range]at hl
 unfold rowAt
 rw[List.getElem?_append_left hl]
theorem zk {x v:V}{t:List V} :∀{fs:List V},(fs++x::t).set fs.length v=fs++v::t
 | []=>rfl
 |a::fs=>by
  show a::(fs++x::t).set fs.length v=_
  rw[zk]
  rfl
abbrev cT (w:Nat) (fs:List V):List V:=fs++List.replicate (w - fs.length) V.ab
theorem KP {w:Nat}{fs:List V}(h:fs.length<w):cT w fs=fs++V.ab::List.replicate (w - (fs.length+1)) V.ab:=by
 unfold cT
 rw[show w - fs.length=(w - (fs.length+1))+1 by omega,List.replicate_succ]
theorem JU {w:Nat}{fs:List V}{v:V}(h:fs.length<w):cT w (fs++[v])=(cT w fs).set fs.length v:=by
 rw[KP h,zk]
 unfold cT
 rw[List.length_append,List.append_assoc]
 rfl
theorem Hr {w:Nat}{fs:List V}{r:Int} :cH (.int r) (cT w fs)=cH (.int r) fs:=by
 unfold cH cT
 rw[List.any_append]
 have:((List.replicate (w - fs.length) V.ab).any fun y=>eY y (.int r))=false:=by
  rw[List.any_eq_false]
  intro x hx
  rw[List.eq_of_mem_replicate hx]
  simp[eY]
 rw[this,Bool.or_false]
theorem KA {w h:Nat}{fs:List V}(hm:cT w fs∈eW w h fs.length) (hi:fs.length<w):cT w (fs++[V.ab])∈eW w h (fs.length+1):=by
 rw[JU hi]
 exact List.mem_flatMap.mpr ⟨_,hm,List.mem_map.mpr ⟨_,List.mem_cons_self,rfl⟩⟩
theorem Kz {w h:Nat}{fs:List V}{r:Int}(hm:cT w fs∈eW w h fs.length) (hi:fs.length<w) (h0:0≤r) (h1:r<h) (hn:cH (.int r) fs=false) (hu:bK (fs++[.int r])=true):cT w (fs++[V.int r])∈eW w h (fs.length+1):=by
 rw[JU hi]
 refine List.mem_flatMap.mpr ⟨_,hm,List.mem_map.mpr ⟨_,List.mem_cons_of_mem _ (List.mem_map_of_mem ?_),rfl⟩⟩
 unfold uF
 refine List.mem_filter.mpr ⟨List.mem_map.mpr ⟨r.toNat,List.mem_range.mpr (by omega),by omega⟩,?_⟩
 rw[Hr,hn,←JU hi]
 have:bK (cT w (fs++[V.int r]))=bK (fs++[V.int r]):=by
  unfold bK cT
  rw[HZ]
 rw[this,hu]
 rfl
theorem Hb {w h:Nat}{fs:List V}{i:Nat}(hm:cT w fs∈eW w h i):qe fs:=fun x hx=> (uH w h i _ hm).1.ok x (List.mem_append_left _ hx)
end
section
variable {P:Program}{w:World}{K:PySem.W.Frag}{mg:Str→Option Value}{base:Heap}
abbrev rW:Stmt:=top 52
def qU:Sp:=fun vs H Q _=> ∃(p b:Addr) (wd hg n:Int),vs=[.ref p,.ref b,.int n]∧cZ H p∧cR H (.ref b) wd hg∧∀(l:Addr) (H':Hp) (xs:List V),bz p H H'→cZ H' p→H' l=some (.tup xs)→l≠p→xs∈eW wd.toNat hg.toNat wd.toNat→Q (.ref l) H'
abbrev CK:List Str:=["_law_state_here", "_law_board", "_law_bare", "_law_found", "_law_line", "_law_first", "_law_none", "_law_rows", "_law_good"]
theorem iQ:aV CK ["_law_state_here", "_law_board", "_law_bare"] (aC rW):=⟨rfl,rfl,rfl,by decide+kernel,rfl,by decide+kernel,by decide+kernel⟩
theorem Cn {f:Addr}{fd:FuncData}(F:aM K "_law_grown" "_law_grown" rW f fd) (G:Gs mg) (jq:Def P w K mg base 1 "_law_take" ["_law_state_here", "_law_many"] lU) (LF:Def P w K mg base 2 "_law_unlike" ["_law_lay_here"] qO):aG P w K mg base aH 3 f fd ["_law_state_here", "_law_board", "_law_bare"] qU:=by
 refine F.ok iQ (fun vs H Q E h=> ?_) (fun ao A outer s H vs Q E hr h=> ?_)
 ·obtain⟨p,b,wd,hg,n,rfl,_⟩:=h
  rfl
 ·obtain⟨p,b,wd,hg,n,rfl,st,bd,q⟩:=h
  have pj:=hr.mono (show 1≤2 by decide)
  refine⟨_,Zg (ZF (i:=3) iQ.nd rfl (Or.inr rfl) (ZA Zb))
   (Zg (YZ PassesOwn.never rfl (Z0 rfl G.range (Za (ZG ZH (pv 1) Ze (fun _ _=>rfl)) Zb)) (Zz (i:=4) iQ.nd rfl (Or.inl rfl))
    (Zg (Yk (ZA (Za (Zf jq pj (Za (pv 0) (Za (ZG ZH (pv 1) Ze (fun _ _=>rfl)) Zb))) (Za (Zf jq pj (Za (pv 0) (Za Ze Zb))) Zb))) (ZS rfl (Zm (Zz (i:=5) iQ.nd rfl (Or.inr rfl)) (Zm (Zz (i:=6) iQ.nd rfl (Or.inl rfl)) ZK))))
    (Zg (Y9 ["_law_k", "_law_board", "_law_first"] 1 [1,5] (i:=7) iQ.nd rfl (Or.inl rfl) (Z0 rfl G.range (Za (ZG ZH (pv 1) Ze (fun _ _=>rfl)) Zb)) (fun C s H fp=>pb 0) (fun C s H fp=>ZZ)
     (fun C s H fp D=>ZE rfl (Zo Yu (Zo ZO (pv 2) (pv 0)) (ZG (show km (bj _ _ _ C s H fp) (l9 K) from ZH) (pv 1) Ze (fun _ _=>rfl)))))
    (Zg (Y9 ["_law_row", "_law_found"] 1 [3] (i:=8) iQ.nd rfl (Or.inl rfl) (Z9 (pv 7)) (fun C s H fp=>pb 0)
     (fun C s H fp=>Yg (PW.pt (vc (Zx (show aY (bj _ _ _ C s H fp) (compareOp .NotIn) (sy K true) from W9) (pv 0) (pv 1) rfl) (W4 (ZX (Zf LF hr (Za (Zo (show aY (bj _ _ _ C s H fp) (binaryOp .Add) (jy K) from jB) (pv 1) (ZA (Za (pv 0) Zb))) Zb))))))) (fun C s H fp D=>ZE rfl (pv 0)))
    (Zk (ZF (i:=3) iQ.nd rfl (Or.inr rfl) (Zo jB (pv 3) (YB (PW.pt (Jz (Zx (G6 hr.qt) (pv 8) (Jn Zb) (bM _)) (YA (Zx UC (pv 6) (pv 2) (bM _))))) (ZA (Za W6 Zb)) (ZA (Za (ZG Z4 (pv 8) Ze (fun _ _=>rfl)) Zb))))))))))
   (Zk (Zu (pv 3)))),?_⟩
  obtain⟨a,e,hb⟩:=Zp bd.1
  cases e
  obtain⟨_,w1,w2,g1,g2⟩:=id bd
  obtain⟨u0,v0,e0,_⟩:=id st
  have yf:b≠p:=YW hb e0 (by intro z;cases z)
  have eH:(hg.toNat:Int)=hg:=by omega
  refine Zn (ZD ⟨Nat.zero_le _,fun f0 ud=>Zq ?_⟩)
  dsimp only[List.set]
  have s0:=ZW (o:=.tup []) ud
  have yF:upd H f0 (.tup []) f0=some (.tup []):=Zd
  generalize upd H f0 (HO.tup [])=H0 at s0 yF
  have dq:=st.same s0
  refine Zn ⟨_,rfl,b,_,_,_,rfl,rfl,af.of (s0 _ _ hb),gz,wd,rfl,by omega,by omega,?_⟩
  refine Yq (n:=wd.toNat) (fun i σ H2=> ∃(fa:Addr) (fs:List V) (x4 x5 x6 x7 x8:Option V),σ=[some (.ref p),some (.ref b),some (.int n),some (.ref fa),x4,x5,x6,x7,x8]∧bz p H H2∧cZ H2 p∧H2 fa=some (.tup fs)∧fs.length=i∧cT wd.toNat fs∈eW wd.toNat hg.toNat i)
   ⟨f0,[],none,none,none,none,none,rfl,s0.x,dq,yF,rfl,by simp[cT,eW]⟩ ?_ ?_
  ·rintro i σ H2 hi ⟨fa,fs,x4,x5,x6,x7,x8,rfl,k2,ai,jd,rfl,hm⟩
   rw[Int.zero_add]
   refine Zq ?_
   dsimp only[List.set]
   have aR:fs.length<wd.toNat:=hi
   have wx:=Hb hm
   have flat:fs.all g9=true:=List.all_eq_true.mpr fun x hx=>by
    rcases wx x hx with z |⟨j,z⟩<;>rw[z]<;>rfl
   have gT:=k2 _ _ hb yf
   refine Zn (ZD ⟨_,rfl,_,rfl,b,_,_,_,rfl,rfl,af.of gT,eC,p,hg,rfl,ai,by omega,by omega,fun c1 o3 _ _ aK=> ⟨_,rfl,p,6,rfl,aK,by decide,by decide,fun c2 o4 _ _ cm=> ⟨(by show 2≤sizeLine;decide),fun tt xw=> ⟨tt,_,rfl,af.of Zd,rfl,_,_,rfl,_,_,rfl,rfl,?_⟩⟩⟩⟩)
   have qp:bz p H2 (upd (upd H2 p o3) p o4):=bz.upd.trans bz.upd
   generalize upd (upd H2 p o3) p o4=H4 at cm qp xw
   have s5:=ZW (o:=.tup [.int c1,.int c2]) xw
   generalize upd H4 tt (HO.tup [V.int c1,V.int c2])=H5 at s5
   have da:=cm.same s5
   have k5:bz p H H5:=k2.trans (qp.trans s5.x)
   obtain⟨uz,vz,ez,_⟩:=id ai
   have uc:fa≠p:=YW jd ez (by intro z;cases z)
   have pL:=s5 _ _ (qp _ _ jd uc)
   have yg:=k5 _ _ hb yf
   dsimp only[List.set]
   refine Zn ⟨_,rfl,b,_,_,_,rfl,rfl,af.of yg,eC,hg,rfl,by omega,by omega,?_⟩
   refine Y2 (fun k ys ah H'=> ∃v rs,ah=[v,some (.ref b),some (.int c1)]∧H'=H5∧ys=rs.map V.int∧(∀r∈rs,0≤r∧r<hg)∧rs.length≤k) ⟨_,[],rfl,rfl,rfl,(fun r h=>by cases h),Nat.zero_le _⟩ ?_ ?_
   ·rintro k ys ah H' hk ⟨v,rs,rfl,rfl,rfl,tE,xN⟩
    refine Zq ?_
    dsimp only[List.set]
    try unfold qw
    refine bf ?_
    refine⟨_,rfl,_,rfl,_,_,rfl,rfl,_,rfl,b,_,_,_,rfl,rfl,af.of yg,eC,_,_,rfl,rfl,by omega,by rw[sizeLine_eq,List.length_map];omega,?_⟩
    refine⟨_,rs++[_],rfl,rfl,by rw[List.map_append];rfl,fun r cg=> ?_,by rw[List.length_append];simp;omega⟩
    rcases List.mem_append.mp cg with z |z
    ·exact tE r z
    ·rw[List.mem_singleton.mp z]
     exact⟨Int.emod_nonneg _ (by omega),Int.emod_lt_of_pos _ (by omega)⟩
   ·rintro ys ah H' ⟨v,rs,rfl,rfl,rfl,tE,xN⟩ L hL
    have s6:=ZW (o:=.lst (rs.map V.int)) hL
    have eL:upd H' L (.lst (rs.map V.int)) L=some (.lst (rs.map V.int)):=Zd
    generalize upd H' L (HO.lst (rs.map V.int))=H6 at s6 eL
    dsimp only[List.set]
    refine Zn ⟨_,rfl,L,rfl,⟨_,ag.of eL⟩,?_⟩
    refine Z1 (xs:=rs.map V.int) (fun j ys ah zW=> ∃v gs,ah=[v,some (.ref fa)]∧ae H6 zW∧ys=gs.map V.int∧(∀r∈gs,0≤r∧r<hg∧cH (.int r) fs=false∧bK (fs++[.int r])=true)∧gs.length≤j) ⟨_,[],rfl,ae.refl _,rfl,(fun r h=>by cases h),Nat.zero_le _⟩ (fun j ys ah zW _ ⟨_,_,_,s',_⟩=>ag.of (s' _ _ eL)) ?_ ?_
    ·rintro j y ys ah H7 hy ⟨v,gs,rfl,s7,rfl,mT,Ea⟩
     rw[List.getElem?_map]at hy
     obtain⟨r,mM,rfl⟩:=Option.map_eq_some_iff.mp hy
     have hj:j<rs.length:=(List.getElem?_eq_some_iff.mp mM).1
     obtain⟨r0,r1⟩:=tE r (List.mem_of_getElem? mM)
     have yc:=s7 _ _ (s6 _ _ pL)
     refine Zq ?_
     dsimp only[List.set]
     refine⟨_,rfl,_,rfl,fa,fs,rfl,.inr (af.of yc),rfl,flat,_,rfl,?_⟩
     cases hn:cH (.int r) fs with
     |true=>exact aw (aw ⟨_,gs,rfl,s7,rfl,mT,by omega⟩)
     |false=>
      refine bf ?_
      refine⟨_,rfl,_,rfl,(by show 1≤sizeLine;decide),fun t8 mI=> ?_⟩
      have s8:=ZW (o:=.tup [.int r]) mI
      have e8:upd H7 t8 (.tup [.int r]) t8=some (.tup [.int r]):=Zd
      generalize upd H7 t8 (HO.tup [V.int r])=H8 at s8 e8
      refine u3 (s8 _ _ yc) e8 (by simp;omega) fun t9 H9 s9 e9=> ?_
      refine⟨t9,_,rfl,e9,fun x hx=> ?_,by rw[List.length_append];simp;omega,fun hW jw=> ⟨_,rfl,?_⟩⟩
      ·rcases List.mem_append.mp hx with z |z
       ·exact wx x z
       ·exact .inr ⟨r,List.mem_singleton.mp z⟩
      have v8:=s7.trans (s8.trans (s9.trans jw))
      cases hu:bK (fs++[.int r]) with
      |true=>
       refine bf ⟨_,rfl,by rw[sizeLine_eq,List.length_map];omega,⟨_,gs++[r],rfl,v8,by rw[List.map_append];rfl,fun r' cg=> ?_,by rw[List.length_append];simp;omega⟩⟩
       rcases List.mem_append.mp cg with z |z
       ·exact mT r' z
       ·rw[List.mem_singleton.mp z]
        exact⟨r0,r1,hn,hu⟩
      |false=>exact aw ⟨_,gs,rfl,v8,rfl,mT,by omega⟩
    ·rintro ys ah H7 ⟨v,gs,rfl,s7,rfl,mT,Ea⟩ M hM
     have s8:=ZW (o:=.lst (gs.map V.int)) hM
     have eM:upd H7 M (.lst (gs.map V.int)) M=some (.lst (gs.map V.int)):=Zd
     generalize upd H7 M (HO.lst (gs.map V.int))=H8 at s8 eM
     dsimp only[List.set]
     have sh:=s6.trans (s7.trans s8)
     have MD:=sh _ _ pL
     refine ZD ⟨_,rfl,_,rfl,by show 0≤sizeLine;decide,fun c hc=> ⟨M,c,_,rfl,rfl,ag.of (ZW hc _ _ eM),ag.of Zd,_,rfl,?_⟩⟩
     have s9:=ZW (o:=.lst []) hc
     generalize upd H8 c (HO.lst [])=H9 at s9
     have wO:∀{hW:Hp},ae H9 hW→∀t,hW t=none→jy K (.ref fa) (.ref t) (upd hW t (.tup [.ab])) fun v H'=>bR 3 v [some (.ref p),some (.ref b),some (.int n),some (.ref fa),some (.int (fs.length:Int)),some (.int c1),some (.int c2),some (.ref L),some (.ref M)] H' fun aU H2=> ∃(fa:Addr) (nk:List V) (x4 x5 x6 x7 x8:Option V),aU=[some (.ref p),some (.ref b),some (.int n),some (.ref fa),x4,x5,x6,x7,x8]∧bz p H H2∧cZ H2 p∧H2 fa=some (.tup nk)∧nk.length=fs.length+1∧cT wd.toNat nk∈eW wd.toNat hg.toNat (fs.length+1):=by
      intro hW jw t ht
      have iS:=ZW (o:=.tup [.ab]) ht
      have jt:=sh.trans (s9.trans (jw.trans iS))
      refine u3 (jt _ _ pL) Zd (by simp;omega) fun t9 lG dM e12=>Zq ?_
      exact⟨t9,_,_,_,_,_,_,rfl,k5.trans (jt.trans dM).x,da.same (jt.trans dM),e12,by simp,KA hm aR⟩
     cases gs with
     |nil=>exact bf ⟨by show 1≤sizeLine;decide,wO (ae.refl _)⟩
     |cons g gs=>
      refine aw ⟨_,rfl,_,rfl,_,_,rfl,rfl,_,rfl,?_⟩
      cases decide (c2<n) with
      |true=>exact bf ⟨by show 1≤sizeLine;decide,wO (ae.refl _)⟩
      |false=>
       refine aw ⟨_,rfl,M,_,0,.int g,rfl,rfl,ag.of (s9 _ _ eM),(YS (j:=0) rfl:dQ (List.map V.int (g::gs)) ((0:Nat):Int)=some (.int g)),by show 1≤sizeLine;decide,fun t ht=> ?_⟩
       have iS:=ZW (o:=.tup [.int g]) ht
       have jt:=sh.trans (s9.trans iS)
       obtain⟨m0,m1,m2,m3⟩:=mT g List.mem_cons_self
       refine u3 (jt _ _ pL) Zd (by simp;omega) fun t9 lG dM e12=>Zq ?_
       exact⟨t9,_,_,_,_,_,_,rfl,k5.trans (jt.trans dM).x,da.same (jt.trans dM),e12,by simp,Kz hm aR m0 (by omega) m2 m3⟩
  ·rintro σ H2 ⟨fa,fs,x4,x5,x6,x7,x8,rfl,k2,ai,jd,Ek,hm⟩
   obtain⟨uz,vz,ez,_⟩:=id ai
   have uc:fa≠p:=YW jd ez (by intro z;cases z)
   have e:cT wd.toNat fs=fs:=by
    unfold cT
    rw[Ek,Nat.sub_self]
    exact List.append_nil _
   rw[e]at hm
   exact⟨_,rfl,q fa H2 fs k2 ai jd uc hm⟩
end
end U.S
namespace U
open PySem L2 PyProof.Rows
def aS (row:Int):V→V
 | .int i=>if i<row then .int i else .int (i+1)
 |v=>v
def putL (xs:List V) (line:Nat) (row:Int):List V:=(xs.map (aS row)).take line++[V.int row]++(xs.map (aS row)).drop line
theorem zH (xs:List V) (line:Nat) (row:Int):(putL xs line row).length=xs.length+1:=by
 unfold putL
 rw[List.length_append,List.length_append,List.length_take,List.length_drop,List.length_map]
 simp
 omega
theorem HM {row i j:Int}(h:aS row (.int i)=aS row (.int j)):i=j:=by
 unfold aS at h
 by_cases h1:i<row<;>by_cases h2:j<row<;>simp only[h1,h2,if_true,if_false]at h<;>have h':=V.int.inj h<;>omega
theorem U5 {i a b:Int} :bq (.int i) a b=true↔a≤i∧i≤b:=by
 show(decide (a≤i)&&decide (i≤b))=true↔_
 rw[Bool.and_eq_true,decide_eq_true_eq,decide_eq_true_eq]
theorem W5 {xs:List V}{wd hg row:Int}{line:Nat}(h:bw wd hg (some xs)=true) (hr:0≤row) (cg:row≤hg) (hl:line≤xs.length):bw (wd+1) (hg+1) (some (putL xs line row))=true:=by
 obtain⟨h1,h2,h3⟩:=Yv.mp h
 have items:∀v∈xs.map (aS row),v=.ab∨∃i:Int,v=.int i∧0≤i∧i≤hg∧i≠row:=fun v hv=>by
  obtain⟨u,hu,rfl⟩:=List.mem_map.mp hv
  rcases ZJ h hu with rfl |⟨i,rfl,i0,i1⟩
  ·exact .inl rfl
  ·refine .inr ?_
   unfold aS
   by_cases z:i<row
   ·exact⟨i,by simp[z],by omega,by omega,by omega⟩
   ·exact⟨i+1,by simp[z],by omega,by omega,by omega⟩
 have pw:(xs.map (aS row)).Pairwise fun a b=>a=b→a=.ab:=by
  rw[List.pairwise_map]
  refine List.Pairwise.imp_of_mem ?_ h3
  intro a b ha hb gU e
  rcases ZJ h ha with rfl |⟨i,rfl,_⟩
  ·rfl
  ·rcases ZJ h hb with rfl |⟨j,rfl,_⟩
   ·rw[e];rfl
   ·have:=HM e
    subst this
    cases gU rfl
 refine Yv.mpr ⟨by rw[zH];omega,fun v hv=> ?_,?_⟩
 ·unfold putL at hv
  have ok:v∈xs.map (aS row)→v=.ab∨bq v 0 (hg+1 - 1)=true:=fun hm=>by
   rcases items v hm with z |⟨i,rfl,i0,i1,_⟩
   ·exact .inl z
   ·exact .inr (U5.mpr ⟨i0,by omega⟩)
  rcases List.mem_append.mp hv with hv |hv
  ·rcases List.mem_append.mp hv with hv |hv
   ·exact ok (List.mem_of_mem_take hv)
   ·rw[List.mem_singleton.mp hv]
    exact .inr (U5.mpr ⟨hr,by omega⟩)
  ·exact ok (List.mem_of_mem_drop hv)
 ·unfold putL
  have sp:((xs.map (aS row)).take line++(xs.map (aS row)).drop line).Pairwise fun a b=>a=b→a=.ab:=by rw[List.take_append_drop];exact pw
  obtain⟨p1,p2,p3⟩:=List.pairwise_append.mp sp
  have nr:∀v∈xs.map (aS row),v≠.int row:=fun v hv z=>by
   rcases items v hv with y |⟨i,y,_,_,ni⟩
   ·rw[y]at z;cases z
   ·rw[y]at z;cases z;exact ni rfl
  refine List.pairwise_append.mpr ⟨List.pairwise_append.mpr ⟨p1,List.pairwise_singleton _ _,fun a ha b hb e=> ?_⟩,p2,fun a ha b hb e=> ?_⟩
  ·rw[List.mem_singleton.mp hb]at e
   exact absurd e (nr a (List.mem_of_mem_take ha))
  ·rcases List.mem_append.mp ha with ha |ha
   ·exact p3 a ha b hb e
   ·rw[List.mem_singleton.mp ha]at e
    exact absurd e.symm (nr b (List.mem_of_mem_drop hb))
section
variable {P:Program}{w:World}{K:PySem.W.Frag}{mg:Str→Option Value}{base:Heap}
abbrev rV:Stmt:=top 36
def oh:Sp:=fun vs H Q _=> ∃(x:V) (wd hg:Int),vs=[x]∧cR H x wd hg∧∀(t:Addr) H',ae H H'→H' t=some (.tup [.int (wd+1),.int (hg+1)])→Q (.ref t) H'
theorem Br:aV ["board"] ["board"] (aC rV):=⟨rfl,rfl,rfl,by decide+kernel,rfl,by decide+kernel,by decide+kernel⟩
theorem F9 {f:Addr}{fd:FuncData}(F:aM K "grown" "grown" rV f fd):aG P w K mg base aH 1 f fd ["board"] oh:=by
 refine F.ok Br (fun vs H Q E h=> ?_) (fun ao A outer s H vs Q E hr h=> ?_)
 ·obtain⟨x,wd,hg,rfl,_⟩:=h
  rfl
 ·obtain⟨x,wd,hg,rfl,bd,q⟩:=h
  obtain⟨a,rfl,ha⟩:=Zp bd.1
  refine⟨_,Zk (Zu (ZA (Za (Zo ZO (ZG ZH (pv 0) Ze (fun _ _=>rfl)) Ze) (Za (Zo ZO (ZG ZH (pv 0) Ze (fun _ _=>rfl)) Ze) Zb)))),?_⟩
  refine⟨_,rfl,a,_,_,_,rfl,rfl,af.of ha,gz,_,_,rfl,rfl,_,rfl,a,_,_,_,rfl,rfl,af.of ha,eC,_,_,rfl,rfl,(by show 2≤sizeLine;decide),fun t ht=> ?_⟩
  exact q t _ (Zl ht) Zd
abbrev rF:Stmt:=top 37
def lV (K:PySem.W.Frag):Sp:=fun vs H Q _=> ∃(x:V) (l:Addr) (xs:List V) (wd hg c:Int),vs=[x,.ref l,.int c]∧bB K H x l xs wd hg∧wd≤11∧hg≤11∧0≤c∧c≤3∧
 ∀(t:Addr) H',ae H H'→H' t=some (.tup (putL xs (bo (wd+1) c).toNat (bb (hg+1) c)))→Q (.ref t) H'
theorem ow:aV ["board", "lay", "corner", "line", "row", "moved"] ["board", "lay", "corner"] (aC rF):=⟨rfl,rfl,rfl,by decide+kernel,rfl,by decide+kernel,by decide+kernel⟩
theorem GI {xs:List V}{k:Nat}(h:k≤xs.length):ck xs none (some (k:Int))=xs.take k:=by
 unfold ck
 rw[HT.l6,HT.l8,List.drop_zero,Nat.sub_zero,Nat.min_eq_left h]
theorem KI {xs:List V}{k:Nat}(h:k≤xs.length):ck xs (some (k:Int)) none=xs.drop k:=by
 unfold ck
 rw[HT.l6,HT.l8,Nat.min_eq_left h]
 exact List.take_of_length_le (by rw[List.length_drop];omega)
theorem Gh {f:Addr}{fd:FuncData}(F:aM K "put_to" "put_to" rF f fd) (G:Gs mg) (D1:Def P w K mg base 7 "need_corner" ["board", "lay", "corner"] (og K)) (LC:Def P w K mg base 1 "need_at_most" ["board", "wide", "high"] S.qM) (vo:Def P w K mg base 1 "grown" ["board"] oh) (D2:Def P w K mg base 1 "corner_point" ["board", "corner"] (oj K)):aG P w K mg base aH 8 f fd ["board", "lay", "corner"] (lV K):=by
 obtain⟨tk,hL⟩:=G.longest
 refine F.ok ow (fun vs H Q E h=> ?_) (fun ao A outer s H vs Q E hr h=> ?_)
 ·obtain⟨x,l,xs,wd,hg,c,rfl,_⟩:=h
  rfl
 ·obtain⟨x,l,xs,wd,hg,c,rfl,la,gE,gY,c0,c3,q⟩:=h
  refine⟨_,Zg (ZU (Zf D1 hr (Za (pv 0) (Za (pv 1) (Za (pv 2) Zb)))))
   (Zg (ZU (Zf LC (hr.mono (by decide)) (Za (pv 0) (Za (Zo ZP (Ja (v:=.int 12) rfl hL ⟨_,rfl⟩) Ze) (Za (Zo ZP (Ja (v:=.int 12) rfl hL ⟨_,rfl⟩) Ze) Zb)))))
   (Zg (Yk (Zf D2 (hr.mono (by decide)) (Za (Zf vo (hr.mono (by decide)) (Za (pv 0) Zb)) (Za (pv 2) Zb))) (ZS rfl (Zm (Zz (i:=3) ow.nd rfl (Or.inl rfl)) (Zm (Zz (i:=4) ow.nd rfl (Or.inr rfl)) ZK))))
   (Zg (ZF (i:=5) ow.nd rfl (Or.inl rfl) (Yc Yl rfl G.tuple boot_tuple (Za (ZT ["at", "row"] 1 [4] (JS (pv 1)) (fun C s H fp=>pb 0) (fun C s H fp=>ZZ)
    (fun C s H fp D=>ZE rfl (YB (PW.pt (Jz (YY (u5 (pv 0))) (YA (Zx UC (pv 0) (pv 1) (bM _))))) (pv 0) (Zo ZO (pv 0) Ze)))) Zb)))
   (Zk (Zu (Zo jB (Zo jB (Yn JI (pv 5) YM (YL (pv 3))) (ZA (Za (pv 4) Zb))) (Yn JI (pv 5) (YL (pv 3)) YM))))))),?_⟩
  obtain⟨a,rfl,ha⟩:=Zp la.bd.1
  obtain⟨_,w1,_,g1,_⟩:=id la.bd
  obtain⟨k0,k1⟩:=Jj (wd:=wd+1) (c:=c) (by omega)
  obtain⟨r0,r1⟩:=Wl (hg:=hg+1) (c:=c) (by omega)
  have ll:=ZV la.ly
  refine Zn ⟨_,rfl,_,rfl,_,rfl,.ref a,l,xs,wd,hg,c,rfl,la,c0,c3,fun H1 s1=> ?_⟩
  dsimp only
  refine Zn ⟨_,rfl,_,_,rfl,rfl,_,_,rfl,rfl,a,wd,hg,11,11,rfl,s1 _ _ ha,gE,gY,?_⟩
  dsimp only
  refine Zn (ZD ⟨_,rfl,.ref a,wd,hg,rfl,la.bd.same s1,fun t2 H2 s2 e2=> ?_⟩)
  refine⟨_,rfl,.ref t2,wd+1,hg+1,c,rfl,⟨Zt e2,by omega,by omega,by omega,by omega⟩,c0,c3,fun t3 H3 s3 e3=> ⟨t3,_,rfl,af.of e3,rfl,_,_,rfl,_,_,rfl,rfl,?_⟩⟩
  dsimp only[List.set]
  have oG:=s1.trans (s2.trans s3)
  have items:∀v∈xs,v=.ab∨∃i:Int,v=.int i∧0≤i∧i<hg:=fun v hv=>ZJ la.ly hv
  unfold putL at q
  generalize bo (wd+1) c=k at *
  generalize bb (hg+1) c=row at *
  have k8:=oG _ _ la.at_
  refine Zn (ZD ⟨_,rfl,l,rfl,⟨xs,af.of k8⟩,?_⟩)
  refine YC (xs:=xs) (fun j ys σ H6=>ys=(xs.take j).map (aS row)∧H6=H3∧∃v,σ=[v,some (.int row)]) ⟨rfl,rfl,none,rfl⟩ (fun j ys σ H6 _ ⟨_,e,_⟩=>by rw[e];exact af.of k8) ?_ ?_
  ·rintro j y ys σ H6 hy ⟨rfl,rfl,v,rfl⟩
   have hj:=(List.getElem?_eq_some_iff.mp hy).1
   have eu:(xs.take (j+1)).map (aS row)=(xs.take j).map (aS row)++[aS row y]:=by
    rw[List.take_add_one,hy,List.map_append]
    rfl
   have fin:∀u,aS row y=u→((xs.take j).map (aS row)).length<sizeLine∧((xs.take j).map (aS row)++[u]=(xs.take (j+1)).map (aS row)∧H6=H6∧∃v,[some y,some (V.int row)]=[v,some (.int row)]):=fun u e=>by
    refine⟨?_,?_,rfl,_,rfl⟩
    ·rw[List.length_map,List.length_take,sizeLine_eq];omega
    ·rw[eu,e]
   rcases items y (List.mem_of_getElem? hy) with rfl |⟨i,rfl,i0,i1⟩
   ·exact⟨_,rfl,_,rfl,bf (bf ⟨_,rfl,fin _ rfl⟩)⟩
   ·refine⟨_,rfl,_,rfl,aw ⟨_,rfl,_,rfl,_,_,rfl,rfl,_,rfl,?_⟩⟩
    by_cases ak:i<row
    ·rw[decide_eq_true ak]
     exact bf ⟨_,rfl,fin _ (by show(if i<row then _ else _)=_;rw[if_pos ak])⟩
    ·rw[decide_eq_false ak]
     exact aw ⟨_,rfl,_,_,rfl,rfl,fin _ (by show(if i<row then _ else _)=_;rw[if_neg ak])⟩
  rintro ys σ H6 ⟨rfl,rfl,v,rfl⟩ L hL
  rw[List.take_length]
  have lm:(xs.map (aS row)).length=xs.length:=List.length_map _
  generalize xs.map (aS row)=ms at lm q hL ⊢
  refine⟨L,_,rfl,.inl ⟨ag.of Zd,fun t4 jK=>Zq ?_⟩⟩
  dsimp only[List.set]
  have s4:=(Zl (o:=.lst ms) hL).trans (Zl (o:=.tup ms) jK)
  have e4:upd (upd H6 L (.lst ms)) t4 (.tup ms) t4=some (.tup ms):=Zd
  generalize upd (upd H6 L (.lst ms)) t4 (HO.tup ms)=H7 at s4 e4
  have ek:k=(k.toNat:Int):=by omega
  have c1:=GI (xs:=ms) (k:=k.toNat) (by omega)
  have c2:ck ms (some (k.toNat:Int)) none=ms.drop k.toNat:=KI (by omega)
  rw[←ek]at c1 c2
  refine⟨_,rfl,_,rfl,_,rfl,t4,_,rfl,e4,fun t5 H8 s5 e5=> ⟨_,rfl,(by show 1≤sizeLine;decide),fun t6 Dz=> ?_⟩⟩
  rw[c1]at e5
  have s6:=Zl (o:=.tup [V.int row]) Dz
  have e6:upd H8 t6 (.tup [V.int row]) t6=some (.tup [V.int row]):=Zd
  generalize upd H8 t6 (HO.tup [V.int row])=H9 at s6 e6
  refine pX (s6 _ _ e5) e6 (by rw[sizeLine_eq,List.length_take];simp;omega) fun t7 hW s7 e7=> ?_
  have v9:=s5.trans (s6.trans s7)
  refine⟨_,rfl,_,rfl,_,rfl,t4,_,rfl,v9 _ _ e4,fun t8 Lz s8 e8=> ?_⟩
  rw[c2]at e8
  refine pX (s8 _ _ e7) e8 (by rw[sizeLine_eq,List.length_append,List.length_take,List.length_drop];simp;omega) fun t9 lG s9 e9=> ?_
  exact q t9 lG (oG.trans (s4.trans (v9.trans (s8.trans s9)))) e9
end
end U
namespace U.S
open PySem L2 PyProof.Rows
theorem mz {wd hg:Int}{xs:List V}(h:bw wd hg (some xs)=true):hV wd hg xs:=by
 have h':(decide ((xs.length:Int)=wd)&&((rowsOf xs).all fun r=>bq r 0 (hg - 1))&&decide (rowsOf xs).Nodup)=true:=h
 simp only[Bool.and_eq_true,decide_eq_true_eq,List.all_eq_true]at h'
 exact⟨h'.1.1,h'.1.2,h'.2⟩
end U.S
namespace U
open PySem L2 PyProof.Rows
def gq (wd hg:Int) (xs:List V) (n:Nat):List Int:=((List.range n).filter fun(c:Nat)=>S.bK (putL xs (bo (wd+1) c).toNat (bb (hg+1) c))).map fun(c:Nat)=> (c:Int)
theorem WN (wd hg:Int) (xs:List V) (n:Nat):gq wd hg xs (n+1)=gq wd hg xs n++(if S.bK (putL xs (bo (wd+1) n).toNat (bb (hg+1) n))=true then [(n:Int)] else []):=by
 unfold gq
 rw[List.range_succ,List.filter_append,List.map_append]
 congr 1
 by_cases h:S.bK (putL xs (bo (wd+1) n).toNat (bb (hg+1) n))=true
 ·simp[h]
 ·simp[h]
theorem UP (wd hg:Int) (xs:List V) (n:Nat):(gq wd hg xs n).length≤n:=by
 unfold gq
 rw[List.length_map]
 exact Nat.le_trans (List.length_filter_le _ _) (by rw[List.length_range];exact Nat.le_refl _)
section
variable {P:Program}{w:World}{K:PySem.W.Frag}{mg:Str→Option Value}{base:Heap}
abbrev rX:Stmt:=top 38
def qV (K:PySem.W.Frag):Sp:=fun vs H Q _=> ∃(x:V) (l:Addr) (xs:List V) (wd hg:Int),vs=[x,.ref l]∧bB K H x l xs wd hg∧S.bK xs=true∧wd≤11∧hg≤11∧∀(L:Addr) H',ae H H'→H L=none→H' L=some (.lst ((gq wd hg xs 4).map V.int))→Q (.ref L) H'
theorem Bs:aV ["board", "lay"] ["board", "lay"] (aC rX):=⟨rfl,rfl,rfl,by decide+kernel,rfl,by decide+kernel,by decide+kernel⟩
theorem Ga {f:Addr}{fd:FuncData}(F:aM K "good_corners" "good_corners" rX f fd) (G:Gs mg) (LB:Def P w K mg base 12 "need_unlike" ["board", "lay"] S.qK) (lI:Def P w K mg base 11 "is_unlike" ["board", "lay"] S.kE) (vo:Def P w K mg base 1 "grown" ["board"] oh) (kq:Def P w K mg base 8 "put_to" ["board", "lay", "corner"] (lV K)):aG P w K mg base aH 13 f fd ["board", "lay"] (qV K):=by
 obtain⟨tk,hL⟩:=G.last
 refine F.ok Bs (fun vs H Q E h=> ?_) (fun ao A outer s H vs Q E hr h=> ?_)
 ·obtain⟨x,l,xs,wd,hg,rfl,_⟩:=h
  rfl
 ·obtain⟨x,l,xs,wd,hg,rfl,la,un,gE,gY,q⟩:=h
  refine⟨_,Zg (ZU (Zf LB hr (Za (pv 0) (Za (pv 1) Zb))))
   (Zk (Zu (ZT ["corner", "board", "lay"] 1 [0,1] (Z0 rfl G.range (Za (Zo ZO (Ja (v:=.int 3) rfl hL ⟨_,rfl⟩) Ze) Zb)) (fun C s H fp=>pb 0)
    (fun C s H fp=>Yg (ZX (Zf lI (hr.mono (by decide)) (Za (Zf vo (hr.mono (by decide)) (Za (pv 1) Zb)) (Za (Zf kq (hr.mono (by decide)) (Za (pv 1) (Za (pv 2) (Za (pv 0) Zb)))) Zb)))))
    (fun C s H fp D=>ZE rfl (pv 0))))),?_⟩
  obtain⟨a,rfl,ha⟩:=Zp la.bd.1
  obtain⟨_,w1,_,g1,_⟩:=id la.bd
  have ll:=ZV la.ly
  refine Zn ⟨_,rfl,_,rfl,.ref a,.ref l,wd,hg,xs,rfl,⟨la.bd,Zt la.at_,S.mz la.ly⟩,un,fun H1 s1=> ?_⟩
  dsimp only
  refine⟨_,_,rfl,rfl,4,rfl,by decide,by decide,?_⟩
  refine Y2 (n:=4) (fun j ys σ H'=> ∃v0,σ=[v0,some (.ref a),some (.ref l)]∧ae H1 H'∧ys=(gq wd hg xs j).map V.int) ⟨_,rfl,ae.refl _,rfl⟩ ?_ ?_
  ·rintro j ys σ H' hj ⟨v0,rfl,s',rfl⟩
   rw[Int.zero_add]
   refine Zq ?_
   dsimp only[List.set]
   have s0:=s1.trans s'
   have eS:bB K H' (.ref a) l xs wd hg:=⟨la.bd.same s0,s0 _ _ la.at_,la.ly⟩
   refine⟨_,rfl,.ref a,wd,hg,rfl,eS.bd,fun t2 H2 s2 e2=> ?_⟩
   refine⟨_,rfl,_,rfl,_,rfl,.ref a,l,xs,wd,hg,(j:Int),rfl,⟨eS.bd.same s2,s2 _ _ eS.at_,la.ly⟩,gE,gY,by omega,by omega,fun t3 H3 s3 e3=> ?_⟩
   obtain⟨k0,k1⟩:=Jj (wd:=wd+1) (c:=(j:Int)) (by omega)
   obtain⟨r0,r1⟩:=Wl (hg:=hg+1) (c:=(j:Int)) (by omega)
   have pl:=W5 (row:=bb (hg+1) j) (line:=(bo (wd+1) j).toNat) la.ly r0 (by omega) (by omega)
   refine⟨.ref t2,.ref t3,wd+1,hg+1,_,rfl,⟨⟨Zt (s3 _ _ e2),by omega,by omega,by omega,by omega⟩,Zt e3,S.mz pl⟩,fun H4 r4 s4 f4=> ⟨_,rfl,?_⟩⟩
   rw[S.lQ f4]
   have sA:=s'.trans (s2.trans (s3.trans s4))
   have gl:=UP wd hg xs j
   by_cases hu:S.bK (putL xs (bo (wd+1) (j:Int)).toNat (bb (hg+1) (j:Int)))=true
   ·rw[hu]
    refine bf ⟨_,rfl,by rw[List.length_map,sizeLine_eq];omega,_,rfl,sA,?_⟩
    rw[WN,if_pos hu,List.map_append]
    rfl
   ·rw[Bool.eq_false_iff.mpr hu]
    refine aw ⟨_,rfl,sA,?_⟩
    rw[WN,if_neg hu,List.append_nil]
  ·rintro ys σ H' ⟨v0,rfl,s',rfl⟩ L ux
   have n0:H L=none:=by
    cases h:H L with
    |none=>rfl
    |some u=>rw[(s1.trans s') _ _ h]at ux;cases ux
   exact q L _ (s1.trans (s'.trans (Zl ux))) n0 Zd
end
theorem HN (row:Int) (v:V):eQ row (aS row v)=v:=by
 cases v with
 |int i=>
  unfold aS
  by_cases h:i<row
  ·simp only[h,if_true]
   show(if i<row then V.int i else V.int (i - 1))=_
   rw[if_pos h]
  ·simp only[h,if_false]
   show(if i+1<row then V.int (i+1) else V.int (i+1 - 1))=_
   rw[if_neg (by omega),Int.add_sub_cancel]
 |_=>rfl
theorem Lg {xs:List V}{line:Nat}{row:Int}(hl:line≤xs.length):nT (putL xs line row) line row=xs:=by
 unfold nT putL
 have lm:(xs.map (aS row)).length=xs.length:=List.length_map _
 have e0:(xs.map (aS row)).map (eQ row)=xs:=by
  rw[List.map_map]
  exact(List.map_congr_left fun v _=>HN row v).trans (List.map_id xs)
 generalize xs.map (aS row)=ms at lm e0
 have e1:(ms.take line++[V.int row]++ms.drop line).take line=ms.take line:=by
  rw[List.append_assoc,List.take_append_of_le_length (by rw[List.length_take];omega),List.take_take,Nat.min_self]
 have e2:(ms.take line++[V.int row]++ms.drop line).drop (line+1)=ms.drop line:=List.drop_left' (by rw[List.length_append,List.length_take];simp;omega)
 rw[e1,e2,List.take_append_drop,e0]
theorem Hh {xs:List V}{line:Nat}{row:Int}(hl:line≤xs.length):(putL xs line row)[line]? =some (.int row):=by
 unfold putL
 have lm:(xs.map (aS row)).length=xs.length:=List.length_map _
 generalize xs.map (aS row)=ms at lm
 have e:(ms.take line).length=line:=by rw[List.length_take];omega
 rw[List.append_assoc,List.getElem?_append_right (by omega),e,Nat.sub_self]
 rfl
theorem Jm (xs:List V):∀n,(cC xs n).length=((xs.take n).filterMap dr).length
 |0=>by rw[List.take_zero];rfl
 |n+1=>by
  rw[ij,List.length_append,Jm xs n,List.take_add_one,List.filterMap_append,List.length_append]
  congr 1
  cases xs[n]? with
  |none=>rfl
  |some v=>cases v<;>rfl
theorem zt (row:Int):∀xs:List V,((xs.map (aS row)).filterMap dr).length=(xs.filterMap dr).length
 | []=>rfl
 |v::xs=>by
  have ih:=zt row xs
  rw[List.map_cons,List.filterMap_cons,List.filterMap_cons]
  cases v with
  |int i=>
   unfold aS
   by_cases h:i<row
   ·simp only[h,if_true]
    exact congrArg (· +1) ih
   ·simp only[h,if_false]
    exact congrArg (· +1) ih
  |_=>exact ih
theorem Kj {xs:List V}{line:Nat}{row:Int} :(aE (putL xs line row)).length=(aE xs).length+1:=by
 rw[Jm,Jm,List.take_length,List.take_length,←zt row xs]
 unfold putL
 generalize xs.map (aS row)=ms
 have e:(ms.filterMap dr).length=((ms.take line).filterMap dr).length+((ms.drop line).filterMap dr).length:=by
  rw[←List.length_append,←List.filterMap_append,List.take_append_drop]
 rw[e,List.filterMap_append,List.filterMap_append,List.length_append,List.length_append]
 show _+1+_=_
 omega
end U
namespace U.S
open PySem L2 PyProof.Rows
theorem vS {xs ys:List V}{dl:Nat}{d:Int}(h:∀i a,i<xs.length→rowAt xs i=some a→rowAt ys (i+dl)=some (a+d)) (hl:xs.length+dl≤ys.length) (u:nF ys):nF xs:=by
 intro p hp q hq s
 obtain⟨l,o,h1,h2,a,b,g1,g2,rfl⟩:=YN.mp hp
 obtain⟨l',o',yu,nj,a',b',EV,pS,rfl⟩:=YN.mp hq
 have m1:=YN.mpr ⟨l+dl,o+dl,by omega,by omega,_,_,h l a (by omega) g1,h o b h2 g2,rfl⟩
 have m2:=YN.mpr ⟨l'+dl,o'+dl,by omega,by omega,_,_,h l' a' (by omega) EV,h o' b' nj pS,rfl⟩
 obtain⟨s1,s2⟩:=s
 have s1:(o:Int) - l=o' - l':=s1
 have s2:b - a=b' - a':=s2
 have z:=u _ m1 _ m2 ⟨by show((o+dl:Nat):Int) - ((l+dl:Nat):Int)=((o'+dl:Nat):Int) - ((l'+dl:Nat):Int);omega,by show b+d - (a+d)=b'+d - (a'+d);omega⟩
 simp only[Prod.mk.injEq]at z ⊢
 omega
end U.S
namespace U
open PySem L2 PyProof.Rows
theorem Ie {xs:List V}{wd hg c:Int}(ly:bw wd hg (some xs)=true) (hw:0≤wd) (u:S.bK (putL xs (bo (wd+1) c).toNat (bb (hg+1) c))=true):S.bK xs=true:=by
 rw[S.vF]at u ⊢
 have hl:=ZV ly
 have lm:(xs.map (aS (bb (hg+1) c))).length=xs.length:=List.length_map _
 have wt:∀i a,S.rowAt xs i=some a→S.rowAt (xs.map (aS (bb (hg+1) c))) i=some (a+(if c%2=0 then 1 else 0)):=fun i a e=>by
  unfold S.rowAt at e ⊢
  rw[List.getElem?_map]
  cases ex:xs[i]? with
  |none=>rw[ex]at e;cases e
  |some v=>
   rw[ex]at e
   cases v with
   |int r=>
    cases e
    rcases ZJ ly (List.mem_of_getElem? ex) with z |⟨i,z,i0,i1⟩
    ·cases z
    ·cases z
     show(match aS (bb (hg+1) c) (.int a) with | .int r=>some r |_=>none)=_
     unfold aS bb
     by_cases hc:c%2=0
     ·simp only[hc,if_true]
      rw[if_neg (by omega)]
     ·simp only[hc,if_false]
      rw[if_pos (by omega),Int.add_zero]
   |_=>cases e
 have pl:=zH xs (bo (wd+1) c).toNat (bb (hg+1) c)
 unfold putL at u pl
 generalize xs.map (aS (bb (hg+1) c))=ms at *
 unfold bo at u pl
 by_cases hc:c<2
 ·rw[if_pos hc]at u pl
  refine S.vS (dl:=1) (d:=if c%2=0 then 1 else 0) (fun i a hi e=> ?_) (by omega) u
  have:=wt i a e
  show(([]++[V.int (bb (hg+1) c)]++ms)[i+1]?).bind _=_
  exact this
 ·rw[if_neg hc]at u pl
  refine S.vS (dl:=0) (d:=if c%2=0 then 1 else 0) (fun i a hi e=> ?_) (by omega) u
  have:=wt i a e
  unfold S.rowAt at this ⊢
  rw[List.append_assoc,List.getElem?_append_left (by rw[List.length_take];omega),List.getElem?_take_of_lt (by omega)]
  exact this
def fk (g:Int→Int):V→V
 | .int i=> .int (g i)
 |v=>v
theorem GS (v:V):fk (fun x=>x) v=v:=by cases v<;>rfl
theorem u7 {xs:List V}(hx:∀v∈xs,v=.ab∨∃i:Int,v=.int i) {φ g:Int→Int}(inj:∀a b,φ a=φ b→a=b) {j:Nat}(hj:j<xs.length):∀n,eP ((cC xs n).map fun x=> (φ x.1,g x.2)) (φ j)=if j<n then fk g xs[j] else .ab
 |0=>by rw[if_neg (Nat.not_lt_zero _)];rfl
 |n+1=>by
  have ih:=u7 hx inj hj (g:=g) n
  rw[ij,List.map_append]
  cases e:xs[n]? with
  |none=>
   have:=List.getElem?_eq_none_iff.mp e
   rw[if_pos (by omega)]at ih ⊢
   show eP (_++[]) _=_
   rw[List.append_nil,ih]
  |some v=>
   obtain⟨hn,ev⟩:=List.getElem?_eq_some_iff.mp e
   rcases hx v (List.mem_of_getElem? e) with rfl |⟨i,rfl⟩
   ·show eP (_++[]) _=_
    rw[List.append_nil,ih]
    by_cases h:j<n
    ·rw[if_pos h,if_pos (by omega)]
    ·rw[if_neg h]
     by_cases h':j=n
     ·subst h'
      rw[if_pos (by omega),ev]
      rfl
     ·rw[if_neg (by omega)]
   ·show eP (_++[(φ n,g i)]) _=_
    rw[Uz]
    by_cases h':j=n
    ·subst h'
     rw[if_pos rfl,if_pos (by omega),ev]
     rfl
    ·rw[if_neg (fun z=>h' (by have:=inj _ _ z;omega)),ih]
     by_cases h:j<n
     ·rw[if_pos h,if_pos (by omega)]
     ·rw[if_neg h,if_neg (by omega)]
theorem Wc {xs:List V}{wd hg:Int}(ly:bw wd hg (some xs)=true):∀v∈xs,v=.ab∨∃i:Int,v=.int i:=fun v hv=>by
 rcases ZJ ly hv with z |⟨i,z,_⟩
 ·exact .inl z
 ·exact .inr ⟨i,z⟩
theorem Ys {xs:List V}{wd hg:Int}(ly:bw wd hg (some xs)=true):lS wd hg (false,true,false) xs=xs.reverse:=by
 have hl:=ZV ly
 refine List.ext_getElem? fun k=> ?_
 by_cases hk:k<xs.length
 ·rw[List.getElem?_reverse hk,show lS wd hg (false,true,false) xs=cO wd.toNat ((aE xs).map fun x=> (wd - 1 - x.1,x.2)) from rfl,YF (by omega),List.getElem?_eq_getElem (by omega)]
  have:=u7 (Wc ly) (φ:=fun x=>wd - 1 - x) (g:=fun x=>x) (fun a b h=>by have:wd - 1 - a=wd - 1 - b:=h;omega) (j:=xs.length - 1 - k) (by omega) xs.length
  rw[if_pos (by omega),GS]at this
  rw[←this]
  congr 2
  show(k:Int)=wd - 1 - ((xs.length - 1 - k:Nat):Int)
  omega
 ·rw[List.getElem?_eq_none (by rw[Yd];show wd.toNat≤k;omega),List.getElem?_eq_none (by rw[List.length_reverse];omega)]
theorem Yy {xs:List V}{wd hg:Int}(ly:bw wd hg (some xs)=true):lS wd hg (false,false,true) xs=xs.map (fk fun r=>hg - 1 - r):=by
 have hl:=ZV ly
 refine List.ext_getElem? fun k=> ?_
 by_cases hk:k<xs.length
 ·rw[List.getElem?_map,show lS wd hg (false,false,true) xs=cO wd.toNat ((aE xs).map fun x=> (x.1,hg - 1 - x.2)) from rfl,YF (by omega),List.getElem?_eq_getElem hk]
  have:=u7 (Wc ly) (φ:=fun x=>x) (g:=fun r=>hg - 1 - r) (fun a b h=>h) (j:=k) hk xs.length
  rw[if_pos hk]at this
  rw[Option.map_some,←this]
 ·rw[List.getElem?_eq_none (by rw[Yd];show wd.toNat≤k;omega),List.getElem?_eq_none (by rw[List.length_map];omega)]
theorem zw {xs:List V}{wd hg:Int}(ly:bw wd hg (some xs)=true):bw wd hg (some xs.reverse)=true:=by
 obtain⟨h1,h2,h3⟩:=Yv.mp ly
 refine Yv.mpr ⟨by rw[List.length_reverse];exact h1,fun v hv=>h2 v (List.mem_reverse.mp hv),?_⟩
 rw[List.pairwise_reverse]
 exact h3.imp fun {a b} h e=>e.trans (h e.symm)
theorem UJ {xs:List V}{wd hg:Int}(ly:bw wd hg (some xs)=true):bw wd hg (some (xs.map (fk fun r=>hg - 1 - r)))=true:=by
 obtain⟨h1,h2,h3⟩:=Yv.mp ly
 refine Yv.mpr ⟨by rw[List.length_map];exact h1,fun v hv=> ?_,?_⟩
 ·obtain⟨u,hu,rfl⟩:=List.mem_map.mp hv
  rcases ZJ ly hu with rfl |⟨i,rfl,i0,i1⟩
  ·exact .inl rfl
  ·exact .inr (U5.mpr ⟨by show 0≤hg - 1 - i;omega,by show hg - 1 - i≤hg - 1;omega⟩)
 ·rw[List.pairwise_map]
  refine List.Pairwise.imp_of_mem ?_ h3
  intro a b ha hb gU e
  rcases ZJ ly ha with rfl |⟨i,rfl,_⟩
  ·rfl
  ·rcases ZJ ly hb with rfl |⟨j,rfl,_⟩
   ·cases e
   ·have e':hg - 1 - i=hg - 1 - j:=V.int.inj e
    cases gU (by congr 1;omega)
theorem Ib {xs:List V}{line:Nat}{row:Int}(hl:line≤xs.length):(putL xs line row).reverse=putL xs.reverse (xs.length - line) row:=by
 unfold putL
 have lm:(xs.map (aS row)).length=xs.length:=List.length_map _
 rw[List.map_reverse]
 generalize xs.map (aS row)=ms at lm
 rw[List.reverse_append,List.reverse_append,List.take_reverse,List.drop_reverse,lm,show xs.length - (xs.length - line)=line by omega,List.append_assoc]
 rfl
theorem KL (hg row:Int) (v:V):fk (fun r=>hg - r) (aS row v)=aS (hg - row) (fk (fun r=>hg - 1 - r) v):=by
 cases v with
 |int i=>
  show _=(if hg - 1 - i<hg - row then V.int (hg - 1 - i) else V.int (hg - 1 - i+1))
  unfold aS
  by_cases h:i<row
  ·simp only[h,if_true]
   rw[if_neg (by omega)]
   show V.int (hg - i)=_
   congr 1
   omega
  ·simp only[h,if_false]
   rw[if_pos (by omega)]
   show V.int (hg - (i+1))=_
   congr 1
   omega
 |_=>rfl
theorem Ko {xs:List V}{line:Nat}{row hg:Int} :(putL xs line row).map (fk fun r=>hg - r)=putL (xs.map (fk fun r=>hg - 1 - r)) line (hg - row):=by
 unfold putL
 have e:(xs.map (aS row)).map (fk fun r=>hg - r)=(xs.map (fk fun r=>hg - 1 - r)).map (aS (hg - row)):=by
  rw[List.map_map,List.map_map]
  exact List.map_congr_left fun v _=>KL hg row v
 rw[←e,List.map_append,List.map_append,List.map_take,List.map_drop]
 rfl
theorem Kk {xs:List V}{wd hg c:Int}(ly:bw wd hg (some xs)=true) (hw:1≤wd) (c0:0≤c) (c3:c≤3):
  (putL xs (bo (wd+1) c).toNat (bb (hg+1) c)).reverse=putL xs.reverse (bo (wd+1) ((c+2)%4)).toNat (bb (hg+1) ((c+2)%4)):=by
 have hl:=ZV ly
 have e1:bb (hg+1) ((c+2)%4)=bb (hg+1) c:=by
  unfold bb
  rw[show(c+2)%4%2=c%2 by omega]
 have e2:xs.length - (bo (wd+1) c).toNat=(bo (wd+1) ((c+2)%4)).toNat:=by
  unfold bo
  split<;>split<;>omega
 rw[Ib (by unfold bo;split<;>omega),e1,e2]
theorem Kq {xs:List V}{wd hg c:Int}(hh:1≤hg) (c0:0≤c) (c3:c≤3):
  (putL xs (bo (wd+1) c).toNat (bb (hg+1) c)).map (fk fun r=>hg+1 - 1 - r)=putL (xs.map (fk fun r=>hg - 1 - r)) (bo (wd+1) (c+1 - 2*(c%2))).toNat (bb (hg+1) (c+1 - 2*(c%2))):=by
 have e1:bb (hg+1) (c+1 - 2*(c%2))=hg - bb (hg+1) c:=by
  unfold bb
  split<;>split<;>omega
 have e2:bo (wd+1) (c+1 - 2*(c%2))=bo (wd+1) c:=by
  unfold bo
  split<;>split<;>omega
 rw[e1,e2,←Ko]
 congr 2
 funext r
 omega
theorem Uf {xs:List V}{wd hg:Int}(ly:bw wd hg (some xs)=true):xs.all jD=true:=List.all_eq_true.mpr fun v hv=>by
 rcases Wc ly v hv with rfl |⟨i,rfl⟩<;>rfl
section
variable {P:Program}{w:World}{K:PySem.W.Frag}{mg:Str→Option Value}{base:Heap}
abbrev rA:Stmt:=top 53
def qD (K:PySem.W.Frag):Sp:=fun vs H Q _=> ∃(b l:Addr) (xs:List V) (wd hg:Int),vs=[.ref b,.ref l]∧bB K H (.ref b) l xs wd hg∧wd≤11∧hg≤11∧∀H',ae H H'→Q (.bl true) H'
abbrev CG:List Str:=["_law_board", "_law_lay_here", "_law_wide", "_law_corner", "_law_there", "_law_flat", "_law_high"]
theorem kH:aV CG ["_law_board", "_law_lay_here"] (aC rA):=⟨rfl,rfl,rfl,by decide+kernel,rfl,by decide+kernel,by decide+kernel⟩
theorem G5 {f:Addr}{fd:FuncData}(F:aM K "_law_there_and_back" "_law_there_and_back" rA f fd) (G:Gs mg) (kq:Def P w K mg base 8 "put_to" ["board", "lay", "corner"] (lV K)) (LD:Def P w K mg base 5 "is_lay" ["board", "thing"] (lZ K)) (jq:Def P w K mg base 8 "taken" ["board", "lay", "corner"] (qC K))
  (zY:Def P w K mg base 7 "points" ["board", "lay"] (iN K)) (lI:Def P w K mg base 11 "is_unlike" ["board", "lay"] S.kE) (qk:Def P w K mg base 8 "turned" ["board", "lay", "turn"] (qB K)):aG P w K mg base aH 12 f fd ["_law_board", "_law_lay_here"] (qD K):=by
 refine F.ok kH (fun vs H Q E h=> ?_) (fun ao A outer s H vs Q E hr h=> ?_)
 ·obtain⟨b,l,xs,wd,hg,rfl,_⟩:=h
  rfl
 ·obtain⟨b,l,xs,wd,hg,rfl,la,gE,gY,q⟩:=h
  have hu:=Nat.lt_of_succ_lt (uX hr)
  refine⟨_,Zg (ZF (i:=2) kH.nd rfl (Or.inl rfl) (ZA (Za (Zo ZO (ZG ZH (pv 0) Ze (fun _ _=>rfl)) Ze) (Za (Zo ZO (ZG ZH (pv 0) Ze (fun _ _=>rfl)) Ze) Zb))))
   (Zg (YZ PassesOwn.never rfl (Z0 rfl G.range (Za Ze Zb)) (Zz (i:=3) kH.nd rfl (Or.inl rfl))
    (Zg (ZF (i:=4) kH.nd rfl (Or.inl rfl) (Zf kq (hr.mono (by decide)) (Za (pv 0) (Za (pv 1) (Za (pv 3) Zb)))))
    (Zg (ZR (PW.pt (Jz (Zx ID (Zf LD (hr.mono (by decide)) (Za (pv 2) (Za (pv 4) Zb))) qa (bM _)) (YA (Zx (Ua hu) (Zf jq (hr.mono (by decide)) (Za (pv 2) (Za (pv 4) (Za (pv 3) Zb)))) (pv 1) (bM _))))) Zw Zy)
    (Zg (ZR (Zx uZ (Zv ZI rfl G.len boot_len (Za (Zf zY (hr.mono (by decide)) (Za (pv 2) (Za (pv 4) Zb))) Zb)) (Zo ZO (Zv ZI rfl G.len boot_len (Za (Zf zY (hr.mono (by decide)) (Za (pv 0) (Za (pv 1) Zb))) Zb)) Ze) (bM _)) Zw Zy)
    (Zg (ZR (PW.pt (vc (ZX (Zf lI (hr.mono (by decide)) (Za (pv 2) (Za (pv 4) Zb)))) (W4 (Z5 (ZX (Zf lI (hr.mono (by decide)) (Za (pv 0) (Za (pv 1) Zb)))))))) Zw Zy)
    (Zg (ZF (i:=5) kH.nd rfl (Or.inl rfl) (Zf kq (hr.mono (by decide)) (Za (pv 0) (Za (Zf qk (hr.mono (by decide)) (Za (pv 0) (Za (pv 1) (Za (ZA (Za Ze (Za Ze (Za Ze Zb)))) Zb)))) (Za (Zo Yu (Zo ZO (pv 3) Ze) Ze) Zb)))))
    (Zg (ZR (Zx (Ua hu) (Zf qk (hr.mono (by decide)) (Za (pv 2) (Za (pv 4) (Za (ZA (Za Ze (Za Ze (Za Ze Zb)))) Zb)))) (pv 5) (bM _)) Zw Zy)
    (Zg (ZF (i:=6) kH.nd rfl (Or.inl rfl) (Zf kq (hr.mono (by decide)) (Za (pv 0) (Za (Zf qk (hr.mono (by decide)) (Za (pv 0) (Za (pv 1) (Za (ZA (Za Ze (Za Ze (Za Ze Zb)))) Zb)))) (Za (Zo ZP (Zo ZO (pv 3) Ze) (Zo Jp Ze (Zo Yu (pv 3) Ze))) Zb)))))
    (Zk (ZR (Zx (Ua hu) (Zf qk (hr.mono (by decide)) (Za (pv 2) (Za (pv 4) (Za (ZA (Za Ze (Za Ze (Za Ze Zb)))) Zb)))) (pv 6) (bM _)) Zw Zy))))))))))
   (Zk (Zu qa))),?_⟩
  obtain⟨b',eb,hb⟩:=Zp la.bd.1
  cases eb
  obtain⟨_,w1,_,g1,_⟩:=id la.bd
  have ll:=ZV la.ly
  refine Zn (ZD ⟨_,rfl,b,_,_,_,rfl,rfl,af.of hb,gz,_,_,rfl,rfl,_,rfl,b,_,_,_,rfl,rfl,af.of hb,eC,_,_,rfl,rfl,(by show 2≤sizeLine;decide),fun t ht=>Zq ?_⟩)
  dsimp only[List.set]
  have s0:=Zl (o:=.tup [V.int (wd+1),V.int (hg+1)]) ht
  have e0:upd H t (.tup [V.int (wd+1),V.int (hg+1)]) t=some (.tup [V.int (wd+1),V.int (hg+1)]):=Zd
  generalize upd H t (HO.tup [V.int (wd+1),V.int (hg+1)])=H0 at s0 e0
  refine Zn ⟨4,rfl,by decide,by decide,?_⟩
  refine Yq (n:=4) (fun i σ H'=> ∃o3 o4 o5 o6,σ=[some (.ref b),some (.ref l),some (.ref t),o3,o4,o5,o6]∧ae H0 H') ⟨_,_,_,_,rfl,ae.refl _⟩ ?_ ?_
  ·rintro i σ H1 hi ⟨o3,o4,o5,o6,rfl,s1⟩
   rw[Int.zero_add]
   refine Zq ?_
   dsimp only[List.set]
   have eS:∀{H'},ae H1 H'→bB K H' (.ref b) l xs wd hg:=fun s'=>la.same (s0.trans (s1.trans s'))
   obtain⟨k0,k1⟩:=Jj (wd:=wd+1) (c:=(i:Int)) (by omega)
   obtain⟨r0,r1⟩:=Wl (hg:=hg+1) (c:=(i:Int)) (by omega)
   refine Zn (ZD ⟨_,rfl,_,rfl,_,rfl,.ref b,l,xs,wd,hg,(i:Int),rfl,eS (ae.refl _),gE,gY,by omega,by omega,fun p H2 s2 e2=>Zq ?_⟩)
   dsimp only[List.set]
   have fN:=W5 (row:=bb (hg+1) i) (line:=(bo (wd+1) i).toNat) la.ly r0 (by omega) (by omega)
   have tk:=Lg (xs:=xs) (row:=bb (hg+1) i) (line:=(bo (wd+1) i).toNat) (by omega)
   have hc:zU (putL xs (bo (wd+1) i).toNat (bb (hg+1) i)) (wd+1) (hg+1) i:=Hh (by omega)
   have pc:=Kj (xs:=xs) (row:=bb (hg+1) i) (line:=(bo (wd+1) i).toNat)
   have pu:=Ie (c:=(i:Int)) la.ly (by omega)
   have t1:=Ys fN
   rw[Kk la.ly w1 (by omega) (by omega)]at t1
   have t2:=Yy fN
   rw[Kq g1 (by omega) (by omega)]at t2
   generalize putL xs (bo (wd+1) i).toNat (bb (hg+1) i)=ys at *
   have lw:∀{H'},ae H2 H'→bB K H' (.ref t) p ys (wd+1) (hg+1):=fun s'=> ⟨⟨Zt ((s1.trans (s2.trans s')) _ _ e0),by omega,by omega,by omega,by omega⟩,s' _ _ e2,fN⟩
   refine Zn ⟨_,rfl,_,rfl,.ref t,.ref p,wd+1,hg+1,rfl,(lw (ae.refl _)).bd,(lw (ae.refl _)).pl,fun H3 s3=> ⟨_,_,rfl,rfl,?_⟩⟩
   rw[Zt e2,fN]
   refine⟨_,rfl,aw ⟨_,rfl,_,rfl,_,rfl,.ref t,p,ys,wd+1,hg+1,(i:Int),rfl,lw s3,by omega,by omega,hc,by omega,by omega,fun u4 H4 s4 e4=> ?_⟩⟩
   rw[tk]at e4
   have kL:=s2.trans (s3.trans s4)
   refine⟨_,rfl,u4,l,_,_,rfl,rfl,e4,(eS kL).at_,Uf la.ly,Uf la.ly,?_⟩
   rw[decide_eq_true rfl]
   refine⟨_,rfl,aw (ZM ?_)⟩
   dsimp only
   have wb:=s3.trans s4
   refine Zn ⟨_,rfl,_,rfl,.ref t,p,ys,wd+1,hg+1,rfl,lw wb,fun L5 H5 wA s5 e5 Ca=> ⟨L5,wA,rfl,.inl (ag.of e5),_,rfl,_,rfl,.ref b,l,xs,wd,hg,rfl,eS (kL.trans s5),fun L6 H6 wz s6 e6 B8=> ⟨L6,wz,rfl,.inl (ag.of e6),_,_,rfl,rfl,rfl,?_⟩⟩⟩
   have lp:decide (V.int (wA.length:Int)=V.int ((wz.length:Int)+1))=true:=by
    rw[Paired.length Ca,Paired.length B8,pc]
    exact decide_eq_true rfl
   rw[lp]
   refine⟨_,rfl,aw (ZM ?_)⟩
   dsimp only
   have sr:=wb.trans (s5.trans s6)
   have iR:=kL.trans (s5.trans s6)
   refine Y6 (fun σ H'=>σ=[some (.ref b),some (.ref l),some (.ref t),some (.int i),some (.ref p),o5,o6]∧ae H6 H') ?_ fun D' hD=> ?_
   ·rintro σ H7 ⟨rfl,s7⟩
    have BI:=iR.trans s7
    have BG:=sr.trans s7
    refine Zn (ZD ⟨_,rfl,_,rfl,_,rfl,(by show 3≤sizeLine;decide),fun t8 mI=> ?_⟩)
    have s8:=Zl (o:=.tup [V.int 0,V.int 1,V.int 0]) mI
    have e8:upd H7 t8 (.tup [V.int 0,V.int 1,V.int 0]) t8=some (.tup (tv (false,true,false))):=Zd
    generalize upd H7 t8 (HO.tup [V.int 0,V.int 1,V.int 0])=H8 at s8 e8
    have wj:=BI.trans s8
    refine⟨b,l,t8,xs,wd,hg,(false,true,false),rfl,eS wj,e8,fun u9 H9 s9 e9=> ?_⟩
    rw[Ys la.ly]at e9
    have BH:=wj.trans s9
    refine⟨_,rfl,_,_,rfl,rfl,_,_,rfl,rfl,(by show(0:Int)<4;decide),.ref b,u9,xs.reverse,wd,hg,((i:Int)+2)%4,rfl,⟨(eS BH).bd,e9,zw la.ly⟩,gE,gY,by omega,by omega,fun fl hW jw e10=>Zq ?_⟩
    dsimp only[List.set]
    have wg:=BG.trans (s8.trans (s9.trans jw))
    refine Zn ⟨_,rfl,_,rfl,(by show 3≤sizeLine;decide),fun nZ DE=> ?_⟩
    have iS:=Zl (o:=.tup [V.int 0,V.int 1,V.int 0]) DE
    have e11:upd hW nZ (.tup [V.int 0,V.int 1,V.int 0]) nZ=some (.tup (tv (false,true,false))):=Zd
    generalize upd hW nZ (HO.tup [V.int 0,V.int 1,V.int 0])=Lz at iS e11
    refine⟨t,p,nZ,ys,wd+1,hg+1,(false,true,false),rfl,lw (wg.trans iS),e11,fun Ao lG dM e12=> ?_⟩
    rw[t1]at e12
    have n1:=Uf (zw fN)
    rw[←Ys fN,t1]at n1
    refine⟨_,rfl,Ao,fl,_,_,rfl,rfl,e12,(iS.trans dM) _ _ e10,n1,n1,?_⟩
    rw[decide_eq_true rfl]
    refine⟨_,rfl,aw (ZM ?_)⟩
    dsimp only
    have we:=wg.trans (iS.trans dM)
    have wo:=s2.trans we
    refine Zn (ZD ⟨_,rfl,_,rfl,_,rfl,(by show 3≤sizeLine;decide),fun nY DD=> ?_⟩)
    have oF:=Zl (o:=.tup [V.int 0,V.int 0,V.int 1]) DD
    have e13:upd lG nY (.tup [V.int 0,V.int 0,V.int 1]) nY=some (.tup (tv (false,false,true))):=Zd
    generalize upd lG nY (HO.tup [V.int 0,V.int 0,V.int 1])=MN at oF e13
    refine⟨b,l,nY,xs,wd,hg,(false,false,true),rfl,eS (wo.trans oF),e13,fun An MM wm e14=> ?_⟩
    rw[Yy la.ly]at e14
    refine⟨_,rfl,_,_,rfl,rfl,_,rfl,_,_,rfl,rfl,(by show(0:Int)<2;decide),_,_,rfl,rfl,.inl ⟨by omega,by omega⟩,_,_,rfl,rfl,.ref b,An,_,wd,hg,(i:Int)+1 - 2*((i:Int)%2),rfl,⟨(eS (wo.trans (oF.trans wm))).bd,e14,UJ la.ly⟩,gE,gY,by omega,by omega,fun hi zV BJ e15=>Zq ?_⟩
    dsimp only[List.set]
    have wc:=we.trans (oF.trans (wm.trans BJ))
    refine⟨_,rfl,_,rfl,(by show 3≤sizeLine;decide),fun nX DC=> ?_⟩
    have iR:=Zl (o:=.tup [V.int 0,V.int 0,V.int 1]) DC
    have e16:upd zV nX (.tup [V.int 0,V.int 0,V.int 1]) nX=some (.tup (tv (false,false,true))):=Zd
    generalize upd zV nX (HO.tup [V.int 0,V.int 0,V.int 1])=ML at iR e16
    refine⟨t,p,nX,ys,wd+1,hg+1,(false,false,true),rfl,lw (wc.trans iR),e16,fun Am MK wk e17=> ?_⟩
    rw[t2]at e17
    have n2:=Uf (UJ fN)
    rw[←Yy fN,t2]at n2
    refine⟨_,rfl,Am,hi,_,_,rfl,rfl,e17,(iR.trans wk) _ _ e15,n2,n2,?_⟩
    rw[decide_eq_true rfl]
    exact⟨_,rfl,aw (ZM ⟨_,_,_,_,rfl,s1.trans (s2.trans (wc.trans (iR.trans wk)))⟩)⟩
   ·refine⟨_,rfl,_,rfl,.ref t,.ref p,wd+1,hg+1,ys,rfl,⟨(lw sr).bd,Zt (lw sr).at_,S.mz fN⟩,fun H7 r7 s7 f7=> ⟨_,rfl,?_⟩⟩
    rw[S.lQ f7]
    cases hy:S.bK ys with
    |false=>exact aw (aw (ZM (hD _ _ ⟨rfl,s7⟩)))
    |true=>
     refine bf ⟨_,rfl,_,rfl,.ref b,.ref l,wd,hg,xs,rfl,⟨(eS (iR.trans s7)).bd,Zt (eS (iR.trans s7)).at_,S.mz la.ly⟩,fun H8 r8 s8 f8=> ⟨_,rfl,?_⟩⟩
     rw[S.lQ f8,pu hy]
     exact aw (ZM (hD _ _ ⟨rfl,s7.trans s8⟩))
  ·rintro σ H' ⟨o3,o4,o5,o6,rfl,s1⟩
   exact q H' (s0.trans s1)
end
theorem GJ (c:Int) (ns:List Int):cH (.int c) (ns.map V.int)=decide (c∈ns):=by
 unfold cH
 rw[Bool.eq_iff_iff,List.any_eq_true,decide_eq_true_eq]
 constructor
 ·rintro⟨y,hy,e⟩
  obtain⟨n,hn,rfl⟩:=List.mem_map.mp hy
  have:n=c:=by simpa[eY] using e
  exact this▸hn
 ·intro h
  exact⟨_,List.mem_map_of_mem h,by simp[eY]⟩
theorem HC {wd hg:Int}{xs:List V}{c n:Nat}(h:c<n):decide ((c:Int)∈gq wd hg xs n)=S.bK (putL xs (bo (wd+1) c).toNat (bb (hg+1) c)):=by
 rw[Bool.eq_iff_iff,decide_eq_true_eq]
 unfold gq
 constructor
 ·intro hm
  obtain⟨k,hk,e⟩:=List.mem_map.mp hm
  have:k=c:=by omega
  exact this▸(List.mem_filter.mp hk).2
 ·intro hu
  exact List.mem_map.mpr ⟨c,List.mem_filter.mpr ⟨List.mem_range.mpr h,hu⟩,rfl⟩
theorem IL (wd hg:Int) (xs:List V) (n:Nat):(gq wd hg xs n).Pairwise (· < ·):=by
 unfold gq
 rw[List.pairwise_map]
 exact(List.Pairwise.filter _ List.pairwise_lt_range).imp fun h=>by omega
section
variable {P:Program}{w:World}{K:PySem.W.Frag}{mg:Str→Option Value}{base:Heap}
abbrev rU:Stmt:=top 54
def qT (K:PySem.W.Frag):Sp:=fun vs H Q _=> ∃(b l:Addr) (xs:List V) (wd hg:Int),vs=[.ref b,.ref l]∧bB K H (.ref b) l xs wd hg∧S.bK xs=true∧wd≤11∧hg≤11∧∀H',ae H H'→Q (.bl true) H'
abbrev CJ:List Str:=["_law_board", "_law_lay_here", "_law_good", "_law_wide", "_law_corner"]
theorem ra:aV CJ ["_law_board", "_law_lay_here"] (aC rU):=⟨rfl,rfl,rfl,by decide+kernel,rfl,by decide+kernel,by decide+kernel⟩
theorem G1 {f:Addr}{fd:FuncData}(F:aM K "_law_good_right" "_law_good_right" rU f fd) (G:Gs mg) (LK:Def P w K mg base 13 "good_corners" ["board", "lay"] (qV K)) (kq:Def P w K mg base 8 "put_to" ["board", "lay", "corner"] (lV K)) (lI:Def P w K mg base 11 "is_unlike" ["board", "lay"] S.kE):
  aG P w K mg base aH 14 f fd ["_law_board", "_law_lay_here"] (qT K):=by
 refine F.ok ra (fun vs H Q E h=> ?_) (fun ao A outer s H vs Q E hr h=> ?_)
 ·obtain⟨b,l,xs,wd,hg,rfl,_⟩:=h
  rfl
 ·obtain⟨b,l,xs,wd,hg,rfl,la,un,gE,gY,q⟩:=h
  have hu:=Nat.lt_of_succ_lt (uX hr)
  refine⟨_,Zg (zh (i:=2) (j:=3) rfl ra.nd rfl rfl (by decide) rfl rfl (Za (Zf LK hr (Za (pv 0) (Za (pv 1) Zb))) (Za (ZA (Za (Zo ZO (ZG ZH (pv 0) Ze (fun _ _=>rfl)) Ze) (Za (Zo ZO (ZG ZH (pv 0) Ze (fun _ _=>rfl)) Ze) Zb))) Zb)) rfl)
   (Zg (YZ PassesOwn.never rfl (Z0 rfl G.range (Za Ze Zb)) (Zz (i:=4) ra.nd rfl (Or.inl rfl))
    (Zk (ZR (Zx uZ (Zf lI (hr.mono (by decide)) (Za (pv 3) (Za (Zf kq (hr.mono (by decide)) (Za (pv 0) (Za (pv 1) (Za (pv 4) Zb)))) Zb))) (Jb Jq (pv 4) (pv 2) rfl) (bM _)) Zw Zy)))
   (Zk (Zu (Jb (G7 hu) (pv 2) (K9 rfl rfl G.sorted rfl G.set (pv 2)) (bM _))))),?_⟩
  obtain⟨b',eb,hb⟩:=Zp la.bd.1
  cases eb
  obtain⟨_,w1,_,g1,_⟩:=id la.bd
  have ll:=ZV la.ly
  refine Zn ⟨_,rfl,_,rfl,.ref b,l,xs,wd,hg,rfl,la,un,gE,gY,fun L H1 s1 nL eL=> ?_⟩
  have iD:=s1 _ _ hb
  refine⟨_,rfl,b,_,_,_,rfl,rfl,af.of iD,gz,_,_,rfl,rfl,_,rfl,b,_,_,_,rfl,rfl,af.of iD,eC,_,_,rfl,rfl,(by show 2≤sizeLine;decide),fun t ht=> ⟨_,_,rfl,?_⟩⟩
  dsimp only[List.set]
  have s2:=Zl (o:=.tup [V.int (wd+1),V.int (hg+1)]) ht
  have e2:upd H1 t (.tup [V.int (wd+1),V.int (hg+1)]) t=some (.tup [V.int (wd+1),V.int (hg+1)]):=Zd
  generalize upd H1 t (HO.tup [V.int (wd+1),V.int (hg+1)])=H2 at s2 e2
  have jh:=s2 _ _ eL
  refine Zn ⟨4,rfl,by decide,by decide,?_⟩
  refine Yq (n:=4) (fun i σ H'=> ∃o4,σ=[some (.ref b),some (.ref l),some (.ref L),some (.ref t),o4]∧ae H2 H') ⟨_,rfl,ae.refl _⟩ ?_ ?_
  ·rintro i σ H3 hi ⟨o4,rfl,s3⟩
   rw[Int.zero_add]
   refine Zq ?_
   dsimp only[List.set]
   obtain⟨k0,k1⟩:=Jj (wd:=wd+1) (c:=(i:Int)) (by omega)
   obtain⟨r0,r1⟩:=Wl (hg:=hg+1) (c:=(i:Int)) (by omega)
   have fN:=W5 (row:=bb (hg+1) i) (line:=(bo (wd+1) i).toNat) la.ly r0 (by omega) (by omega)
   refine⟨_,rfl,_,rfl,_,rfl,_,rfl,.ref b,l,xs,wd,hg,(i:Int),rfl,la.same (s1.trans (s2.trans s3)),gE,gY,by omega,by omega,fun p H4 s4 e4=> ?_⟩
   refine⟨.ref t,.ref p,wd+1,hg+1,_,rfl,⟨⟨Zt ((s3.trans s4) _ _ e2),by omega,by omega,by omega,by omega⟩,Zt e4,S.mz fN⟩,fun H5 r5 s5 f5=> ?_⟩
   rw[S.lQ f5,←HC hi,←GJ]
   have wa:=s3.trans (s4.trans s5)
   refine⟨_,rfl,_,rfl,L,_,rfl,.inl (ag.of (wa _ _ jh)),rfl,(List.all_eq_true.mpr fun v hv=>by obtain⟨i,_,rfl⟩:=List.mem_map.mp hv;rfl),rfl,?_⟩
   rw[if_neg Bool.false_ne_true,decide_eq_true rfl]
   exact⟨_,rfl,aw (ZM ⟨_,rfl,wa⟩)⟩
  ·rintro σ H3 ⟨o4,rfl,s3⟩
   dsimp only
   refine⟨_,rfl,_,rfl,L,_,rfl,ag.of (s3 _ _ jh),?_⟩
   have gl:=UP wd hg xs 4
   refine⟨by omega,fun p br hp p1 p2 p3=> ⟨L,p,_,br,rfl,rfl,ag.of ((s3.trans (Zl hp)) _ _ jh),ag.of Zd,?_⟩⟩
   rw[zJ (IL wd hg xs 4) p1 p2 p3,decide_eq_true rfl]
   exact q _ (s1.trans (s2.trans (s3.trans (Zl hp))))
end
theorem C9 {wd hg:Int}{xs:List V}(h:S.hV wd hg xs):bw wd hg (some xs)=true:=by
 obtain⟨h1,h2,h3⟩:=h
 show(decide ((xs.length:Int)=wd)&&((rowsOf xs).all fun r=>bq r 0 (hg - 1))&&decide (rowsOf xs).Nodup)=true
 rw[decide_eq_true h1,decide_eq_true h3,List.all_eq_true.mpr h2]
 rfl
section
variable {P:Program}{w:World}{K:PySem.W.Frag}{mg:Str→Option Value}{base:Heap}
abbrev rP:Stmt:=top 55
def qN (K:PySem.W.Frag):Sp:=fun vs H Q _=> ∃(a:Addr) (ns:List Int),vs=[.ref a]∧eD K H a ns∧ns.length≤63∧∀H',Q (.bl true) H'
abbrev CH:List Str:=["_law_script", "_law_k", "_law_state_here", "_law_board", "_law_lay_here"]
theorem l3:aV CH ["_law_script"] (aC rP):=⟨rfl,rfl,rfl,by decide+kernel,rfl,by decide+kernel,by decide+kernel⟩
theorem G2 {f:Addr}{fd:FuncData}(F:aM K "law" "law" rP f fd) (G:Gs mg) (LA:Def P w K mg base 2 "_law_state" ["_law_script", "_law_k"] (qH K)) (jq:Def P w K mg base 1 "_law_take" ["_law_state_here", "_law_many"] lU) (LI:Def P w K mg base 3 "_law_grown" ["_law_state_here", "_law_board", "_law_bare"] S.qU)
  (LH:Def P w K mg base 2 "_law_lay" ["_law_state_here", "_law_board"] (qR K)) (zX:Def P w K mg base 12 "_law_there_and_back" ["_law_board", "_law_lay_here"] (qD K)) (LJ:Def P w K mg base 14 "_law_good_right" ["_law_board", "_law_lay_here"] (qT K)):
  aG P w K mg base aH 15 f fd ["_law_script"] (qN K):=by
 refine F.ok l3 (fun vs H Q E h=> ?_) (fun ao A outer s H vs Q E hr h=> ?_)
 ·obtain⟨a,ns,rfl,_⟩:=h
  rfl
 ·obtain⟨a,ns,rfl,vU,tO,q⟩:=h
  refine⟨_,Zg (YZ PassesOwn.never rfl (Z0 rfl G.range (Za (Zv (WT rfl) rfl G.max boot_max (Za Ze (Za (Zv (KG rfl) rfl G.min boot_min (Za (Zv ZI rfl G.len boot_len (Za (pv 0) Zb)) (Za Ze Zb))) Zb))) Zb)) (Zz (i:=1) l3.nd rfl (Or.inl rfl))
    (Zg (ZF (i:=2) l3.nd rfl (Or.inl rfl) (Zf LA (hr.mono (by decide)) (Za (pv 0) (Za (pv 1) Zb))))
    (Zg (ZF (i:=3) l3.nd rfl (Or.inl rfl) (ZA (Za (Zo ZO Ze (Zf jq (hr.mono (by decide)) (Za (pv 2) (Za Ze Zb)))) (Za (Zo ZO Ze (Zf jq (hr.mono (by decide)) (Za (pv 2) (Za Ze Zb)))) Zb))))
    (Zg (ZF (i:=4) l3.nd rfl (Or.inl rfl) (Zf LI (hr.mono (by decide)) (Za (pv 2) (Za (pv 3) (Za (Zo ZO Ze (Zf jq (hr.mono (by decide)) (Za (pv 2) (Za Ze Zb)))) Zb)))))
    (Zg (ZR (PW.pt (Jz (Z5 (ZX (Zf zX (hr.mono (by decide)) (Za (pv 3) (Za (Zf LH (hr.mono (by decide)) (Za (pv 2) (Za (pv 3) Zb))) Zb))))) (YA (Z5 (ZX (Zf zX (hr.mono (by decide)) (Za (pv 3) (Za (pv 4) Zb)))))))) Zw Zy)
    (Zk (ZR (Z5 (ZX (Zf LJ hr (Za (pv 3) (Za (pv 4) Zb))))) Zw Zy)))))))
   (Zk (Zu qa)),?_⟩
  refine Zn ?_
  refine⟨_,rfl,a,_,rfl,.inl vU.sq,_,_,rfl,_,_,rfl,_,rfl,(by rw[List.length_map];split<;>split<;>omega),(by rw[List.length_map];split<;>split<;>omega),?_⟩
  refine Yq (fun i σ H'=> ∃s1 s2 s3 s4,σ=[some (.ref a),s1,s2,s3,s4]∧eD K H' a ns) ⟨_,_,_,_,rfl,vU⟩ ?_ ?_
  ·rintro i σ H0 hi ⟨s1,s2,s3,s4,rfl,sc⟩
   rw[Int.zero_add]
   refine Zq ?_
   dsimp only[List.set]
   refine Zn (ZD ⟨_,rfl,_,rfl,a,ns,i,rfl,sc.sq,fun p H1 np q1 av=>Zq ?_⟩)
   dsimp only[List.set]
   have step:∀{H H':Hp},bz p H H'→cZ H p→eD K H a ns→eD K H' a ns:=fun x ⟨u,v,e,_⟩ s=>s.x x e (fun _ _ z=>by cases z)
   have CA:∀{H:Hp}{l:Addr}{xs:List V},cZ H p→H l=some (.tup xs)→l≠p:=fun⟨_,_,e,_⟩ h=>YW h e (by intro z;cases z)
   have BA:=sc.same q1
   refine Zn (ZD ⟨_,rfl,p,11,rfl,av,by decide,by decide,fun wd o2 w0 w1 ai=> ?_⟩)
   have x2:bz p H1 (upd H1 p o2):=bz.upd
   generalize upd H1 p o2=H2 at ai x2
   refine⟨_,_,rfl,rfl,_,rfl,p,11,rfl,ai,by decide,by decide,fun hg o3 g0 g1 aK=> ?_⟩
   have x3:bz p H2 (upd H2 p o3):=bz.upd
   generalize upd H2 p o3=H3 at aK x3
   have Bz:=step x3 ai (step x2 av BA)
   refine⟨_,_,rfl,rfl,(by show 2≤sizeLine;decide),fun b hb=>Zq ?_⟩
   dsimp only[List.set]
   have s4:=Zl (o:=.tup [V.int (1+wd),V.int (1+hg)]) hb
   have e4:upd H3 b (.tup [V.int (1+wd),V.int (1+hg)]) b=some (.tup [V.int (1+wd),V.int (1+hg)]):=Zd
   generalize upd H3 b (HO.tup [V.int (1+wd),V.int (1+hg)])=H4 at s4 e4
   have cm:=aK.same s4
   have By:=Bz.same s4
   have nb:=CA cm e4
   refine Zn (ZD ⟨_,rfl,_,rfl,_,rfl,p,5,rfl,cm,by decide,by decide,fun r o5 r0 r5 da=> ?_⟩)
   have x5:bz p H4 (upd H4 p o5):=bz.upd
   generalize upd H4 p o5=H5 at da x5
   have bd:∀{H'},H' b=some (.tup [V.int (1+wd),V.int (1+hg)])→cR H' (.ref b) (1+wd) (1+hg):=fun e=> ⟨Zt e,by omega,by omega,by omega,by omega⟩
   have e5:=x5 _ _ e4 nb
   have Bx:=step x5 cm By
   refine⟨_,_,rfl,rfl,p,b,1+wd,1+hg,_,rfl,da,bd e5,fun l H6 xs x6 vP e6 nl fo=>Zq ?_⟩
   dsimp only[List.set]
   obtain⟨il,ub,_⟩:=S.uH _ _ _ xs fo
   rw[show(((1+wd).toNat:Nat):Int)=1+wd by omega,show(((1+hg).toNat:Nat):Int)=1+hg by omega]at il
   have ly:=C9 il
   have yJ:=x6 _ _ e5 nb
   have Bw:=step x6 da Bx
   refine Zn ⟨_,rfl,_,rfl,_,rfl,p,b,1+wd,1+hg,rfl,vP,bd yJ,fun l7 H7 ys x7 Mi e7 CU=> ?_⟩
   have uO:=x7 _ _ yJ nb
   have yI:=x7 _ _ e6 nl
   have Bv:=step x7 vP Bw
   refine⟨b,l7,ys,1+wd,1+hg,rfl,⟨bd uO,e7,CU⟩,by omega,by omega,fun H8 s8=> ⟨true,rfl,aw ?_⟩⟩
   refine⟨_,rfl,_,rfl,b,l,xs,1+wd,1+hg,rfl,⟨bd (s8 _ _ uO),s8 _ _ yI,ly⟩,by omega,by omega,fun H9 s9=> ⟨true,rfl,aw (ZM ?_)⟩⟩
   dsimp only
   have sf:=s8.trans s9
   refine⟨_,rfl,_,rfl,b,l,xs,1+wd,1+hg,rfl,⟨bd (sf _ _ uO),sf _ _ yI,ly⟩,ub,by omega,by omega,fun hW jw=> ⟨true,rfl,aw (ZM ?_)⟩⟩
   exact⟨_,_,_,_,rfl,Bv.same (sf.trans jw)⟩
  ·rintro σ H1 _
   exact q H1
end
end U
namespace U
open PySem L2 PyProof.Rows PySem.Spec
abbrev uC:List Str:=["isinstance", "int", "bool", "tuple", "list", "len", "all", "set", "range", "max", "min", "enumerate", "zip", "sorted"]
section
variable {P:Program}{w:World}{K:PySem.W.Frag}{mg:Str→Option Value}{base:Heap}
theorem GC {h:Heap}{t0:Tok}{t1:Tok}(KX:K.In h) (G:h.Ns mainGlobals mg) (e:uC.all (oR K)=true) (c0:PySem.W.nsIn K mainGlobals "LONGEST_SIDE" =some (some (.int 12 t0))) (c1:PySem.W.nsIn K mainGlobals "LAST_CORNER" =some (some (.int 3 t1))):Gs mg:=by
 have k:∀x∈uC,mg x=none:=fun x hx=>Kc KX G (List.all_eq_true.mp e x hx)
 exact⟨k _ (by simp),k _ (by simp),k _ (by simp),k _ (by simp),k _ (by simp),k _ (by simp),k _ (by simp),k _ (by simp),k _ (by simp),k _ (by simp),k _ (by simp),k _ (by simp),k _ (by simp),k _ (by simp),⟨_,PySem.W.mg_of KX G c0⟩,⟨_,PySem.W.mg_of KX G c1⟩⟩
set_option maxHeartbeats 4000000 in
theorem C5 {h:Heap}{fa:Addr}{t0:Tok}{t1:Tok}(KX:K.In h) (G:h.Ns mainGlobals mg) (hmg:mg "law" =some (.ref fa))
  (d0:aX K "is_whole" rh) (d1:aX K "is_whole_within" rf) (d2:aX K "need_whole_within" rJ) (d3:aX K "is_tuple_of" rm) (d4:aX K "is_board" r9) (d5:aX K "need_board" rH) (d6:aX K "need_at_most" S.rN) (d7:aX K "is_lay" rO) (d8:aX K "need_lay" kK) (d9:aX K "points" kJ) (FH:aX K "is_point" rT) (FG:aX K "lay_of" rR) (FF:aX K "point_pairs" S.rG) (FE:aX K "steps" S.rD) (FD:aX K "first_like" S.rY) (FC:aX K "is_unlike" S.rj) (FA:aX K "need_unlike" S.rK) (Fz:aX K "need_corner" rM) (Fy:aX K "corner_point" r6) (Fx:aX K "taken" rp) (Fw:aX K "grown" rV) (Fv:aX K "put_to" rF) (Fu:aX K "good_corners" rX) (Ft:aX K "is_turn" rk) (Fs:aX K "need_turn" rL) (Fq:aX K "turned_point" rB) (Fp:aX K "turned_board" rC) (Fo:aX K "turned" rn) (Fn:aX K "_law_cell_at" rZ) (Fm:aX K "_law_state" rE) (Fj:aX K "_law_take" rq) (Fi:aX K "_law_steps" S.rQ) (Fh:aX K "_law_unlike" S.oC) (Fg:aX K "_law_lay" rS) (Ff:aX K "_law_grown" S.rW) (Fe:aX K "_law_there_and_back" rA) (Fd:aX K "_law_good_right" rU) (dl:aX K "law" rP)
  (g1:uC.all (oR K)=true) (c0:PySem.W.nsIn K mainGlobals "LONGEST_SIDE" =some (some (.int 12 t0))) (c1:PySem.W.nsIn K mainGlobals "LAST_CORNER" =some (some (.int 3 t1))):
  ∃fd:FuncData,(∀(s:Shared) (u:Value),BindsTo s fd ⟨[u],[]⟩ [("_law_script",u)])∧∀base:Heap,K.In base→base.Ns mainGlobals mg→lL mg base→aG P w K mg base aH 15 fa fd ["_law_script"] (qN K):=by
 have gs:=GC KX G g1 c0 c1
 refine GO dl KX G hmg (fun _ _ _ _ _ _ _=>rfl) fun base f fd FL=> ?_
 have LX:Def P w K mg base 1 "is_whole" ["thing"] (qz K):=d0.to KX G (b1 fun _ _ _ _ _ _ _=>rfl) fun f fd F=>HY F gs
 have nM:Def P w K mg base 2 "is_whole_within" ["thing", "least", "most"] (js K):=d1.to KX G (b3 fun _ _ _ _ _ _ _ _ _=>rfl) fun f fd F=>Kd F LX
 have LR:Def P w K mg base 3 "need_whole_within" ["number", "least", "most"] (qJ K):=d2.to KX G (b3 fun _ _ _ _ _ _ _ _ _=>rfl) fun f fd F=>G4 F nM
 have qm:Def P w K mg base 1 "is_tuple_of" ["thing", "many"] (kF K):=d3.to KX G (b2 fun _ _ _ _ _ _ _ _=>rfl) fun f fd F=>HX F gs
 have L1:Def P w K mg base 3 "is_board" ["thing"] (qY K):=d4.to KX G (b1 fun _ _ _ _ _ _ _=>rfl) fun f fd F=>HV F gs qm nM
 have vq:Def P w K mg base 4 "need_board" ["board"] (lW K):=d5.to KX G (b1 fun _ _ _ _ _ _ _=>rfl) fun f fd F=>Ub F L1
 have LV:Def P w K mg base 1 "need_at_most" ["board", "wide", "high"] S.qM:=d6.to KX G (b3 fun _ _ _ _ _ _ _ _ _=>rfl) fun f fd F=>S.Cj F
 have vt:Def P w K mg base 5 "is_lay" ["board", "thing"] (lZ K):=d7.to KX G (b2 fun _ _ _ _ _ _ _ _=>rfl) fun f fd F=>G3 F gs vq qm nM
 have z4:Def P w K mg base 6 "need_lay" ["board", "lay"] (iO K):=d8.to KX G (b2 fun _ _ _ _ _ _ _ _=>rfl) fun f fd F=>sN F vt
 have Lr:Def P w K mg base 6 "need_lay" ["board", "lay"] S.iO:=d8.to KX G (b2 fun _ _ _ _ _ _ _ _=>rfl) fun f fd F=>S.sN F vt
 have zZ:Def P w K mg base 7 "points" ["board", "lay"] (iN K):=d9.to KX G (b2 fun _ _ _ _ _ _ _ _=>rfl) fun f fd F=>sJ F gs z4
 have Lq:Def P w K mg base 7 "points" ["board", "lay"] S.iN:=d9.to KX G (b2 fun _ _ _ _ _ _ _ _=>rfl) fun f fd F=>S.sJ F gs Lr
 have LZ:Def P w K mg base 3 "is_point" ["board", "thing"] (qS K):=FH.to KX G (b2 fun _ _ _ _ _ _ _ _=>rfl) fun f fd F=>Gb F gs qm nM
 have LW:Def P w K mg base 5 "lay_of" ["board", "points"] (qQ K):=FG.to KX G (b2 fun _ _ _ _ _ _ _ _=>rfl) fun f fd F=>Ge F gs vq LZ
 have LQ:Def P w K mg base 8 "point_pairs" ["board", "lay"] S.qI:=FF.to KX G (b2 fun _ _ _ _ _ _ _ _=>rfl) fun f fd F=>S.Cg F Lq
 have LP:Def P w K mg base 9 "steps" ["board", "lay"] S.qG:=FE.to KX G (b2 fun _ _ _ _ _ _ _ _=>rfl) fun f fd F=>S.Cf F gs LQ
 have L4:Def P w K mg base 10 "first_like" ["board", "lay"] S.qW:=FD.to KX G (b2 fun _ _ _ _ _ _ _ _=>rfl) fun f fd F=>S.Co F gs LP
 have ql:Def P w K mg base 11 "is_unlike" ["board", "lay"] S.kE:=FC.to KX G (b2 fun _ _ _ _ _ _ _ _=>rfl) fun f fd F=>S.Ce F L4
 have LS:Def P w K mg base 12 "need_unlike" ["board", "lay"] S.qK:=FA.to KX G (b2 fun _ _ _ _ _ _ _ _=>rfl) fun f fd F=>S.Ci F ql
 have Aa:Def P w K mg base 7 "need_corner" ["board", "lay", "corner"] (og K):=Fz.to KX G (b3 fun _ _ _ _ _ _ _ _ _=>rfl) fun f fd F=>Gf (PySem.W.mg_of KX G c1) F z4 LR
 have Ac:Def P w K mg base 1 "corner_point" ["board", "corner"] (oj K):=Fy.to KX G (b2 fun _ _ _ _ _ _ _ _=>rfl) fun f fd F=>F8 F
 have LO:Def P w K mg base 8 "taken" ["board", "lay", "corner"] (qC K):=Fx.to KX G (b3 fun _ _ _ _ _ _ _ _ _=>rfl) fun f fd F=>Gj F gs Aa Ac
 have Ab:Def P w K mg base 1 "grown" ["board"] oh:=Fw.to KX G (b1 fun _ _ _ _ _ _ _=>rfl) fun f fd F=>F9 F
 have vp:Def P w K mg base 8 "put_to" ["board", "lay", "corner"] (lV K):=Fv.to KX G (b3 fun _ _ _ _ _ _ _ _ _=>rfl) fun f fd F=>Gh F gs Aa LV Ab Ac
 have L3:Def P w K mg base 13 "good_corners" ["board", "lay"] (qV K):=Fu.to KX G (b2 fun _ _ _ _ _ _ _ _=>rfl) fun f fd F=>Ga F gs LS ql Ab vp
 have LY:Def P w K mg base 3 "is_turn" ["thing"] (qA K):=Ft.to KX G (b1 fun _ _ _ _ _ _ _=>rfl) fun f fd F=>GY F gs qm nM
 have LU:Def P w K mg base 4 "need_turn" ["turn"] (qL K):=Fs.to KX G (b1 fun _ _ _ _ _ _ _=>rfl) fun f fd F=>Gg F LY
 have LL:Def P w K mg base 1 "turned_point" ["board", "point", "turn"] qE:=Fq.to KX G (b3 fun _ _ _ _ _ _ _ _ _=>rfl) fun f fd F=>Gk F
 have LM:Def P w K mg base 5 "turned_board" ["board", "turn"] qF:=Fp.to KX G (b2 fun _ _ _ _ _ _ _ _=>rfl) fun f fd F=>Gi F vq LU
 have LN:Def P w K mg base 8 "turned" ["board", "lay", "turn"] (qB K):=Fo.to KX G (b3 fun _ _ _ _ _ _ _ _ _=>rfl) fun f fd F=>Gm F zZ LM LW LL
 have Me:Def P w K mg base 1 "_law_cell_at" ["_law_script", "_law_k"] (qX K):=Fn.to KX G (b2 fun _ _ _ _ _ _ _ _=>rfl) fun f fd F=>GW F gs
 have Ma:Def P w K mg base 2 "_law_state" ["_law_script", "_law_k"] (qH K):=Fm.to KX G (b2 fun _ _ _ _ _ _ _ _=>rfl) fun f fd F=>HW F gs Me
 have vv:Def P w K mg base 1 "_law_take" ["_law_state_here", "_law_many"] lU:=Fj.to KX G (b2 fun _ _ _ _ _ _ _ _=>rfl) fun f fd F=>GX F
 have L9:Def P w K mg base 1 "_law_steps" ["_law_lay_here"] S.qP:=Fi.to KX G (b1 fun _ _ _ _ _ _ _=>rfl) fun f fd F=>S.Cm F gs
 have L7:Def P w K mg base 2 "_law_unlike" ["_law_lay_here"] S.qO:=Fh.to KX G (b1 fun _ _ _ _ _ _ _=>rfl) fun f fd F=>S.Ck F gs L9
 have Mb:Def P w K mg base 2 "_law_lay" ["_law_state_here", "_law_board"] (qR K):=Fg.to KX G (b2 fun _ _ _ _ _ _ _ _=>rfl) fun f fd F=>Gd F gs vv
 have Mc:Def P w K mg base 3 "_law_grown" ["_law_state_here", "_law_board", "_law_bare"] S.qU:=Ff.to KX G (b3 fun _ _ _ _ _ _ _ _ _=>rfl) fun f fd F=>S.Cn F gs vv L7
 have L8:Def P w K mg base 12 "_law_there_and_back" ["_law_board", "_law_lay_here"] (qD K):=Fe.to KX G (b2 fun _ _ _ _ _ _ _ _=>rfl) fun f fd F=>G5 F gs vp vt LO zZ ql LN
 have Md:Def P w K mg base 14 "_law_good_right" ["_law_board", "_law_lay_here"] (qT K):=Fd.to KX G (b2 fun _ _ _ _ _ _ _ _=>rfl) fun f fd F=>G1 F gs L3 vp ql
 exact G2 FL gs Ma vv Mc Mb L8 Md
end
end U
theorem PySem.W.Fast.tw10855330091395546336:True:=⟨⟩
theorem PySem.W.Fast.tw17126288562829150496:True:=⟨⟩
theorem PySem.W.Fast.tw12417938967045339424:True:=⟨⟩
theorem PySem.W.Fast.tw5937761425923734816:True:=⟨⟩
theorem PySem.W.Fast.tw12591458881903260224:True:=⟨⟩
theorem PySem.W.Fast.tw14660096835031015168:True:=⟨⟩
theorem PySem.W.Fast.tw15666862430011610912:True:=⟨⟩
theorem PySem.W.Fast.tw6743027670952260416:True:=⟨⟩
theorem PySem.W.Fast.tw14005390762068499296:True:=⟨⟩
theorem PySem.W.Fast.tw13165611910158685024:True:=⟨⟩
theorem PySem.W.Fast.tw16099307480068385664:True:=⟨⟩
theorem PySem.W.Fast.tw4095342326021697440:True:=⟨⟩
theorem PySem.W.Fast.tw13390466361989358689:True:=⟨⟩
theorem PySem.W.Fast.tw17049069793864353985:True:=⟨⟩
theorem PySem.W.Fast.tw4603298126828827873:True:=⟨⟩
theorem PySem.W.Fast.tw3518757790576574721:True:=⟨⟩
theorem PySem.W.Fast.tw10885303336102949409:True:=⟨⟩
theorem PySem.W.Fast.tw1389181169058949857:True:=⟨⟩
theorem PySem.W.Fast.tw817068393619731361:True:=⟨⟩
theorem PySem.W.Fast.tw2464099397054890082:True:=⟨⟩
theorem PySem.W.Fast.tw3180991719196945538:True:=⟨⟩
theorem PySem.W.Fast.tw7534817040209901698:True:=⟨⟩
theorem PySem.W.Fast.tw4207480998134081794:True:=⟨⟩
theorem PySem.W.Fast.tw2896095587335579906:True:=⟨⟩
theorem PySem.W.Fast.tw9708323572278024546:True:=⟨⟩
theorem PySem.W.Fast.tw7919415784568205826:True:=⟨⟩
theorem PySem.W.Fast.tw5292283914438833922:True:=⟨⟩
theorem PySem.W.Fast.tw13815983196920185698:True:=⟨⟩
theorem PySem.W.Fast.tw16252222118160944994:True:=⟨⟩
theorem PySem.W.Fast.tw17630494746486855779:True:=⟨⟩
theorem PySem.W.Fast.tw16096088784340864163:True:=⟨⟩
theorem PySem.W.Fast.tw5492202274514087171:True:=⟨⟩
theorem PySem.W.Fast.tw1709968379038223747:True:=⟨⟩
theorem PySem.W.Fast.tw12448422665408828899:True:=⟨⟩
theorem PySem.W.Fast.tw15103759081694424579:True:=⟨⟩
theorem PySem.W.Fast.tw11108531741943165443:True:=⟨⟩
theorem PySem.W.Fast.tw9336797129381812835:True:=⟨⟩
theorem PySem.W.Fast.tw1478790002967890595:True:=⟨⟩
theorem PySem.W.Fast.tw13872812029378857699:True:=⟨⟩
theorem PySem.W.Fast.tw11799620878234683203:True:=⟨⟩
theorem PySem.W.Fast.tw12580506299059334148:True:=⟨⟩
theorem PySem.W.Fast.tw5887068075168124100:True:=⟨⟩
theorem PySem.W.Fast.tw10670811364146421028:True:=⟨⟩
theorem PySem.W.Fast.tw8786380328195912068:True:=⟨⟩
theorem PySem.W.Fast.tw2839730726930705828:True:=⟨⟩
theorem PySem.W.Fast.tw4807201990551714308:True:=⟨⟩
theorem PySem.W.Fast.tw11880963457836397188:True:=⟨⟩
theorem PySem.W.Fast.tw603192027842311876:True:=⟨⟩
theorem PySem.W.Fast.tw12821500585861996292:True:=⟨⟩
theorem PySem.W.Fast.tw5048088054201683716:True:=⟨⟩
theorem PySem.W.Fast.tw18351962524576668580:True:=⟨⟩
theorem PySem.W.Fast.tw9367791100166244292:True:=⟨⟩
theorem PySem.W.Fast.tw14296015352272954501:True:=⟨⟩
theorem PySem.W.Fast.tw992433238577316037:True:=⟨⟩
theorem PySem.W.Fast.tw17674330755610839237:True:=⟨⟩
theorem PySem.W.Fast.tw16496117748687543525:True:=⟨⟩
theorem PySem.W.Fast.tw16907337838638862565:True:=⟨⟩
theorem PySem.W.Fast.tw10323080946282633445:True:=⟨⟩
theorem PySem.W.Fast.tw6878412686746093893:True:=⟨⟩
theorem PySem.W.Fast.tw17747439564801166693:True:=⟨⟩
theorem PySem.W.Fast.tw10181820988189592933:True:=⟨⟩
theorem PySem.W.Fast.tw10906569654702858597:True:=⟨⟩
theorem PySem.W.Fast.tw10148804674041625029:True:=⟨⟩
theorem PySem.W.Fast.tw15147988704370437605:True:=⟨⟩
theorem PySem.W.Fast.tw12096978218798719493:True:=⟨⟩
theorem PySem.W.Fast.tw10815157415756062213:True:=⟨⟩
theorem PySem.W.Fast.tw2206111049190513349:True:=⟨⟩
theorem PySem.W.Fast.tw9495438000765366053:True:=⟨⟩
theorem PySem.W.Fast.tw12587164576580794245:True:=⟨⟩
theorem PySem.W.Fast.tw10737180405846284165:True:=⟨⟩
theorem PySem.W.Fast.tw2466788349023727525:True:=⟨⟩
theorem PySem.W.Fast.tw7249428870058421221:True:=⟨⟩
theorem PySem.W.Fast.tw8927340761391463526:True:=⟨⟩
theorem PySem.W.Fast.tw612465888326357254:True:=⟨⟩
theorem PySem.W.Fast.tw7048602968512542118:True:=⟨⟩
theorem PySem.W.Fast.tw14904180759873887686:True:=⟨⟩
theorem PySem.W.Fast.tw14713191310228562374:True:=⟨⟩
theorem PySem.W.Fast.tw9873202873009440294:True:=⟨⟩
theorem PySem.W.Fast.tw4254664257670754918:True:=⟨⟩
theorem PySem.W.Fast.tw11277306925626540678:True:=⟨⟩
theorem PySem.W.Fast.tw3909626266532320134:True:=⟨⟩
theorem PySem.W.Fast.tw873789689121263623:True:=⟨⟩
theorem PySem.W.Fast.tw10539932969858747431:True:=⟨⟩
theorem PySem.W.Fast.tw16918245432096527463:True:=⟨⟩
theorem PySem.W.Fast.tw3141032286444711111:True:=⟨⟩
theorem PySem.W.Fast.tw17119777732009451719:True:=⟨⟩
theorem PySem.W.Fast.tw11343289470393129287:True:=⟨⟩
theorem PySem.W.Fast.tw12926200755393481191:True:=⟨⟩
theorem PySem.W.Fast.tw609339443226692231:True:=⟨⟩
theorem PySem.W.Fast.tw10514928110053105287:True:=⟨⟩
theorem PySem.W.Fast.tw5440394518100454215:True:=⟨⟩
theorem PySem.W.Fast.tw18374091732550692775:True:=⟨⟩
theorem PySem.W.Fast.tw14460291989972390952:True:=⟨⟩
theorem PySem.W.Fast.tw4413164116758227048:True:=⟨⟩
theorem PySem.W.Fast.tw15385278184007628936:True:=⟨⟩
theorem PySem.W.Fast.tw11251260978026449192:True:=⟨⟩
theorem PySem.W.Fast.tw2217042181647784296:True:=⟨⟩
theorem PySem.W.Fast.tw14003085872470322888:True:=⟨⟩
theorem PySem.W.Fast.tw10284937393844371240:True:=⟨⟩
theorem PySem.W.Fast.tw4240992576787294056:True:=⟨⟩
theorem PySem.W.Fast.tw11283103848924683208:True:=⟨⟩
theorem PySem.W.Fast.tw11002101198262214632:True:=⟨⟩
theorem PySem.W.Fast.tw14615114577092350089:True:=⟨⟩
theorem PySem.W.Fast.tw128404249593691625:True:=⟨⟩
theorem PySem.W.Fast.tw8578191287252457:True:=⟨⟩
theorem PySem.W.Fast.tw2684729760133975625:True:=⟨⟩
theorem PySem.W.Fast.tw18244873394154516073:True:=⟨⟩
theorem PySem.W.Fast.tw11646800843115629289:True:=⟨⟩
theorem PySem.W.Fast.tw2529619964546422761:True:=⟨⟩
theorem PySem.W.Fast.tw7890988399290075370:True:=⟨⟩
theorem PySem.W.Fast.tw12742167125625207082:True:=⟨⟩
theorem PySem.W.Fast.tw17244636214114801034:True:=⟨⟩
theorem PySem.W.Fast.tw17203486502672002666:True:=⟨⟩
theorem PySem.W.Fast.tw8600461359563044490:True:=⟨⟩
theorem PySem.W.Fast.tw11621941366955247274:True:=⟨⟩
theorem PySem.W.Fast.tw13476413714609735466:True:=⟨⟩
theorem PySem.W.Fast.tw5243388722532551498:True:=⟨⟩
theorem PySem.W.Fast.tw4516919182160240554:True:=⟨⟩
theorem PySem.W.Fast.tw18335562707955590090:True:=⟨⟩
theorem PySem.W.Fast.tw11354456646636561483:True:=⟨⟩
theorem PySem.W.Fast.tw4215908055474536651:True:=⟨⟩
theorem PySem.W.Fast.tw9017651383159090475:True:=⟨⟩
theorem PySem.W.Fast.tw5405869412804134219:True:=⟨⟩
theorem PySem.W.Fast.tw15118461021105772011:True:=⟨⟩
theorem PySem.W.Fast.tw15203527975821105643:True:=⟨⟩
theorem PySem.W.Fast.tw7422743262109139563:True:=⟨⟩
theorem PySem.W.Fast.tw3122053947782968075:True:=⟨⟩
theorem PySem.W.Fast.tw8034334571278517035:True:=⟨⟩
theorem PySem.W.Fast.tw8386041645551044555:True:=⟨⟩
theorem PySem.W.Fast.tw10287409561312446476:True:=⟨⟩
theorem PySem.W.Fast.tw17750504359452485740:True:=⟨⟩
theorem PySem.W.Fast.tw16151175325387689164:True:=⟨⟩
theorem PySem.W.Fast.tw11441280125136440556:True:=⟨⟩
theorem PySem.W.Fast.tw16149943623241867628:True:=⟨⟩
theorem PySem.W.Fast.tw1500738125213942220:True:=⟨⟩
theorem PySem.W.Fast.tw5001707964206355980:True:=⟨⟩
theorem PySem.W.Fast.tw1033817251097713228:True:=⟨⟩
theorem PySem.W.Fast.tw12479500008203315820:True:=⟨⟩
theorem PySem.W.Fast.tw16672236297801500300:True:=⟨⟩
theorem PySem.W.Fast.tw14333692462367054476:True:=⟨⟩
theorem PySem.W.Fast.tw17272125738370361004:True:=⟨⟩
theorem PySem.W.Fast.tw15770448734023992140:True:=⟨⟩
theorem PySem.W.Fast.tw14163331311480125356:True:=⟨⟩
theorem PySem.W.Fast.tw14440340719491219565:True:=⟨⟩
theorem PySem.W.Fast.tw512071016302627053:True:=⟨⟩
theorem PySem.W.Fast.tw14153430975039692237:True:=⟨⟩
theorem PySem.W.Fast.tw18228756099003758125:True:=⟨⟩
theorem PySem.W.Fast.tw4927346434678792781:True:=⟨⟩
theorem PySem.W.Fast.tw16771553941814063693:True:=⟨⟩
theorem PySem.W.Fast.tw11933190759048753933:True:=⟨⟩
theorem PySem.W.Fast.tw94089162825692941:True:=⟨⟩
theorem PySem.W.Fast.tw11808074880028244781:True:=⟨⟩
theorem PySem.W.Fast.tw7559180066029538157:True:=⟨⟩
theorem PySem.W.Fast.tw7895808056956056525:True:=⟨⟩
theorem PySem.W.Fast.tw8393965071903935502:True:=⟨⟩
theorem PySem.W.Fast.tw9758828197393247278:True:=⟨⟩
theorem PySem.W.Fast.tw16959062260006382702:True:=⟨⟩
theorem PySem.W.Fast.tw13648424131030573198:True:=⟨⟩
theorem PySem.W.Fast.tw11981240871516891278:True:=⟨⟩
theorem PySem.W.Fast.tw11164131889844926638:True:=⟨⟩
theorem PySem.W.Fast.tw9123448356123741390:True:=⟨⟩
theorem PySem.W.Fast.tw1552825131246207310:True:=⟨⟩
theorem PySem.W.Fast.tw7746646398238631342:True:=⟨⟩
theorem PySem.W.Fast.tw14692169838377433582:True:=⟨⟩
theorem PySem.W.Fast.tw17449997249357449742:True:=⟨⟩
theorem PySem.W.Fast.tw15945454777713695278:True:=⟨⟩
theorem PySem.W.Fast.tw1160459457277498958:True:=⟨⟩
theorem PySem.W.Fast.tw14408298755971965582:True:=⟨⟩
theorem PySem.W.Fast.tw3264519328751713998:True:=⟨⟩
theorem PySem.W.Fast.tw2809848155416819630:True:=⟨⟩
theorem PySem.W.Fast.tw1889151870438782351:True:=⟨⟩
theorem PySem.W.Fast.tw2188865662210055631:True:=⟨⟩
theorem PySem.W.Fast.tw16520148250287904271:True:=⟨⟩
theorem PySem.W.Fast.tw18400065750233839151:True:=⟨⟩
theorem PySem.W.Fast.tw4740664262334772975:True:=⟨⟩
theorem PySem.W.Fast.tw2272293688927075055:True:=⟨⟩
theorem PySem.W.Fast.tw7116946511698768016:True:=⟨⟩
theorem PySem.W.Fast.tw4648231939210343632:True:=⟨⟩
theorem PySem.W.Fast.tw4054022521638789392:True:=⟨⟩
theorem PySem.W.Fast.tw4442777397744782640:True:=⟨⟩
theorem PySem.W.Fast.tw164595166635974960:True:=⟨⟩
theorem PySem.W.Fast.tw6932209992009118032:True:=⟨⟩
theorem PySem.W.Fast.tw14004617331680777680:True:=⟨⟩
theorem PySem.W.Fast.tw3031624226985474576:True:=⟨⟩
theorem PySem.W.Fast.tw16269841649879812816:True:=⟨⟩
theorem PySem.W.Fast.tw11797438428434774768:True:=⟨⟩
theorem PySem.W.Fast.tw4557881822935295824:True:=⟨⟩
theorem PySem.W.Fast.tw5741188114999422896:True:=⟨⟩
theorem PySem.W.Fast.tw15256145089586417616:True:=⟨⟩
theorem PySem.W.Fast.tw11186069940406052848:True:=⟨⟩
theorem PySem.W.Fast.tw16473211979825097777:True:=⟨⟩
theorem PySem.W.Fast.tw15754258432196423825:True:=⟨⟩
theorem PySem.W.Fast.tw13315336129857814673:True:=⟨⟩
theorem PySem.W.Fast.tw16867846269350740145:True:=⟨⟩
theorem PySem.W.Fast.tw12455913447779834065:True:=⟨⟩
theorem PySem.W.Fast.tw2929499704599575185:True:=⟨⟩
theorem PySem.W.Fast.tw4720656446214407857:True:=⟨⟩
theorem PySem.W.Fast.tw6913956653462661905:True:=⟨⟩
theorem PySem.W.Fast.tw18165026685594629969:True:=⟨⟩
theorem PySem.W.Fast.tw3505469322356334642:True:=⟨⟩
theorem PySem.W.Fast.tw11430946292565507122:True:=⟨⟩
theorem PySem.W.Fast.tw2508136182964411538:True:=⟨⟩
theorem PySem.W.Fast.tw13346090763625208146:True:=⟨⟩
theorem PySem.W.Fast.tw13296760277096018290:True:=⟨⟩
theorem PySem.W.Fast.tw14560715246702460274:True:=⟨⟩
theorem PySem.W.Fast.tw6925854073718207986:True:=⟨⟩
theorem PySem.W.Fast.tw14093779346613330482:True:=⟨⟩
theorem PySem.W.Fast.tw3709380588422667026:True:=⟨⟩
theorem PySem.W.Fast.tw4717497287037503346:True:=⟨⟩
theorem PySem.W.Fast.tw6995093653720275954:True:=⟨⟩
theorem PySem.W.Fast.tw10157371054377676819:True:=⟨⟩
theorem PySem.W.Fast.tw17130944298693552147:True:=⟨⟩
theorem PySem.W.Fast.tw2410371755174347827:True:=⟨⟩
theorem PySem.W.Fast.tw13050874231119395923:True:=⟨⟩
theorem PySem.W.Fast.tw100745212032144499:True:=⟨⟩
theorem PySem.W.Fast.tw11088027874836275347:True:=⟨⟩
theorem PySem.W.Fast.tw10834908348407613651:True:=⟨⟩
theorem PySem.W.Fast.tw2473176642637966579:True:=⟨⟩
theorem PySem.W.Fast.tw12703659729041865043:True:=⟨⟩
theorem PySem.W.Fast.tw17188726546670750099:True:=⟨⟩
theorem PySem.W.Fast.tw10509373087286525395:True:=⟨⟩
theorem PySem.W.Fast.tw10547704676222899699:True:=⟨⟩
theorem PySem.W.Fast.tw13210225123704094195:True:=⟨⟩
theorem PySem.W.Fast.tw7664651891286067731:True:=⟨⟩
theorem PySem.W.Fast.tw16085061423622533715:True:=⟨⟩
theorem PySem.W.Fast.tw2491627111052796499:True:=⟨⟩
theorem PySem.W.Fast.tw15509899158001632915:True:=⟨⟩
theorem PySem.W.Fast.tw16504428551662067411:True:=⟨⟩
theorem PySem.W.Fast.tw2785840689548358515:True:=⟨⟩
theorem PySem.W.Fast.tw5653212624279228307:True:=⟨⟩
theorem PySem.W.Fast.tw4657181450512386003:True:=⟨⟩
theorem PySem.W.Fast.tw21055658683012244:True:=⟨⟩
theorem PySem.W.Fast.tw12592063705723404628:True:=⟨⟩
theorem PySem.W.Fast.tw5376681563331020148:True:=⟨⟩
theorem PySem.W.Fast.tw12011908282538828244:True:=⟨⟩
theorem PySem.W.Fast.tw13571786095009502740:True:=⟨⟩
theorem PySem.W.Fast.tw8210090912255682100:True:=⟨⟩
theorem PySem.W.Fast.tw2124910145653203636:True:=⟨⟩
theorem PySem.W.Fast.tw1090013292363293396:True:=⟨⟩
theorem PySem.W.Fast.tw12669946259038885588:True:=⟨⟩
theorem PySem.W.Fast.tw15316538394165737204:True:=⟨⟩
theorem PySem.W.Fast.tw2753150595814443892:True:=⟨⟩
theorem PySem.W.Fast.tw16098309268466839444:True:=⟨⟩
theorem PySem.W.Fast.tw13207174164668530644:True:=⟨⟩
theorem PySem.W.Fast.tw13124559367588752405:True:=⟨⟩
theorem PySem.W.Fast.tw12208966045714891925:True:=⟨⟩
theorem PySem.W.Fast.tw7349518162144589045:True:=⟨⟩
theorem PySem.W.Fast.tw4227681646586504501:True:=⟨⟩
theorem PySem.W.Fast.tw8979595947930211669:True:=⟨⟩
theorem PySem.W.Fast.tw11991101159772025237:True:=⟨⟩
theorem PySem.W.Fast.tw7092970695208589877:True:=⟨⟩
theorem PySem.W.Fast.tw16367894962603714357:True:=⟨⟩
theorem PySem.W.Fast.tw6142839169277150005:True:=⟨⟩
theorem PySem.W.Fast.tw8134383943803292501:True:=⟨⟩
theorem PySem.W.Fast.tw3809231410242063349:True:=⟨⟩
theorem PySem.W.Fast.tw16599595296211572854:True:=⟨⟩
theorem PySem.W.Fast.tw10750471722616127638:True:=⟨⟩
theorem PySem.W.Fast.tw14268623905843864726:True:=⟨⟩
theorem PySem.W.Fast.tw12993265314349369622:True:=⟨⟩
theorem PySem.W.Fast.tw711727005784684982:True:=⟨⟩
theorem PySem.W.Fast.tw2838914782233353718:True:=⟨⟩
theorem PySem.W.Fast.tw5659911583950264886:True:=⟨⟩
theorem PySem.W.Fast.tw3288668190254088790:True:=⟨⟩
theorem PySem.W.Fast.tw16211177670753882742:True:=⟨⟩
theorem PySem.W.Fast.tw2166842382498580182:True:=⟨⟩
theorem PySem.W.Fast.tw8576865887692095254:True:=⟨⟩
theorem PySem.W.Fast.tw17809228384161384535:True:=⟨⟩
theorem PySem.W.Fast.tw6634104645797462519:True:=⟨⟩
theorem PySem.W.Fast.tw875956723576322615:True:=⟨⟩
theorem PySem.W.Fast.tw10405961379653821111:True:=⟨⟩
theorem PySem.W.Fast.tw16684367346254506775:True:=⟨⟩
theorem PySem.W.Fast.tw12429851960119488279:True:=⟨⟩
theorem PySem.W.Fast.tw4454976216134920119:True:=⟨⟩
theorem PySem.W.Fast.tw163040419811285943:True:=⟨⟩
theorem PySem.W.Fast.tw4755232659536928984:True:=⟨⟩
theorem PySem.W.Fast.tw17265997571453222136:True:=⟨⟩
theorem PySem.W.Fast.tw1539601801342134552:True:=⟨⟩
theorem PySem.W.Fast.tw12163039291605437784:True:=⟨⟩
theorem PySem.W.Fast.tw16027551298211312184:True:=⟨⟩
theorem PySem.W.Fast.tw14417478945200294552:True:=⟨⟩
theorem PySem.W.Fast.tw7728144485157632696:True:=⟨⟩
theorem PySem.W.Fast.tw911738013979801272:True:=⟨⟩
theorem PySem.W.Fast.tw18255694901011265464:True:=⟨⟩
theorem PySem.W.Fast.tw17475694051923537017:True:=⟨⟩
theorem PySem.W.Fast.tw10780054422004810969:True:=⟨⟩
theorem PySem.W.Fast.tw5142924064868072729:True:=⟨⟩
theorem PySem.W.Fast.tw11290602741356243321:True:=⟨⟩
theorem PySem.W.Fast.tw13898630059476562297:True:=⟨⟩
theorem PySem.W.Fast.tw12004276415766019449:True:=⟨⟩
theorem PySem.W.Fast.tw12516383239530049945:True:=⟨⟩
theorem PySem.W.Fast.tw11160634334265720249:True:=⟨⟩
theorem PySem.W.Fast.tw1166834679225745977:True:=⟨⟩
theorem PySem.W.Fast.tw11544889017940871737:True:=⟨⟩
theorem PySem.W.Fast.tw14477506233454825017:True:=⟨⟩
theorem PySem.W.Fast.tw461710071059924601:True:=⟨⟩
theorem PySem.W.Fast.tw14752702408442406553:True:=⟨⟩
theorem PySem.W.Fast.tw9346533663514952409:True:=⟨⟩
theorem PySem.W.Fast.tw17360548557743705817:True:=⟨⟩
theorem PySem.W.Fast.tw4461605078851242873:True:=⟨⟩
theorem PySem.W.Fast.tw9071684673237507065:True:=⟨⟩
theorem PySem.W.Fast.tw5020526090905731065:True:=⟨⟩
theorem PySem.W.Fast.tw13233198073534605626:True:=⟨⟩
theorem PySem.W.Fast.tw14205155662831007098:True:=⟨⟩
theorem PySem.W.Fast.tw15078096818461175194:True:=⟨⟩
theorem PySem.W.Fast.tw1044839203679016442:True:=⟨⟩
theorem PySem.W.Fast.tw6065886116494084666:True:=⟨⟩
theorem PySem.W.Fast.tw7120730593108143770:True:=⟨⟩
theorem PySem.W.Fast.tw3845197462834587322:True:=⟨⟩
theorem PySem.W.Fast.tw16303024097239059162:True:=⟨⟩
theorem PySem.W.Fast.tw936774033545229371:True:=⟨⟩
theorem PySem.W.Fast.tw16754895850233583835:True:=⟨⟩
theorem PySem.W.Fast.tw13805691227607646459:True:=⟨⟩
theorem PySem.W.Fast.tw698296005992097179:True:=⟨⟩
theorem PySem.W.Fast.tw3613627955865166267:True:=⟨⟩
theorem PySem.W.Fast.tw17176932401289689563:True:=⟨⟩
theorem PySem.W.Fast.tw14030342221009314363:True:=⟨⟩
theorem PySem.W.Fast.tw13689709774965275355:True:=⟨⟩
theorem PySem.W.Fast.tw13197906815996579675:True:=⟨⟩
theorem PySem.W.Fast.tw3552713530065597371:True:=⟨⟩
theorem PySem.W.Fast.tw12365940242870649787:True:=⟨⟩
theorem PySem.W.Fast.tw12658034655514689564:True:=⟨⟩
theorem PySem.W.Fast.tw13255451840554279964:True:=⟨⟩
theorem PySem.W.Fast.tw15572978850687325276:True:=⟨⟩
theorem PySem.W.Fast.tw3052239005138702492:True:=⟨⟩
theorem PySem.W.Fast.tw782223165075887356:True:=⟨⟩
theorem PySem.W.Fast.tw5556897405157990940:True:=⟨⟩
theorem PySem.W.Fast.tw9264607850795031068:True:=⟨⟩
theorem PySem.W.Fast.tw6237371885644532348:True:=⟨⟩
theorem PySem.W.Fast.tw6829217781618814620:True:=⟨⟩
theorem PySem.W.Fast.tw1605756184688799516:True:=⟨⟩
theorem PySem.W.Fast.tw7373764812197962524:True:=⟨⟩
theorem PySem.W.Fast.tw8476892170957961020:True:=⟨⟩
theorem PySem.W.Fast.tw16223911826079699836:True:=⟨⟩
theorem PySem.W.Fast.tw8264008693726678972:True:=⟨⟩
theorem PySem.W.Fast.tw17660127753228234813:True:=⟨⟩
theorem PySem.W.Fast.tw18168102906683746493:True:=⟨⟩
theorem PySem.W.Fast.tw2462408587045779677:True:=⟨⟩
theorem PySem.W.Fast.tw11200775612869617981:True:=⟨⟩
theorem PySem.W.Fast.tw4515937558030987581:True:=⟨⟩
theorem PySem.W.Fast.tw17115697182201998717:True:=⟨⟩
theorem PySem.W.Fast.tw5269072478247241085:True:=⟨⟩
theorem PySem.W.Fast.tw9740897548359549341:True:=⟨⟩
theorem PySem.W.Fast.tw9567682234636599709:True:=⟨⟩
theorem PySem.W.Fast.tw4104513885555262973:True:=⟨⟩
theorem PySem.W.Fast.tw9026533046182505021:True:=⟨⟩
theorem PySem.W.Fast.tw12916635789764149853:True:=⟨⟩
theorem PySem.W.Fast.tw16889421349634453213:True:=⟨⟩
theorem PySem.W.Fast.tw721305218624385821:True:=⟨⟩
theorem PySem.W.Fast.tw2953508593196354429:True:=⟨⟩
theorem PySem.W.Fast.tw17527604195688259517:True:=⟨⟩
theorem PySem.W.Fast.tw8476393471936469054:True:=⟨⟩
theorem PySem.W.Fast.tw13286100395162401886:True:=⟨⟩
theorem PySem.W.Fast.tw15956632560416610718:True:=⟨⟩
theorem PySem.W.Fast.tw8179086771467324894:True:=⟨⟩
theorem PySem.W.Fast.tw6540639840742859486:True:=⟨⟩
theorem PySem.W.Fast.tw5162017116546341630:True:=⟨⟩
theorem PySem.W.Fast.tw3157003239365900447:True:=⟨⟩
theorem PySem.W.Fast.tw4573155548180800767:True:=⟨⟩
theorem PySem.W.Fast.tw6804609128893486335:True:=⟨⟩
theorem PySem.W.Fast.tw17598251570755328351:True:=⟨⟩
theorem PySem.W.Fast.tw3341591482538132863:True:=⟨⟩
theorem PySem.W.Fast.tw5281448249473763807:True:=⟨⟩
theorem PySem.W.Fast.tw3249290224426682079:True:=⟨⟩
theorem PySem.W.Fast.tw106250529674407711:True:=⟨⟩
theorem PySem.W.Fast.tw1511344462233512831:True:=⟨⟩
theorem PySem.W.Fast.tw15376910058791638975:True:=⟨⟩
theorem PySem.W.Fast.tw17608733337263060022:True:=⟨⟩
set_option maxRecDepth 100000 in
set_option maxHeartbeats 0 in
theorem PySem.Challenge.cw_unlikesteps_k72_whole_corners_holds : PySem.Challenge.rw_unlikesteps_k72_whole_corners.Holds := by
 w_on; o_law; k_head; (case hw => w_witness2)
 k_fill
 refine U.Ai (l := PySem.Challenge.rw_unlikesteps_k72_whole_corners) (n := 63) (k := 15) (x := "_law_script") (Pts := []) (sp := fun K => U.qN K) rfl (by decide) rfl ⟨rfl, by decide, by decide, rfl⟩ (fun w h Y => PySem.W.kIn_of Y) (fun _ _ _ _ h => by cases h) (fun _ _ _ _ h => by cases h) (fun _ _ h => by cases h) ?F ?S
 case S => exact fun K H a ns hl hs hp => ⟨a, ns, rfl, hs, hl, fun _ => rfl⟩
 case F =>
  intro w mg fa h KX G hmg
  refine' U.C5 KX G hmg (U.bg ?a0 ?b0 ?c0 ?e0) (U.bg ?a1 ?b1 ?c1 ?e1) (U.bg ?a2 ?b2 ?c2 ?e2) (U.bg ?a3 ?b3 ?c3 ?e3) (U.bg ?a4 ?b4 ?c4 ?e4) (U.bg ?a5 ?b5 ?c5 ?e5) (U.bg ?a6 ?b6 ?c6 ?e6) (U.bg ?a7 ?b7 ?c7 ?e7) (U.bg ?a8 ?b8 ?c8 ?e8) (U.bg ?a9 ?b9 ?c9 ?e9) (U.bg ?a10 ?b10 ?c10 ?e10) (U.bg ?a11 ?b11 ?c11 ?e11) (U.bg ?a12 ?b12 ?c12 ?e12) (U.bg ?a13 ?b13 ?c13 ?e13) (U.bg ?a14 ?b14 ?c14 ?e14) (U.bg ?a15 ?b15 ?c15 ?e15) (U.bg ?a16 ?b16 ?c16 ?e16) (U.bg ?a17 ?b17 ?c17 ?e17) (U.bg ?a18 ?b18 ?c18 ?e18) (U.bg ?a19 ?b19 ?c19 ?e19) (U.bg ?a20 ?b20 ?c20 ?e20) (U.bg ?a21 ?b21 ?c21 ?e21) (U.bg ?a22 ?b22 ?c22 ?e22) (U.bg ?a23 ?b23 ?c23 ?e23) (U.bg ?a24 ?b24 ?c24 ?e24) (U.bg ?a25 ?b25 ?c25 ?e25) (U.bg ?a26 ?b26 ?c26 ?e26) (U.bg ?a27 ?b27 ?c27 ?e27) (U.bg ?a28 ?b28 ?c28 ?e28) (U.bg ?a29 ?b29 ?c29 ?e29) (U.bg ?a30 ?b30 ?c30 ?e30) (U.bg ?a31 ?b31 ?c31 ?e31) (U.bg ?a32 ?b32 ?c32 ?e32) (U.bg ?a33 ?b33 ?c33 ?e33) (U.bg ?a34 ?b34 ?c34 ?e34) (U.bg ?a35 ?b35 ?c35 ?e35) (U.bg ?a36 ?b36 ?c36 ?e36) (U.bg ?a37 ?b37 ?c37 ?e37) ?g1 ?kc0 ?kc1
  (case a0 => k_is); (case b0 => k_is); (case c0 => k_is); (case e0 => k_is)
  (case a1 => k_is); (case b1 => k_is); (case c1 => k_is); (case e1 => k_is)
  (case a2 => k_is); (case b2 => k_is); (case c2 => k_is); (case e2 => k_is)
  (case a3 => k_is); (case b3 => k_is); (case c3 => k_is); (case e3 => k_is)
  (case a4 => k_is); (case b4 => k_is); (case c4 => k_is); (case e4 => k_is)
  (case a5 => k_is); (case b5 => k_is); (case c5 => k_is); (case e5 => k_is)
  (case a6 => k_is); (case b6 => k_is); (case c6 => k_is); (case e6 => k_is)
  (case a7 => k_is); (case b7 => k_is); (case c7 => k_is); (case e7 => k_is)
  (case a8 => k_is); (case b8 => k_is); (case c8 => k_is); (case e8 => k_is)
  (case a9 => k_is); (case b9 => k_is); (case c9 => k_is); (case e9 => k_is)
  (case a10 => k_is); (case b10 => k_is); (case c10 => k_is); (case e10 => k_is)
  (case a11 => k_is); (case b11 => k_is); (case c11 => k_is); (case e11 => k_is)
  (case a12 => k_is); (case b12 => k_is); (case c12 => k_is); (case e12 => k_is)
  (case a13 => k_is); (case b13 => k_is); (case c13 => k_is); (case e13 => k_is)
  (case a14 => k_is); (case b14 => k_is); (case c14 => k_is); (case e14 => k_is)
  (case a15 => k_is); (case b15 => k_is); (case c15 => k_is); (case e15 => k_is)
  (case a16 => k_is); (case b16 => k_is); (case c16 => k_is); (case e16 => k_is)
  (case a17 => k_is); (case b17 => k_is); (case c17 => k_is); (case e17 => k_is)
  (case a18 => k_is); (case b18 => k_is); (case c18 => k_is); (case e18 => k_is)
  (case a19 => k_is); (case b19 => k_is); (case c19 => k_is); (case e19 => k_is)
  (case a20 => k_is); (case b20 => k_is); (case c20 => k_is); (case e20 => k_is)
  (case a21 => k_is); (case b21 => k_is); (case c21 => k_is); (case e21 => k_is)
  (case a22 => k_is); (case b22 => k_is); (case c22 => k_is); (case e22 => k_is)
  (case a23 => k_is); (case b23 => k_is); (case c23 => k_is); (case e23 => k_is)
  (case a24 => k_is); (case b24 => k_is); (case c24 => k_is); (case e24 => k_is)
  (case a25 => k_is); (case b25 => k_is); (case c25 => k_is); (case e25 => k_is)
  (case a26 => k_is); (case b26 => k_is); (case c26 => k_is); (case e26 => k_is)
  (case a27 => k_is); (case b27 => k_is); (case c27 => k_is); (case e27 => k_is)
  (case a28 => k_is); (case b28 => k_is); (case c28 => k_is); (case e28 => k_is)
  (case a29 => k_is); (case b29 => k_is); (case c29 => k_is); (case e29 => k_is)
  (case a30 => k_is); (case b30 => k_is); (case c30 => k_is); (case e30 => k_is)
  (case a31 => k_is); (case b31 => k_is); (case c31 => k_is); (case e31 => k_is)
  (case a32 => k_is); (case b32 => k_is); (case c32 => k_is); (case e32 => k_is)
  (case a33 => k_is); (case b33 => k_is); (case c33 => k_is); (case e33 => k_is)
  (case a34 => k_is); (case b34 => k_is); (case c34 => k_is); (case e34 => k_is)
  (case a35 => k_is); (case b35 => k_is); (case c35 => k_is); (case e35 => k_is)
  (case a36 => k_is); (case b36 => k_is); (case c36 => k_is); (case e36 => k_is)
  (case a37 => k_is); (case b37 => k_is); (case c37 => k_is); (case e37 => k_is)
  (case g1 => kernel_rfl)
  (case kc0 => k_is)
  (case kc1 => k_is)
