import PyProof.Rows.All
import Wide.All
import OpenK.AllK
import Wide.FinOn
import Lean
import PyProof.EqAt
import PyProof.EqKinds
import PyProof.TupleCall
import PyProof.NeKinds
import PyProof.Rows.SortWalk
import PyProof.Rows.SortRuns
import KE.KMinKey
import PyProof.IsRules
import PySem.SetOps
import PyProof.SetScanFacts
import PyProof.TupleKey
import PyProof.SetKind
import PyProof.Rows.SetFrom
import KE.KRevSl
import PyProof.Rows.SumAny
import PyProof.EnumMake
import PyProof.SeqI3
import PyProof.TupleOfGen
import PyProof.ListRange
import PyProof.CollectIter
import PyProof.DictItems
import KE.KDictList
import PySem.Challenge.RW_unlikesteps_k12_hits_of_two_lays
set_option Elab.async false
set_option linter.all false
set_option maxRecDepth 100000
set_option maxHeartbeats 0
namespace L2
open PySem PySem.Spec PyProof.Rows
abbrev Key:=Sum Int Str
def nP:Key→Value→Bool
 | .inl k,v=>Value.isInt k v
 | .inr x,v=>Value.isStrOf x v
def IQ (w:World):Key→Int
 | .inl k=>hashInt k
 | .inr x=>hashStr w x
theorem ZQ:∀{k:Key}{v:Value},nP k v=true→(∃i t,k=Sum.inl i∧v=Value.int i t)∨(∃x t,k=Sum.inr x∧v=Value.str x t)
 | .inl i,v,h=>by
  obtain⟨t,e⟩:=Value.isInt_shape (k:=i) (v:=v) h
  exact .inl ⟨i,t,rfl,e⟩
 | .inr x,v,h=>by
  obtain⟨t,e⟩:=Value.isStrOf_shape (x:=x) (v:=v) h
  exact .inr ⟨x,t,rfl,e⟩
theorem QM (i:Int) (t:Tok):nP (.inl i) (.int i t)=true:=by simp[nP,Value.isInt]
theorem QN (x:Str) (t:Tok):nP (.inr x) (.str x t)=true:=by simp[nP,Value.isStrOf]
theorem Pn (a b:Int):decide ((Sum.inl a:Key)=Sum.inl b)=(a==b):=by
 by_cases e:a=b
 ·subst e;simp
 ·have h:¬(Sum.inl a:Key)=Sum.inl b:=fun q=>e (Sum.inl.inj q)
  rw[decide_eq_false h]
  exact(beq_eq_false_iff_ne.mpr e).symm
theorem OP (a b:Str):decide ((Sum.inr a:Key)=Sum.inr b)=decide (a=b):=by
 by_cases e:a=b
 ·subst e;simp
 ·have h:¬(Sum.inr a:Key)=Sum.inr b:=fun q=>e (Sum.inr.inj q)
  rw[decide_eq_false h,decide_eq_false e]
theorem Po (a:Int) (b:Str):decide ((Sum.inl a:Key)=Sum.inr b)=false:=decide_eq_false (fun q=>nomatch q)
theorem OO (a:Str) (b:Int):decide ((Sum.inr a:Key)=Sum.inl b)=false:=decide_eq_false (fun q=>nomatch q)
def dW (prog:Program) (w:World):PySem.KeyKind prog w Key where
 is:=nP
 hash:=IQ w
 inj:=fun v a b ha hb=>by
  rcases ZQ ha with ⟨i,t,rfl,rfl⟩ |⟨x,t,rfl,rfl⟩
  ·rcases ZQ hb with ⟨j,u,rfl,e⟩ |⟨y,u,rfl,e⟩
   ·injection e with e1 _;rw[e1]
   ·exact nomatch e
  ·rcases ZQ hb with ⟨j,u,rfl,e⟩ |⟨y,u,rfl,e⟩
   ·exact nomatch e
   ·injection e with e1 _;rw[e1]
 byValue:=fun k v h=>by
  rcases ZQ h with ⟨i,t,rfl,rfl⟩ |⟨x,t,rfl,rfl⟩<;>rfl
 pyHash:=fun hv h=>by
  rcases ZQ hv with ⟨i,t,rfl,rfl⟩ |⟨x,t,rfl,rfl⟩
  ·exact wpAny_pyHash_int h
  ·exact wpAny_pyHash_str h
 eqBool:=fun hu hv h=>by
  rcases ZQ hu with ⟨i,t,rfl,rfl⟩ |⟨x,t,rfl,rfl⟩
  ·rcases ZQ hv with ⟨j,u,rfl,rfl⟩ |⟨y,u,rfl,rfl⟩
   ·rw[Pn]at h;exact wpAny_eqBool_int h
   ·rw[Po]at h;exact SeqAt.EqAt.int_str i t y u _ _ _ _ h
  ·rcases ZQ hv with ⟨j,u,rfl,rfl⟩ |⟨y,u,rfl,rfl⟩
   ·rw[OO]at h;exact SeqAt.EqAt.str_int x t j u _ _ _ _ h
   ·rw[OP]at h;exact wpAny_eqBool_str h
 «strs» :=fun k x t v h=>by
  rcases ZQ h with ⟨i,u,rfl,e⟩ |⟨y,u,rfl,e⟩
  ·exact nomatch e
  ·injection e with e1 _
   subst e1
   cases v<;>rfl
theorem UE (prog:Program) (w:World) (i:Int) (t:Tok):(dW prog w).is (.inl i) (.int i t)=true:=QM i t
theorem UD (prog:Program) (w:World) (x:Str) (t:Tok):(dW prog w).is (.inr x) (.str x t)=true:=QN x t
inductive V where
 |af |bl (b:Bool) |int (i:Int) |str (x:Str) |iT (b:Array UInt8) |ij (b:UInt64) |ref (a:Addr) |ty (n:String)
 deriving DecidableEq
def RelV:V→Value→Prop
 | .af,u=>u=Value.none
 | .bl b,u=>u=Value.bool b
 | .int i,u=> ∃t,u=Value.int i t
 | .str x,u=> ∃t,u=Value.str x t
 | .iT b,u=> ∃t,u=Value.bytes b t
 | .ij b,u=> ∃t,u=Value.float b t
 | .ref a,u=>u=Value.ref a
 | .ty n,u=>u=Value.type n
abbrev Vals:List V→List Value→Prop:=Paired RelV
theorem Vals.length {xs:List V}{us:List Value}(r:Vals xs us):xs.length=us.length:=Paired.length r
theorem Vals.get:∀{xs:List V}{us:List Value}{i:Nat}{x:V},Vals xs us→xs[i]? =some x→∃u,us[i]? =some u∧RelV x u
 |_,_,_,_,.nil,e=>by simp at e
 |_,_,0,_,.cons r _,e=>by simp at e;subst e;exact⟨_,rfl,r⟩
 |_,_,i+1,x,.cons _ t,e=>by
  obtain⟨u,h1,h2⟩:=Vals.get (i:=i) (x:=x) t (by simpa using e)
  exact⟨u,by simpa using h1,h2⟩
theorem Vals.set {x:V}{u:Value}(r:RelV x u):∀{xs:List V}{us:List Value}(i:Nat),Vals xs us→Vals (xs.set i x) (us.set i u)
 |_,_,_,.nil=> .nil
 |_,_,0,.cons _ t=> .cons r t
 |_,_,i+1,.cons q t=> .cons q (Vals.set r i t)
theorem Vals.append:∀{xs ys:List V}{us ws:List Value},Vals xs us→Vals ys ws→Vals (xs++ys) (us++ws)
 |_,_,_,_,.nil,s=>s
 |_,_,_,_,.cons r t,s=> .cons r (Vals.append t s)
theorem Vals.take:∀{xs:List V}{us:List Value}(n:Nat),Vals xs us→Vals (xs.take n) (us.take n)
 |_,_,0,_=> .nil
 |_,_,_+1,.nil=> .nil
 |_,_,n+1,.cons r t=> .cons r (Vals.take n t)
theorem Vals.drop:∀{xs:List V}{us:List Value}(n:Nat),Vals xs us→Vals (xs.drop n) (us.drop n)
 |_,_,0,r=>r
 |_,_,_+1,.nil=> .nil
 |_,_,n+1,.cons _ t=>Vals.drop n t
def jw:Option V→Option Value→Prop
 |some v,some u=>RelV v u
 |none,none=>True
 |_,_=>False
def KV {κ:Type} :List (κ×V)→List (κ×Value)→Prop:=Paired fun(p:κ×V) (q:κ×Value)=>p.1=q.1∧RelV p.2 q.2
def kV:Key→V
 | .inl i=> .int i
 | .inr x=> .str x
inductive HO where
  |lst (xs:List V)
  |tup (xs:List V)
  |par (xs:List V)
  |dK (kvs:List (Key×V)) |dT (kvs:List (List Key×V))
  |set (S:Int→Bool) (n:Nat)
  |ins (C dx:Addr) (fs:List (Str×V))
  |own (x:Addr)
  |xd (fs:List (Str×V))
  |met (f x:Addr)
  |fY (lo hi:Int)
  |aW (o:Obj) (u:HO)
  |cg (ps:Array Value)
  |ext (φ:Heap→Prop)
abbrev Hp:=Addr→Option HO
def upd (H:Hp) (a:Addr) (o:HO):Hp:=fun b=>if b=a then some o else H b
theorem Zc {H:Hp}{a:Addr}{o:HO} :upd H a o a=some o:=by unfold upd;rw[if_pos rfl]
theorem Zh {H:Hp}{a b:Addr}{o:HO}(h:b≠a):upd H a o b=H b:=by unfold upd;rw[if_neg h]
theorem Z4 {H:Hp}{a b:Addr}{o u:HO}(h:H a=some o) (h':H b=some u) (d:o≠u):a≠b:=by
 intro e;subst e;rw[h]at h';exact d (Option.some.inj h')
theorem Zd {H:Hp}{a b:Addr}{o:HO}(h:H a=some o) (h':H b=none):a≠b:=by
 intro e;subst e;rw[h]at h';cases h'
section
variable (P:Program) (w:World)
def aO (H:Hp) (h:Heap) (a:Addr):HO→Prop
 | .lst xs=>xs.length≤sizeLine∧∃(its:List Value) (n:Nat),Vals xs its∧h.get? a=some {cls:=.type "list",data:=.seq its.toArray n}
 | .tup xs=>xs.length≤sizeLine∧∃its:List Value,Vals xs its∧IsTup h a its.toArray∧∃o,h.get? a=some o∧o.dict=none
 | .par xs=>xs.length≤sizeLine∧∃its:List Value,Vals xs its∧IsTup h a its.toArray
 | .dK kvs=>kvs.length≤sizeLine∧(a==sysModules)=false∧∃vs,KV kvs vs∧h.DictOf (dW P w) a vs
 | .dT kvs=>kvs.length≤sizeLine∧(a==sysModules)=false∧∃xs:List (List Key×Addr×Value),
   Paired (fun(p:List Key×V) (q:List Key×Addr×Value)=>p.1=q.1∧H q.2.1=some (.tup (p.1.map kV))∧RelV p.2 q.2.2) kvs xs∧
   ∃o es ep,h.get? a=some o∧o.ExactDict∧o.data=.dict es ep∧es.toList=xs.map (entryOfKey (tupleKind (dW P w)))∧(xs.map (·.1)).Nodup
 | .set S n=>h.SetOf (intKind P w) a S n
 | .ins C dx fs=>H dx=some (.own a)∧fs.length≤1000∧dx≠a∧h.get? a=some (PySem.W.instObj C dx)∧
   ∃mA,h.Ns1 dx mA∧(∀f,jw (fs.lookup f) (mA f))∧PySem.Within mA (fs.map (·.1))
 | .own _=> ∃o,h.get? a=some o
 | .xd fs=> ∃mA,h.Ns1 a mA∧∀f,jw (fs.lookup f) (mA f)
 | .fY lo hi=> ∃t u v,h.get? a=some {cls:=.type "range",data:=.fields #[.int lo t,.int hi u,.int 1 v]}
 | .aW o u=>h.get? a=some o∧aO H h a u
 | .cg ps=>h.get? a=some {cls:=.none,data:=.fields ps}
 | .met f x=>h.get? a=some (PySem.W.methodObj (.ref f) (.ref x))
 | .ext φ=>φ h∧(∃o,h.get? a=some o)∧∀h1 h2:Heap,φ h1→(∀o,h1.get? a=some o→h2.get? a=some o)→φ h2
def bo (H:Hp) (h:Heap):Prop:=∀a o,H a=some o→aO P w H h a o
end
section
variable {P:Program}{w:World}{H H':Hp}{h h':Heap}{a:Addr}{o:HO}
theorem aO.lt (x:aO P w H h a o):a<h.objs.size:=by
 cases o with
 |lst xs=>obtain⟨_,_,_,_,e⟩:=x;exact Heap.lt_size e
 |tup xs=>obtain⟨_,_,_,p,_⟩:=x;exact p.lt
 |par xs=>obtain⟨_,_,_,p⟩:=x;exact p.lt
 |dK kvs=>obtain⟨_,_,_,_,o,_,_,e,_⟩:=x;exact Heap.lt_size e
 |dT kvs=>obtain⟨_,_,_,_,o,_,_,e,_⟩:=x;exact Heap.lt_size e
 |set S n=>obtain⟨o,_,_,_,e,_⟩:=x;exact Heap.lt_size e
 |ins C dx fs=>obtain⟨_,_,_,e,_⟩:=x;exact Heap.lt_size e
 |own y=>obtain⟨_,e⟩:=x;exact Heap.lt_size e
 |xd fs=>obtain⟨_,⟨_,_,_,e,_⟩,_⟩:=x;exact Heap.lt_size e
 |fY lo hi=>obtain⟨_,_,_,e⟩:=x;exact Heap.lt_size e
 |aW ob u=>obtain⟨e,_⟩:=x;exact Heap.lt_size e
 |cg ps=>exact Heap.lt_size (show h.get? a=some _ from x)
 |met f y=>exact Heap.lt_size (show h.get? a=some _ from x)
 |ext φ=>obtain⟨_,⟨_,e⟩,_⟩:=x;exact Heap.lt_size e
theorem Paired.dj {α β:Type}{F G:α→β→Prop} :∀{jX:List α}{jW:List β},Paired F jX jW→(∀a b,F a b→G a b)→Paired G jX jW
 |_,_,.nil,_=> .nil
 |_,_,.cons r t,f=> .cons (f _ _ r) (Paired.dj t f)
theorem aO.dP (x:aO P w H h a o) (k:∀b u,(b=a∨H b=some (.own a))→h.get? b=some u→h'.get? b=some u)
  (ho:∀b,H b=some (.own a)→H' b=some (.own a)) (ht:∀b xs,H b=some (.tup xs)→H' b=some (.tup xs)):aO P w H' h' a o:=by
 induction o with
 |lst xs=>obtain⟨z,its,n,r,e⟩:=x;exact⟨z,its,n,r,k _ _ (.inl rfl) e⟩
 |tup xs=>obtain⟨z,its,r,⟨ob,e,c⟩,o2,e2,c2⟩:=x;exact⟨z,its,r,⟨ob,k _ _ (.inl rfl) e,c⟩,o2,k _ _ (.inl rfl) e2,c2⟩
 |par xs=>obtain⟨z,its,r,ob,e,c⟩:=x;exact⟨z,its,r,ob,k _ _ (.inl rfl) e,c⟩
 |dK kvs=>obtain⟨z,y,vs,r,ob,es,ep,e,c⟩:=x;exact⟨z,y,vs,r,ob,es,ep,k _ _ (.inl rfl) e,c⟩
 |dT kvs=>
  obtain⟨z,y,xs,r,ob,es,ep,e,c⟩:=x
  exact⟨z,y,xs,Paired.dj r fun p q z=> ⟨z.1,ht _ _ z.2.1,z.2.2⟩,ob,es,ep,k _ _ (.inl rfl) e,c⟩
 |set S n=>obtain⟨ob,es,ep,t,e,c⟩:=x;exact⟨ob,es,ep,t,k _ _ (.inl rfl) e,c⟩
 |ins C dx fs=>
  obtain⟨d,z,ne,e,mA,⟨od,es,ep,e2,c⟩,r⟩:=x
  exact⟨ho _ d,z,ne,k _ _ (.inl rfl) e,mA,⟨od,es,ep,k _ _ (.inr d) e2,c⟩,r⟩
 |own y=>obtain⟨ob,e⟩:=x;exact⟨ob,k _ _ (.inl rfl) e⟩
 |xd fs=>obtain⟨mA,⟨od,es,ep,e,c⟩,r⟩:=x;exact⟨mA,⟨od,es,ep,k _ _ (.inl rfl) e,c⟩,r⟩
 |fY lo hi=>obtain⟨t,u,v,e⟩:=x;exact⟨t,u,v,k _ _ (.inl rfl) e⟩
 |aW ob u ih=>obtain⟨e,q⟩:=x;exact⟨k _ _ (.inl rfl) e,ih q⟩
 |cg ps=>
  have e:h.get? a=some {cls:=.none,data:=.fields ps} :=x
  show h'.get? a=some {cls:=.none,data:=.fields ps}
  exact k a _ (.inl rfl) e
 |met f y=>
  have e:h.get? a=some (PySem.W.methodObj (.ref f) (.ref y)):=x
  show h'.get? a=some (PySem.W.methodObj (.ref f) (.ref y))
  exact k a _ (.inl rfl) e
 |ext φ=>obtain⟨p,⟨o,e⟩,st⟩:=x;exact⟨st _ _ p fun o q=>k _ _ (.inl rfl) q,⟨o,k _ _ (.inl rfl) e⟩,st⟩
theorem bo.lt (x:bo P w H h) (e:H a=some o):a<h.objs.size:=(x a o e).lt
theorem bo.fresh (x:bo P w H h) (e:h.objs.size≤a):H a=none:=by
 cases q:H a with
 |none=>rfl
 |some u=>exact absurd (Nat.lt_of_lt_of_le (x.lt q) e) (Nat.lt_irrefl _)
theorem bo.kept (x:bo P w H h) (k:∀b u,h.get? b=some u→h'.get? b=some u):bo P w H h':=fun a o e=>
 (x a o e).dP (fun b u _ q=>k b u q) (fun _ q=>q) fun _ _ q=>q
theorem bo.laid (x:bo P w H h) (k:∀b u,h.get? b=some u→h'.get? b=some u) (hp:h.objs.size≤a) (new:aO P w (upd H a o) h' a o):bo P w (upd H a o) h':=fun b u e=>by
 have hn:=x.fresh hp
 by_cases hb:b=a
 ·subst hb;rw[Zc]at e;cases e;exact new
 ·rw[Zh hb]at e
  exact(x b u e).dP (fun c v _ q=>k c v q) (fun c q=>by rw[Zh (Zd q hn)];exact q) fun c xs q=>by rw[Zh (Zd q hn)];exact q
end
def Rd (H:Hp) (a:Addr) (u:HO):Prop:=H a=some u∨∃o,H a=some (.aW o u)
theorem Rd.ok {P:Program}{w:World}{H:Hp}{h:Heap}{a:Addr}{u:HO}(r:Rd H a u) (x:bo P w H h):aO P w H h a u:=by
 rcases r with r |⟨o,r⟩
 ·exact x a u r
 ·obtain⟨_,q⟩:=x a _ r
  exact q
def qM:Option HO→Prop
 |some (.lst _)=>True
 |some (.dK _)=>True
 |some (.dT _)=>True
 |some (.set _ _)=>True
 |some (.ins _ _ _)=>True
 |some (.ext _)=>True
 |_=>False
section
variable {P:Program}{w:World}{H:Hp}{h h':Heap}{x e:Addr}{o':HO}
theorem bo.write (ok:bo P w H h) (mu:qM (H x)) (he:e=x∨H e=some (.own x)) (k:∀b u,b≠e→h.get? b=some u→h'.get? b=some u) (nY:∃u,h'.get? e=some u)
  (new:aO P w (upd H x o') h' x o'):bo P w (upd H x o') h':=fun b u q=>by
 have Bk:∀c y,H c=some (.own y)→c≠x:=fun c y r z=>by subst z;rw[r]at mu;exact mu
 have HG:∀c xs,H c=some (.tup xs)→c≠x:=fun c xs r z=>by subst z;rw[r]at mu;exact mu
 by_cases hb:b=x
 ·subst hb;rw[Zc]at q;cases q;exact new
 ·rw[Zh hb]at q
  by_cases iO:b=e
  ·have q':H b=some (.own x):=by
    rcases he with z |z
    ·exact absurd (iO.trans z) hb
    ·rw[iO];exact z
   rw[q]at q';cases q'
   obtain⟨v,hv⟩:=nY
   exact⟨v,by rw[iO];exact hv⟩
  ·refine(ok b u q).dP (fun c v hc r=>k c v ?_ r) (fun c r=>by rw[Zh (Bk c b r)];exact r) fun c xs r=>by rw[Zh (HG c xs r)];exact r
   rcases hc with rfl |hc
   ·exact iO
   ·rintro rfl
    rcases he with z |z
    ·exact Bk c b hc z
    ·rw[hc]at z;cases z;exact hb rfl
end
structure Un (fs ex:List Addr) (H H':Hp) (h h':Heap):Prop where
 keep:∀b o,h.get? b=some o→H b=none→b∉fs→b∉ex→h'.get? b=some o
 slot:∀b o,h.get? b=some o→H b=none→b∈fs→b∉ex→∃sl,h'.get? b=some {o with slots:=sl}
 free:∀b o,h.get? b=some o→H b=none→b∉ex→H' b=none
 there:∀b o,h.get? b=some o→b∉ex→∃o',h'.get? b=some o'
 fA:∀b xs,H b=some (.tup xs)→H' b=some (.tup xs)
 fk:∀b o u,H b=some (.aW o u)→H' b=some (.aW o u)
 fc:∀b ps,H b=some (.cg ps)→∃more,H' b=some (.cg (ps++more))
section
variable {fs MM ex T3:List Addr}{H H1 H2:Hp}{h h1 h2 h':Heap}{a x e:Addr}{o:HO}
theorem Un.any (u:Un fs ex H H1 h h1) {b:Addr}{ob:Obj}(q:h.get? b=some ob) (n:H b=none) (hx:b∉ex):∃sl,h1.get? b=some {ob with slots:=sl} :=by
 by_cases hb:b∈fs
 ·exact u.slot b ob q n hb hx
 ·exact⟨ob.slots,u.keep b ob q n hb hx⟩
theorem Un.kept (k:∀b u,h.get? b=some u→h'.get? b=some u):Un fs ex H H h h':=
 ⟨fun b ob q _ _ _=>k b ob q,fun b ob q _ _ _=> ⟨ob.slots,k b ob q⟩,fun _ _ _ n _=>n,fun b ob q _=> ⟨ob,k b ob q⟩,fun _ _ q=>q,fun _ _ _ q=>q,fun _ ps q=> ⟨#[],by rw[q];simp⟩⟩
theorem Un.refl:Un fs ex H H h h:=Un.kept fun _ _ q=>q
theorem Un.laid (k:∀b u,h.get? b=some u→h'.get? b=some u) (hp:h.objs.size≤a) (hn:H a=none):Un fs ex H (upd H a o) h h' where
 keep:=fun b u q _ _ _=>k b u q
 slot:=fun b u q _ _ _=> ⟨u.slots,k b u q⟩
 free:=fun b u q n _=>by rw[Zh (Nat.ne_of_lt (Nat.lt_of_lt_of_le (Heap.lt_size q) hp))];exact n
 there:=fun b u q _=> ⟨u,k b u q⟩
 fA:=fun b xs q=>by rw[Zh (Zd q hn)];exact q
 fk:=fun b u xs q=>by rw[Zh (Zd q hn)];exact q
 fc:=fun b ps q=> ⟨#[],by rw[Zh (Zd q hn),q];simp⟩
theorem Un.write (mu:qM (H x)) (he:e=x∨H e=some (.own x)) (k:∀b u,b≠e→h.get? b=some u→h'.get? b=some u) (nY:∃u,h'.get? e=some u):Un fs ex H (upd H x o) h h':=by
 have hx:∀b,H b=none→b≠x:=fun b n z=>by subst z;rw[n]at mu;exact mu
 have hb:∀b,H b=none→b≠e:=fun b n z=>by
  subst z
  rcases he with r |r
  ·exact hx b n r
  ·rw[n]at r;cases r
 have hm:∀b u,H b=some u→¬qM (some u)→b≠x:=fun b u q nm z=>by subst z;rw[q]at mu;exact nm mu
 refine⟨fun b u q n _ _=>k b u (hb b n) q,fun b u q n _ _=> ⟨u.slots,k b u (hb b n) q⟩,fun b u q n _=>by rw[Zh (hx b n)];exact n,fun b u q _=> ?_,
  fun b xs q=>by rw[Zh (hm b _ q fun z=>z)];exact q,fun b u xs q=>by rw[Zh (hm b _ q fun z=>z)];exact q,fun b ps q=> ⟨#[],by rw[Zh (hm b _ q fun z=>z),q];simp⟩⟩
 by_cases iO:b=e
 ·subst iO;exact nY
 ·exact⟨u,k b u iO q⟩
end
def eJ (h:Heap) (H:Hp):List Addr:=(List.range h.objs.size).filter fun a=> (H a).isSome
def gA (h:Heap) (H:Hp):Heap:=PySem.W.hideAll h (eJ h H)
theorem WR (h:Heap) (H:Hp):(gA h H).objs.size=h.objs.size:=PySem.W.hideAll_size _ _
theorem UO {h:Heap}{H:Hp}{b:Addr}{o:Obj}(e:h.get? b=some o) (n:H b=none):(gA h H).get? b=some o:=
 PySem.W.hideAll_get _ e fun hm=>by
  have q:(H b).isSome=true:=(List.mem_filter.mp hm).2
  rw[n]at q;simp at q
theorem ED {h:Heap}{H:Hp}{b:Addr}{o:Obj}(e:(gA h H).get? b=some o):h.get? b=some o∧H b=none:=by
 have e':h.get? b=some o:=PySem.W.of_hideAll (eJ h H) e
 refine⟨e',?_⟩
 cases q:H b with
 |none=>rfl
 |some x=>
  have hm:b∈eJ h H:=List.mem_filter.mpr ⟨List.mem_range.mpr (Heap.lt_size e'),by simp[q]⟩
  have z:(gA h H).get? b=none:=PySem.W.hideAll_none (eJ h H) hm
  rw[z]at e;cases e
def NT (g h:Heap) (L:Addr):List (Addr×Obj):=(List.range h.objs.size).filterMap fun a=>if a=L∨(g.get? a).isSome=true then none else (h.get? a).map fun o=> (a,o)
def rest (g h:Heap) (L d:Addr):List (Addr×Obj):=(NT g h L).filter fun p=>decide (p.1≠d)
structure Mod (K:PySem.W.Frag) (mg:Str→Option Value) (base:Heap):Prop where
 nO:K.In base
 glob:base.Ns mainGlobals mg
 blt:∃mb,base.Ns builtinsNs mb∧∀x:Str,x≠ "__name__" →mb x=bootBuiltins x
 nolimit:base.NoLimit
structure Cx where
 prog:Program
 w:World
 K:PySem.W.Frag
 mg:Str→Option Value
 base:Heap
 A:Around
 N:List Str
 bT:Shared
 iY:Hp
 env:Env
 outer:List Env
 stack:List Env
 ex:List Addr
 fn:Str→Bool
 calm:Bool
 pn:List (Addr×Obj)
 xe:Value→Shared→Prop
def aS (l:List Env):List Addr:=l.filterMap (·.frame)
abbrev Cx.fs (X:Cx):List Addr:=aS X.outer
def ow (sc:Scope) (x:Str):Prop:=sc.names.lookup x=some .local∨sc.names.lookup x=some .cell∨sc.names.lookup x=some .free
def Loc (sc:Scope) (x:Str):Prop:=sc.names.lookup x=some .local∨sc.names.lookup x=some .cell
def Look (env:Env) (h:Heap) (m:Str→Option Value) (x:Str) (u:Value):Prop:=
 (env.kindOf x=some .local∧m x=some u)∨((env.kindOf x=some .cell∨env.kindOf x=some .free)∧∃c,env.cells.lookup x=some c∧h.IsCell c (some u))
structure Cx.Ok (X:Cx):Prop where
 mod:Mod X.K X.mg X.base
 kind:X.env.scope.kind=.function
 glob:X.env.globals=mainGlobals
 blt:X.env.builtins=builtinsNs
 above:X.bT.heap.objs.size≤X.env.locals
 inj:∀x y c,X.env.cells.lookup x=some c→X.env.cells.lookup y=some c→x=y
 has:∀x,(X.env.kindOf x=some .cell∨X.env.kindOf x=some .free)→∃c,X.env.cells.lookup x=some c
 kE:∀x c,X.fn x=true→X.env.cells.lookup x=some c→X.bT.heap.objs.size≤c
 hd:X.calm=true→X.A.handled=none
 frames:X.A.frames=some X.stack
 nh:X.stack=X.outer∨(X.stack=X.env::X.outer∧X.env.frame=some X.env.locals)
 kA:∀b∈X.ex,b≠X.env.locals∧∀x c,X.env.cells.lookup x=some c→c≠b
 bs:∀b o,X.base.get? b=some o→X.bT.heap.get? b=some o∧X.iY b=none
 ip:X.base.objs.size≤X.bT.heap.objs.size
 jV:∀b o,X.base.get? b=some o→b∉X.ex
 kr:∀b∈X.ex,b∉X.fs
 dH:X.bT.heap.FunFrames X.base X.outer
 gB:∀b∈X.fs,X.iY b=none
structure Inv (X:Cx) (pins:List (Addr×Obj)) (σ:List (Option V)) (H:Hp) (s:Shared):Prop where
 ok:X.Ok
 os:s.os=X.bT.os
 bare:AllBare s.gens
 base:Un X.fs X.ex X.iY H X.bT.heap s.heap
 loc:∃m,s.heap.Ns X.env.locals m∧∀(i:Nat) (x:Str) (v:V),X.N[i]? =some x→σ[i]? =some (some v)→ow X.env.scope x→∃u,RelV v u∧Look X.env s.heap m x u
 cell:∀x c,X.env.cells.lookup x=some c→∃v,s.heap.IsCell c v
 free:H X.env.locals=none
 fm:∀x c,X.env.cells.lookup x=some c→H c=none
 pin:∀p∈X.pn++pins,s.heap.get? p.1=some p.2∧H p.1=none∧p.1≠X.env.locals∧p.1∉X.fs∧∀v,p.2.data≠.cell v
 ag:bo X.prog X.w H s.heap
 len:σ.length=X.N.length
section
variable {X:Cx}{pins:List (Addr×Obj)}{σ:List (Option V)}{H H':Hp}{s:Shared}{h':Heap}
theorem Cx.Ok.HP (ok:X.Ok) {b:Addr}{o:Obj}(e:X.base.get? b=some o):b∉X.fs:=fun hb=>by
 have:=(ok.dH.mem hb).1
 rw[e]at this;cases this
theorem Inv.bs (I:Inv X pins σ H s):∀b o,X.base.get? b=some o→s.heap.get? b=some o∧H b=none:=fun b o e=>
 ⟨I.base.keep b o (I.ok.bs b o e).1 (I.ok.bs b o e).2 (I.ok.HP e) (I.ok.jV b o e),I.base.free b o (I.ok.bs b o e).1 (I.ok.bs b o e).2 (I.ok.jV b o e)⟩
theorem Inv.bk (I:Inv X pins σ H s):∀b o,X.base.get? b=some o→s.heap.get? b=some o:=fun b o e=> (I.bs b o e).1
theorem Inv.mod (I:Inv X pins σ H s):Mod X.K X.mg X.base:=I.ok.mod
theorem Inv.bW (I:Inv X pins σ H s):X.K.In s.heap:=I.ok.mod.nO.keeps I.bk
theorem Inv.lt (I:Inv X pins σ H s):X.env.locals<s.heap.objs.size:=let ⟨_,hn,_⟩:=I.loc;hn.lt
theorem Inv.sz (I:Inv X pins σ H s):X.bT.heap.objs.size≤s.heap.objs.size:=Nat.le_trans I.ok.above (Nat.le_of_lt I.lt)
theorem Inv.HL (I:Inv X pins σ H s) {a:Addr}(h:s.heap.objs.size≤a):a∉X.fs:=fun hb=>by
 obtain⟨_,o,ho,_⟩:=I.ok.dH.mem hb
 exact absurd (Nat.lt_of_lt_of_le (Heap.lt_size ho) (Nat.le_trans I.sz h)) (Nat.lt_irrefl _)
theorem Inv.gF (I:Inv X pins σ H s):∀x c,X.env.cells.lookup x=some c→c≠X.env.locals:=fun x c e z=>by
 obtain⟨v,o,ho,hd⟩:=I.cell x c e
 obtain⟨m,⟨o',es,ep,cu,LW,_⟩,_⟩:=I.loc
 rw[z,cu]at ho;cases ho;rw[LW]at hd;cases hd
theorem Inv.dH (I:Inv X pins σ H s):s.heap.FunFrames X.base X.outer:=by
 have all:∀(l:List Env),(∀b∈aS l,b∈X.fs)→X.bT.heap.FunFrames X.base l→s.heap.FunFrames X.base l:=by
  intro l
  induction l with
  |nil=>intro _ _;trivial
  |cons env r ih=>
   intro hs hl
   obtain⟨hk,⟨L,o,hf,hn,ho,hd⟩,hr⟩:=hl
   have hL:L∈X.fs:=hs L (by unfold aS;rw[List.filterMap_cons,hf];exact List.mem_cons_self)
   obtain⟨sl,e⟩:=I.base.slot L o ho (I.ok.gB L hL) hL fun z=>I.ok.kr L z hL
   exact⟨hk,⟨L,_,hf,hn,e,hd⟩,ih (fun b hb=>hs b (by unfold aS;rw[List.filterMap_cons,hf];exact List.mem_cons_of_mem _ hb)) hr⟩
 exact all X.outer (fun _ hb=>hb) I.ok.dH
theorem Inv.stack (I:Inv X pins σ H s):s.heap.FunFrames X.base X.stack:=by
 rcases I.ok.nh with e |⟨e,hf⟩
 ·rw[e];exact I.dH
 ·rw[e]
  obtain⟨m,hn,_⟩:=I.loc
  refine .cons (by rw[I.ok.kind];decide) hf hn ?_ I.dH
  exact Heap.get?_none_of_le (Nat.le_trans I.ok.ip I.ok.above)
theorem Inv.oT (I:Inv X pins σ H s):∀b∈aS X.stack,b∈X.env.locals::X.fs:=fun b hb=>by
 rcases I.ok.nh with e |⟨e,hf⟩
 ·rw[e]at hb;exact List.mem_cons_of_mem _ hb
 ·rw[e]at hb
  unfold aS at hb
  rw[List.filterMap_cons,hf]at hb
  exact hb
theorem Inv.mZ (I:Inv X pins σ H s):∀b∈aS X.stack,H b=none:=fun b hb=>by
 rcases List.mem_cons.mp (I.oT b hb) with e |hb
 ·rw[e];exact I.free
 ·obtain⟨_,o,ho,_⟩:=I.ok.dH.mem hb
  exact I.base.free b o ho (I.ok.gB b hb) fun z=>I.ok.kr b z hb
theorem Inv.step {g':Array GenState}{t':Nat}{d':Drawn}{ch:List Addr}(I:Inv X pins σ H s)
  (iL:∀b∈ch,(b∈X.ex∨X.bT.heap.objs.size≤b)∧b≠X.env.locals∧(∀x c,X.env.cells.lookup x=some c→c≠b)∧∀p∈X.pn++pins,p.1≠b)
  (keep:∀b o,b≠X.env.locals→b∉X.fs→b∉ch→s.heap.get? b=some o→H b=none→h'.get? b=some o)
  (slot:∀b o,b≠X.env.locals→b∈X.fs→b∉ch→s.heap.get? b=some o→H b=none→∃sl,h'.get? b=some {o with slots:=sl}) (free:∀b o,b∉ch→s.heap.get? b=some o→H b=none→H' b=none)
  (there:∀b o,b∉ch→s.heap.get? b=some o→∃o',h'.get? b=some o')
  (fA:∀b xs,H b=some (.tup xs)→H' b=some (.tup xs)) (fk:∀b o u,H b=some (.aW o u)→H' b=some (.aW o u)) (fc:∀b ps,H b=some (.cg ps)→∃more,H' b=some (.cg (ps++more)))
  (ns:∀m,s.heap.Ns X.env.locals m→h'.Ns X.env.locals m) (ag:bo X.prog X.w H' h') (hg:AllBare g'):
  Inv X pins σ H' {s with heap:=h',gens:=g',drawn:=d',toks:=t'} :=by
 have Br:∀b o,X.bT.heap.get? b=some o→b≠X.env.locals:=fun b o e=>Nat.ne_of_lt (Nat.lt_of_lt_of_le (Heap.lt_size e) I.ok.above)
 have di:∀b o,X.bT.heap.get? b=some o→b∉X.ex→b∉ch:=fun b o e hx hb=>by
  rcases (iL b hb).1 with z |z
  ·exact hx z
  ·exact absurd (Nat.lt_of_lt_of_le (Heap.lt_size e) z) (Nat.lt_irrefl _)
 have cellK:∀x c,X.env.cells.lookup x=some c→∀v,s.heap.IsCell c v→h'.IsCell c v:=fun x c e v ⟨o,ho,hd⟩=>by
  have pC:c∉ch:=fun z=> (iL c z).2.2.1 x c e rfl
  by_cases hc:c∈X.fs
  ·obtain⟨sl,q⟩:=slot c o (I.gF x c e) hc pC ho (I.fm x c e)
   exact⟨_,q,hd⟩
  ·exact⟨o,keep c o (I.gF x c e) hc pC ho (I.fm x c e),hd⟩
 refine⟨I.ok,I.os,hg,⟨fun b o e n hb hx=> ?_,fun b o e n hb hx=> ?_,fun b o e n hx=> ?_,fun b o e hx=> ?_,fun b xs e=>fA b xs (I.base.fA b xs e),fun b o xs e=>fk b o xs (I.base.fk b o xs e),fun b ps e=> ?_⟩,?_,fun x c e=> ?_,?_,fun x c e=> ?_,fun p hp=> ?_,ag,I.len⟩
 ·exact keep b o (Br b o e) hb (di b o e hx) (I.base.keep b o e n hb hx) (I.base.free b o e n hx)
 ·obtain⟨sl,e1⟩:=I.base.slot b o e n hb hx
  obtain⟨Gw,e2⟩:=slot b _ (Br b o e) hb (di b o e hx) e1 (I.base.free b o e n hx)
  exact⟨Gw,e2⟩
 ·obtain⟨o',e1⟩:=I.base.there b o e hx
  exact free b o' (di b o e hx) e1 (I.base.free b o e n hx)
 ·obtain⟨o',e1⟩:=I.base.there b o e hx
  exact there b o' (di b o e hx) e1
 ·obtain⟨m1,e1⟩:=I.base.fc b ps e
  obtain⟨m2,e2⟩:=fc b _ e1
  exact⟨m1++m2,by rw[e2,Array.append_assoc]⟩
 ·obtain⟨m,hn,hl⟩:=I.loc
  refine⟨m,ns m hn,fun i x v e1 e2 e3=> ?_⟩
  obtain⟨u,r,l⟩:=hl i x v e1 e2 e3
  refine⟨u,r,?_⟩
  rcases l with l |⟨k,c,e,z⟩
  ·exact .inl l
  ·exact .inr ⟨k,c,e,cellK x c e _ z⟩
 ·obtain⟨v,z⟩:=I.cell x c e
  exact⟨v,cellK x c e v z⟩
 ·obtain⟨m,⟨o,_,_,ho,_⟩,_⟩:=I.loc
  exact free _ o (fun z=> (iL _ z).2.1 rfl) ho I.free
 ·obtain⟨v,o,ho,hd⟩:=I.cell x c e
  exact free c o (fun z=> (iL c z).2.2.1 x c e rfl) ho (I.fm x c e)
 ·obtain⟨e,n,ne,nf,d⟩:=I.pin p hp
  have pC:p.1∉ch:=fun z=> (iL p.1 z).2.2.2 p hp rfl
  exact⟨keep p.1 p.2 ne nf pC e n,free p.1 p.2 pC e n,ne,nf,d⟩
theorem Inv.un {t':Nat}(I:Inv X pins σ H s) (u:Un X.fs [] H H' s.heap h') (ag:bo X.prog X.w H' h'):Inv X pins σ H' {s with heap:=h',toks:=t'} :=by
 obtain⟨m,⟨o,es,ep,ho,r⟩,_⟩:=id I.loc
 obtain⟨sl,hL⟩:=u.any ho I.free (by simp)
 exact I.step (g':=s.gens) (d':=s.drawn) (ch:=[]) (fun _ z=>nomatch z) (fun b o _ hb _ e n=>u.keep b o e n hb (by simp)) (fun b o _ hb _ e n=>u.slot b o e n hb (by simp)) (fun b o _ e n=>u.free b o e n (by simp)) (fun b o _ e=>u.there b o e (by simp)) u.fA u.fk u.fc (fun m' hm=>by
  obtain⟨o',tV,tY,cu,r'⟩:=hm
  rw[ho]at cu;cases cu
  exact⟨_,tV,tY,hL,r'⟩) ag I.bare
theorem Inv.call {g':Array GenState}{t':Nat}{d':Drawn}{ch:List Addr}(I:Inv X pins σ H s) (u:Un (aS X.stack) ch H H' s.heap h') (ag:bo X.prog X.w H' h') (hg:AllBare g')
  (iL:∀b∈ch,(b∈X.ex∨X.bT.heap.objs.size≤b)∧b≠X.env.locals∧(∀x c,X.env.cells.lookup x=some c→c≠b)∧∀p∈X.pn++pins,p.1≠b):
  Inv X pins σ H' {s with heap:=h',gens:=g',drawn:=d',toks:=t'} :=by
 obtain⟨m,⟨o,es,ep,ho,r⟩,_⟩:=id I.loc
 obtain⟨sl,hL⟩:=u.any ho I.free fun z=> (iL _ z).2.1 rfl
 exact I.step (ch:=ch) iL (fun b o hL hb hc e n=>u.keep b o e n (fun z=> (List.mem_cons.mp (I.oT b z)).elim hL hb) hc) (fun b o _ _ hc e n=>u.any e n hc) (fun b o hc e n=>u.free b o e n hc) (fun b o hc e=>u.there b o e hc) u.fA u.fk u.fc (fun m' hm=>by
  obtain⟨o',tV,tY,cu,r'⟩:=hm
  rw[ho]at cu;cases cu
  exact⟨_,tV,tY,hL,r'⟩) ag hg
theorem Inv.turned {t':Nat}{it:Addr}(I:Inv X pins σ H s) (k:∀b o,b≠it→s.heap.get? b=some o→h'.get? b=some o) (hn:H it=none) (hL:it≠X.env.locals)
  (h1:it∈X.ex∨X.bT.heap.objs.size≤it) (h2:∀x c,X.env.cells.lookup x=some c→c≠it) (h3:∀p∈X.pn++pins,p.1≠it):Inv X pins σ H {s with heap:=h',toks:=t'} :=by
 have Bp:∀b u,H b=some u→b≠it:=fun b u e z=>by rw[z,hn]at e;cases e
 refine I.step (g':=s.gens) (d':=s.drawn) (ch:=[it]) (fun b hb=> ?_) (fun b o _ _ hc e _=>k b o (fun z=>hc (by simp[z])) e) (fun b o _ _ hc e _=> ⟨o.slots,k b o (fun z=>hc (by simp[z])) e⟩) (fun _ _ _ _ n=>n)
  (fun b o hc e=> ⟨o,k b o (fun z=>hc (by simp[z])) e⟩) (fun _ _ e=>e) (fun _ _ _ e=>e) (fun b ps e=> ⟨#[],by rw[e];simp⟩) (fun m hm=> ?_) (fun b u e=> ?_) I.bare
 ·have e:b=it:=by simpa using hb
  subst e
  exact⟨h1,hL,h2,h3⟩
 ·obtain⟨o,es,ep,ho,r⟩:=hm
  exact⟨o,es,ep,k _ o (Ne.symm hL) ho,r⟩
 ·refine(I.ag b u e).dP (fun c v hc q=>k c v ?_ q) (fun _ q=>q) fun _ _ q=>q
  rcases hc with z |z
  ·rw[z];exact Bp b u e
  ·exact Bp c _ z
theorem Inv.tok (I:Inv X pins σ H s) (t:Nat):Inv X pins σ H {s with toks:=t} :=I.un (h':=s.heap) (t':=t) Un.refl I.ag
theorem Inv.kept {t':Nat}(I:Inv X pins σ H s) (k:∀b u,s.heap.get? b=some u→h'.get? b=some u):Inv X pins σ H {s with heap:=h',toks:=t'} :=I.un (Un.kept k) (I.ag.kept k)
theorem Inv.laid {a:Addr}{o:HO}{t':Nat}(I:Inv X pins σ H s) (k:∀b u,s.heap.get? b=some u→h'.get? b=some u) (hp:s.heap.objs.size≤a) (new:aO X.prog X.w (upd H a o) h' a o):
  Inv X pins σ (upd H a o) {s with heap:=h',toks:=t'} :=I.un (Un.laid k hp (I.ag.fresh hp)) (I.ag.laid k hp new)
theorem Inv.write {x e:Addr}{o:HO}{t':Nat}(I:Inv X pins σ H s) (mu:qM (H x)) (he:e=x∨H e=some (.own x)) (k:∀b u,b≠e→s.heap.get? b=some u→h'.get? b=some u) (nY:∃u,h'.get? e=some u)
  (new:aO X.prog X.w (upd H x o) h' x o):Inv X pins σ (upd H x o) {s with heap:=h',toks:=t'} :=I.un (Un.write mu he k nY) (I.ag.write mu he k nY new)
theorem Inv.Bd {Be:List (Addr×Obj)}(I:Inv X pins σ H s) (h:∀p∈Be,s.heap.get? p.1=some p.2∧H p.1=none∧p.1≠X.env.locals∧p.1∉X.fs∧∀v,p.2.data≠.cell v):Inv X Be σ H s:=
 ⟨I.ok,I.os,I.bare,I.base,I.loc,I.cell,I.free,I.fm,fun p hp=> (List.mem_append.mp hp).elim (fun z=>I.pin p (List.mem_append_left _ z)) (h p),I.ag,I.len⟩
theorem J9 {N:List Str}(hN:N.Nodup) {i j:Nat}{x:Str}(a:N[i]? =some x) (b:N[j]? =some x):i=j:=by
 obtain⟨h1,e1⟩:=List.getElem?_eq_some_iff.mp a
 obtain⟨h2,e2⟩:=List.getElem?_eq_some_iff.mp b
 exact(List.getElem_inj hN).mp (e1.trans e2.symm)
theorem WF {M:Model}{A:Around}{E:Value→Shared→Prop}{i:Nat}{x:Str}{v:V}{u:Value}{Q:Unit→Shared→Prop}(I:Inv X pins σ H s) (hN:X.N.Nodup) (hi:X.N[i]? =some x) (hx:Loc X.env.scope x) (r:RelV v u)
  (h:∀s',Inv X pins (σ.set i (some v)) H s'→(∃a,Heap.SameBut a s.heap s'.heap∧(a=X.env.locals∨X.env.cells.lookup x=some a))→Q () s') (hf:X.fn x=true∨X.env.scope.names.lookup x=some .local:=by first |exact .inl rfl |exact .inr rfl |assumption):wpAny M A (storeName X.env x u) Q E s:=by
 obtain⟨m,hn,hl⟩:=id I.loc
 have xI:(X.env.scope.kind==.class||(X.env.scope.kind==.module&&X.env.locals !=X.env.globals))=false:=by rw[I.ok.kind];rfl
 have Cy:i<σ.length:=by rw[I.len];exact(List.getElem?_eq_some_iff.mp hi).1
 have gF:=I.gF
 have tracked:∀{a:Addr}{h':Heap},(∃o,s.heap.get? a=some o∧H a=none)→Heap.SameBut a s.heap h'→bo X.prog X.w H h':=fun {a h'} ha hs b ob e=>by
  obtain⟨_,_,Cz⟩:=ha
  refine(I.ag b ob e).dP (fun c w' hc q=> (hs.2 c ?_).trans q) (fun _ q=>q) fun _ _ q=>q
  rintro rfl
  rcases hc with rfl |hc
  ·rw[Cz]at e;cases e
  ·rw[Cz]at hc;cases hc
 rcases hx with hk |hk
 ·refine wpAny_storeName_local hk hn (fun h' Ld hs=> ?_) xI
  obtain⟨oL,_,_,hoL,_⟩:=id hn
  refine h _ ⟨I.ok,I.os,I.bare,⟨fun b o e n hb hx=> ?_,fun b o e n hb hx=> ?_,I.base.free,fun b o e hx=> ?_,I.base.fA,I.base.fk,I.base.fc⟩,⟨_,Ld,fun j y v' e1 e2 e3=> ?_⟩,fun y c e=> ?_,I.free,I.fm,fun p hp=> ?_,tracked ⟨oL,hoL,I.free⟩ hs,by simpa using I.len⟩ ⟨_,hs,.inl rfl⟩
  ·exact(hs.2 b (Nat.ne_of_lt (Nat.lt_of_lt_of_le (Heap.lt_size e) I.ok.above))).trans (I.base.keep b o e n hb hx)
  ·obtain⟨sl,e1⟩:=I.base.slot b o e n hb hx
   exact⟨sl,(hs.2 b (Nat.ne_of_lt (Nat.lt_of_lt_of_le (Heap.lt_size e) I.ok.above))).trans e1⟩
  ·obtain⟨o',e1⟩:=I.base.there b o e hx
   exact⟨o',(hs.2 b (Nat.ne_of_lt (Nat.lt_of_lt_of_le (Heap.lt_size e) I.ok.above))).trans e1⟩
  ·by_cases hj:j=i
   ·subst hj
    rw[hi]at e1;cases e1
    rw[List.getElem?_set_self Cy]at e2
    cases e2
    exact⟨u,r,.inl ⟨hk,by simp⟩⟩
   ·rw[List.getElem?_set_ne (Ne.symm hj)]at e2
    obtain⟨u',r',q⟩:=hl j y v' e1 e2 e3
    refine⟨u',r',?_⟩
    rcases q with ⟨k,e⟩ |⟨k,c,e,z⟩
    ·refine .inl ⟨k,?_⟩
     have:y≠x:=fun e=>hj (J9 hN e1 (e▸hi))
     simp[this,e]
    ·exact .inr ⟨k,c,e,z.sameBut hs (gF y c e)⟩
  ·obtain⟨w',z⟩:=I.cell y c e
   exact⟨w',z.sameBut hs (gF y c e)⟩
  ·obtain⟨e,n,ne,nf,d⟩:=I.pin p hp
   exact⟨(hs.2 p.1 ne).trans e,n,ne,nf,d⟩
 ·have fN:X.fn x=true:=by
   rcases hf with z |z
   ·exact z
   ·rw[z]at hk;cases hk
  obtain⟨c,hc⟩:=I.ok.has x (.inl hk)
  obtain⟨w',z⟩:=I.cell x c hc
  refine wpAny_storeName_cell I.ok.kind hk hc z (fun h' aV hs=> ?_)
  obtain⟨oc,Cd,K3⟩:=id z
  refine h {s with heap:=h'} ⟨I.ok,I.os,I.bare,⟨fun b o e n hb hx=> ?_,fun b o e n hb hx=> ?_,I.base.free,fun b o e hx=> ?_,I.base.fA,I.base.fk,I.base.fc⟩,⟨m,hn.sameBut hs (Ne.symm (gF x c hc)),fun j y v' e1 e2 e3=> ?_⟩,fun y c' e=> ?_,I.free,I.fm,fun p hp=> ?_,tracked ⟨oc,Cd,I.fm x c hc⟩ hs,by simpa using I.len⟩ ⟨c,hs,.inr hc⟩
  ·exact(hs.2 b (Nat.ne_of_lt (Nat.lt_of_lt_of_le (Heap.lt_size e) (I.ok.kE x c fN hc)))).trans (I.base.keep b o e n hb hx)
  ·obtain⟨sl,e1⟩:=I.base.slot b o e n hb hx
   exact⟨sl,(hs.2 b (Nat.ne_of_lt (Nat.lt_of_lt_of_le (Heap.lt_size e) (I.ok.kE x c fN hc)))).trans e1⟩
  ·obtain⟨o',e1⟩:=I.base.there b o e hx
   exact⟨o',(hs.2 b (Nat.ne_of_lt (Nat.lt_of_lt_of_le (Heap.lt_size e) (I.ok.kE x c fN hc)))).trans e1⟩
  ·by_cases hj:j=i
   ·subst hj
    rw[hi]at e1;cases e1
    rw[List.getElem?_set_self Cy]at e2
    cases e2
    exact⟨u,r,.inr ⟨.inl hk,c,hc,aV⟩⟩
   ·rw[List.getElem?_set_ne (Ne.symm hj)]at e2
    obtain⟨u',r',q⟩:=hl j y v' e1 e2 e3
    refine⟨u',r',?_⟩
    rcases q with q |⟨k,c',e,z'⟩
    ·exact .inl q
    ·refine .inr ⟨k,c',e,z'.sameBut hs ?_⟩
     rintro rfl
     exact hj (J9 hN e1 (I.ok.inj _ _ _ e hc▸hi))
  ·by_cases iN:c'=c
   ·subst iN;exact⟨_,aV⟩
   ·obtain⟨w2,z2⟩:=I.cell y c' e
    exact⟨w2,z2.sameBut hs iN⟩
  ·obtain⟨e,n,ne,nf,d⟩:=I.pin p hp
   refine⟨(hs.2 p.1 ?_).trans e,n,ne,nf,d⟩
   intro q
   rw[q,Cd]at e
   have q':oc=p.2:=Option.some.inj e
   exact d w' (by rw[←q'];exact K3)
theorem Yf {M:Model}{A:Around}{E:Value→Shared→Prop}{i:Nat}{x:Str}{v:V}{u:Value}{Q:Unit→Shared→Prop}(I:Inv X pins σ H s) (hN:X.N.Nodup) (hi:X.N[i]? =some x) (hx:Loc X.env.scope x) (r:RelV v u)
  (h:∀s',Inv X pins (σ.set i (some v)) H s'→Q () s') (hf:X.fn x=true∨X.env.scope.names.lookup x=some .local:=by first |exact .inl rfl |exact .inr rfl |assumption):wpAny M A (storeName X.env x u) Q E s:=
 WF I hN hi hx r (fun s' I' _=>h s' I') hf
theorem Inv.yz {s':Shared}{ch:List Addr}(I:Inv X pins σ H s) (ho:s'.os=s.os) (u:Un (aS X.stack) ch H H' s.heap s'.heap) (ag:bo X.prog X.w H' s'.heap) (hg:AllBare s'.gens)
  (iL:∀b∈ch,(b∈X.ex∨X.bT.heap.objs.size≤b)∧b≠X.env.locals∧(∀x c,X.env.cells.lookup x=some c→c≠b)∧∀p∈X.pn++pins,p.1≠b):Inv X pins σ H' s':=by
 obtain⟨h',g',d',t',o'⟩:=s'
 have e:o'=s.os:=ho
 subst e
 exact I.call (g':=g') (t':=t') (d':=d') u ag hg iL
end
abbrev XK:=Value→Option Addr→Hp→Prop
abbrev St:=List (Option V)
abbrev VK:=V→Hp→Prop
abbrev TE:=St→Hp→VK→Prop
abbrev TT:=St→Hp→(Bool→Hp→Prop)→Prop
abbrev TA:=St→Hp→(List V→Hp→Prop)→Prop
structure Ends where
 nx:St→Hp→Prop
 rt:VK
 bk:St→Hp→Prop:=fun _ _=>False
 ct:St→Hp→Prop:=fun _ _=>False
abbrev TS:=Ends→St→Hp→Prop
def EP (X:Cx) (pins:List (Addr×Obj)) (σ:St) (Q:VK) (u:Value) (s':Shared):Prop:=∃v H',Inv X pins σ H' s'∧RelV v u∧Q v H'
def TP (X:Cx) (pins:List (Addr×Obj)) (σ:St) (Q:Bool→Hp→Prop) (b:Bool) (s':Shared):Prop:=∃H',Inv X pins σ H' s'∧Q b H'
def AP (X:Cx) (pins:List (Addr×Obj)) (σ:St) (Q:List V→Hp→Prop) (us:List Value) (s':Shared):Prop:=∃vs H',Inv X pins σ H' s'∧Vals vs us∧Q vs H'
def SP (X:Cx) (pins:List (Addr×Obj)) (D:Ends) (f:Flow) (s':Shared):Prop:=
 match f with
 | .next=> ∃ai H',Inv X pins ai H' s'∧D.nx ai H'
 | .brk=> ∃ai H',Inv X pins ai H' s'∧D.bk ai H'
 | .cont=> ∃ai H',Inv X pins ai H' s'∧D.ct ai H'
 | .ret u=> ∃v ai H',Inv X pins ai H' s'∧RelV v u∧D.rt v H'
def PE (X:Cx) (e:Expr) (t:TE):Prop:=
 ∀(pins:List (Addr×Obj)) (s:Shared) (σ:St) (H:Hp) (Q:VK),Inv X pins σ H s→t σ H Q→wpAny (model X.prog X.w) X.A (eval e X.env) (EP X pins σ Q) X.xe s
def PT (X:Cx) (e:Expr) (t:TT):Prop:=
 ∀(pins:List (Addr×Obj)) (s:Shared) (σ:St) (H:Hp) (Q:Bool→Hp→Prop),Inv X pins σ H s→t σ H Q→wpAny (model X.prog X.w) X.A (isTrue e X.env (eval e X.env)) (TP X pins σ Q) X.xe s
def PW (X:Cx) (e:Expr) (t:TT):Prop:=
 ∀(whole:Sem Value) (pins:List (Addr×Obj)) (s:Shared) (σ:St) (H:Hp) (Q:Bool→Hp→Prop),Inv X pins σ H s→t σ H Q→wpAny (model X.prog X.w) X.A (isTrue e X.env whole) (TP X pins σ Q) X.xe s
theorem PW.pt {X:Cx}{e:Expr}{t:TT}(h:PW X e t):PT X e t:=h _
def PA (X:Cx) (es:List Expr) (t:TA):Prop:=
 ∀(pos:Pos) (pins:List (Addr×Obj)) (s:Shared) (σ:St) (H:Hp) (Q:List V→Hp→Prop),Inv X pins σ H s→t σ H Q→wpAny (model X.prog X.w) X.A (spliced (backTo pos (starEach es X.env))) (AP X pins σ Q) X.xe s
def PS (X:Cx) (st:Stmt) (t:TS):Prop:=
 ∀(pins:List (Addr×Obj)) (s:Shared) (σ:St) (H:Hp) (D:Ends),Inv X pins σ H s→t D σ H→wpAny (model X.prog X.w) X.A (exec st X.env) (SP X pins D) X.xe s
def eY (X:Cx) (st:List Stmt) (t:TS):Prop:=
 ∀(pins:List (Addr×Obj)) (s:Shared) (σ:St) (H:Hp) (D:Ends),Inv X pins σ H s→t D σ H→wpAny (model X.prog X.w) X.A (execs st X.env) (SP X pins D) X.xe s
theorem ar {α:Type}{t:Sem α}{Q Q':α→Shared→Prop}{M:Model}{A:Around}{E:Value→Shared→Prop}{s:Shared}(h:wpAny M A t Q E s) (hQ:∀a s,Q a s→Q' a s):wpAny M A t Q' E s:=wpAny_mono h hQ fun _ _ x=>x
section
variable {X:Cx}
def jH (i:Nat):TE:=fun σ H Q=> ∃v,σ[i]? =some (some v)∧Q v H
def tC (v:V):TE:=fun _ H Q=>Q v H
theorem ZF {i:Nat}{x:Str}{pos:Pos}(hN:X.N[i]? =some x) (hv:ow X.env.scope x) (hd:(x==("__debug__" :Str))=false:=by decide) (cG:(x==("__classdict__" :Str))=false:=by decide):PE X (.Name x pos) (jH i):=by
 intro pins s σ H Q I h
 obtain⟨v,e,h⟩:=h
 obtain⟨m,hn,hl⟩:=I.loc
 obtain⟨u,r,l⟩:=hl i x v hN e hv
 have fin:EP X pins σ Q u s:=⟨v,H,I,r,h⟩
 rcases l with ⟨hk,hm⟩ |⟨hk,c,hc,iM⟩
 ·exact wpAny_Name (wpAny_loadName_local I.ok.kind hk hn hm fin) hd
 ·rcases hk with hk |hk
  ·exact wpAny_Name (wpAny_loadName_cell I.ok.kind hk hc iM fin) hd
  ·exact wpAny_Name (wpAny_loadName_free I.ok.kind hk hc iM fin cG) hd
theorem Zi {i j pos} :PE X (.Constant (.int i) j pos) (tC (.int i)):=fun _ _ _ H _ I h=>wpAny_Constant_int ⟨.int i,H,I.tok _,⟨_,rfl⟩,h⟩
theorem WL {b j pos} :PE X (.Constant (.bool b) j pos) (tC (.bl b)):=fun _ _ _ H _ I h=>Constant_bool ⟨.bl b,H,I,rfl,h⟩
theorem YI {j pos} :PE X (.Constant .none j pos) (tC .af):=fun _ _ _ H _ I h=>Constant_none ⟨.af,H,I,rfl,h⟩
theorem J7 {x j pos} :PE X (.Constant (.str x) j pos) (tC (.str x)):=fun _ _ _ H _ I h=>Calls.Constant_str ⟨.str x,H,I.tok _,⟨_,rfl⟩,h⟩
def Gl (X:Cx) (x:Str):Prop:=X.env.kindOf x=some .globalImplicit
theorem Jl {E:Value→Shared→Prop}{pins:List (Addr×Obj)}{s:Shared}{σ:St}{H:Hp}{x:Str}{u:Value}{pos:Pos}{Q:Value→Shared→Prop}(I:Inv X pins σ H s) (hg:Gl X x) (hm:X.mg x=some u) (h:Q u s)
  (hd:(x==("__debug__" :Str))=false:=by decide):wpAny (model X.prog X.w) X.A (eval (.Name x pos) X.env) Q E s:=
 Calls.Name_function_global I.ok.kind hg (Calls.loadGlobal_global (by rw[I.ok.glob];exact I.mod.glob.keeps I.bk) hm h) hd
theorem Jb {E:Value→Shared→Prop}{pins:List (Addr×Obj)}{s:Shared}{σ:St}{H:Hp}{x:Str}{u:Value}{pos:Pos}{Q:Value→Shared→Prop}(I:Inv X pins σ H s) (hg:Gl X x) (hm:X.mg x=none) (hv:bootBuiltins x=some u) (h:Q u s)
  (hn:x≠ "__name__" :=by decide) (hd:(x==("__debug__" :Str))=false:=by decide):wpAny (model X.prog X.w) X.A (eval (.Name x pos) X.env) Q E s:=by
 obtain⟨mb,h1,h2⟩:=I.mod.blt
 exact Calls.Name_function_global I.ok.kind hg (Calls.loadGlobal_builtin (by rw[I.ok.glob];exact I.mod.glob.keeps I.bk) hm (by rw[I.ok.blt];exact h1.keeps I.bk) ((h2 x hn).trans hv) h) hd
theorem ZP {x:Str}{v:V}{u:Value}{pos:Pos}(hg:Gl X x) (hm:X.mg x=some u) (r:RelV v u) (hd:(x==("__debug__" :Str))=false:=by decide):PE X (.Name x pos) (tC v):=
 fun _ _ _ H _ I h=>Jl I hg hm ⟨v,H,I,r,h⟩ hd
theorem YA {x:Str}{v:V}{u:Value}{pos:Pos}(hg:Gl X x) (hm:X.mg x=none) (hv:bootBuiltins x=some u) (r:RelV v u) (hn:x≠ "__name__" :=by decide) (hd:(x==("__debug__" :Str))=false:=by decide):PE X (.Name x pos) (tC v):=
 fun _ _ _ H _ I h=>Jb I hg hm hv ⟨v,H,I,r,h⟩ hn hd
variable {a b:Expr}{ta tb:TE}{pos:Pos}
def PC (X:Cx) (op:CmpOp) (a b:Expr) (t:TE):Prop:=
 ∀(pins:List (Addr×Obj)) (s:Shared) (σ:St) (H:Hp) (Q:VK),Inv X pins σ H s→t σ H Q→
  wpAny (model X.prog X.w) X.A (eval a X.env) (fun v aP=>wpAny (model X.prog X.w) X.A (eval b X.env) (fun u uP=>wpAny (model X.prog X.w) X.A (compareOp op v u) (EP X pins σ Q) X.xe uP) X.xe aP) X.xe s
theorem Bl (b:Expr) {op:CmpOp}(h:op≠.In) (h2:op≠.NotIn):behindInMarks op b=false:=by
 have e1:(op==CmpOp.In)=false:=by cases op<;>first |rfl |exact absurd rfl h
 have e2:(op==CmpOp.NotIn)=false:=by cases op<;>first |rfl |exact absurd rfl h2
 cases b<;>simp[behindInMarks,e1,e2]
def F0 (ta:TE):TE:=fun σ H Q=>ta σ H fun x H1=>Q (.bl (!decide (x=.af))) H1
theorem RelV.HI {x:V}{v:Value}(r:RelV x v):(v==Value.none)=decide (x=.af):=by
 cases x with
 |af=>cases r;rfl
 |bl _=>cases r;rfl
 |int _=>obtain⟨t,rfl⟩:=r;rfl
 |str _=>obtain⟨t,rfl⟩:=r;rfl
 |iT _=>obtain⟨t,rfl⟩:=r;rfl
 |ij _=>obtain⟨t,rfl⟩:=r;rfl
 |ref _=>cases r;rfl
 |ty _=>cases r;rfl
theorem YK {j pos'} (ha:PE X a ta):PC X .IsNot a (.Constant .none j pos') (F0 ta):=by
 intro pins s σ H Q I h
 refine ar (ha pins s σ H _ I h) fun v s1 ⟨x,H1,I1,r1,q1⟩=> ?_
 exact Constant_none (isnot_none_gen ⟨.bl _,H1,I1,by rw[r1.HI];rfl,q1⟩)
def tB (t:TE):TT:=fun σ H Q=>t σ H fun x H1=> ∃c,x=.bl c∧Q c H1
theorem Pa {op:CmpOp}{t:TE}(h:PC X op a b t) (h1:behindInMarks op b=false:=by first |exact Bl _ (by decide) (by decide) |rfl):PE X (.Compare a [op] [b] pos) t:=fun pins s σ H Q I hw=>wpAny_Compare1 (h pins s σ H Q I hw) h1
theorem Ja {op:CmpOp}{t:TE}(h:PC X op a b t) (h1:behindInMarks op b=false:=by first |exact Bl _ (by decide) (by decide) |rfl):PT X (.Compare a [op] [b] pos) (tB t):=by
 intro pins s σ H Q I hw
 refine wpAny_isTrue_Compare1 (ar (h pins s σ H _ I hw) fun v s1 h1=>ar h1 fun u s2 h2=>ar h2 fun c s3 ⟨x,H1,I1,r1,q1⟩=> ?_) h1
 obtain⟨d,rfl,q⟩:=q1
 cases r1
 exact wpAny_truthy_bool ⟨H1,I1,q⟩
theorem Z3 {e:Expr}{t:TE}(h:PE X e t) (he:∀whole,isTrue e X.env whole=(do let v ←whole;standAt e.pos;holding [v] (truthy v)):=by intro _;rfl):PT X e (tB t):=by
 intro pins s σ H Q I hw
 refine isTrue_plain (ar (h pins s σ H _ I hw) fun v s1 ⟨x,H1,I1,r1,q1⟩=> ?_) (he _)
 obtain⟨d,rfl,q⟩:=q1
 cases r1
 exact wpAny_truthy_bool ⟨H1,I1,q⟩
variable {tA rh:TT}{rest:List Expr}
def Gi (t u:TT):TT:=fun σ H Q=>t σ H fun c H1=>if c=true then u σ H1 Q else Q false H1
def FY (t u:TT):TT:=fun σ H Q=>t σ H fun c H1=>if c=true then Q true H1 else u σ H1 Q
def F1 (t:TT):TT:=fun σ H Q=>t σ H fun c H1=>Q (!c) H1
theorem JL (ha:PT X a tA):PW X (.BoolOp .And [a] pos) tA:=by
 intro wh pins s σ H Q I h
 refine isTrue_and (ar (ha pins s σ H Q I h) fun c s1 e=> ?_)
 cases c with
 |true=>exact isTrue_and_nil e
 |false=>exact e
theorem Ed (ha:PT X a tA):PW X (.BoolOp .Or [a] pos) tA:=by
 intro wh pins s σ H Q I h
 refine isTrue_or (ar (ha pins s σ H Q I h) fun c s1 e=> ?_)
 cases c with
 |false=>exact isTrue_or_nil e
 |true=>exact e
theorem W4 (ha:PT X a tA) (hb:PW X (.BoolOp .And (b::rest) pos) rh):PW X (.BoolOp .And (a::b::rest) pos) (Gi tA rh):=by
 intro wh pins s σ H Q I h
 refine isTrue_and (ar (ha pins s σ H _ I h) fun c s1 ⟨H1,I1,q1⟩=> ?_)
 cases c with
 |true=>exact hb wh pins s1 σ H1 Q I1 q1
 |false=>exact⟨H1,I1,q1⟩
theorem DR (ha:PT X a tA) (hb:PW X (.BoolOp .Or (b::rest) pos) rh):PW X (.BoolOp .Or (a::b::rest) pos) (FY tA rh):=by
 intro wh pins s σ H Q I h
 refine isTrue_or (ar (ha pins s σ H _ I h) fun c s1 ⟨H1,I1,q1⟩=> ?_)
 cases c with
 |true=>exact⟨H1,I1,q1⟩
 |false=>exact hb wh pins s1 σ H1 Q I1 q1
theorem Yi (ha:PT X a tA):PT X (.UnaryOp .Not a pos) (F1 tA):=by
 intro pins s σ H Q I h
 exact isTrue_not (ha pins s σ H (fun c H1=>Q (!c) H1) I h)
def Gh (ta tb:TE):TE:=fun σ H Q=>ta σ H fun x H1=> ∃c,x=.bl c∧if c=true then tb σ H1 Q else Q (.bl false) H1
def FZ (ta:TE):TE:=fun σ H Q=>ta σ H fun x H1=> ∃c,x=.bl c∧Q (.bl (!c)) H1
theorem YS {op}{t:TE}(h:PE X a t):PE X (.BoolOp op [a] pos) t:=fun pins s σ H Q I hw=>BoolOp_one (h pins s σ H Q I hw)
theorem YT (ha:PE X a ta) (hb:PE X (.BoolOp .And (b::rest) pos) tb):PE X (.BoolOp .And (a::b::rest) pos) (Gh ta tb):=by
 intro pins s σ H Q I h
 refine BoolOp_and (ar (ha pins s σ H _ I h) fun v s1 ⟨x,H1,I1,r1,q1⟩=> ?_)
 obtain⟨c,rfl,q1⟩:=q1
 cases r1
 refine wpAny_truthy_bool ?_
 cases c with
 |true=>exact hb pins s1 σ H1 Q I1 q1
 |false=>exact⟨.bl false,H1,I1,rfl,q1⟩
theorem Pc (ha:PE X a ta):PE X (.UnaryOp .Not a pos) (FZ ta):=by
 intro pins s σ H Q I h
 refine UnaryOp_ (ar (ha pins s σ H _ I h) fun v s1 ⟨x,H1,I1,r1,q1⟩=> ?_)
 obtain⟨c,rfl,q1⟩:=q1
 cases r1
 exact not_of (wpAny_truthy_bool ⟨.bl (!c),H1,I1,rfl,q1⟩)
def F6 (t:TT) (ta tb:TE):TE:=fun σ H Q=>t σ H fun c H1=>if c=true then ta σ H1 Q else tb σ H1 Q
theorem Q1 {c:Expr}(hc:PT X c tA) (ha:PE X a ta) (hb:PE X b tb):PE X (.IfExp c a b pos) (F6 tA ta tb):=by
 intro pins s σ H Q I h
 refine wpAny_IfExp (ar (hc pins s σ H _ I h) fun d s1 ⟨H1,I1,q1⟩=> ?_)
 cases d with
 |true=>exact ha pins s1 σ H1 Q I1 q1
 |false=>exact hb pins s1 σ H1 Q I1 q1
end
def ah (K:PySem.W.Frag) (H:Hp) (a:Addr) (xs:List V):Prop:=
 Rd H a (.lst xs)∨
  ∃(o:Obj) (its:Array Value) (n:Nat),K.lookup a=some o∧o.cls=.type "list" ∧o.dict=none∧o.data=.seq its n∧its.size≤sizeLine∧Vals xs its.toList
def ao (K:PySem.W.Frag) (H:Hp) (a:Addr) (xs:List V):Prop:=
 Rd H a (.tup xs)∨
  (∃(o:Obj) (its:Array Value) (n:Nat),K.lookup a=some o∧o.cls=.type "tuple" ∧o.data=.seq its n∧its.size≤sizeLine∧Vals xs its.toList)∨H a=some (.par xs)
def NV:Value→Option V
 | .none=>some .af
 | .bool b=>some (.bl b)
 | .int i _=>some (.int i)
 | .str x _=>some (.str x)
 | .bytes b _=>some (.iT b)
 | .float b _=>some (.ij b)
 | .ref a=>some (.ref a)
 | .type n=>some (.ty n)
 |_=>none
theorem RelV.abs {x:V}{u:Value}(r:RelV x u):NV u=some x:=by
 cases x with
 |af=>cases r;rfl
 |bl _=>cases r;rfl
 |int _=>obtain⟨t,rfl⟩:=r;rfl
 |str _=>obtain⟨t,rfl⟩:=r;rfl
 |iT _=>obtain⟨t,rfl⟩:=r;rfl
 |ij _=>obtain⟨t,rfl⟩:=r;rfl
 |ref _=>cases r;rfl
 |ty _=>cases r;rfl
theorem RelV.inj {x y:V}{u:Value}(r:RelV x u) (q:RelV y u):x=y:=Option.some.inj (r.abs.symm.trans q.abs)
theorem Vals.inj:∀{xs ys:List V}{us:List Value},Vals xs us→Vals ys us→xs=ys
 |_,_,_,.nil,.nil=>rfl
 |_,_,_,.cons r t,.cons r' t'=>by rw[r.inj r',Vals.inj t t']
section
variable {X:Cx}{pins:List (Addr×Obj)}{σ:St}{H:Hp}{s:Shared}{a:Addr}{xs ys:List V}
theorem ah.of {K:PySem.W.Frag}(h:H a=some (.lst xs)):ah K H a xs:=.inl (.inl h)
theorem ao.of {K:PySem.W.Frag}(h:H a=some (.tup xs)):ao K H a xs:=.inl (.inl h)
theorem ao.Bj {K:PySem.W.Frag}(h:H a=some (.par xs)):ao K H a xs:=.inr (.inr h)
theorem Inv.list (I:Inv X pins σ H s) (h:ah X.K H a xs):∃its:List Value,Vals xs its∧PlainL s.heap a its.toArray∧xs.length≤sizeLine:=by
 rcases h with h |⟨o,its,n,hk,hc,hd,hs,hz,r⟩
 ·obtain⟨z,its,n,r,e⟩:=h.ok I.ag
  exact⟨its,r,⟨_,n,e,rfl,rfl,rfl⟩,z⟩
 ·refine⟨its.toList,r,⟨o,n,I.bW a o hk,hc,hd,by simpa using hs⟩,?_⟩
  have e:=r.length
  simp only[Array.length_toList]at e
  omega
theorem Inv.tuple (I:Inv X pins σ H s) (h:ao X.K H a xs):∃its:List Value,Vals xs its∧IsTup s.heap a its.toArray∧xs.length≤sizeLine:=by
 rcases h with h |⟨o,its,n,hk,hc,hs,hz,r⟩ |h
 ·obtain⟨z,its,r,p,_⟩:=h.ok I.ag
  exact⟨its,r,p,z⟩
 rotate_left
 ·obtain⟨z,its,r,p⟩:=(show aO X.prog X.w H s.heap a (.par xs) from I.ag a _ h)
  exact⟨its,r,p,z⟩
 ·refine⟨its.toList,r,⟨o,I.bW a o hk,hc,n,by simpa using hs⟩,?_⟩
  have e:=r.length
  simp only[Array.length_toList]at e
  omega
theorem Inv.Iy (I:Inv X pins σ H s) (h:ah X.K H a xs) (h':ah X.K H a ys):xs=ys:=by
 obtain⟨its,r,⟨o,n,e,_,_,d⟩,_⟩:=I.list h
 obtain⟨its',r',⟨o',n',e',_,_,d'⟩,_⟩:=I.list h'
 rw[e]at e';cases e'
 rw[d]at d'
 injection d' with d1 _
 have:its=its':=by simpa using congrArg Array.toList d1
 subst this
 exact r.inj r'
theorem Inv.zZ (I:Inv X pins σ H s) (h:ao X.K H a xs) (h':ao X.K H a ys):xs=ys:=by
 obtain⟨its,r,⟨o,e,_,n,d⟩,_⟩:=I.tuple h
 obtain⟨its',r',⟨o',e',_,n',d'⟩,_⟩:=I.tuple h'
 rw[e]at e';cases e'
 rw[d]at d'
 injection d' with d1 _
 have:its=its':=by simpa using congrArg Array.toList d1
 subst this
 exact r.inj r'
end
abbrev Cx.gr (X:Cx) (E:Value→Shared→Prop):Cx:= {X with xe:=E}
abbrev Cx.cX (X:Cx):Cx:=X.gr fun _ _=>False
theorem Cx.Ok.gr {X:Cx}(ok:X.Ok) (E:Value→Shared→Prop):(X.gr E).Ok:=
 ⟨ok.mod,ok.kind,ok.glob,ok.blt,ok.above,ok.inj,ok.has,ok.kE,ok.hd,ok.frames,ok.nh,ok.kA,ok.bs,ok.ip,ok.jV,ok.kr,ok.dH,ok.gB⟩
theorem Cx.Ok.i5 {X:Cx}{E:Value→Shared→Prop}(ok:(X.gr E).Ok):X.Ok:=
 ⟨ok.mod,ok.kind,ok.glob,ok.blt,ok.above,ok.inj,ok.has,ok.kE,ok.hd,ok.frames,ok.nh,ok.kA,ok.bs,ok.ip,ok.jV,ok.kr,ok.dH,ok.gB⟩
section
variable {X:Cx}{pins:List (Addr×Obj)}{σ:St}{H:Hp}{s:Shared}{E:Value→Shared→Prop}
theorem Inv.gr (I:Inv X pins σ H s) (E:Value→Shared→Prop):Inv (X.gr E) pins σ H s:=⟨I.ok.gr E,I.os,I.bare,I.base,I.loc,I.cell,I.free,I.fm,I.pin,I.ag,I.len⟩
theorem Inv.i5 (I:Inv (X.gr E) pins σ H s):Inv X pins σ H s:=⟨I.ok.i5,I.os,I.bare,I.base,I.loc,I.cell,I.free,I.fm,I.pin,I.ag,I.len⟩
theorem SP.i5 {D:Ends}{f:Flow}{s':Shared}(h:SP (X.gr E) pins D f s'):SP X pins D f s':=by
 cases f with
 |next=>obtain⟨ai,H',I,q⟩:=h;exact⟨ai,H',I.i5,q⟩
 |brk=>obtain⟨ai,H',I,q⟩:=h;exact⟨ai,H',I.i5,q⟩
 |cont=>obtain⟨ai,H',I,q⟩:=h;exact⟨ai,H',I.i5,q⟩
 |ret u=>obtain⟨v,ai,H',I,r,q⟩:=h;exact⟨v,ai,H',I.i5,r,q⟩
theorem eY.cX {st:List Stmt}{t:TS}(h:eY X.cX st t):eY X st t:=fun pins s σ H D I hw=>
 wpAny_mono (h pins s σ H D (I.gr _) hw) (fun _ _ q=>q.i5) fun _ _ z=>False.elim z
end
section
variable {X:Cx}{st:Stmt}{rest:List Stmt}{t u:TS}{e:Expr}{te:TE}{pos:Pos}
def Ad:TS:=fun D σ H=>D.nx σ H
def Ac (t u:TS):TS:=fun D σ H=>t {D with nx:=u D} σ H
theorem ZH:eY X [] Ad:=fun _ _ σ H _ I h=>wpAny_execs_nil ⟨σ,H,I,h⟩
theorem Ze (h1:PS X st t) (h2:eY X rest u):eY X (st::rest) (Ac t u):=by
 intro pins s σ H D I h
 refine wpAny_execs_cons (ar (h1 pins s σ H {D with nx:=u D} I h) fun f s1 q=> ?_)
 cases f with
 |next=>
  obtain⟨ai,H',I',q⟩:=q
  exact h2 pins s1 ai H' D I' q
 |ret v=>exact q
 |brk=>exact q
 |cont=>exact q
theorem Zk (h1:PS X st t):eY X [st] t:=by
 intro pins s σ H D I h
 refine wpAny_execs_cons (ar (h1 pins s σ H D I h) fun f s1 q=> ?_)
 cases f with
 |next=>exact wpAny_execs_nil q
 |ret v=>exact q
 |brk=>exact q
 |cont=>exact q
theorem Inv.quiet {pins:List (Addr×Obj)}{σ:St}{H:Hp}{s:Shared}(I:Inv X pins σ H s):interactive X.env=false:=by simp[interactive,I.ok.kind]
def Ga (te:TE):TS:=fun D σ H=>te σ H fun _ H1=>D.nx σ H1
theorem ZG (he:PE X e te) (hs:swapsWith e none pos.line X.env=pure false:=by rfl):PS X (.Expr e pos) (Ga te):=by
 intro pins s σ H D I h
 exact wpAny_Expr_any (ar (he pins s σ H _ I h) fun v s1 ⟨x,H1,I1,r1,q1⟩=> ⟨σ,H1,I1,q1⟩) I.quiet hs
def FT (te:TE):TS:=fun D σ H=>te σ H D.rt
theorem Zz (he:PE X e te):PS X (.Return (some e) pos) (FT te):=by
 intro pins s σ H D I h
 exact wpAny_Return_some (ar (he pins s σ H _ I h) fun v s1 ⟨x,H1,I1,r1,q1⟩=> ⟨x,σ,H1,I1,r1,q1⟩)
def F5 (c:TT) (t u:TS):TS:=fun D σ H=>c σ H fun b H1=>if b=true then t D σ H1 else u D σ H1
theorem Z2 {c:Expr}{a b:List Stmt}{tc:TT}(hc:PT X c tc) (ha:eY X a t) (hb:eY X b u):PS X (.If c a b pos) (F5 tc t u):=by
 intro pins s σ H D I h
 refine wpAny_If (ar (hc pins s σ H _ I h) fun d s1 ⟨H1,I1,q1⟩=> ?_)
 cases d with
 |true=>exact ha pins s1 σ H1 D I1 q1
 |false=>exact hb pins s1 σ H1 D I1 q1
def F2:TS:=fun _ _ _=>False
theorem ZC {Gn:List Stmt} :eY X Gn F2:=fun _ _ _ _ _ _ h=>h.elim
end
abbrev TG:=V→St→Hp→(St→Hp→Prop)→Prop
abbrev mM:=List V→St→Hp→(St→Hp→Prop)→Prop
def PG (X:Cx) (target:Expr) (t:TG):Prop:=
 ∀(pins:List (Addr×Obj)) (s:Shared) (σ:St) (H:Hp) (v:V) (u:Value) (Q:St→Hp→Prop),Inv X pins σ H s→RelV v u→t v σ H Q→
  wpAny (model X.prog X.w) X.A (assign target X.env u) (fun _ s'=> ∃ai H',Inv X pins ai H' s'∧Q ai H') X.xe s
def um (X:Cx) (ts:List Expr) (t:mM):Prop:=
 ∀(pins:List (Addr×Obj)) (s:Shared) (σ:St) (H:Hp) (vs:List V) (us:List Value) (Q:St→Hp→Prop),Inv X pins σ H s→Vals vs us→t vs σ H Q→
  wpAny (model X.prog X.w) X.A (assignInOrder ((assignEach ts X.env).map (·.2)) us) (fun _ s'=> ∃ai H',Inv X pins ai H' s'∧Q ai H') X.xe s
abbrev yX:=V→V→V→Hp→(Hp→Prop)→Prop
def EH (X:Cx) (t:yX):Prop:=
 ∀(pins:List (Addr×Obj)) (s:Shared) (σ:St) (H:Hp) (o i v:V) (ov iv u:Value) (Q:Hp→Prop),Inv X pins σ H s→RelV o ov→RelV i iv→RelV v u→t o i v H Q→
  wpAny (model X.prog X.w) X.A (setItem ov iv u) (fun _ s'=> ∃H',Inv X pins σ H' s'∧Q H') X.xe s
section
variable {X:Cx}{pos:Pos}
def dc (i:Nat):TG:=fun v σ H Q=>Q (σ.set i (some v)) H
theorem Zy {i:Nat}{x:Str}(hN:X.N.Nodup) (hi:X.N[i]? =some x) (hx:Loc X.env.scope x) (hf:X.fn x=true∨X.env.scope.names.lookup x=some .local:=by first |exact .inl rfl |exact .inr rfl |assumption):PG X (.Name x pos) (dc i):=by
 intro pins s σ H v u Q I r h
 exact wpAny_assign_Name (Yf I hN hi hx r (fun s' I'=> ⟨_,H,I',h⟩) hf)
def mF:mM:=fun vs σ H Q=>vs=[]∧Q σ H
def eU (t:TG) (u:mM):mM:=fun vs σ H Q=> ∃v r,vs=v::r∧t v σ H fun ai H'=>u r ai H' Q
theorem ZT:um X [] mF:=by
 intro pins s σ H vs us Q I r h
 obtain⟨e,h⟩:=h
 subst e
 cases r
 exact assignInOrder_nil ⟨σ,H,I,h⟩
theorem Zo {e:Expr}{es:List Expr}{t:TG}{u:mM}(h1:PG X e t) (h2:um X es u)
  (hs:(assignEach (e::es) X.env).map (·.2)=assign e X.env::(assignEach es X.env).map (·.2):=by rfl):um X (e::es) (eU t u):=by
 intro pins s σ H vs us Q I r h
 obtain⟨v,vr,e1,h⟩:=h
 subst e1
 cases r with
 |cons r rr=>
  rw[hs]
  refine assignInOrder_cons (ar (h1 pins s σ H _ _ _ I r h) fun _ s1 ⟨EY,H1,I1,q1⟩=> ?_)
  exact h2 pins s1 EY H1 _ _ Q I1 rr q1
def mE (K:PySem.W.Frag) (n:Nat) (t:mM):TG:=fun v σ H Q=> ∃a xs,v=.ref a∧ao K H a xs∧xs.length=n∧t xs σ H Q
theorem Z7 {es:List Expr}{k:Nat}{t:mM}{n:Nat}(hc:X.calm=true) (h:um X es t)
  (hn:(assignEach es X.env).length=n:=by rfl) (lV:(assignEach es X.env).findIdx? (·.1)=none:=by rfl):PG X (.Tuple es k pos) (mE X.K n t):=by
 intro pins s σ H v u Q I r hw
 obtain⟨a,xs,e1,hq,hl,hw⟩:=hw
 subst e1
 cases r
 obtain⟨its,rv,ht,hz⟩:=I.tuple hq
 refine assign_Tuple_tuple (I.ok.hd hc) ht (by simp[hn,←hl,rv.length]) lV fun h' hx=> ?_
 have I1:Inv X pins σ H {s with heap:=h'} :=I.kept (t':=s.toks) fun b o e=>hx b o (Nat.ne_of_lt (Heap.lt_size e)) e
 exact h pins _ σ H xs _ Q I1 (by simpa using rv) hw
def MG (to ti:TE) (t:yX):TG:=fun v σ H Q=>to σ H fun o H1=>ti σ H1 fun i H2=>t o i v H2 fun H3=>Q σ H3
theorem Eb {o i:Expr}{to ti:TE}{t:yX}(ho:PE X o to) (hi:PE X i ti) (hs:EH X t)
    (ha:∀v,assign (.Subscript o i pos) X.env v=(do
      let ov ←holding [v] (eval o X.env)
      let iv ←holding [v,ov] (eval i X.env)
      standAt pos
      holding [v,ov,iv] (setItem ov iv v)
      release [v,ov,iv] []):=by intro _;rfl):PG X (.Subscript o i pos) (MG to ti t):=by
  intro pins s σ H v u Q I r h
  rw[ha]
  refine wpAny_bind (wpAny_holding (ar (ho pins s σ H _ I h) fun ov s1 ⟨x,H1,I1,r1,q1⟩=> ?_))
  refine wpAny_bind (wpAny_holding (ar (hi pins s1 σ H1 _ I1 q1) fun iv s2 ⟨y,H2,I2,r2,q2⟩=> ?_))
  refine wpAny_bind (wpAny_standAt (wpAny_bind (wpAny_holding (ar (hs pins s2 σ H2 x y v ov iv u _ I2 r1 r2 r q2) fun _ s3 ⟨H3,I3,q3⟩=> ?_))))
  exact wpAny_release ⟨σ,H3,I3,q3⟩
def oR (te:TE) (g:TG):TS:=fun D σ H=>te σ H fun x H1=>g x σ H1 D.nx
theorem Ju {tg e:Expr}{te:TE}{g:TG}(he:PE X e te) (hg:PG X tg g) (hs:swapsWithSole [tg] e pos.line X.env=pure false:=by rfl) (hw:swappedStores [tg] e X.env=pure none:=by rfl)
  (h1:(assignEach [tg] X.env).map (·.2)=[assign tg X.env]:=by rfl):PS X (.Assign [tg] e pos) (oR te g):=by
 intro pins s σ H D I h
 refine wpAny_Assign_stores (ar (he pins s σ H _ I h) fun v s1 ⟨x,H1,I1,r1,q1⟩=> ?_) hs hw
 rw[h1]
 exact ar (hg pins s1 σ H1 x v _ I1 r1 q1) fun _ s2 q=>q
theorem Zp {i:Nat}{x:Str}{e:Expr}{te:TE}{pos':Pos}(hN:X.N.Nodup) (hi:X.N[i]? =some x) (hx:Loc X.env.scope x) (he:PE X e te) (hs:swapsWith e (some (.Name x pos')) pos.line X.env=pure false:=by rfl) (hf:X.fn x=true∨X.env.scope.names.lookup x=some .local:=by first |exact .inl rfl |exact .inr rfl |assumption):
  PS X (.Assign [.Name x pos'] e pos) (oR te (dc i)):=by
 intro pins s σ H D I h
 refine wpAny_Assign_Name (ar (he pins s σ H _ I h) fun v s1 ⟨y,H1,I1,r1,q1⟩=> ?_) hs
 exact Yf I1 hN hi hx r1 (fun s2 I2=> ⟨_,H1,I2,q1⟩) hf
def FX (i j:Nat) (ta:TA):TS:=fun D σ H=>ta σ H fun vs H1=> ∃v w,vs=[v,w]∧D.nx ((σ.set i (some v)).set j (some w)) H1
theorem Ec {i j:Nat}{x y:Str}{a b:Expr}{ta:TA}{px py pt:Pos}{kt k2 lC} (hc:X.calm=true) (hN:X.N.Nodup) (hi:X.N[i]? =some x) (hj:X.N[j]? =some y) (cM:i≠j)
  (hx:X.env.scope.names.lookup x=some .local) (hy:X.env.scope.names.lookup y=some .local) (ha:PA X [a,b] ta)
  (hw:swappedStores [.Tuple [.Name x px,.Name y py] kt pt] (.Tuple [a,b] k2 lC) X.env=pure (some [x,y]))
  (hs:swapsWithSole [.Tuple [.Name x px,.Name y py] kt pt] (.Tuple [a,b] k2 lC) pos.line X.env=pure false:=by rfl):
  PS X (.Assign [.Tuple [.Name x px,.Name y py] kt pt] (.Tuple [a,b] k2 lC) pos) (FX i j ta):=by
 intro pins s σ H D I h
 rw[exec_Assign_arm]
 refine wpAny_bind (wpAny_standAt ?_)
 rw[hs]
 refine wpAny_bind (wpAny_pure ?_)
 rw[if_neg (by decide)]
 refine wpAny_bind (Tuple_ (ar (ha _ pins s σ H _ I h) fun us s1 ⟨vs,H1,I1,r1,q1⟩=> ?_))
 obtain⟨v,w,e1,q1⟩:=q1
 subst e1
 obtain⟨u1,u2,rfl,rv,fX⟩:∃u1 u2,us=[u1,u2]∧RelV v u1∧RelV w u2:=by
  cases r1 with
  |cons p q=>
   cases q with
   |cons p' q'=>
    cases q'
    exact⟨_,_,rfl,p,p'⟩
 refine wpAny_newObj_type ?_ (by show 2≤sizeLine;decide)
 have I2:Inv X pins σ H1 {s1 with heap:=s1.heap.push {cls:=.type "tuple",data:=.seq [u1,u2].toArray} } :=I1.kept (t':=s1.toks) fun b o e=>Heap.get?_push_of_some _ e
 rw[hw]
 refine wpAny_bind (wpAny_pure ?_)
 show wpAny (model X.prog X.w) X.A (do rule "assign.swapped-stores";let items ←unpackItems (.ref s1.heap.objs.size) 2 none;assignInOrder [fun v=>bindName X.env y v,fun v=>bindName X.env x v] items.reverse;pure Flow.next) _ _ _
 refine wpAny_bind (wpAny_rule (wpAny_bind (unpackItems_tuple (items:= #[u1,u2]) (I.ok.hd hc) (IsTup.new s1.heap _) fun h' gZ=> ?_)))
 have I3:=I2.kept (h':=h') (t':=s1.toks) fun b o e=>gZ b o (Nat.ne_of_lt (Heap.lt_size e)) e
 show wpAny _ _ (assignInOrder [fun v=>bindName X.env y v,fun v=>bindName X.env x v] [u2,u1] >>=fun _=>pure Flow.next) _ _ _
 refine wpAny_bind (assignInOrder_cons (wpAny_bindName (Yf I3 hN hj (.inl hy) fX (fun s2 I4=> ?_) (.inr hy))))
 refine assignInOrder_cons (wpAny_bindName (Yf I4 hN hi (.inl hx) rv (fun s3 I5=>assignInOrder_nil (wpAny_pure ?_)) (.inr hx)))
 rw[List.set_comm _ _ (Ne.symm cM)]at I5
 exact⟨_,H1,I5,q1⟩
end
structure It where
 go:Nat→Hp→Prop
 oK:Nat→Hp→V→Hp→Prop
 stop:Nat→Hp→Prop
def bI (X:Cx) (pins:List (Addr×Obj)) (H:Hp) (b:Addr):Prop:=
 H b=none∧b≠X.env.locals∧b∉X.fs∧(b∈X.ex∨X.bT.heap.objs.size≤b)∧(∀x c,X.env.cells.lookup x=some c→c≠b)∧∀p∈X.pn++pins,p.1≠b
theorem Inv.om {X:Cx}{pins:List (Addr×Obj)}{σ:St}{H H':Hp}{s:Shared}{b:Addr}(I:Inv X pins σ H s) (hb:s.heap.objs.size≤b) (hn:H' b=none):bI X pins H' b:=by
 refine⟨hn,Nat.ne_of_gt (Nat.lt_of_lt_of_le I.lt hb),I.HL hb,.inr (Nat.le_trans I.sz hb),fun x c e z=> ?_,fun p hp z=> ?_⟩
 ·obtain⟨v,q⟩:=I.cell x c e
  exact absurd (Nat.lt_of_lt_of_le q.lt (by rw[z];exact hb)) (Nat.lt_irrefl _)
 ·exact absurd (Nat.lt_of_lt_of_le (Heap.lt_size (I.pin p hp).1) (by rw[z];exact hb)) (Nat.lt_irrefl _)
structure Turn (P:Program) (w:World) (K:PySem.W.Frag) (tg:Expr) (J:It) (fp:List Addr) (it:Addr) (tn:Nat→Heap→Prop):Prop where
 mem:it∈fp
 obj:∀i h,tn i h→∀b∈fp,∃o,h.get? b=some o∧∀v,o.data≠.cell v
 keep:∀i h h',tn i h→(∀b∈fp,∀o,h.get? b=some o→h'.get? b=some o)→tn i h'
 item:∀(X:Cx),X.prog=P→X.w=w→X.K=K→X.calm=true→∀(i:Nat) (pins:List (Addr×Obj)) (s:Shared) (σ:St) (H:Hp) (E:Value→Shared→Prop),Inv X pins σ H s→(∀b∈fp,bI X pins H b)→tn i s.heap→J.go i H→
  wpAny (model P w) X.A (pyNext (.ref it)) (fun r s1=> ∃u,r=some u∧
   wpAny (model P w) X.A (letOwnedTupleGo tg (.ref it) u) (fun _ s2=> ∃x H',Inv X pins σ H' s2∧RelV x u∧J.oK i H x H'∧tn (i+1) s2.heap∧∀b∈fp,H' b=none) E s1) E s
 done:∀(X:Cx),X.prog=P→X.w=w→X.K=K→X.calm=true→∀(i:Nat) (pins:List (Addr×Obj)) (s:Shared) (σ:St) (H:Hp) (E:Value→Shared→Prop),Inv X pins σ H s→(∀b∈fp,bI X pins H b)→tn i s.heap→J.stop i H→
  wpAny (model P w) X.A (pyNext (.ref it)) (fun r s1=>r=none∧Inv X pins σ H s1) E s
 self:∀(A:Around) (i:Nat) (s:Shared) (Q:Value→Shared→Prop) (E:Value→Shared→Prop),tn i s.heap→Q (.ref it) s→wpAny (model P w) A (pyIter (.ref it)) Q E s
abbrev TI:=St→Hp→(It→Hp→Prop)→Prop
def EI (X:Cx) (pins:List (Addr×Obj)) (σ:St) (tg:Expr) (R:It→Hp→Prop) (jY:Value) (s2:Shared):Prop:=
 ∃(it:Addr) (fp:List Addr) (tn:Nat→Heap→Prop) (J:It) (H':Hp),jY=.ref it∧Inv X pins σ H' s2∧Turn X.prog X.w X.K tg J fp it tn∧tn 0 s2.heap∧(∀b∈fp,bI X pins H' b)∧R J H'
def PI (X:Cx) (tg iter:Expr) (wi:TI):Prop:=
 ∀(pins:List (Addr×Obj)) (s:Shared) (σ:St) (H:Hp) (R:It→Hp→Prop),Inv X pins σ H s→wi σ H R→
  wpAny (model X.prog X.w) X.A (eval iter X.env) (fun v s1=>wpAny (model X.prog X.w) X.A (pyIter v) (EI X pins σ tg R) X.xe s1) X.xe s
theorem yO {M:Model}{A:Around}{E:Value→Shared→Prop}{s:Shared}{tg:Expr}{it:Addr}{u:Value}{o:Obj}{n:String}{vs:Array Value}{Q:Unit→Shared→Prop}(ho:s.heap.get? it=some o) (hc:o.cls=.type n) (hd:o.data=.fields vs)
    (hn:["enumerate", "zip", "dict_itemiterator", "dict_reverseitemiterator", "odict_iterator", "itertools.zip_longest", "itertools.pairwise"].contains n=false) (hQ:Q () s):wpAny M A (letOwnedTupleGo tg (.ref it) u) Q E s:=by
  unfold letOwnedTupleGo
  cases tg<;>first
    |exact wpAny_pure hQ
    |(cases u<;>first
        |exact wpAny_pure hQ
        |(refine wpAny_bind (wpAny_load ho ?_)
          rw[hc,hd]
          show wpAny M A (if (["enumerate", "zip", "dict_itemiterator", "dict_reverseitemiterator", "odict_iterator", "itertools.zip_longest", "itertools.pairwise"].contains n&&vs[0]? ==some (rawInt _))=true then _ else _) Q E s
          rw[if_neg (by intro h;rw[hn,Bool.false_and]at h;cases h)]
          exact wpAny_pure hQ))
def oB (K:PySem.W.Frag) (a:Addr):It:=
 ⟨fun i H=> ∃xs x,ah K H a xs∧xs[i]? =some x,fun i H x H'=>H'=H∧∀xs,ah K H a xs→xs[i]? =some x,fun i H=> ∃xs,ah K H a xs∧xs.length≤i⟩
def y7 (K:PySem.W.Frag) (a:Addr):It:=
 ⟨fun i H=> ∃xs x,ao K H a xs∧xs[i]? =some x,fun i H x H'=>H'=H∧∀xs,ao K H a xs→xs[i]? =some x,fun i H=> ∃xs,ao K H a xs∧xs.length≤i⟩
def kK (lo:Int) (n:Nat):It:=⟨fun i _=>i<n,fun i H x H'=>H'=H∧x=.int (lo+i),fun i _=>n≤i⟩
theorem RU {P:Program}{w:World}{K:PySem.W.Frag}{tg:Expr}(a it:Addr):Turn P w K tg (oB K a) [it] it (fun i h=>h.IsListIter it a i) where
 mem:=by simp
 obj:=fun i h st b hb=>by
  have e:b=it:=by simpa using hb
  subst e
  obtain⟨o,e,c,d⟩:=st
  exact⟨o,e,fun v z=>by rw[d]at z;cases z⟩
 keep:=fun i h h' st k=>st.at fun o e=>k it (by simp) o e
 item:=by
  intro X hP hw hK hc i pins s σ H E I hf st hg
  subst hP hw hK
  obtain⟨xs,x,hq,hx⟩:=hg
  obtain⟨its,rv,p,hz⟩:=I.list hq
  obtain⟨u,hu,ru⟩:=rv.get hx
  obtain⟨f0,f1,f2,f3,f4,f5⟩:=hf it (by simp)
  refine wpAny_pyNext_list_item st p.isList (x:=u) (by simpa using hu) fun h' aa sb=> ?_
  have I1:Inv X pins σ H {s with heap:=h'} :=I.turned (t':=s.toks) (fun b o hb e=> (sb.2 b hb).trans e) f0 f1 f3 f4 f5
  obtain⟨o,e,c,d⟩:=id aa
  exact⟨u,rfl,yO (s:= {s with heap:=h'}) e c d (by decide) ⟨x,H,I1,ru,⟨rfl,fun ys hy=>by rw[I.Iy hy hq];exact hx⟩,aa,fun b hb=> (hf b hb).1⟩⟩
 done:=by
  intro X hP hw hK hc i pins s σ H E I hf st hg
  subst hP hw hK
  obtain⟨xs,hq,hx⟩:=hg
  obtain⟨its,rv,p,hz⟩:=I.list hq
  obtain⟨f0,f1,f2,f3,f4,f5⟩:=hf it (by simp)
  have hl:=rv.length
  exact wpAny_pyNext_list_end (I.ok.hd hc) st p.isList (by simp;omega) fun h' eb=> ⟨rfl,I.turned (t':=s.toks) (fun b o hb e=>eb b o hb e) f0 f1 f3 f4 f5⟩
 self:=fun _ _ _ _ _ st h=>wpAny_pyIter_listiter st h
theorem U3 {P:Program}{w:World}{K:PySem.W.Frag}{tg:Expr}(a it:Addr):Turn P w K tg (y7 K a) [it] it (fun i h=>h.IsTupleIter it a i) where
 mem:=by simp
 obj:=fun i h st b hb=>by
  have e:b=it:=by simpa using hb
  subst e
  obtain⟨o,e,c,d⟩:=st
  exact⟨o,e,fun v z=>by rw[d]at z;cases z⟩
 keep:=fun i h h' st k=>st.at fun o e=>k it (by simp) o e
 item:=by
  intro X hP hw hK hc i pins s σ H E I hf st hg
  subst hP hw hK
  obtain⟨xs,x,hq,hx⟩:=hg
  obtain⟨its,rv,p,hz⟩:=I.tuple hq
  obtain⟨u,hu,ru⟩:=rv.get hx
  obtain⟨f0,f1,f2,f3,f4,f5⟩:=hf it (by simp)
  refine wpAny_pyNext_tuple_item st (show s.heap.IsTuple a its.toArray from p) (x:=u) (by simpa using hu) fun h' aa sb=> ?_
  have I1:Inv X pins σ H {s with heap:=h'} :=I.turned (t':=s.toks) (fun b o hb e=> (sb.2 b hb).trans e) f0 f1 f3 f4 f5
  obtain⟨o,e,c,d⟩:=id aa
  exact⟨u,rfl,yO (s:= {s with heap:=h'}) e c d (by decide) ⟨x,H,I1,ru,⟨rfl,fun ys hy=>by rw[I.zZ hy hq];exact hx⟩,aa,fun b hb=> (hf b hb).1⟩⟩
 done:=by
  intro X hP hw hK hc i pins s σ H E I hf st hg
  subst hP hw hK
  obtain⟨xs,hq,hx⟩:=hg
  obtain⟨its,rv,p,hz⟩:=I.tuple hq
  obtain⟨f0,f1,f2,f3,f4,f5⟩:=hf it (by simp)
  have hl:=rv.length
  exact wpAny_pyNext_tuple_end (I.ok.hd hc) st (show s.heap.IsTuple a its.toArray from p) (by simp;omega) fun h' eb=> ⟨rfl,I.turned (t':=s.toks) (fun b o hb e=>eb b o hb e) f0 f1 f3 f4 f5⟩
 self:=fun _ _ _ _ _ st h=>wpAny_pyIter_tupleiter st h
theorem U4 {P:Program}{w:World}{K:PySem.W.Frag}{tg:Expr}(it:Addr) (lo:Int) (n:Nat):Turn P w K tg (kK lo n) [it] it (fun i h=>IsRangeIter h it (lo+(i:Nat)*1) ((n:Int) - (i:Nat)) 1) where
 mem:=by simp
 obj:=fun i h st b hb=>by
  have e:b=it:=by simpa using hb
  subst e
  exact⟨_,st,fun v z=>by
   have z':Data.fields _=Data.cell v:=z
   cases z'⟩
 keep:=fun i h h' st k=>k it (by simp) _ st
 item:=by
  intro X hP hw hK hc i pins s σ H E I hf st hg
  subst hP hw hK
  obtain⟨f0,f1,f2,f3,f4,f5⟩:=hf it (by simp)
  have W:=Walks.range (prog:=X.prog) (w:=X.w) (I.ok.hd hc) it lo 1 n
  refine W.item i s _ _ hg st fun v h' tk hv aa kk=> ?_
  obtain⟨t,rfl⟩:=hv
  have I1:Inv X pins σ H {s with heap:=h',toks:=tk} :=I.turned (fun b o hb e=>kk b o (by simpa using hb) e) f0 f1 f3 f4 f5
  refine⟨_,rfl,yO (s:= {s with heap:=h',toks:=tk}) (n:= "range_iterator") aa rfl rfl (by decide) ⟨.int (lo+i),H,I1,⟨t,?_⟩,⟨rfl,rfl⟩,aa,fun b hb=> (hf b hb).1⟩⟩
  rw[Int.mul_one]
 done:=by
  intro X hP hw hK hc i pins s σ H E I hf st hg
  subst hP hw hK
  obtain⟨f0,f1,f2,f3,f4,f5⟩:=hf it (by simp)
  exact wpAny_pyNext_range_end (I.ok.hd hc) st (by have:n≤i:=hg;omega) fun h' eb=> ⟨rfl,I.turned (t':=s.toks) (fun b o hb e=>eb b o hb e) f0 f1 f3 f4 f5⟩
 self:=fun _ _ _ _ _ st h=>wpAny_pyIter_rangeiter st h
section
variable {X:Cx}{tg:Expr}
def BK (K:PySem.W.Frag) (tl:TE):TI:=fun σ H R=>tl σ H fun x H1=> ∃a,x=.ref a∧(∃xs,ah K H1 a xs)∧R (oB K a) H1
def Ke (K:PySem.W.Frag) (tl:TE):TI:=fun σ H R=>tl σ H fun x H1=> ∃a,x=.ref a∧(∃xs,ao K H1 a xs)∧R (y7 K a) H1
theorem Z6 {l:Expr}{tl:TE}(hl:PE X l tl):PI X tg l (BK X.K tl):=by
 intro pins s σ H R I h
 refine ar (hl pins s σ H _ I h) fun v s1 ⟨x,H1,I1,r1,q1⟩=> ?_
 obtain⟨a,e,⟨xs,hq⟩,q⟩:=q1
 subst e
 cases r1
 obtain⟨its,rv,p,hz⟩:=I1.list hq
 refine wpAny_pyIter_list p.isList ?_
 refine⟨s1.heap.objs.size,[s1.heap.objs.size],_,_,H1,rfl,I1.kept (t':=s1.toks) fun b o e=>Heap.get?_push_of_some _ e,RU a _,⟨_,Heap.get?_push_size _ rfl,rfl,rfl⟩,fun b hb=> ?_,q⟩
 have e:b=s1.heap.objs.size:=by simpa using hb
 subst e
 exact I1.om (Nat.le_refl _) (I1.ag.fresh (Nat.le_refl _))
theorem yV {l:Expr}{tl:TE}(hl:PE X l tl):PI X tg l (Ke X.K tl):=by
 intro pins s σ H R I h
 refine ar (hl pins s σ H _ I h) fun v s1 ⟨x,H1,I1,r1,q1⟩=> ?_
 obtain⟨a,e,⟨xs,hq⟩,q⟩:=q1
 subst e
 cases r1
 obtain⟨its,rv,p,hz⟩:=I1.tuple hq
 refine wpAny_pyIter_tuple (show s1.heap.IsTuple a its.toArray from p) ?_
 refine⟨s1.heap.objs.size,[s1.heap.objs.size],_,_,H1,rfl,I1.kept (t':=s1.toks) fun b o e=>Heap.get?_push_of_some _ e,U3 a _,⟨_,Heap.get?_push_size _ rfl,rfl,rfl⟩,fun b hb=> ?_,q⟩
 have e:b=s1.heap.objs.size:=by simpa using hb
 subst e
 exact I1.om (Nat.le_refl _) (I1.ag.fresh (Nat.le_refl _))
theorem Uv {pins:List (Addr×Obj)}{σ:St}{H:Hp}{s:Shared}{R:It→Hp→Prop}{E:Value→Shared→Prop}{lo hi:Int}{t u v:Tok}{tk:Nat}(I:Inv X pins σ H s) (h1: -(2^62)≤lo) (h2:lo<2^62) (h3: -(2^62)≤hi) (h4:hi<2^62)
  (q:R (kK lo (hi - lo).toNat) H):wpAny (model X.prog X.w) X.A (pyIter (.ref s.heap.objs.size)) (EI X pins σ tg R) E {s with heap:=s.heap.push {cls:=.type "range",data:=.fields #[.int lo t,.int hi u,.int 1 v]},toks:=tk} :=by
 refine wpAny_pyIter_range (IsRange.new ..) (small_one h1 h2 h3 h4) ?_
 have I1:Inv X pins σ H {s with heap:=s.heap.push {cls:=.type "range",data:=.fields #[.int lo t,.int hi u,.int 1 v]},toks:=tk} :=I.kept fun b o e=>Heap.get?_push_of_some _ e
 refine⟨(s.heap.push {cls:=.type "range",data:=.fields #[.int lo t,.int hi u,.int 1 v]}).objs.size,[(s.heap.push {cls:=.type "range",data:=.fields #[.int lo t,.int hi u,.int 1 v]}).objs.size],_,_,H,rfl,
  I1.kept (t':=tk) fun b o e=>Heap.get?_push_of_some _ e,U4 _ lo (hi - lo).toNat,?_,fun b hb=> ?_,q⟩
 ·have e1:lo+((0:Nat):Int)*1=lo:=by simp
  have e2:(((hi - lo).toNat:Nat):Int) - ((0:Nat):Int)=Builtin.Range.rangeSize lo hi 1:=by rw[rangeSize_one];split<;>omega
  show IsRangeIter _ _ (lo+((0:Nat):Int)*1) ((((hi - lo).toNat:Nat):Int) - ((0:Nat):Int)) 1
  rw[e1,e2]
  exact Heap.get?_push_size _ rfl
 ·have e:b=(s.heap.push {cls:=.type "range",data:=.fields #[.int lo t,.int hi u,.int 1 v]}).objs.size:=by simpa using hb
  subst e
  exact I1.om (Nat.le_refl _) (I1.ag.fresh (Nat.le_refl _))
def Kg (ta:TA):TI:=fun σ H R=>ta σ H fun vs H1=> ∃j:Int,vs=[.int j]∧ -(2^62)≤j∧j<2^62∧R (kK 0 j.toNat) H1
def Kf (ta:TA):TI:=fun σ H R=>ta σ H fun vs H1=> ∃i j:Int,vs=[.int i,.int j]∧(-(2^62)≤i∧i<2^62∧ -(2^62)≤j∧j<2^62)∧R (kK i (j - i).toNat) H1
theorem ZW {a:Expr}{ta:TA}{p pos:Pos}(hg:Gl X "range") (hm:X.mg "range" =none) (ha:PA X [a] ta) (hs:starEach [a] X.env=[(false,eval a X.env)]:=by rfl):PI X tg (.Call (.Name "range" p) [a] [] pos) (Kg ta):=by
 intro pins s σ H R I h
 refine Call_ (Jb I hg hm boot_range (PyProof.Rows.callWith_type1 (ar (ha pos pins s σ H _ I h) fun us s1 ⟨vs,H1,I1,r1,q1⟩=> ?_) hs rfl))
 obtain⟨j,e,q1,q2,q⟩:=q1
 subst e
 cases r1 with
 |cons r rr=>
  cases rr
  obtain⟨t,rfl⟩:=r
  exact call_range_1 (Uv I1 (by omega) (by omega) q1 q2 (by simpa using q))
theorem WJ {a b:Expr}{ta:TA}{p pos:Pos}(hg:Gl X "range") (hm:X.mg "range" =none) (ha:PA X [a,b] ta) (hs:starEach [a,b] X.env=[(false,eval a X.env),(false,eval b X.env)]:=by rfl) (tw:starEach [b] X.env=[(false,eval b X.env)]:=by rfl):
  PI X tg (.Call (.Name "range" p) [a,b] [] pos) (Kf ta):=by
 intro pins s σ H R I h
 refine Call_ (Jb I hg hm boot_range (PyProof.Rows.callWith_type1 (ar (ha pos pins s σ H _ I h) fun us s1 ⟨vs,H1,I1,r1,q1⟩=> ?_) (by rw[hs,tw]) (by rw[tw];rfl)))
 obtain⟨i,j,e,⟨q1,q2,q3,q4⟩,q⟩:=q1
 subst e
 cases r1 with
 |cons r rr=>
  cases rr with
  |cons r' rr=>
   cases rr
   obtain⟨t,rfl⟩:=r
   obtain⟨t',rfl⟩:=r'
   exact call_range_2 (Uv I1 q1 q2 q3 q4 q)
def F8 (wi:TI) (g:TG) (tb:TS):TS:=fun D σ H=>wi σ H fun J H1=> ∃W:Nat→Nat→St→Hp→Prop,(∃m,W 0 m σ H1)∧∀i m σ H,W i m σ H→
 (J.stop i H∧D.nx σ H)∨(J.go i H∧∃N:St→Hp→Prop,(∀ai H',N ai H'→∃m',m'<m∧W (i+1) m' ai H')∧∀x H',J.oK i H x H'→g x σ H' fun bC H2=>tb {D with nx:=N,ct:=N,bk:=D.nx} bC H2)
def jg (fp:List Addr) (h:Heap):List (Addr×Obj):=fp.filterMap fun b=> (h.get? b).map fun o=> (b,o)
theorem Z1 {fp:List Addr}{h:Heap}{b:Addr}{o:Obj}(hb:b∈fp) (e:h.get? b=some o):(b,o)∈jg fp h:=List.mem_filterMap.mpr ⟨b,hb,by rw[e];rfl⟩
theorem Jw {fp:List Addr}{h:Heap}{p:Addr×Obj}(hp:p∈jg fp h):p.1∈fp∧h.get? p.1=some p.2:=by
 obtain⟨b,hb,e⟩:=List.mem_filterMap.mp hp
 cases q:h.get? b with
 |none=>rw[q]at e;cases e
 |some o=>
  rw[q]at e
  have e':(b,o)=p:=Option.some.inj e
  subst e'
  exact⟨hb,q⟩
theorem Inv.pinned {pins:List (Addr×Obj)}{σ:St}{H:Hp}{s:Shared}{fp:List Addr}(I:Inv X pins σ H s) (hf:∀b∈fp,bI X pins H b) (ho:∀b∈fp,∃o,s.heap.get? b=some o∧∀v,o.data≠.cell v):Inv X (pins++jg fp s.heap) σ H s:=
 I.Bd fun p hp=> (List.mem_append.mp hp).elim (fun z=>I.pin p (List.mem_append_right _ z)) fun z=>by
  obtain⟨hb,e⟩:=Jw z
  obtain⟨f0,f1,f2,_⟩:=hf p.1 hb
  obtain⟨o,e',d⟩:=ho p.1 hb
  rw[e]at e';cases e'
  exact⟨e,f0,f1,f2,d⟩
theorem Inv.i6 {pins pl:List (Addr×Obj)}{σ:St}{H:Hp}{s:Shared}(I:Inv X (pins++pl) σ H s):Inv X pins σ H s:=I.Bd fun p hp=>I.pin p (List.mem_append_right _ (List.mem_append_left _ hp))
theorem Yj {iter:Expr}{body:List Stmt}{wi:TI}{g:TG}{tb:TS}{pos:Pos}(hp:PassesOwn (model X.prog X.w) X.A X.env X.xe) (hc:X.calm=true) (hi:PI X tg iter wi) (hg:PG X tg g) (hb:eY X body tb)
  (hs:∀x,foldedSetIterable iter X.env x=pure x:=by intro _;rfl):PS X (.For tg iter body [] pos) (F8 wi g tb):=by
 intro pins s σ H D I h
 refine wpAny_For (ar (hi pins s σ H _ I h) fun v s1 h1=>ar h1 fun jY s2 h2=> ?_) hs
 obtain⟨it,fp,tn,J,H2,e,I2,T,aj,f2,W,⟨m0,w0⟩,turn⟩:=h2
 subst e
 have stat:∀{H':Hp},(∀b∈fp,H' b=none)→∀b∈fp,bI X pins H' b:=fun hn b hb=> ⟨hn b hb,(f2 b hb).2⟩
 refine codeAny_forLoop_any (fun n s'=> ∃i ai H',Inv X pins ai H' s'∧tn i s'.heap∧(∀b∈fp,H' b=none)∧W i n ai H') ?_ m0 ⟨0,σ,H2,I2,aj,fun b hb=> (f2 b hb).1,w0⟩
 rintro n s3 ⟨i,gJ,H3,I3,aK,tS,w3⟩
 rcases turn i n gJ H3 w3 with ⟨stop,qn⟩ |⟨go,N,hN,step⟩
 ·refine wpAny_passesOwn hp (ar (T.done X rfl rfl rfl hc i pins s3 gJ H3 X.xe I3 (stat tS) aK stop) fun r s4 ⟨hr,I4⟩=> ?_)
  subst hr
  exact wpAny_execs_nil ⟨gJ,H3,I4,qn⟩
 ·refine wpAny_passesOwn hp (ar (T.item X rfl rfl rfl hc i pins s3 gJ H3 X.xe I3 (stat tS) aK go) fun r s4 ⟨u,hr,h4⟩=> ?_)
  subst hr
  refine wpAny_passesOwn hp (ar h4 fun _ s5 ⟨x,H5,I5,r5,y5,fe,yd⟩=> ?_)
  have zb:=I5.pinned (stat yd) (T.obj _ _ fe)
  refine wpAny_passesOwn hp (ar (hg _ s5 gJ H5 x u _ zb r5 (step x H5 y5)) fun _ s6 ⟨oG,H6,I6,q6⟩=> ?_)
  refine wpAny_passesOwn hp (ar (hb _ s6 oG H6 _ I6 q6) fun f s7 q7=> ?_)
  have again:∀{dM:St}{H7:Hp},Inv X (pins++jg fp s5.heap) dM H7 s7→N dM H7→∃m,m<n∧∃i ai H',Inv X pins ai H' s7∧tn i s7.heap∧(∀b∈fp,H' b=none)∧W i m ai H':=fun {dM H7} I7 n7=>by
   obtain⟨m',hm,w7⟩:=hN dM H7 n7
   refine⟨m',hm,i+1,dM,H7,I7.i6,T.keep _ _ _ fe fun b hb o e=> (I7.pin (b,o) (List.mem_append_right _ (List.mem_append_right _ (Z1 hb e)))).1,fun b hb=> ?_,w7⟩
   obtain⟨o,e,d⟩:=T.obj _ _ fe b hb
   exact(I7.pin (b,o) (List.mem_append_right _ (List.mem_append_right _ (Z1 hb e)))).2.1
  cases f with
  |next=>obtain⟨dM,H7,I7,n7⟩:=q7;exact again I7 n7
  |cont=>obtain⟨dM,H7,I7,n7⟩:=q7;exact again I7 n7
  |brk=>obtain⟨dM,H7,I7,q7⟩:=q7;exact⟨dM,H7,I7.i6,q7⟩
  |ret v=>obtain⟨x7,dM,H7,I7,r7,q7⟩:=q7;exact⟨x7,dM,H7,I7.i6,r7,q7⟩
end
theorem YV {K:PySem.W.Frag}{a:Addr}{xs:List V}{g:TG}{tb:TS}{D:Ends}{σ:St}{H:Hp}(Pv:Nat→St→Hp→Prop) (h0:Pv 0 σ H) (hl:∀i σ H,i≤xs.length→Pv i σ H→ah K H a xs)
  (hs:∀i x σ H,xs[i]? =some x→Pv i σ H→g x σ H fun bC H2=>tb {D with nx:=Pv (i+1),ct:=Pv (i+1),bk:=D.nx} bC H2) (hd:∀σ H,Pv xs.length σ H→D.nx σ H):
  ∃W:Nat→Nat→St→Hp→Prop,(∃m,W 0 m σ H)∧∀i m σ H,W i m σ H→
   ((oB K a).stop i H∧D.nx σ H)∨((oB K a).go i H∧∃N:St→Hp→Prop,(∀ai H',N ai H'→∃m',m'<m∧W (i+1) m' ai H')∧∀x H',(oB K a).oK i H x H'→g x σ H' fun bC H2=>tb {D with nx:=N,ct:=N,bk:=D.nx} bC H2):=by
 refine⟨fun i m σ H=>m=xs.length - i∧i≤xs.length∧Pv i σ H,⟨xs.length,by simp,Nat.zero_le _,h0⟩,?_⟩
 rintro i m σ H ⟨rfl,hi,p⟩
 have q:=hl i σ H hi p
 by_cases aA:i<xs.length
 ·refine .inr ⟨⟨xs,xs[i],q,by simp[aA]⟩,Pv (i+1),fun ai H' p'=> ⟨xs.length - (i+1),by omega,rfl,aA,p'⟩,fun x H' y=> ?_⟩
  obtain⟨e,y⟩:=y
  subst e
  exact hs i x σ _ (y xs q) p
 ·have e:i=xs.length:=by omega
  subst e
  exact .inl ⟨⟨xs,q,Nat.le_refl _⟩,hd σ H p⟩
theorem Yc {lo:Int}{n:Nat}{g:TG}{tb:TS}{D:Ends}{σ:St}{H:Hp}(Pv:Nat→St→Hp→Prop) (h0:Pv 0 σ H)
  (hs:∀i σ H,i<n→Pv i σ H→g (.int (lo+i)) σ H fun bC H2=>tb {D with nx:=Pv (i+1),ct:=Pv (i+1),bk:=D.nx} bC H2) (hd:∀σ H,Pv n σ H→D.nx σ H):
  ∃W:Nat→Nat→St→Hp→Prop,(∃m,W 0 m σ H)∧∀i m σ H,W i m σ H→
   ((kK lo n).stop i H∧D.nx σ H)∨((kK lo n).go i H∧∃N:St→Hp→Prop,(∀ai H',N ai H'→∃m',m'<m∧W (i+1) m' ai H')∧∀x H',(kK lo n).oK i H x H'→g x σ H' fun bC H2=>tb {D with nx:=N,ct:=N,bk:=D.nx} bC H2):=by
 refine⟨fun i m σ H=>m=n - i∧i≤n∧Pv i σ H,⟨n,by simp,Nat.zero_le _,h0⟩,?_⟩
 rintro i m σ H ⟨rfl,hi,p⟩
 by_cases aA:i<n
 ·refine .inr ⟨aA,Pv (i+1),fun ai H' p'=> ⟨n - (i+1),by omega,rfl,aA,p'⟩,fun x H' y=> ?_⟩
  obtain⟨e,y⟩:=y
  subst e y
  exact hs i σ _ aA p
 ·have e:i=n:=by omega
  subst e
  exact .inl ⟨Nat.le_refl _,hd σ H p⟩
abbrev R2:=V→V→Hp→VK→Prop
def bg (X:Cx) (f:Value→Value→Sem Value) (r:R2):Prop:=
 ∀(pins:List (Addr×Obj)) (s:Shared) (σ:St) (H:Hp) (x y:V) (v u:Value) (Q:VK),Inv X pins σ H s→RelV x v→RelV y u→r x y H Q→
  wpAny (model X.prog X.w) X.A (f v u) (EP X pins σ Q) X.xe s
def yW (X:Cx) (f:Value→Sem Value) (r:V→Hp→VK→Prop):Prop:=
 ∀(pins:List (Addr×Obj)) (s:Shared) (σ:St) (H:Hp) (x:V) (v:Value) (Q:VK),Inv X pins σ H s→RelV x v→r x H Q→
  wpAny (model X.prog X.w) X.A (f v) (EP X pins σ Q) X.xe s
def cU (X:Cx) (f:Value) (r:List V→Hp→VK→Prop):Prop:=
 ∀(pins:List (Addr×Obj)) (s:Shared) (σ:St) (H:Hp) (xs:List V) (us:List Value) (Q:VK),Inv X pins σ H s→Vals xs us→r xs H Q→
  wpAny (model X.prog X.w) X.A (call f us) (EP X pins σ Q) X.xe s
def jI (r:R2) (ta tb:TE):TE:=fun σ H Q=>ta σ H fun x H1=>tb σ H1 fun y H2=>r x y H2 Q
def FO (r:V→Hp→VK→Prop) (ta:TE):TE:=fun σ H Q=>ta σ H fun x H1=>r x H1 Q
def rI (C:Int→Int→Prop) (g:Int→Int→V):R2:=fun x y H Q=> ∃i j,x=.int i∧y=.int j∧C i j∧Q (g i j) H
def jR (g:Int→Int→V):R2:=fun x y H Q=> ∃i j,x=.int i∧y=.int j∧Q (g i j) H
def rU (g:Int→V):V→Hp→VK→Prop:=fun x H Q=> ∃i,x=.int i∧Q (g i) H
section
variable {X:Cx}{a b c:Expr}{ta tb tc:TE}{pos:Pos}
theorem yE (ha:PE X a ta) (hb:PE X b tb) {pins:List (Addr×Obj)}{s:Shared}{σ:St}{H:Hp}{R:V→V→Hp→Prop}(I:Inv X pins σ H s)
  (h:ta σ H fun x H1=>tb σ H1 fun y H2=>R x y H2) {Q:Value→Shared→Prop}{f:Value→Value→Sem Value}
  (hf:∀v u s2 x y H2,Inv X pins σ H2 s2→RelV x v→RelV y u→R x y H2→wpAny (model X.prog X.w) X.A (f v u) Q X.xe s2):
  wpAny (model X.prog X.w) X.A (eval a X.env) (fun v aP=>wpAny (model X.prog X.w) X.A (eval b X.env) (fun u uP=>wpAny (model X.prog X.w) X.A (f v u) Q X.xe uP) X.xe aP) X.xe s:=by
 refine ar (ha pins s σ H _ I h) fun v s1 ⟨x,H1,I1,r1,q1⟩=> ?_
 refine ar (hb pins s1 σ H1 _ I1 q1) fun u s2 ⟨y,H2,I2,r2,q2⟩=> ?_
 exact hf v u s2 x y H2 I2 r1 r2 q2
theorem Zn {op:Operator}{r:R2}(ho:bg X (binaryOp op) r) (ha:PE X a ta) (hb:PE X b tb):PE X (.BinOp a op b pos) (jI r ta tb):=by
 intro pins s σ H Q I h
 exact wpAny_BinOp (yE ha hb I h fun v u s2 x y H2 I2 rx ry q=>ho pins s2 σ H2 x y v u Q I2 rx ry q)
theorem Oi {op:UnaryOp}{r:V→Hp→VK→Prop}(ho:yW X (unaryOp op) r) (ha:PE X a ta):PE X (.UnaryOp op a pos) (FO r ta):=by
 intro pins s σ H Q I h
 exact UnaryOp_ (ar (ha pins s σ H _ I h) fun v s1 ⟨x,H1,I1,r1,q1⟩=>ho pins s1 σ H1 x v Q I1 r1 q1)
theorem sd {f:Value→Value→Sem Value}{C:Int→Int→Prop}{g:Int→Int→Int}
  (rule:∀(i j:Int) (t u:Tok) (s:Shared) (Q:Value→Shared→Prop) (E:Value→Shared→Prop),C i j→Q (.int (g i j) s.toks) {s with toks:=s.toks+1}→wpAny (model X.prog X.w) X.A (f (.int i t) (.int j u)) Q E s):
  bg X f (rI C fun i j=> .int (g i j)):=by
 intro pins s σ H x y v u Q I rx ry h
 obtain⟨i,j,rfl,rfl,hc,q⟩:=h
 obtain⟨t,rfl⟩:=rx
 obtain⟨t',rfl⟩:=ry
 exact rule i j t t' s _ _ hc ⟨.int (g i j),H,I.tok _,⟨_,rfl⟩,q⟩
theorem Bh {f:Value→Value→Sem Value}{g:Int→Int→Int}
  (rule:∀(i j:Int) (t u:Tok) (s:Shared) (Q:Value→Shared→Prop) (E:Value→Shared→Prop),Q (.int (g i j) s.toks) {s with toks:=s.toks+1}→wpAny (model X.prog X.w) X.A (f (.int i t) (.int j u)) Q E s):
  bg X f (jR fun i j=> .int (g i j)):=by
 intro pins s σ H x y v u Q I rx ry h
 obtain⟨i,j,rfl,rfl,q⟩:=h
 obtain⟨t,rfl⟩:=rx
 obtain⟨t',rfl⟩:=ry
 exact rule i j t t' s _ _ ⟨.int (g i j),H,I.tok _,⟨_,rfl⟩,q⟩
theorem se {f:Value→Value→Sem Value}{g:Int→Int→Bool}
  (rule:∀(i j:Int) (t u:Tok) (s:Shared) (Q:Value→Shared→Prop) (E:Value→Shared→Prop),Q (.bool (g i j)) s→wpAny (model X.prog X.w) X.A (f (.int i t) (.int j u)) Q E s):
  bg X f (jR fun i j=> .bl (g i j)):=by
 intro pins s σ H x y v u Q I rx ry h
 obtain⟨i,j,rfl,rfl,q⟩:=h
 obtain⟨t,rfl⟩:=rx
 obtain⟨t',rfl⟩:=ry
 exact rule i j t t' s _ _ ⟨.bl (g i j),H,I,rfl,q⟩
def SR (i j:Int):Prop:=0<j∧j<1073741824
def SQ (i j:Int):Prop:=0≤j∧j≤1000000∧i.natAbs<2^64
def zp (i j:Int):Prop:=(-(2^64)<i∧i<2^64)∨(-(2^64)<j∧j<2^64)
theorem zp.ok {i j:Int}(h:zp i j):IntMulOk i j:=by
 rcases h with ⟨h1,h2⟩ |⟨h1,h2⟩
 ·exact .of_left (intBits_le_64 h1 h2)
 ·exact .of_right (intBits_le_64 h1 h2)
theorem ZU:bg X (binaryOp .Add) (jR fun i j=> .int (i+j)):=Bh fun _ _ _ _ _ _ _ q=>add_int q
theorem Z0:bg X (binaryOp .Sub) (jR fun i j=> .int (i - j)):=Bh fun _ _ _ _ _ _ _ q=>sub_int q
theorem YL:bg X (binaryOp .Mult) (rI zp fun i j=> .int (i*j)):=sd fun _ _ _ _ _ _ _ hc q=>mul_int q hc.ok
theorem JO:bg X (binaryOp .FloorDiv) (rI SR fun i j=> .int (i/j)):=sd fun i j _ _ _ _ _ hc q=>by
 have h1:(0:Int)<j:=hc.1
 have h2:j<1073741824:=hc.2
 exact floordiv_int (by omega) (by rw[Int.fdiv_eq_ediv_of_nonneg i (by omega)];exact q) (.inl (PyProof.noPylong_small (by omega)))
theorem Yx:bg X (binaryOp .Mod) (rI (fun _ j=>0<j) fun i j=> .int (i%j)):=sd fun i j _ _ _ _ _ hc q=>by
 have h1:(0:Int)<j:=hc
 exact mod_int' (by omega) (by rw[Int.fmod_eq_emod_of_nonneg i (by omega)];exact q)
theorem W7:bg X (binaryOp .Pow) (rI SQ fun i j=> .int (i^j.toNat)):=sd fun _ _ _ _ _ _ _ hc q=>pow_int_small hc.1 hc.2.1 hc.2.2 q
theorem Fj {f:Value→Sem Value}{g:Int→Int}
  (rule:∀(i:Int) (t:Tok) (s:Shared) (Q:Value→Shared→Prop) (E:Value→Shared→Prop),Q (.int (g i) s.toks) {s with toks:=s.toks+1}→wpAny (model X.prog X.w) X.A (f (.int i t)) Q E s):
  yW X f (rU fun i=> .int (g i)):=by
 intro pins s σ H x v Q I rx h
 obtain⟨i,rfl,q⟩:=h
 obtain⟨t,rfl⟩:=rx
 exact rule i t s _ _ ⟨.int (g i),H,I.tok _,⟨_,rfl⟩,q⟩
theorem Oz:yW X (unaryOp .USub) (rU fun i=> .int (-i)):=Fj fun _ _ _ _ _ q=>neg_int q
end
def kX:V→V→Bool
 | .af,.af=>true | .af,.int _=>true | .int _,.af=>true | .af,.bl _=>true | .bl _,.af=>true | .af,.str _=>true | .str _,.af=>true
 | .int _,.int _=>true | .bl _,.bl _=>true | .str _,.str _=>true | .iT _,.iT _=>true
 | .int _,.str _=>true | .str _,.int _=>true | .bl _,.str _=>true | .str _,.bl _=>true
 |_,_=>false
def Hf:R2:=fun x y H Q=>kX x y=true∧Q (.bl (decide (x=y))) H
theorem Es {i j:Int} :decide (V.int i=V.int j)=(i==j):=by
 rw[Bool.eq_iff_iff]
 simp
theorem Ph {i j:Bool} :decide (V.bl i=V.bl j)=(i==j):=by
 rw[Bool.eq_iff_iff]
 simp
theorem OE {i j:Str} :decide (V.str i=V.str j)=(i==j):=by
 rw[Bool.eq_iff_iff]
 simp
theorem OD {i j:Array UInt8} :decide (V.iT i=V.iT j)=(i.toList==j.toList):=by
 rw[Bool.eq_iff_iff]
 cases i
 cases j
 simp
section
variable {X:Cx}{a b c:Expr}{ta tb tc:TE}{pos:Pos}
theorem Z8 {pins:List (Addr×Obj)}{σ:St}{H:Hp}{s:Shared}{Q:VK}{k k':Bool}(I:Inv X pins σ H s) (q:Q (.bl k) H) (e:k=k'):EP X pins σ Q (.bool k') s:=by
 subst e
 exact⟨.bl k,H,I,rfl,q⟩
theorem JC:bg X (compareOp .Eq) Hf:=by
 intro pins s σ H x y v u Q I rx ry h
 obtain⟨hs,q⟩:=h
 cases x with
 |af=>
  cases rx
  cases y with
  |af=>cases ry;exact PySem.EqNone.eq_none_none (Z8 I q (by simp))
  |bl j=>cases ry;exact PySem.EqNone.eq_none_bool (Z8 I q (by simp))
  |int j=>obtain⟨t',rfl⟩:=ry;exact PySem.EqNone.eq_none_int (Z8 I q (by simp))
  |str j=>obtain⟨t',rfl⟩:=ry;exact PySem.EqNone.eq_none_str (Z8 I q (by simp))
  |_=>exact absurd (show false=true from hs) Bool.false_ne_true
 |bl i=>
  cases rx
  cases y with
  |af=>cases ry;exact PySem.EqNone.eq_bool_none (Z8 I q (by simp))
  |bl j=>cases ry;exact eq_bool (Z8 I q Ph)
  |str j=>obtain⟨t',rfl⟩:=ry;exact PySem.EqMixed.eq_bool_str (Z8 I q (by simp))
  |_=>exact absurd (show false=true from hs) Bool.false_ne_true
 |int i=>
  obtain⟨t,rfl⟩:=rx
  cases y with
  |af=>cases ry;exact PySem.EqNone.eq_int_none (Z8 I q (by simp))
  |int j=>obtain⟨t',rfl⟩:=ry;exact eq_int (Z8 I q Es)
  |str j=>obtain⟨t',rfl⟩:=ry;exact PySem.EqMixed.eq_int_str (Z8 I q (by simp))
  |_=>exact absurd (show false=true from hs) Bool.false_ne_true
 |str i=>
  obtain⟨t,rfl⟩:=rx
  cases y with
  |af=>cases ry;exact PySem.EqNone.eq_str_none (Z8 I q (by simp))
  |bl j=>cases ry;exact PySem.EqMixed.eq_str_bool (Z8 I q (by simp))
  |int j=>obtain⟨t',rfl⟩:=ry;exact PySem.EqMixed.eq_str_int (Z8 I q (by simp))
  |str j=>obtain⟨t',rfl⟩:=ry;exact eq_str (Z8 I q OE)
  |_=>exact absurd (show false=true from hs) Bool.false_ne_true
 |iT i=>
  obtain⟨t,rfl⟩:=rx
  cases y with
  |iT j=>obtain⟨t',rfl⟩:=ry;exact PySem.W.eq_bytes (Z8 I q OD)
  |_=>exact absurd (show false=true from hs) Bool.false_ne_true
 |_=>cases y<;>exact absurd (show false=true from hs) Bool.false_ne_true
theorem DP:bg X (compareOp .Lt) (jR fun i j=> .bl (decide (i<j))):=se fun _ _ _ _ _ _ _ q=>lt_int q
theorem yP:bg X (compareOp .LtE) (jR fun i j=> .bl (decide (i≤j))):=se fun _ _ _ _ _ _ _ q=>le_int q
theorem ui:bg X (compareOp .Gt) (jR fun i j=> .bl (decide (j<i))):=se fun _ _ _ _ _ _ _ q=>gt_int q
theorem DO:bg X (compareOp .GtE) (jR fun i j=> .bl (decide (j≤i))):=se fun _ _ _ _ _ _ _ q=>ge_int q
theorem bg.or {f:Value→Value→Sem Value}{r r':R2}(h:bg X f r) (h':bg X f r'):bg X f (fun x y H Q=>r x y H Q∨r' x y H Q):=by
 intro pins s σ H x y v u Q I rx ry q
 rcases q with q |q
 ·exact h pins s σ H x y v u Q I rx ry q
 ·exact h' pins s σ H x y v u Q I rx ry q
theorem cY (b:Expr) {op:CmpOp}(h:op≠.In:=by decide) (h2:op≠.NotIn:=by decide):behindInMarks op b=false:=by
 have e1:(op==CmpOp.In)=false:=by cases op<;>first |rfl |exact absurd rfl h
 have e2:(op==CmpOp.NotIn)=false:=by cases op<;>first |rfl |exact absurd rfl h2
 cases b<;>simp[behindInMarks,e1,e2]
theorem YJ {op:CmpOp}{r:R2}(ho:bg X (compareOp op) r) (ha:PE X a ta) (hb:PE X b tb) (hm:behindInMarks op b=false):PE X (.Compare a [op] [b] pos) (jI r ta tb):=by
 intro pins s σ H Q I h
 exact wpAny_Compare1 (yE ha hb I h fun v u s2 x y H2 I2 rx ry q=>ho pins s2 σ H2 x y v u Q I2 rx ry q) hm
def Ab (t:TE):TT:=fun σ H Q=>t σ H fun x H'=> ∃k,x=.bl k∧Q k H'
theorem ZX {op:CmpOp}{r:R2}(ho:bg X (compareOp op) r) (ha:PE X a ta) (hb:PE X b tb) (hm:behindInMarks op b=false):PT X (.Compare a [op] [b] pos) (Ab (jI r ta tb)):=by
 intro pins s σ H Q I h
 refine wpAny_isTrue_Compare1 (ar (ha pins s σ H _ I h) fun v s1 ⟨x,H1,I1,r1,q1⟩=>ar (hb pins s1 σ H1 _ I1 q1) fun u s2 ⟨y,H2,I2,r2,q2⟩=>
  ar (ho pins s2 σ H2 x y v u _ I2 r1 r2 q2) fun c s3 ⟨z,H3,I3,r3,k,e,q3⟩=> ?_) hm
 subst e
 cases r3
 exact wpAny_truthy_bool ⟨H3,I3,q3⟩
def Af (r r':R2) (ta tb tc:TE):TE:=fun σ H Q=>ta σ H fun x H1=>tb σ H1 fun y H2=>r x y H2 fun z H3=> ∃k,z=.bl k∧
 (if k=true then tc σ H3 fun w' H4=>r' y w' H4 Q else Q (.bl false) H3)
theorem QY {op lG:CmpOp}{r r':R2}(ho:bg X (compareOp op) r) (cu:bg X (compareOp lG) r') (ha:PE X a ta) (hb:PE X b tb) (hc:PE X c tc)
  (hm:lastMarks [op,lG] [b,c]=false:=by with_unfolding_all rfl):PE X (.Compare a [op,lG] [b,c] pos) (Af r r' ta tb tc):=by
 intro pins s σ H Q I h
 refine Compare_chain (ar (ha pins s σ H _ I h) fun v s1 ⟨x,H1,I1,r1,q1⟩=>chain_link (ar (hb pins s1 σ H1 _ I1 q1) fun u s2 ⟨y,H2,I2,r2,q2⟩=>
  ar (ho pins s2 σ H2 x y v u _ I2 r1 r2 q2) fun d s3 ⟨z,H3,I3,r3,k,e,q3⟩=> ?_)) hm
 subst e
 cases r3
 refine wpAny_truthy_bool ?_
 cases k with
 |false=>exact ite_ff ⟨.bl false,H3,I3,rfl,q3⟩
 |true=>exact ite_tt (chain_last (ar (hc pins s3 σ H3 _ I3 q3) fun w' s4 ⟨z',H4,I4,r4,q4⟩=>cu pins s4 σ H4 y z' u w' Q I4 r2 r4 q4))
theorem Q5 {op lG:CmpOp}{r r':R2}(ho:bg X (compareOp op) r) (cu:bg X (compareOp lG) r') (ha:PE X a ta) (hb:PE X b tb) (hc:PE X c tc)
  (hm:lastMarks [op,lG] [b,c]=false:=by with_unfolding_all rfl):PT X (.Compare a [op,lG] [b,c] pos) (Ab (Af r r' ta tb tc)):=by
 intro pins s σ H Q I h
 refine isTrue_chain (ar (ha pins s σ H _ I h) fun v s1 ⟨x,H1,I1,r1,q1⟩=>test_link (ar (hb pins s1 σ H1 _ I1 q1) fun u s2 ⟨y,H2,I2,r2,q2⟩=>
  ar (ho pins s2 σ H2 x y v u _ I2 r1 r2 q2) fun d s3 ⟨z,H3,I3,r3,k,e,q3⟩=> ?_)) hm
 subst e
 cases r3
 refine wpAny_truthy_bool ?_
 cases k with
 |false=>
  obtain⟨k',e',q'⟩:=q3
  cases e'
  exact ite_ff ⟨H3,I3,q'⟩
 |true=>
  refine ite_tt (test_last (ar (hc pins s3 σ H3 _ I3 q3) fun w' s4 ⟨z',H4,I4,r4,q4⟩=>ar (cu pins s4 σ H4 y z' u w' _ I4 r2 r4 q4) fun d' s5 ⟨z2,H5,I5,r5,k2,e2,q5⟩=> ?_))
  subst e2
  cases r5
  exact wpAny_truthy_bool ⟨H5,I5,q5⟩
theorem sO:(sizeLine:Nat)<2^63:=by rw[sizeLine_eq];decide
theorem vals1 {x:V}{us:List Value}(r:Vals [x] us):∃u,us=[u]∧RelV x u:=by
 cases r with
 |cons r1 r2=>cases r2;exact⟨_,rfl,r1⟩
theorem vals2 {x y:V}{us:List Value}(r:Vals [x,y] us):∃u w',us=[u,w']∧RelV x u∧RelV y w':=by
 cases r with
 |cons r1 r2=>
  cases r2 with
  |cons r3 r4=>cases r4;exact⟨_,_,rfl,r1,r3⟩
theorem WV (hc:X.calm=true):cU X (.builtin "max") (fun xs H Q=> ∃i j,xs=[.int i,.int j]∧Q (.int (if j>i then j else i)) H):=by
 intro pins s σ H xs us Q I r h
 obtain⟨i,j,rfl,q⟩:=h
 obtain⟨u,w',rfl,⟨t,rfl⟩,⟨t',rfl⟩⟩:=vals2 r
 refine max_two_ints (I.ok.hd hc) fun h' tk k=> ⟨_,H,I.kept k,?_,q⟩
 by_cases hj:j>i
 ·rw[if_pos hj,if_pos hj];exact⟨_,rfl⟩
 ·rw[if_neg hj,if_neg hj];exact⟨_,rfl⟩
theorem QD (hc:X.calm=true):cU X (.builtin "min") (fun xs H Q=> ∃i j,xs=[.int i,.int j]∧Q (.int (if j<i then j else i)) H):=by
 intro pins s σ H xs us Q I r h
 obtain⟨i,j,rfl,q⟩:=h
 obtain⟨u,w',rfl,⟨t,rfl⟩,⟨t',rfl⟩⟩:=vals2 r
 refine min_two_ints (I.ok.hd hc) fun h' tk k=> ⟨_,H,I.kept k,?_,q⟩
 by_cases hj:j<i
 ·rw[if_pos hj,if_pos hj];exact⟨_,rfl⟩
 ·rw[if_neg hj,if_neg hj];exact⟨_,rfl⟩
theorem QA:cU X (.type "int") (fun xs H Q=> (∃i,xs=[.int i]∧Q (.int i) H)∨∃k,xs=[.bl k]∧Q (.int (if k then 1 else 0)) H):=by
 intro pins s σ H xs us Q I r h
 rcases h with ⟨i,rfl,q⟩ |⟨k,rfl,q⟩
 ·obtain⟨u,rfl,t,rfl⟩:=vals1 r
  exact call_int_int ⟨.int i,H,I,⟨_,rfl⟩,q⟩
 ·obtain⟨u,rfl,r1⟩:=vals1 r
  cases r1
  exact call_int_bool ⟨.int (if k then 1 else 0),H,I.tok _,⟨_,rfl⟩,q⟩
end
structure yY (h:Heap) (x dx C:Addr) (mA:Str→Option Value):Prop where
 obj:h.get? x=some (PySem.W.instObj C dx)
 ns:h.Ns1 dx mA
 ne:dx≠x
theorem QP {h:Heap}{dx:Addr}{mA:Str→Option Value}(n:h.Ns1 dx mA):∃od,h.get? dx=some od∧∀name,PySem.W.lookIn name od=some (mA name):=by
 obtain⟨o,es,ep,ho,hd,hk,_,hm⟩:=n
 refine⟨o,ho,fun name=> ?_⟩
 have e:=hm name
 unfold nsFind findBy at e
 rw[←Array.find?_toList]at e
 unfold PySem.W.lookIn
 rw[hd]
 dsimp only
 split
 ·rename_i y q
  rw[q]at e
  exact congrArg some e
 ·rename_i q
  rw[q]at e
  have a:es.toList.any (·.refKey)=false:=by
   rw[List.any_eq_false]
   intro y hy
   obtain⟨z,t,Ls⟩:=hk y (Array.mem_toList_iff.mp hy)
   simp[DictEntry.refKey,Ls]
  have a':¬es.toList.any (·.refKey)=true:=by rw[a];exact Bool.false_ne_true
  rw[if_neg a']
  exact congrArg some e
theorem yY.look {h:Heap}{x dx C:Addr}{mA:Str→Option Value}(I:yY h x dx C mA):∃od,PySem.W.InstAt h x (PySem.W.instObj C dx) C (some od)∧∀name,PySem.W.lookIn name od=some (mA name):=
 let ⟨od,ho,hl⟩:=QP I.ns
 ⟨od,⟨I.obj,rfl,rfl,ho⟩,hl⟩
section
variable {P:Program}{w:World}{H H':Hp}{h h':Heap}{a C dx:Addr}{fs MM:List (Str×V)}
theorem OH (ag:bo P w H h) (e:H a=some (.ins C dx fs)):∃mA,yY h a dx C mA∧(∀f,jw (fs.lookup f) (mA f))∧PySem.Within mA (fs.map (·.1))∧fs.length≤1000∧H dx=some (.own a):=by
 obtain⟨d,z,ne,ob,mA,n,r,q⟩:=(show aO P w H h a (.ins C dx fs) from ag a _ e)
 exact⟨mA,⟨ob,n,ne⟩,r,q,z,d⟩
end
structure zo (K:PySem.W.Frag) (C:Addr):Prop where
 pg:PySem.W.plainGet K C Str.empty=true
 hd:PySem.W.hasDictIn K C=true
 po:PySem.W.plainOver K C=true
 sa:PySem.W.findIn K (.ref C) "__setattr__" =some (some (.builtin "object.__setattr__"))
theorem zo.get {K:PySem.W.Frag}{C:Addr}(c:zo K C) (f:Str):PySem.W.plainGet K C f=true:=c.pg
structure Vg (K:PySem.W.Frag) (C:Addr) (f:Str) (v:V) (u:Value):Prop where
 at_:PySem.W.findIn K (.ref C) f=some (some u)
 rel:RelV v u
 get:PySem.W.specialIn K u "__get__" =some none
 cp:PySem.W.copiedNames.contains f=false
structure Meth (K:PySem.W.Frag) (C:Addr) (m:Str) (f:Addr):Prop where
 at_:PySem.W.findIn K (.ref C) m=some (some (.ref f))
 fn:PySem.W.isFn K (.ref f)=true
 kp:PySem.W.keepIn K (.ref f)=true
section
variable {X:Cx}{pins:List (Addr×Obj)}{σ:St}{H:Hp}{s:Shared}{A:Around}{E:Value→Shared→Prop}{Q:Value→Shared→Prop}{c:Value}{b:Bool}
inductive eG (K:PySem.W.Frag) (H:Hp):V→Value→Prop where
 |af:eG K H .af (.type "NoneType")
 |bl (x:Bool):eG K H (.bl x) (.type "bool")
 |int (i:Int):eG K H (.int i) (.type "int")
 |str (x:Str):eG K H (.str x) (.type "str")
 |ij (x:UInt64):eG K H (.ij x) (.type "float")
 |lst {a:Addr}{xs:List V} (e:H a=some (.lst xs)):eG K H (.ref a) (.type "list")
 |aW {a:Addr}{o:Obj}{xs:List V} (e:H a=some (.aW o (.lst xs))):eG K H (.ref a) (.type "list")
 |tup {a:Addr}{xs:List V} (e:H a=some (.tup xs)):eG K H (.ref a) (.type "tuple")
 |dK {a:Addr}{kvs:List (Key×V)} (e:H a=some (.dK kvs)):eG K H (.ref a) (.type "dict")
 |dT {a:Addr}{kvs:List (List Key×V)} (e:H a=some (.dT kvs)):eG K H (.ref a) (.type "dict")
 |ins {a C dx:Addr}{fs:List (Str×V)} (e:H a=some (.ins C dx fs)) (cl:zo K C) (ha:PySem.W.findIn K (.ref C) "__class__" =some (some (.builtin "object.__class__")))
  (hn:PySem.W.specialIn K (.builtin "object.__class__") "__get__" =some (some (.builtin "getset_descriptor.__get__"))) (BS:PySem.W.takesIn K (.builtin "object.__class__")=some true)
  (hm:PySem.W.mroIn K C (.type "object")=some true):eG K H (.ref a) (.ref C)
theorem QK {x:V}{u t:Value}(I:Inv X pins σ H s) (rx:RelV x u) (ty:eG X.K H x t) (e:PySem.W.kitOne X.K t c=some b) (h:∀tk,Q (.bool b) {s with toks:=tk}):
  wpAny (model X.prog X.w) A (call (.builtin "isinstance") [u,c]) Q E s:=by
 cases ty with
 |af=>cases (show u=Value.none from rx);exact PySem.W.kia_one PySem.W.kitx_none I.bW True.intro e (fun z=>nomatch z) h
 |bl y=>cases (show u=Value.bool y from rx);exact PySem.W.kia_one PySem.W.kitx_bool I.bW True.intro e (fun z=>nomatch z) h
 |int i=>obtain⟨t,q⟩:=(show ∃t,u=Value.int i t from rx);cases q;exact PySem.W.kia_one PySem.W.kitx_int I.bW True.intro e (fun z=>nomatch z) h
 |str y=>obtain⟨t,q⟩:=(show ∃t,u=Value.str y t from rx);cases q;exact PySem.W.kia_one PySem.W.kitx_str I.bW True.intro e (fun z=>nomatch z) h
 |ij y=>obtain⟨t,q⟩:=(show ∃t,u=Value.float y t from rx);cases q;exact PySem.W.kia_one PySem.W.kitx_float I.bW True.intro e (fun z=>nomatch z) h
 | @lst a xs ea=>
  cases (show u=Value.ref a from rx)
  obtain⟨_,_,n,_,h1⟩:=(show aO X.prog X.w H s.heap a (.lst xs) from I.ag a _ ea)
  exact PySem.W.kia_one PySem.W.kitx_list I.bW ⟨_,h1,rfl⟩ e (fun z=>nomatch z) h
 | @aW a ob xs ea=>
  cases (show u=Value.ref a from rx)
  obtain⟨_,_,_,n,_,h1⟩:=(show aO X.prog X.w H s.heap a (.aW ob (.lst xs)) from I.ag a _ ea)
  exact PySem.W.kia_one PySem.W.kitx_list I.bW ⟨_,h1,rfl⟩ e (fun z=>nomatch z) h
 | @tup a xs ea=>
  cases (show u=Value.ref a from rx)
  obtain⟨_,_,_,p,_⟩:=(show aO X.prog X.w H s.heap a (.tup xs) from I.ag a _ ea)
  obtain⟨o,h1,h2,_⟩:=p
  exact PySem.W.kia_one PySem.W.kitx_tuple I.bW ⟨o,h1,h2⟩ e (fun z=>nomatch z) h
 | @dK a kvs ea=>
  cases (show u=Value.ref a from rx)
  obtain⟨_,_,vs,_,p⟩:=(show aO X.prog X.w H s.heap a (.dK kvs) from I.ag a _ ea)
  obtain⟨o,es,ep,h1,h2,_⟩:=p
  exact PySem.W.kia_one PySem.W.kitx_dict I.bW ⟨o,h1,h2.1⟩ e (fun z=>nomatch z) h
 | @dT a kvs ea=>
  cases (show u=Value.ref a from rx)
  obtain⟨_,_,xs,_,o,es,ep,h1,h2,_⟩:=(show aO X.prog X.w H s.heap a (.dT kvs) from I.ag a _ ea)
  exact PySem.W.kia_one PySem.W.kitx_dict I.bW ⟨o,h1,h2.1⟩ e (fun z=>nomatch z) h
 | @ins a C dx fs ea cl ha hn BS hm=>
  cases (show u=Value.ref a from rx)
  obtain⟨mA,O,_⟩:=OH I.ag ea
  obtain⟨od,J,_⟩:=O.look
  exact PySem.W.kia_one (PySem.W.kitx_own (cl.get _) cl.hd ha hn BS hm) I.bW J e (fun z=>nomatch z) h
end
structure bR (k:Nat) (A:Around):Prop where
 hd:A.handled=none
 dp:A.depth+3*k+5<recursionLimit
 un:A.units+16*k+200<cLine
 gd:A.guards=some []
theorem bR.mono {j k:Nat}{A:Around}(r:bR k A) (h:j≤k):bR j A:=⟨r.hd,by have:=r.dp;omega,by have:=r.un;omega,r.gd⟩
theorem bR.deeper {k:Nat}{A:Around}(r:bR (k+1) A) (env:Env):bR k (A.deeper env):=
 ⟨r.hd,by have:=r.dp;show A.depth+1+3*k+5<_;omega,by have:=r.un;show A.units+3+16*k+200<_;omega,r.gd⟩
theorem bR.depth {k:Nat}{A:Around}(r:bR k A):A.depth<recursionLimit:=by have:=r.dp;omega
theorem bR.units {k:Nat}{A:Around}(r:bR k A):A.units+64<cLine:=by have:=r.un;omega
theorem bR.uH {k:Nat}{A:Around}(r:bR k A):A.units<cLine:=by have:=r.un;omega
def jJ:TA:=fun _ H Q=>Q [] H
def i7 (ta:TE) (tr:TA):TA:=fun σ H Q=>ta σ H fun x H1=>tr σ H1 fun xs H2=>Q (x::xs) H2
section
variable {X:Cx}{e:Expr}{es:List Expr}{te:TE}{t:TA}{pos:Pos}
theorem Zb:PA X [] jJ:=fun _ _ _ _ H Q I h=>Calls.spliced_nil ⟨[],H,I,.nil,h⟩
theorem Za (ha:PE X e te) (hr:PA X es t) (hs:starEach (e::es) X.env=(false,eval e X.env)::starEach es X.env:=by rfl):PA X (e::es) (i7 te t):=by
 intro pos pins s σ H Q I h
 rw[hs]
 show wpAny _ _ (spliced ((false,eval e X.env)::backTo pos (starEach es X.env))) _ _ s
 refine Calls.spliced_cons (ar (ha pins s σ H _ I h) fun u s1 ⟨x,H1,I1,r1,q1⟩=> ?_)
 exact ar (hr pos pins s1 σ H1 _ I1 q1) fun us s2 ⟨xs,H2,I2,r2,q2⟩=> ⟨x::xs,H2,I2,.cons r1 r2,q2⟩
def qY (t:TA):TE:=fun σ H Q=>t σ H fun xs H1=>xs.length≤sizeLine∧∀p,H1 p=none→Q (.ref p) (upd H1 p (.tup xs))
def Ae (t:TA):TE:=fun σ H Q=>t σ H fun xs H1=>xs.length≤sizeLine∧∀p,H1 p=none→Q (.ref p) (upd H1 p (.lst xs))
theorem ZA {x1} (h:PA X es t):PE X (.Tuple es x1 pos) (qY t):=by
 intro pins s σ H Q I hq
 refine wpAny_Tuple_spliced (ar (h pos pins s σ H _ I hq) fun us s1 ⟨xs,H1,I1,r,z,q⟩=> ⟨by rw[←r.length];exact z,?_⟩)
 have hf:H1 s1.heap.objs.size=none:=I1.ag.fresh (Nat.le_refl _)
 refine⟨.ref s1.heap.objs.size,upd H1 s1.heap.objs.size (.tup xs),I1.laid (t':=s1.toks) (fun b u e=>Heap.get?_push_of_some _ e) (Nat.le_refl _) ?_,rfl,q _ hf⟩
 exact⟨z,us,r,⟨_,Heap.get?_push_size _ rfl,rfl,_,rfl⟩,_,Heap.get?_push_size _ rfl,rfl⟩
theorem ZB (h:PA X es t):PE X (.List es pos) (Ae t):=by
 intro pins s σ H Q I hq
 refine wpAny_List_spliced (ar (h pos pins s σ H _ I hq) fun us s1 ⟨xs,H1,I1,r,z,q⟩=> ⟨by rw[←r.length];exact z,?_⟩)
 have hf:H1 s1.heap.objs.size=none:=I1.ag.fresh (Nat.le_refl _)
 refine⟨.ref s1.heap.objs.size,upd H1 s1.heap.objs.size (.lst xs),I1.laid (t':=s1.toks) (fun b u e=>Heap.get?_push_of_some _ e) (Nat.le_refl _) ?_,rfl,q _ hf⟩
 exact⟨z,us,0,r,Heap.get?_push_size _ rfl⟩
end
abbrev Sp:=List V→Hp→VK→XK→Prop
abbrev iZ:=List Env→Hp→Shared→XK→Value→Shared→Prop
structure qQ (P:Program) (w:World) (K:PySem.W.Frag) (mg:Str→Option Value) (base:Heap) (A:Around) (outer:List Env) (s:Shared) (H:Hp):Prop where
 frames:A.frames=some outer
 mod:Mod K mg base
 bs:∀b o,base.get? b=some o→s.heap.get? b=some o∧H b=none
 ip:base.objs.size≤s.heap.objs.size
 dH:s.heap.FunFrames base outer
 gB:∀b∈aS outer,H b=none
 ag:bo P w H s.heap
 bare:AllBare s.gens
def CE (outer:List Env) (P:Program) (w:World) (H:Hp) (s:Shared) (Q:VK) (u:Value) (s':Shared):Prop:=
 ∃v H',s'.os=s.os∧AllBare s'.gens∧Un (aS outer) [] H H' s.heap s'.heap∧bo P w H' s'.heap∧RelV v u∧Q v H'
def CR (CX:iZ) (outer:List Env) (P:Program) (w:World) (H:Hp) (s:Shared) (Q:VK) (E:XK) (r:Result) (s':Shared):Prop:=
 match r with
 | .ok (.ret u)=>CE outer P w H s Q u s'
 | .ok _=>False
 | .error e=>CX outer H s E e s'
structure aE (P:Program) (w:World) (K:PySem.W.Frag) (mg:Str→Option Value) (base:Heap) (CX:iZ) (k:Nat) (f:Addr) (fd:FuncData) (ps:List Str) (sp:Sp):Prop where
 len:∀vs H Q E,sp vs H Q E→vs.length=ps.length
 run:∀(A:Around) (outer:List Env) (s:Shared) (H:Hp) (args:Args) (us:List Value) (vs:List V) (Q:VK) (E:XK),bR k A→qQ P w K mg base A outer s H→BindsTo s fd args (ps.zip us)→Vals vs us→sp vs H Q E→
  codeAny (model P w) A (.call (.ref f) args) (CR CX outer P w H s Q E) s
section
variable {X:Cx}{pins:List (Addr×Obj)}{σ:St}{H:Hp}{s s':Shared}
theorem Inv.Dn (I:Inv X pins σ H s):qQ X.prog X.w X.K X.mg X.base X.A X.stack s H:=
 ⟨I.ok.frames,I.ok.mod,I.bs,Nat.le_trans I.ok.ip I.sz,I.stack,I.mZ,I.ag,I.bare⟩
theorem Inv.after {Q:VK}{u:Value}(I:Inv X pins σ H s) (h:CE X.stack X.prog X.w H s Q u s'):EP X pins σ Q u s':=by
 obtain⟨v,H',os,bare,un,ag,r,q⟩:=h
 obtain⟨hh,g,d,t,HB⟩:=s'
 obtain rfl:HB=s.os:=os
 exact⟨v,H',I.call (h':=hh) (g':=g) (d':=d) (t':=t) (ch:=[]) un ag bare (fun b z=>absurd z (by simp)),r,q⟩
end
def uM (sp:Sp) (kD:List V) (E:XK) (t:TA):TE:=fun σ H Q=>t σ H fun vs H1=>sp (vs++kD) H1 Q E
def Binds (K:PySem.W.Frag) (fd:FuncData) (ps:List Str) (ds:List Value):Prop:=
 ∀(s:Shared) (us:List Value),K.In s.heap→(us++ds).length=ps.length→BindsTo s fd ⟨us,[]⟩ (ps.zip (us++ds))
theorem Binds.all {K:PySem.W.Frag}{fd:FuncData}{ps:List Str}(h:∀us:List Value,us.length=ps.length→bindArgs fd ⟨us,[]⟩=pure (ps.zip us)):Binds K fd ps []:=fun s us _ hl=>by
 rw[List.append_nil]at hl ⊢
 exact .of_eq (h us hl)
def Passes (CX:iZ) (X:Cx) (E:XK):Prop:=∀(pins:List (Addr×Obj)) (σ:St) (H:Hp) (s:Shared) (e:Value) (s':Shared),Inv X pins σ H s→CX X.stack H s E e s'→X.xe e s'
section
variable {X:Cx}{CX:iZ}{k:Nat}{f C:Addr}{fd:FuncData}{ps:List Str}{sp:Sp}{kD:List V}{ds:List Value}{E:XK}{x m:Str}{p pos apos:Pos}{e o:Expr}{es:List Expr}{ta:TE}{t:TA}
theorem Ov {pins:List (Addr×Obj)}{σ:St}{H:Hp}{s:Shared}{Q:VK}{us:List Value}{vs:List V}(F:aE X.prog X.w X.K X.mg X.base CX k f fd ps sp) (hr:bR k X.A) (hb:Binds X.K fd ps ds) (hd:Vals kD ds) (hx:Passes CX X E)
  (I:Inv X pins σ H s) (r:Vals vs us) (h:sp (vs++kD) H Q E):wpAny (model X.prog X.w) X.A (call (.ref f) us) (EP X pins σ Q) X.xe s:=by
 have r2:Vals (vs++kD) (us++ds):=r.append hd
 have hl:(us++ds).length=ps.length:=by rw[←r2.length];exact F.len _ _ _ _ h
 refine wpAny_call (codeAny_mono (F.run X.A X.stack s H ⟨us,[]⟩ (us++ds) (vs++kD) Q E hr I.Dn (hb s us I.bW hl) r2 h) fun r s' hq=> ?_)
 cases r with
 |error e=>exact hx pins σ H s e s' I hq
 |ok fl=>
  cases fl with
  |ret u=>exact I.after hq
  |next=>exact False.elim hq
  |brk=>exact False.elim hq
  |cont=>exact False.elim hq
theorem Yq (F:aE X.prog X.w X.K X.mg X.base CX k f fd ps sp) (hr:bR k X.A) (hg:Gl X x) (hm:X.mg x=some (.ref f)) (hk:PySem.W.keepIn X.K (.ref f)=true) (hb:Binds X.K fd ps ds) (hd:Vals kD ds) (hx:Passes CX X E)
  (ha:PA X (e::es) t) (jq:(x==("__debug__" :Str))=false:=by decide) (he:starEach (e::es) X.env=(false,eval e X.env)::starEach es X.env:=by rfl) (dA:(backTo pos (starEach es X.env)).any (·.1)=false:=by rfl):
  PE X (.Call (.Name x p) (e::es) [] pos) (uM sp kD E t):=by
 intro pins s σ H Q I h
 refine wpAny_Call_Name_kw (Jl I hg hm ?_ jq)
 refine PySem.W.callWith_K (h₀:=X.base) I.ok.mod.nO hk (ar (ha pos pins s σ H _ I h) fun us s1 ⟨vs,H1,I1,r,q⟩=> ⟨I1.bW,?_⟩) he dA
 exact Ov F hr hb hd hx I1 r q
structure Mk (K:PySem.W.Frag) (C f:Addr):Prop where
 makes:PySem.W.makesIn K C=true
 init:PySem.W.findIn K (.ref C) "__init__" =some (some (.ref f))
 fn:PySem.W.isFn K (.ref f)=true
 kp:PySem.W.keepIn K (.ref C)=true
end
def PK (X:Cx) (pF:List Keyword) (t:TA):Prop:=
 ∀(pos:Pos) (pins:List (Addr×Obj)) (s:Shared) (σ:St) (H:Hp) (Q:List V→Hp→Prop),Inv X pins σ H s→t σ H Q→wpAny (model X.prog X.w) X.A (evalAll ((backToKw pos (keywordEach pF X.env)).map (·.2))) (AP X pins σ Q) X.xe s
section
variable {X:Cx}{CX:iZ}{k:Nat}{f C:Addr}{fd:FuncData}{ps ks:List Str}{sp:Sp}{E:XK}{x m:Str}{p pos apos pG:Pos}{e o:Expr}{es:List Expr}{pF:List Keyword}{te ta:TE}{t tk:TA}{nm:Option Str}
theorem Pd:PK X [] jJ:=fun _ _ _ _ H Q I h=>wpAny_evalAll_nil ⟨[],H,I,.nil,h⟩
theorem Qc (ha:PE X e te) (hr:PK X pF t):PK X (⟨nm,e,pG⟩::pF) (i7 te t):=by
 intro pos pins s σ H Q I h
 show wpAny _ _ (evalAll ((do let v ←eval e X.env;standAt pos;pure v)::(backToKw pos (keywordEach pF X.env)).map (·.2))) _ _ s
 refine wpAny_evalAll_cons (wpAny_bind (ar (ha pins s σ H _ I h) fun u s1 ⟨x,H1,I1,r1,q1⟩=>wpAny_bind (wpAny_standAt (wpAny_pure ?_))))
 exact ar (hr pos pins s1 σ H1 _ I1 q1) fun us s2 ⟨xs,H2,I2,r2,q2⟩=> ⟨x::xs,H2,I2,.cons r1 r2,q2⟩
structure T8 (K:PySem.W.Frag) (fd:FuncData) (ps ks:List Str) (g:List Value→List Value→List Value) (gV:List V→List V→List V):Prop where
 to:∀(s:Shared) (us ws:List Value),K.In s.heap→(g us ws).length=ps.length→BindsTo s fd ⟨us,ks.zip ws⟩ (ps.zip (g us ws))
 rel:∀{vs:List V}{us:List Value}{zs:List V}{ws:List Value},Vals vs us→Vals zs ws→Vals (gV vs zs) (g us ws)
variable {g:List Value→List Value→List Value}{gV:List V→List V→List V}
end
structure br (N P:List Str) (sc:Scope):Prop where
 kind:sc.kind=.function
 co:sc.isCoroutine=false
 gen:sc.isGenerator=false
 nd:N.Nodup
 pre:N.take P.length=P
 par:∀x∈P,sc.names.lookup x=some .local∨sc.names.lookup x=some .cell
 HN:∀y∈sc.names,y.2≠.free
theorem WW {kindOf:Str→Option NameKind}{x:Str} :∀{binds:List (Str×Value)}{m:Str→Option Value},(∀v,(x,v)∉binds)→bindL kindOf binds m x=m x
 | [],_,_=>rfl
 |(n,v)::r,m,h=>by
  unfold bindL
  rw[WW fun w hw=>h w (List.mem_cons_of_mem _ hw)]
  split
  ·have:x≠n:=by rintro rfl;exact h v List.mem_cons_self
   simp[this]
  ·rfl
theorem WY {kindOf:Str→Option NameKind}{x:Str} :∀{binds:List (Str×Value)}{m:Str→Option Value},(∀v,(x,v)∉binds)→bindC kindOf binds m x=m x
 | [],_,_=>rfl
 |(n,v)::r,m,h=>by
  unfold bindC
  rw[WY fun w hw=>h w (List.mem_cons_of_mem _ hw)]
  split
  ·rfl
  ·have:x≠n:=by rintro rfl;exact h v List.mem_cons_self
   simp[this]
theorem WX {kindOf:Str→Option NameKind}{x:Str}{v:Value} :∀{P:List Str}{vs:List Value}{i:Nat}{m:Str→Option Value},P.Nodup→P[i]? =some x→vs[i]? =some v→kindOf x=some .local→
  bindL kindOf (P.zip vs) m x=some v
 | [],_,_,_,_,h,_,_=>by simp at h
 |_::_,[],_,_,_,_,h,_=>by simp at h
 |p::P,w::vs,0,m,nd,h1,h2,hk=>by
  simp at h1 h2;subst h1;subst h2
  show bindL kindOf ((p,w)::P.zip vs) m p=_
  unfold bindL
  rw[WW fun v hv=> (List.nodup_cons.mp nd).1 (List.of_mem_zip hv).1,if_pos hk]
  simp
 |p::P,w::vs,i+1,m,nd,h1,h2,hk=>by
  show bindL kindOf ((p,w)::P.zip vs) m x=_
  unfold bindL
  exact WX (i:=i) (List.nodup_cons.mp nd).2 (by simpa using h1) (by simpa using h2) hk
theorem WZ {kindOf:Str→Option NameKind}{x:Str}{v:Value} :∀{P:List Str}{vs:List Value}{i:Nat}{m:Str→Option Value},P.Nodup→P[i]? =some x→vs[i]? =some v→kindOf x≠some .local→
  bindC kindOf (P.zip vs) m x=some v
 | [],_,_,_,_,h,_,_=>by simp at h
 |_::_,[],_,_,_,_,h,_=>by simp at h
 |p::P,w::vs,0,m,nd,h1,h2,hk=>by
  simp at h1 h2;subst h1;subst h2
  show bindC kindOf ((p,w)::P.zip vs) m p=_
  unfold bindC
  rw[WY fun v hv=> (List.nodup_cons.mp nd).1 (List.of_mem_zip hv).1,if_neg hk]
  simp
 |p::P,w::vs,i+1,m,nd,h1,h2,hk=>by
  show bindC kindOf ((p,w)::P.zip vs) m x=_
  unfold bindC
  exact WZ (i:=i) (List.nodup_cons.mp nd).2 (by simpa using h1) (by simpa using h2) hk
def start (N:List Str) (vs:List V):St:=vs.map some++List.replicate (N.length - vs.length) none
def bD (CX:iZ) (P:Program) (w:World) (K:PySem.W.Frag) (mg:Str→Option Value) (base:Heap) (N:List Str) (qual:Str) (scope:Scope) (f:Addr) (cd:Value) (A:Around) (outer:List Env) (s:Shared) (H:Hp) (E:XK):Cx where
 prog:=P
 w:=w
 K:=K
 mg:=mg
 base:=base
 A:=A.deeper (envOfC qual scope s.heap.objs.size f cd)
 N:=N
 bT:=s
 iY:=H
 env:=envOfC qual scope s.heap.objs.size f cd
 outer:=outer
 stack:=envOfC qual scope s.heap.objs.size f cd::outer
 ex:=[]
 calm:=true
 fn:=fun _=>true
 pn:=[]
 xe:=fun e s'=>wpAny (model P w) (A.deeper (envOfC qual scope s.heap.objs.size f cd)) (leaving (envOfC qual scope s.heap.objs.size f cd) e) (fun _ dh=>CX outer H s E e dh) (fun e' dh=>CX outer H s E e' dh) s'
theorem UW {sc:Scope}{n:Nat}{x:Str}(h:sc.names.lookup x=some .cell):∃c,(cellsFrom n sc.names []).lookup x=some c:=by
 have q:=PySem.W.cellsFrom_some sc.names n [] (.inl h)
 exact Option.isSome_iff_exists.mp q
theorem QJ {CX:iZ}{P:Program}{w:World}{K:PySem.W.Frag}{mg:Str→Option Value}{base:Heap}{N ps:List Str}{qual:Str}{scope:Scope}{f:Addr}{cd:Value}{A:Around}{outer:List Env}{s s1:Shared}{H:Hp}{E:XK}{us:List Value}{vs:List V}
  (S:br N ps scope) (hd:A.handled=none) (e0:qQ P w K mg base A outer s H) (hl:vs.length=ps.length) (r:Vals vs us)
  (x:InCallC s s.heap.objs.size (bindL (envOfC qual scope s.heap.objs.size f cd).kindOf (ps.zip us) fun _=>none) (cellsFrom (s.heap.objs.size+1) scope.names []) (bindC (envOfC qual scope s.heap.objs.size f cd).kindOf (ps.zip us) fun _=>none) s1):
  Inv (bD CX P w K mg base N qual scope f cd A outer s H E) [] (start N vs) H s1:=by
 have dA:ps.length≤N.length:=by have:=congrArg List.length S.pre;rw[List.length_take]at this;omega
 obtain⟨h1,tk,rfl,hk⟩:=x.done
 have bH:∀b:Addr,b∉(bD CX P w K mg base N qual scope f cd A outer s H E).ex:=fun b z=>absurd (show b∈([]:List Addr) from z) (by simp)
 refine⟨⟨e0.mod,S.kind,rfl,rfl,Nat.le_refl _,fun y z c h1 h2=> ?_,fun y hy=> ?_,fun y c _ h=> ?_,fun _=>hd,Around.frames_deeper e0.frames,.inr ⟨rfl,rfl⟩,fun b z=>absurd z (bH b),e0.bs,e0.ip,fun b _ _=>bH b,fun b z=>absurd z (bH b),e0.dH,e0.gB⟩,
  rfl,e0.bare,Un.kept hk,⟨_,x.toInCall.ns,fun i y v h1 h2 h3=> ?_⟩,fun y c h=> ⟨_,x.cell y c h⟩,e0.ag.fresh (Nat.le_refl _),fun y c h=> ?_,fun p hp=>absurd (show p∈([]:List (Addr×Obj)) from hp) (by simp),e0.ag.kept hk,?_⟩
 ·exact name_of_addr x.apart (PySem.mem_of_lookup h1) (PySem.mem_of_lookup h2)
 ·have hy:scope.names.lookup y=some .cell∨scope.names.lookup y=some .free:=hy
  rcases hy with hy |hy
  ·exact UW hy
  ·exact absurd rfl (S.HN _ (PySem.mem_of_lookup hy))
 ·exact Nat.le_of_lt (x.above y c (PySem.mem_of_lookup h))
 ·have hi:i<vs.length:=by
   unfold start at h2
   by_cases hi:i<vs.length
   ·exact hi
   ·rw[List.getElem?_append_right (by simpa using hi)]at h2
    rw[List.getElem?_replicate]at h2
    split at h2<;>cases h2
  have ha:vs[i]? =some v:=by
   unfold start at h2
   rw[List.getElem?_append_left (by simpa using hi),List.getElem?_map]at h2
   cases e:vs[i]? with
   |none=>rw[e]at h2;cases h2
   |some a=>rw[e]at h2;cases h2;rfl
  obtain⟨u,hu,rv⟩:=r.get ha
  have hp:ps[i]? =some y:=by
   rw[←S.pre,List.getElem?_take_of_lt (by omega)];exact h1
  have Bs:ps.Nodup:=by rw[←S.pre];exact S.nd.sublist (List.take_sublist _ _)
  refine⟨u,rv,?_⟩
  rcases S.par y (List.mem_of_getElem? hp) with k |k
  ·exact .inl ⟨k,WX Bs hp hu k⟩
  ·obtain⟨c,e⟩:=UW (n:=s.heap.objs.size+1) k
   refine .inr ⟨.inl k,c,e,?_⟩
   have q:=x.cell y c e
   rw[WZ Bs hp hu (by show scope.names.lookup y≠_;rw[k];decide)]at q
   exact q
 ·exact e0.ag.fresh (Nat.le_of_lt (x.above y c (PySem.mem_of_lookup h)))
 ·unfold start
  show _=N.length
  rw[List.length_append,List.length_map,List.length_replicate]
  omega
theorem yM {CX:iZ}{P:Program}{w:World}{K:PySem.W.Frag}{mg:Str→Option Value}{base:Heap}{k:Nat}{f:Addr}{name qual:Str}{params:Arguments}{body:List Stmt}{scope:Scope}{dV kV doc pm ak ct oc:Value}{an od:Option Addr}
    {fg:Array (Option Value)}{N ps:List Str}{sp:Sp} (lk:K.lookup f=some ⟨oc,od,.func (PySem.W.fnOf name qual params body scope dV kV doc pm an ak ct),fg⟩) (cG:PySem.W.codeIn K ak qual=true) (S:br N ps scope)
    (len:∀vs H Q E,sp vs H Q E→vs.length=ps.length)
    (xJ:∀(A:Around) (outer:List Env) (s:Shared) (H:Hp) (vs:List V) (Q:VK) (E:XK),bR k (A.deeper (envOfC qual scope s.heap.objs.size f ak))→sp vs H Q E→
      ∃t,eY (bD CX P w K mg base N qual scope f ak A outer s H E) body t∧t {nx:=fun _ H'=>Q .af H',rt:=Q} (start N vs) H):
    aE P w K mg base CX (k+1) f (PySem.W.fnOf name qual params body scope dV kV doc pm an ak ct) ps sp:=by
  refine⟨len,fun A outer s H args us vs Q E hr e0 hb r dw=> ?_⟩
  have hl:=len _ _ _ _ dw
  have KX:K.In s.heap:=e0.mod.nO.keeps fun b o e=> (e0.bs b o e).1
  have lim:s.heap.NoLimit:=e0.mod.nolimit.keeps fun b o e=> (e0.bs b o e).1
  have Lr:∀y∈ps.zip us,scope.names.lookup y.1=some .local∨(scope.names.lookup y.1=some .cell∧((cellsFrom (s.heap.objs.size+1) scope.names []).lookup y.1).isSome=true):=fun⟨n,v⟩ hy=>by
    rcases S.par n (List.of_mem_zip hy).1 with q |q
    · exact .inl q
    · exact .inr ⟨q,PySem.W.cellsFrom_some _ _ _ (.inl q)⟩
  refine codeAny_call_function hr.depth (KX _ _ lk) rfl S.co S.gen rfl (PySem.W.codeRec_of KX cG) (hb _ _ _ _ ?_)
  refine wpAny_newFunctionEnv_cells S.kind Lr fun env he s1 x=> ?_
  subst he
  refine⟨lim.keeps x.toInCall.keep,codeAny_func ?_⟩
  obtain⟨t,ht,hq⟩:=xJ A outer s H vs Q E (hr.deeper _) dw
  have I:Inv (bD CX P w K mg base N qual scope f ak A outer s H E) [] (start N vs) H s1:=QJ S hr.hd e0 hl r x
  refine wpAny_mono (ht [] s1 (start N vs) H _ I hq) (fun fl s' hs=> ?_) fun e s' hs=>hs
  have fin:∀{ai:St}{H':Hp}{v:V}{u:Value},Inv (bD CX P w K mg base N qual scope f ak A outer s H E) [] ai H' s'→RelV v u→Q v H'→CE outer P w H s Q u s':=
    fun {ai H' v u} J rv q=> ⟨v,H',J.os,J.bare,J.base,J.ag,rv,q⟩
  cases fl with
  |ret u=>
   obtain⟨v,ai,H',J,rv,q⟩:=hs
   exact fin J rv q
  |next=>
   obtain⟨ai,H',J,q⟩:=hs
   exact fin (v:=V.af) (u:=Value.none) J rfl q
  |brk=>
   obtain⟨_,_,_,q⟩:=hs
   exact False.elim q
  |cont=>
   obtain⟨_,_,_,q⟩:=hs
   exact False.elim q
section
variable {X:Cx}{x:Str}{p pos:Pos}{e:Expr}{es:List Expr}{t:TA}{id T:String}{r:List V→Hp→VK→Prop}
def Ag (r:List V→Hp→VK→Prop) (t:TA):TE:=fun σ H Q=>t σ H fun vs H1=>r vs H1 Q
theorem Zm (hc:cU X (.builtin id) r) (hg:Gl X x) (hm:X.mg x=none) (hv:bootBuiltins x=some (.builtin id)) (ha:PA X (e::es) t) (hn:x≠ "__name__" :=by decide) (jq:(x==("__debug__" :Str))=false:=by decide)
  (he:starEach (e::es) X.env=(false,eval e X.env)::starEach es X.env:=by rfl) (dA:(backTo pos (starEach es X.env)).any (·.1)=false:=by rfl):PE X (.Call (.Name x p) (e::es) [] pos) (Ag r t):=by
 intro pins s σ H Q I h
 refine wpAny_Call_Name_kw (Jb I hg hm hv ?_ hn jq)
 exact PyProof.Rows.callWith_builtin1 (ar (ha pos pins s σ H _ I h) fun us s1 ⟨vs,H1,I1,r1,q1⟩=>hc pins s1 σ H1 vs us Q I1 r1 q1) he dA
theorem Ya (hc:cU X (.type T) r) (hg:Gl X x) (hm:X.mg x=none) (hv:bootBuiltins x=some (.type T)) (ha:PA X (e::es) t) (hn:x≠ "__name__" :=by decide) (jq:(x==("__debug__" :Str))=false:=by decide)
  (he:starEach (e::es) X.env=(false,eval e X.env)::starEach es X.env:=by rfl) (dA:(backTo pos (starEach es X.env)).any (·.1)=false:=by rfl):PE X (.Call (.Name x p) (e::es) [] pos) (Ag r t):=by
 intro pins s σ H Q I h
 refine wpAny_Call_Name_kw (Jb I hg hm hv ?_ hn jq)
 exact PyProof.Rows.callWith_type1 (ar (ha pos pins s σ H _ I h) fun us s1 ⟨vs,H1,I1,r1,q1⟩=>hc pins s1 σ H1 vs us Q I1 r1 q1) he dA
end
end L2
namespace HT
open PySem PyProof.Rows
section
open PySem.SeqAt
open PySem.AutoSeq1 (wpAny_loadPart')
open PySem.MeetsSeq PySem.MeetsSeq2 PySem.MeetsSeq3
end
section
variable {prog:Program}{w:World}{A:Around}{E:Value→Shared→Prop}{s:Shared}
theorem Ny {t b:Addr}{vs ws:List Value}{Q:Value→Shared→Prop}(ht:IsTup s.heap t vs.toArray) (hb:IsTup s.heap b ws.toArray) (hv:vs≠[])
  (h1:ws=[]→Q (.ref t) s) (h2:ws≠[]→Q (.ref s.heap.objs.size) {s with heap:=s.heap.push {cls:=.type "tuple",data:=.seq (vs++ws).toArray} })
  (hsz:vs.length+ws.length≤sizeLine):wpAny (model prog w) A (binaryOp .Add (.ref t) (.ref b)) Q E s:=by
 obtain⟨⟨cls,dd,data,sl⟩,ho,hc,n,hd⟩:=id ht
 obtain⟨⟨Nx,tZ,data2,kW⟩,l7,mi,n2,hd2⟩:=id hb
 simp only at hc hd mi hd2
 subst hc hd mi hd2
 have e:vs.toArray++ws.toArray=(vs++ws).toArray:=by simp
 by_cases hw:ws=[]
 ·exact concat_meets ⟨_,ho,rfl⟩ ⟨_,l7,rfl⟩ noFill_tuple_add seq_tuple_add PySem.F.slot_tuple_add PySem.F.entry_tuple_add (PySem.F.args_tuple_add_2 _ _)
   (tuple_addW1 t b vs.toArray ws.toArray n n2 dd tZ sl kW (by simpa using hv) (by simp[hw])) ⟨ho,l7,h1 hw⟩
 ·refine concat_meets ⟨_,ho,rfl⟩ ⟨_,l7,rfl⟩ noFill_tuple_add seq_tuple_add PySem.F.slot_tuple_add PySem.F.entry_tuple_add (PySem.F.args_tuple_add_2 _ _)
   (tuple_addW2 t b vs.toArray ws.toArray n n2 dd tZ sl kW (by simpa using hv) (by simpa using hw) (by rw[List.size_toArray,List.size_toArray];exact hsz)) ⟨ho,l7,?_⟩
  rw[e]
  exact h2 hw
def aI (n d:Nat):Option Int→Nat
 |none=>d
 |some v=>if v<0 then (v+(n:Int)).toNat else min v.toNat n
theorem vK (n d:Nat):aI n d none=d:=rfl
theorem o9 (n d k:Nat):aI n d (some (k:Int))=min k n:=by
 show(if (k:Int)<0 then ((k:Int)+(n:Int)).toNat else min (k:Int).toNat n)=min k n
 rw[if_neg (by omega),Int.toNat_natCast]
theorem Ow (n d:Nat) (hd:d≤n) (o:Option Int):aI n d o≤n:=by
 cases o with
 |none=>exact hd
 |some v=>
  show(if v<0 then (v+(n:Int)).toNat else min v.toNat n)≤n
  by_cases hv:v<0
  ·rw[if_pos hv];omega
  ·rw[if_neg hv];exact Nat.min_le_right _ _
theorem Eo (v:Int) (n d:Nat):(if v<0 then max (v+(n:Int)) 0 else min v (n:Int))=((aI n d (some v):Nat):Int):=by
 show(if v<0 then max (v+(n:Int)) 0 else min v (n:Int))=(((if v<0 then (v+(n:Int)).toNat else min v.toNat n):Nat):Int)
 by_cases hv:v<0
 ·simp only[if_pos hv];omega
 ·simp only[if_neg hv];omega
theorem Rt (lo hi:Option Int) (n:Nat):Builtin.Slice.sliceAdjust lo hi 1 (n:Int)=(((aI n 0 lo:Nat):Int),((aI n n hi:Nat):Int)):=by
 have h1:¬((1:Int)<0):=by omega
 unfold Builtin.Slice.sliceAdjust
 simp only[h1,if_false]
 refine Prod.ext ?_ ?_
 ·cases lo with
  |none=>rfl
  |some v=>exact Eo v n 0
 ·cases hi with
  |none=>rfl
  |some v=>exact Eo v n n
theorem RF (i j:Nat):Builtin.Slice.slicePlaces (i:Int) (j:Int) 1=j - i:=by
 unfold Builtin.Slice.slicePlaces
 have h1:(1:Int)>0:=by omega
 simp only[h1,if_true,Int.ediv_one]
 split<;>omega
theorem JU {v:Value}{o:Option Int}{Q:Option Int→Shared→Prop}(p:IsPart v o) (h:Q o s):wpAny (model prog w) A (Builtin.Slice.slicePartIndex v) Q E s:=by
 cases p with
 |none=>exact slicePart_none h
 |int i t=>exact slicePart_int h
theorem Js {sl:Addr}{vl vu:Value}{lo hi:Option Int}{n:Nat}{Q:Int×Int×Nat→Shared→Prop}(hs:s.heap.IsSliceOf sl vl vu .none) (pl:IsPart vl lo) (pu:IsPart vu hi)
  (h:Q (((aI n 0 lo:Nat):Int),1,aI n n hi - aI n 0 lo) s):wpAny (model prog w) A (Builtin.Slice.sliceApplied (.ref sl) (pure (n:Int))) Q E s:=by
 obtain⟨os,pP,CF,tK⟩:=id hs
 unfold Builtin.Slice.sliceApplied Builtin.Slice.sliceFields
 refine wpAny_bind (wpAny_bind (wpAny_field pP tK (x:=vl) rfl (wpAny_bind (wpAny_field pP tK (x:=vu) rfl (wpAny_bind (wpAny_field pP tK (x:=.none) rfl (wpAny_pure ?_)))))))
 refine wpAny_bind (slicePart_none ?_)
 show wpAny _ _ (if ((1:Int)==0)=true then _ else _) _ _ s
 rw[if_neg (by decide)]
 refine wpAny_bind (JU pl (wpAny_bind (JU pu (wpAny_bind (wpAny_pure ?_)))))
 show wpAny _ _ (match Builtin.Slice.sliceAdjust lo hi 1 (n:Int) with |(lo,hi)=>pure (lo,(1:Int),Builtin.Slice.slicePlaces lo hi 1)) _ _ s
 rw[Rt lo hi n]
 show wpAny _ _ (pure (((aI n 0 lo:Nat):Int),(1:Int),Builtin.Slice.slicePlaces ((aI n 0 lo:Nat):Int) ((aI n n hi:Nat):Int) 1)) _ _ s
 rw[RF]
 exact wpAny_pure h
theorem Q4 (xs:Array Value) (i k:Nat):((List.range k).filterMap fun(m:Nat)=>xs[((i:Int)+(m:Int)*1).toNat]?).toArray=((xs.toList.drop i).take k).toArray:=by
 have e:(fun(m:Nat)=>xs[((i:Int)+(m:Int)*1).toNat]?)=fun m=>xs[i+m]? :=by
  funext m
  have:((i:Int)+(m:Int)*1).toNat=i+m:=by omega
  rw[this]
 rw[e]
 have:=pick_run xs i k
 rw[List.filterMap_map]at this
 have e2:((fun x=>xs[x]?)∘fun x=>i+x)=fun m=>xs[i+m]? :=rfl
 rw[e2]at this
 rw[this]
theorem ME {t sl:Addr}{items:Array Value}{vl vu:Value}{lo hi:Option Int}{Q:Value→Shared→Prop}(ht:IsTup s.heap t items) (hs:s.heap.IsSliceOf sl vl vu .none) (pl:IsPart vl lo) (pu:IsPart vu hi)
  (hw:¬(aI items.size 0 lo=0∧aI items.size items.size hi=items.size))
  (h:Q (.ref s.heap.objs.size) {s with heap:=s.heap.push {cls:=.type "tuple",data:=.seq ((items.toList.drop (aI items.size 0 lo)).take (aI items.size items.size hi - aI items.size 0 lo)).toArray} })
  (hsz:items.size≤sizeLine):wpAny (model prog w) A (getItem (.ref t) (.ref sl)) Q E s:=by
 have tm:sizeOk (.seq ((items.toList.drop (aI items.size 0 lo)).take (aI items.size items.size hi - aI items.size 0 lo)).toArray):=by
  show((items.toList.drop (aI items.size 0 lo)).take (aI items.size items.size hi - aI items.size 0 lo)).toArray.size≤sizeLine
  rw[List.size_toArray,List.length_take,List.length_drop,Array.length_toList]
  omega
 have hj:aI items.size items.size hi≤items.size:=Ow _ _ (Nat.le_refl _) hi
 obtain⟨os,pP,CF,tK⟩:=id hs
 have mq:s.TypeIs (.ref sl) "slice" :=⟨os,pP,CF⟩
 unfold getItem
 try with_reducible refine wpAny_holding ?_
 first |refine wpAny_bind (wpAny_pure ?_) |skip
 refine wpAny_bind (wpAny_sequenceKey ht.typeIs (by decide) ?_)
 refine wpAny_bind (wpAny_callSpecial?_slot (name:=Str.ofString "__getitem__") ht.typeIs PyProof.Rows.slot_tuple_getitem
  (wpAny_call_entry PyProof.Rows.slot_tuple_getitem ht.typeIs entry_tuple_getitem ?_ (args_tuple_getitem _ _)))
 show wpAny _ _ (Builtin.Tuple.tupleItemsOf (.ref t) >>=_) _ _ s
 refine wpAny_bind (tupleItemsOf_ ht ?_)
 refine wpAny_bind (wpAny_typeOf mq ?_)
 rw[if_pos (by decide)]
 refine wpAny_bind (Js hs pl pu ?_)
 have iI:¬((((aI items.size 0 lo:Nat):Int)==0&&(1:Int)==1&&(aI items.size items.size hi - aI items.size 0 lo)==items.size)=true):=by
  intro q
  rw[Bool.and_eq_true,Bool.and_eq_true]at q
  have q1:((aI items.size 0 lo:Nat):Int)=0:=eq_of_beq q.1.1
  have q2:aI items.size items.size hi - aI items.size 0 lo=items.size:=eq_of_beq q.2
  exact hw ⟨by omega,by omega⟩
 show wpAny _ _ (if (((aI items.size 0 lo:Nat):Int)==0&&(1:Int)==1&&(aI items.size items.size hi - aI items.size 0 lo)==items.size)=true then _ else _) _ _ s
 rw[if_neg iI,Q4]
 first
  |exact wpAny_bind (m:=Builtin.Tuple.tupleExact _) (wpAny_newObj_type (wpAny_pure ⟨_,rfl,wpAny_pure h⟩) tm)
  |exact wpAny_bind (m:=Builtin.Tuple.tupleExact _) (wpAny_newObj_type (wpAny_bind (wpAny_pure (wpAny_pure ⟨_,rfl,wpAny_pure h⟩))) tm)
  |exact wpAny_bind (wpAny_bind (m:=Builtin.Tuple.tupleExact _) (wpAny_newObj_type (wpAny_pure (wpAny_pure ⟨_,rfl,wpAny_pure h⟩)) tm))
  |exact wpAny_bind (wpAny_bind (m:=Builtin.Tuple.tupleExact _) (wpAny_newObj_type (wpAny_pure ⟨_,rfl,wpAny_pure h⟩) tm))
end
end HT
namespace L2
open PySem PySem.Spec PyProof.Rows
abbrev TO:=St→Hp→(Option Int→Hp→Prop)→Prop
def PO (X:Cx) (e:Option Expr) (t:TO):Prop:=
 ∀(pins:List (Addr×Obj)) (s:Shared) (σ:St) (H:Hp) (Q:Option Int→Hp→Prop),Inv X pins σ H s→t σ H Q→
  wpAny (model X.prog X.w) X.A (evalPart e X.env) (fun u s'=> ∃o H',Inv X pins σ H' s'∧IsPart u o∧Q o H') X.xe s
def rg:TO:=fun _ H Q=>Q none H
def q0 (t:TE):TO:=fun σ H Q=>t σ H fun x H1=> ∃i,x=.int i∧Q (some i) H1
theorem YO {ns:List Int} :∀{us:List Value},Vals (ns.map V.int) us→IntsAre us ns:=by
 induction ns with
 |nil=>intro us r;rw[List.map_nil]at r;cases r;exact .nil
 |cons n ns ih=>
  intro us r
  rw[List.map_cons]at r
  cases r with
  |cons r1 r2=>
   obtain⟨t,e⟩:=r1
   subst e
   exact .cons n t (ih r2)
section
variable {X:Cx}{e:Expr}{te:TE}{lo hi:Option Expr}{tl th:TO}{pos p2:Pos}
theorem Y2:PO X none rg:=by
 intro pins s σ H Q I h
 rw[evalPart_none]
 exact wpAny_pure ⟨none,H,I,.none,h⟩
theorem Y1 (h:PE X e te):PO X (some e) (q0 te):=by
 intro pins s σ H Q I hw
 rw[evalPart_some]
 refine ar (h pins s σ H _ I hw) fun u s1 ⟨x,H1,I1,r1,q1⟩=> ?_
 obtain⟨i,rfl,q⟩:=q1
 obtain⟨t,rfl⟩:=r1
 exact⟨some i,H1,I1,.int i t,q⟩
def uk (X:Cx) (r:V→Option Int→Option Int→Hp→VK→Prop):Prop:=
 ∀(pins:List (Addr×Obj)) (s:Shared) (σ:St) (H:Hp) (x:V) (v vl vu:Value) (lo hi:Option Int) (sl:Addr) (Q:VK),Inv X pins σ H s→RelV x v→s.heap.IsSliceOf sl vl vu .none→IsPart vl lo→IsPart vu hi→r x lo hi H Q→
  ∃T id,typeLookup (.type T) "__getitem__" =pure (some (.builtin id))∧s.TypeIs v T∧wpAny (model X.prog X.w) X.A (getItem v (.ref sl)) (EP X pins σ Q) X.xe s
def qZ (r:V→Option Int→Option Int→Hp→VK→Prop) (te:TE) (tl th:TO):TE:=fun σ H Q=>te σ H fun x H1=>tl σ H1 fun l H2=>th σ H2 fun u H3=>r x l u H3 Q
theorem YE {r:V→Option Int→Option Int→Hp→VK→Prop}(hr:uk X r) (he:PE X e te) (hl:PO X lo tl) (hu:PO X hi th):PE X (.Subscript e (.Slice lo hi none p2) pos) (qZ r te tl th):=by
 intro pins s σ H Q I h
 refine Subscript_ (ar (he pins s σ H _ I h) fun v s1 ⟨x,H1,I1,r1,q1⟩=> ?_)
 refine wpAny_Slice (ar (hl pins s1 σ H1 _ I1 q1) fun vl s2 ⟨l,H2,I2,pl,q2⟩=>ar (hu pins s2 σ H2 _ I2 q2) fun vu s3 ⟨u,H3,I3,pu,q3⟩=> ?_)
 rw[evalPart_none]
 refine wpAny_pure ?_
 have I4:Inv X pins σ H3 {s3 with heap:=s3.heap.push {cls:=.type "slice",data:=.fields #[vl,vu,.none]} } :=I3.kept (t':=s3.toks) fun b ob q=>Heap.get?_push_of_some _ q
 obtain⟨T,id,hT,ht,hg⟩:=hr pins {s3 with heap:=s3.heap.push {cls:=.type "slice",data:=.fields #[vl,vu,.none]} } σ H3 x v vl vu l u s3.heap.objs.size Q I4 r1 (Heap.IsSliceOf.new ..) pl pu q3
 show wpAny (model X.prog X.w) X.A (subscriptTail e (.Slice lo hi none p2) v (.ref s3.heap.objs.size)) (EP X pins σ Q) X.xe {s3 with heap:=s3.heap.push {cls:=.type "slice",data:=.fields #[vl,vu,.none]} }
 exact tail_any (ops:=[.ref s3.heap.objs.size,v]) ht hT hg (by with_unfolding_all rfl)
def gD (xs:List V) (lo hi:Option Int):List V:=(xs.drop (HT.aI xs.length 0 lo)).take (HT.aI xs.length xs.length hi - HT.aI xs.length 0 lo)
theorem JE (xs:List V) (lo hi:Option Int):(gD xs lo hi).length≤xs.length:=by
 unfold gD
 rw[List.length_take,List.length_drop]
 omega
def jQ (K:PySem.W.Frag):V→Option Int→Option Int→Hp→VK→Prop:=fun x lo hi H Q=> ∃a xs,x=.ref a∧ao K H a xs∧
 ¬(HT.aI xs.length 0 lo=0∧HT.aI xs.length xs.length hi=xs.length)∧∀p,H p=none→Q (.ref p) (upd H p (.tup (gD xs lo hi)))
theorem JV:uk X (jQ X.K):=by
 intro pins s σ H x v vl vu lo hi sl Q I rx hs pl pu h
 obtain⟨a,xs,rfl,hx,hw,q⟩:=h
 cases rx
 obtain⟨its,r,ht,hz⟩:=I.tuple hx
 have hlen:its.toArray.size=xs.length:=by rw[List.size_toArray];exact r.length.symm
 refine⟨"tuple",_,PyProof.Rows.slot_tuple_getitem.lookup,ht.typeIs,?_⟩
 refine HT.ME ht hs pl pu (by rw[hlen];exact hw) ?_ (by rw[hlen];exact hz)
 rw[hlen]
 refine⟨.ref s.heap.objs.size,_,I.laid (t':=s.toks) (o:=.tup (gD xs lo hi)) (fun b ob q=>Heap.get?_push_of_some _ q) (Nat.le_refl _) ?_,rfl,q _ (I.ag.fresh (Nat.le_refl _))⟩
 exact⟨Nat.le_trans (JE xs lo hi) hz,_,(r.drop (HT.aI xs.length 0 lo)).take (HT.aI xs.length xs.length hi - HT.aI xs.length 0 lo),IsTup.new _ _,_,Heap.get?_push_size _ rfl,rfl⟩
def A3 (K:PySem.W.Frag):R2:=fun x y H Q=> ∃a b xs ys,x=.ref a∧y=.ref b∧ao K H a xs∧ao K H b ys∧xs≠[]∧xs.length+ys.length≤sizeLine∧
 (ys=[]→Q (.ref a) H)∧(ys≠[]→∀p,H p=none→Q (.ref p) (upd H p (.tup (xs++ys))))
theorem Vals.wC {xs:List V}{us:List Value}(r:Vals xs us):us=[]↔xs=[]:=by
 cases r with
 |nil=>simp
 |cons _ _=>simp
theorem P5:bg X (binaryOp .Add) (A3 X.K):=by
 intro pins s σ H x y v u Q I rx ry h
 obtain⟨a,b,xs,ys,rfl,rfl,ha,hb,hx,hz,q1,q2⟩:=h
 cases rx
 cases ry
 obtain⟨its,r1,p1,_⟩:=I.tuple ha
 obtain⟨lN,r2,p2,_⟩:=I.tuple hb
 refine HT.Ny p1 p2 (fun z=>hx (r1.wC.mp z)) (fun z=> ⟨.ref a,H,I,rfl,q1 (r2.wC.mp z)⟩) (fun z=> ?_) (by rw[←r1.length,←r2.length];exact hz)
 refine⟨.ref s.heap.objs.size,_,I.laid (t':=s.toks) (o:=.tup (xs++ys)) (fun b ob q=>Heap.get?_push_of_some _ q) (Nat.le_refl _) ?_,rfl,q2 (fun w=>z (r2.wC.mpr w)) _ (I.ag.fresh (Nat.le_refl _))⟩
 exact⟨by rw[List.length_append];exact hz,_,r1.append r2,IsTup.new _ _,_,Heap.get?_push_size _ rfl,rfl⟩
end
def jk (n:Nat) (i:Int):Option Nat:=if 0≤i then (if i<n then some i.toNat else none) else if -(n:Int)≤i then some (i+n).toNat else none
def eE {α:Type} (xs:List α) (i:Int):Option α:=(jk xs.length i).bind fun j=>xs[j]?
theorem Uf {n:Nat}{i:Int}{j:Nat}(h:jk n i=some j):seqIndex? i n=some j∧j<n∧ -(n:Int)≤i∧i<n:=by
 unfold jk at h
 by_cases h0:0≤i
 ·rw[if_pos h0]at h
  by_cases h1:i<n
  ·rw[if_pos h1]at h
   have e:i.toNat=j:=Option.some.inj h
   exact⟨by rw[seqIndex_of h0 h1,e],by omega,by omega,h1⟩
  ·rw[if_neg h1]at h;cases h
 ·rw[if_neg h0]at h
  by_cases h1: -(n:Int)≤i
  ·rw[if_pos h1]at h
   have e:(i+n).toNat=j:=Option.some.inj h
   exact⟨by rw[seqIndex_neg (by omega) h1,e],by omega,h1,by omega⟩
  ·rw[if_neg h1]at h;cases h
theorem Em {α:Type}{xs:List α}{i:Int}{v:α}(h:eE xs i=some v):∃j,seqIndex? i xs.length=some j∧xs[j]? =some v∧j<xs.length∧ -(xs.length:Int)≤i∧i<xs.length:=by
 unfold eE at h
 cases e:jk xs.length i with
 |none=>rw[e]at h;cases h
 |some j=>
  rw[e]at h
  obtain⟨h1,h2,h3,h4⟩:=Uf e
  exact⟨j,h1,h,h2,h3,h4⟩
theorem ZS {α:Type}{xs:List α}{j:Nat}{v:α}(h:xs[j]? =some v):eE xs (j:Int)=some v:=by
 have hj:j<xs.length:=(List.getElem?_eq_some_iff.mp h).1
 have e:jk xs.length (j:Int)=some j:=by
  unfold jk
  rw[if_pos (by omega),if_pos (by omega)];simp
 unfold eE;rw[e];exact h
def R4 (b:Expr):Prop:=∀o i,subscripted b false o i=operate [o,i] (getItem o i)
def qN (X:Cx) (r:R2):Prop:=
 ∀(value slice:Expr) (pins:List (Addr×Obj)) (s:Shared) (σ:St) (H:Hp) (x y:V) (v u:Value) (Q:VK),Inv X pins σ H s→RelV x v→RelV y u→r x y H Q→
  subscripted slice false v u=operate [v,u] (getItem v u)→wpAny (model X.prog X.w) X.A (subscriptTail value slice v u) (EP X pins σ Q) X.xe s
def EJ (X:Cx) (id:String) (r:V→List V→Hp→VK→Prop):Prop:=
 ∀(pins:List (Addr×Obj)) (s:Shared) (σ:St) (H:Hp) (x:V) (xs:List V) (v:Value) (us:List Value) (Q:VK),Inv X pins σ H s→RelV x v→Vals xs us→r x xs H Q→
  wpAny (model X.prog X.w) X.A (call (.builtin id) (v::us)) (EP X pins σ Q) X.xe s
section
variable {X:Cx}{a b:Expr}{ta tb:TE}{pos:Pos}
theorem ZL {r:R2}(hr:qN X r) (ha:PE X a ta) (hb:PE X b tb) (hs:R4 b):PE X (.Subscript a b pos) (jI r ta tb):=by
 intro pins s σ H Q I h
 exact Subscript_ (yE ha hb I h fun v u s2 x y H2 I2 rx ry q=>hr a b pins s2 σ H2 x y v u Q I2 rx ry q (hs _ _))
def wg (K:PySem.W.Frag):R2:=fun x y H Q=> ∃p xs i v,x=.ref p∧y=.int i∧ah K H p xs∧eE xs i=some v∧Q v H
def He (K:PySem.W.Frag):R2:=fun x y H Q=> ∃p xs i v,x=.ref p∧y=.int i∧ao K H p xs∧eE xs i=some v∧Q v H
theorem ZM:qN X (wg X.K):=by
 intro value slice pins s σ H x y v u Q I rx ry h hs
 obtain⟨p,xs,i,z,rfl,rfl,hq,he,q⟩:=h
 cases rx
 obtain⟨t,rfl⟩:=ry
 obtain⟨its,r,pl,hz⟩:=I.list hq
 obtain⟨j,h1,h2,h3,h4,h5⟩:=Em he
 obtain⟨w,ew,fX⟩:=r.get h2
 have hl:=r.length
 have hn:=sO
 have fin:EP X pins σ Q w s:=⟨z,H,I,fX,q⟩
 by_cases h0:0≤i
 ·have hj:i.toNat=j:=by
   rw[seqIndex_of h0 h5]at h1
   exact Option.some.inj h1
  exact item_listR pl.isList h0 (by omega) (by rw[hj];simpa using ew) fin hs
 ·have hj:(i+(its.toArray.size:Int)).toNat=j:=by
   rw[seqIndex_neg (by omega) h4]at h1
   rw[List.size_toArray,←hl]
   exact Option.some.inj h1
  exact subscriptTail_builtinR (x:=w) pl.isList.typeIs slot_list_getitem.lookup
   (wpAny_getItem_list_neg (Q:=fun r s'=>r=w∧EP X pins σ Q r s') pl.isList (by omega) (by rw[List.size_toArray]<;>omega) (by omega) (by rw[hj];simpa using ew) ⟨rfl,fin⟩) hs
theorem Yg:qN X (He X.K):=by
 intro value slice pins s σ H x y v u Q I rx ry h hs
 obtain⟨p,xs,i,z,rfl,rfl,hq,he,q⟩:=h
 cases rx
 obtain⟨t,rfl⟩:=ry
 obtain⟨its,r,pl,hz⟩:=I.tuple hq
 obtain⟨j,h1,h2,h3,h4,h5⟩:=Em he
 obtain⟨w,ew,fX⟩:=r.get h2
 have hl:=r.length
 have hn:=sO
 have fin:EP X pins σ Q w s:=⟨z,H,I,fX,q⟩
 exact subscriptTail_builtinR (x:=w) pl.typeIs slot_tuple_getitem.lookup
  (getItem_tuple (j:=j) (Q:=fun r s'=>r=w∧EP X pins σ Q r s') pl (by omega) (by omega) (by rw[List.size_toArray,←hl];exact h1) (by simpa using ew) ⟨rfl,fin⟩) hs
theorem Ry (its:List Value) (n j:Nat) (u:Value):Obj.mapSeq (·.setIfInBounds j u) {cls:=.type "list",data:=.seq its.toArray n} = {cls:=.type "list",data:=.seq (its.set j u).toArray n} :=by
 simp[Obj.mapSeq]
theorem Inv.lst {pins:List (Addr×Obj)}{σ:St}{H:Hp}{s:Shared}{p:Addr}{xs:List V}(I:Inv X pins σ H s) (h:H p=some (.lst xs)):
  ∃(its:List Value) (n:Nat),Vals xs its∧s.heap.get? p=some {cls:=.type "list",data:=.seq its.toArray n}∧xs.length≤sizeLine:=by
 obtain⟨z,its,n,r,e⟩:=I.ag p _ h
 exact⟨its,n,r,e,z⟩
theorem Inv.Iv {pins:List (Addr×Obj)}{σ:St}{H:Hp}{s:Shared}{p:Addr}{xs ys:List V}{its its':List Value}{n n':Nat}{f:Obj→Obj}(I:Inv X pins σ H s) (h:H p=some (.lst xs))
  (ho:s.heap.get? p=some {cls:=.type "list",data:=.seq its.toArray n}) (hf:f {cls:=.type "list",data:=.seq its.toArray n} = {cls:=.type "list",data:=.seq its'.toArray n'}) (r:Vals ys its') (hz:ys.length≤sizeLine) (t:Nat):
  Inv X pins σ (upd H p (.lst ys)) {s with heap:=s.heap.update p f,toks:=t} :=by
 have e:(s.heap.update p f).get? p=some {cls:=.type "list",data:=.seq its'.toArray n'} :=by
  rw[Heap.get?_update_self f ho (by rw[hf]<;>rfl),hf]
 refine I.write (x:=p) (e:=p) (by rw[h];trivial) (.inl rfl) (fun b u hb q=> (Heap.get?_update_other _ _ (Ne.symm hb)).trans q) ⟨_,e⟩ ?_
 exact⟨hz,its',n',r,e⟩
def GZ:V→V→V→Hp→(Hp→Prop)→Prop:=fun o i v H Q=> ∃p xs k j,o=.ref p∧i=.int k∧H p=some (.lst xs)∧jk xs.length k=some j∧Q (upd H p (.lst (xs.set j v)))
theorem Us:EH X GZ:=by
 intro pins s σ H o i v ov iv u Q I ro ri rv h
 obtain⟨p,xs,k,j,rfl,rfl,hp,hj,q⟩:=h
 cases ro
 obtain⟨t,rfl⟩:=ri
 obtain⟨its,n,r,ho,hz⟩:=I.lst hp
 obtain⟨h1,h2,h3,h4⟩:=Uf hj
 have hl:=r.length
 have hn:=sO
 have I':Inv X pins σ (upd H p (.lst (xs.set j v))) {s with heap:=s.heap.update p (Obj.mapSeq (·.setIfInBounds j u))} :=
  I.Iv hp ho (Ry its n j u) (r.set rv j) (by rw[List.length_set];exact hz) s.toks
 by_cases h0:0≤k
 ·have hk:k.toNat=j:=by
   rw[seqIndex_of h0 h4]at h1
   exact Option.some.inj h1
  exact PySem.W.ki_setAt ho h0 (by omega) (by rw[List.size_toArray,←hl];exact h4) (by rw[hk];exact⟨_,I',q⟩)
 ·have hk:(k+(its.toArray.size:Int)).toNat=j:=by
   rw[seqIndex_neg (by omega) h3]at h1
   rw[List.size_toArray,←hl]
   exact Option.some.inj h1
  exact PySem.W.ki_setBack ho (by omega) (by rw[List.size_toArray,←hl];exact h3) (by omega) (by rw[hk];exact⟨_,I',q⟩)
theorem W1 (lo hi:Option Int) (n:Nat):(sliceBounds lo hi none n).1=((HT.aI n 0 lo:Nat):Int)∧(sliceBounds lo hi none n).2.1=((HT.aI n n hi:Nat):Int)∧(sliceBounds lo hi none n).2.2=1:=by
 refine⟨?_,?_,rfl⟩
 ·cases lo with
  |none=>simp[sliceBounds,HT.aI]
  |some i=>
   simp only[sliceBounds,HT.aI,Option.getD_none,show(1:Int)>0 by decide,if_true]
   by_cases h:i<0
   ·simp only[h,if_true]<;>omega
   ·simp only[h,if_false]<;>omega
 ·cases hi with
  |none=>simp[sliceBounds,HT.aI]
  |some i=>
   simp only[sliceBounds,HT.aI,Option.getD_none,show(1:Int)>0 by decide,if_true]
   by_cases h:i<0
   ·simp only[h,if_true]<;>omega
   ·simp only[h,if_false]<;>omega
theorem Ws (its:List Value) (lo hi:Option Int):slicePick its.toArray lo hi none=((its.drop (HT.aI its.length 0 lo)).take (HT.aI its.length its.length hi - HT.aI its.length 0 lo)).toArray:=by
 obtain⟨h1,h2,h3⟩:=W1 lo hi its.toArray.size
 unfold slicePick
 rw[h1,h2,h3]
 simp only[sliceRange_one,pick_run,List.size_toArray]<;>rfl
def AZ (K:PySem.W.Frag):V→Option Int→Option Int→Hp→VK→Prop:=fun x lo hi H Q=> ∃a xs,x=.ref a∧ah K H a xs∧∀p,H p=none→Q (.ref p) (upd H p (.lst (gD xs lo hi)))
theorem Qf:uk X (AZ X.K):=by
 intro pins s σ H x v vl vu lo hi sl Q I rx hs pl pu h
 obtain⟨a,xs,rfl,hx,q⟩:=h
 cases rx
 obtain⟨its,r,ht,hz⟩:=I.list hx
 have hlen:=r.length
 refine⟨"list",_,slot_list_getitem.lookup,ht.isList.typeIs,?_⟩
 refine wpAny_getItem_list_slice ht.isList hs pl pu .none (by simp) ?_ (by rw[List.size_toArray]<;>omega)
 rw[Ws,←hlen]
 refine⟨.ref s.heap.objs.size,_,I.laid (t':=s.toks) (o:=.lst (gD xs lo hi)) (fun b ob q=>Heap.get?_push_of_some _ q) (Nat.le_refl _) ?_,rfl,q _ (I.ag.fresh (Nat.le_refl _))⟩
 exact⟨Nat.le_trans (JE xs lo hi) hz,_,0,(r.drop (HT.aI xs.length 0 lo)).take (HT.aI xs.length xs.length hi - HT.aI xs.length 0 lo),Heap.get?_push_size _ rfl⟩
def gC:V→Bool
 | .af=>true
 | .bl _=>true
 | .int _=>true
 | .str _=>true
 |_=>false
def dI:V→V→Bool
 | .af,.af=>true
 | .bl a,.bl b=>a==b
 | .bl a,.int b=> (if a then 1 else 0)==b
 | .int a,.bl b=>a==(if b then 1 else 0)
 | .int a,.int b=>a==b
 | .str a,.str b=>a==b
 |_,_=>false
theorem DV {A:Around}{s:Shared}{y x:V}{u v:Value}(ry:RelV y u) (rx:RelV x v) (fy:gC y=true) (fx:gC x=true):SeqAt.EqAt A s u v (dI y x):=by
 cases y with
 |af=>
  cases ry
  cases x with
  |af=>cases rx;exact SeqAt.EqAt.same _
  |bl b=>cases rx;exact SeqAt.EqAt.none_bool b
  |int b=>obtain⟨t,rfl⟩:=rx;exact SeqAt.EqAt.none_int b t
  |str b=>obtain⟨t,rfl⟩:=rx;exact SeqAt.EqAt.none_str b t
  |_=>exact absurd (show false=true from fx) Bool.false_ne_true
 |bl a=>
  cases ry
  cases x with
  |af=>cases rx;exact SeqAt.EqAt.bool_none a
  |bl b=>cases rx;exact SeqAt.EqAt.bool_bool a b
  |int b=>obtain⟨t,rfl⟩:=rx;exact SeqAt.EqAt.bool_int a b t
  |str b=>obtain⟨t,rfl⟩:=rx;exact SeqAt.EqAt.bool_str a b t
  |_=>exact absurd (show false=true from fx) Bool.false_ne_true
 |int a=>
  obtain⟨t',rfl⟩:=ry
  cases x with
  |af=>cases rx;exact SeqAt.EqAt.int_none a t'
  |bl b=>cases rx;exact SeqAt.EqAt.int_bool a t' b
  |int b=>obtain⟨t,rfl⟩:=rx;exact SeqAt.EqAt.int_int a t' b t
  |str b=>obtain⟨t,rfl⟩:=rx;exact SeqAt.EqAt.int_str a t' b t
  |_=>exact absurd (show false=true from fx) Bool.false_ne_true
 |str a=>
  obtain⟨t',rfl⟩:=ry
  cases x with
  |af=>cases rx;exact SeqAt.EqAt.str_none a t'
  |bl b=>cases rx;exact SeqAt.EqAt.str_bool a t' b
  |int b=>obtain⟨t,rfl⟩:=rx;exact SeqAt.EqAt.str_int a t' b t
  |str b=>obtain⟨t,rfl⟩:=rx;exact SeqAt.EqAt.str_str a t' b t
  |_=>exact absurd (show false=true from fx) Bool.false_ne_true
 |_=>exact absurd (show false=true from fy) Bool.false_ne_true
def js (x:V) (u:Value):Bool:=match u with
 | .none=>dI .af x
 | .bool b=>dI (.bl b) x
 | .int i _=>dI (.int i) x
 | .str z _=>dI (.str z) x
 |_=>false
theorem DW {x y:V}{u:Value}(r:RelV y u) (f:gC y=true):js x u=dI y x:=by
 cases y with
 |af=>cases r;rfl
 |bl b=>cases r;rfl
 |int i=>obtain⟨t,rfl⟩:=r;rfl
 |str z=>obtain⟨t,rfl⟩:=r;rfl
 |_=>exact absurd (show false=true from f) Bool.false_ne_true
theorem Uj {x:V} :∀{xs:List V}{us:List Value},Vals xs us→xs.all gC=true→us.any (js x)=xs.any fun y=>dI y x
 |_,_,.nil,_=>rfl
 |y::xs,u::us,.cons r t,f=>by
  rw[List.all_cons,Bool.and_eq_true]at f
  rw[List.any_cons,List.any_cons,DW r f.1,Uj t f.2]
theorem Wd {A:Around}{s:Shared}{x:V}{v:Value}(rx:RelV x v) (fx:gC x=true):∀{xs:List V}{us:List Value},Vals xs us→xs.all gC=true→∀u∈us,SeqAt.EqAt A s u v (js x u)
 |_,_,.nil,_=>fun u hu=>by cases hu
 |y::xs,u::us,.cons r t,f=>fun u' hu=>by
  rw[List.all_cons,Bool.and_eq_true]at f
  rcases List.mem_cons.mp hu with rfl |hu
  ·rw[DW r f.1];exact DV r rx f.1 fx
  ·exact Wd rx fx t f.2 u' hu
def fJ (x:V) (xs:List V):Bool:=xs.any fun y=>dI y x
def A0 (K:PySem.W.Frag) (neg:Bool):R2:=fun x y H Q=> ∃p xs,y=.ref p∧(ah K H p xs∨ao K H p xs)∧gC x=true∧xs.all gC=true∧Q (.bl (if neg then !fJ x xs else fJ x xs)) H
theorem W8:bg X (compareOp .NotIn) (A0 X.K true):=by
 intro pins s σ H x y v u Q I rx ry h
 obtain⟨p,xs,rfl,hq,fx,fs,q⟩:=h
 cases ry
 rcases hq with hq |hq
 ·obtain⟨its,r,pl,hz⟩:=I.list hq
  refine SeqAt.notIn_listAt (js x) pl.isList (fun w hw=>Wd rx fx r fs w (by simpa using hw)) ⟨.bl _,H,I,rfl,?_⟩
  rw[show its.toArray.any (js x)=its.any (js x) by simp,Uj r fs]
  exact q
 ·obtain⟨its,r,pl,hz⟩:=I.tuple hq
  refine SeqAt.notIn_tupleAt (js x) pl (fun w hw=>Wd rx fx r fs w (by simpa using hw)) ⟨.bl _,H,I,rfl,?_⟩
  rw[show its.toArray.any (js x)=its.any (js x) by simp,Uj r fs]
  exact q
theorem Zv:cU X (.builtin "len") (fun xs H Q=> ∃p ys,xs=[.ref p]∧(ah X.K H p ys∨ao X.K H p ys)∧Q (.int ys.length) H):=by
 intro pins s σ H xs us Q I r h
 obtain⟨p,ys,rfl,hq,q⟩:=h
 obtain⟨u,rfl,rx⟩:=vals1 r
 cases rx
 have hn:=sO
 rcases hq with hq |hq
 ·obtain⟨its,r',pl,hz⟩:=I.list hq
  have hlen:=r'.length
  exact Calls.call_len_list pl.isList (by simp only[List.size_toArray]<;>omega) ⟨.int ys.length,H,I.tok _,⟨s.toks+1,by rw[List.size_toArray,hlen]⟩,q⟩
 ·obtain⟨its,r',pl,hz⟩:=I.tuple hq
  have hlen:=r'.length
  exact len_tuple pl (by simp only[List.size_toArray]<;>omega) ⟨.int ys.length,H,I.tok _,⟨s.toks+1,by rw[List.size_toArray,hlen]⟩,q⟩
theorem Ui:cU X (.type "list") (fun xs H Q=> ∃p ys,xs=[.ref p]∧(ah X.K H p ys∨ao X.K H p ys)∧∀l,H l=none→Q (.ref l) (upd H l (.lst ys))):=by
 intro pins s σ H xs us Q I r h
 obtain⟨p,ys,rfl,hq,q⟩:=h
 obtain⟨u,rfl,rx⟩:=vals1 r
 cases rx
 have fin:∀(its:List Value),Vals ys its→ys.length≤sizeLine→∀(h':Heap) (c':Nat),(∀b o',s.heap.get? b=some o'→h'.get? b=some o')→
   h'.get? s.heap.objs.size=some {cls:=.type "list",dict:=none,data:=.seq its.toArray c',slots:= #[]}→EP X pins σ Q (.ref s.heap.objs.size) {s with heap:=h'} :=fun its r' hz h' c' kp e=>
  ⟨.ref s.heap.objs.size,_,I.laid (t':=s.toks) kp (Nat.le_refl _) (show aO X.prog X.w _ h' _ (.lst ys) from ⟨hz,its,c',r',e⟩),rfl,q _ (I.ag.fresh (Nat.le_refl _))⟩
 rcases hq with hq |hq
 ·obtain⟨its,r',pl,hz⟩:=I.list hq
  have hlen:=r'.length
  obtain⟨o,ho,hc,n,hd⟩:=pl.isList
  exact call_list_seq p (.inl rfl) ho hc hd (fun h' c' kp e=>fin its r' hz h' c' kp e) (by simp only[List.size_toArray]<;>omega)
 ·obtain⟨its,r',pl,hz⟩:=I.tuple hq
  have hlen:=r'.length
  obtain⟨o,ho,hc,n,hd⟩:=pl
  exact call_list_seq p (.inr rfl) ho hc hd (fun h' c' kp e=>fin its r' hz h' c' kp e) (by simp only[List.size_toArray]<;>omega)
theorem Ww:cU X (.type "tuple") (fun xs H Q=> ∃p ys,xs=[.ref p]∧((ah X.K H p ys∧∀l,H l=none→Q (.ref l) (upd H l (.tup ys)))∨(ao X.K H p ys∧Q (.ref p) H))):=by
 intro pins s σ H xs us Q I r h
 obtain⟨p,ys,rfl,h⟩:=h
 obtain⟨u,rfl,rx⟩:=vals1 r
 cases rx
 rcases h with ⟨hq,q⟩ |⟨hq,q⟩
 ·obtain⟨its,r',pl,hz⟩:=I.list hq
  have hlen:=r'.length
  refine call_tuple_list pl.isList (fun h' kp=> ?_) (by simp only[List.size_toArray]<;>omega)
  have I1:Inv X pins σ H {s with heap:=h'} :=I.kept (t':=s.toks) kp
  have I2:Inv X pins σ (upd H h'.objs.size (.tup ys)) {s with heap:=h'.push {cls:=.type "tuple",data:=.seq its.toArray} } :=
   I1.laid (t':=s.toks) (fun b o e=>Heap.get?_push_of_some _ e) (Nat.le_refl _) (show aO X.prog X.w _ _ _ (.tup ys) from ⟨hz,its,r',IsTup.new _ _,_,Heap.get?_push_size _ rfl,rfl⟩)
  exact⟨.ref h'.objs.size,_,I2,rfl,q _ (I1.ag.fresh (Nat.le_refl _))⟩
 ·obtain⟨its,r',pl,hz⟩:=I.tuple hq
  exact call_tuple_same pl ⟨.ref p,H,I,rfl,q⟩
def zW (K:PySem.W.Frag) (T:String) (x:V) (H:Hp):Prop:=match x with
 | .str _=>T= "str"
 | .int _=>T= "int"
 | .ref p=> (T= "list" ∧∃xs,ah K H p xs)∨(T= "tuple" ∧((∃o,K.lookup p=some o∧o.cls=.type "tuple" ∧o.dict=none)∨∃xs,H p=some (.tup xs)))∨
   (T= "dict" ∧((∃kvs,H p=some (.dK kvs))∨∃kvs,H p=some (.dT kvs)))∨(T= "set" ∧∃S n,H p=some (.set S n))
 |_=>False
theorem Oy {pins:List (Addr×Obj)}{σ:St}{H:Hp}{s:Shared}{T:String}{x:V}{v:Value}(I:Inv X pins σ H s) (r:RelV x v) (ty:zW X.K T x H):
  s.TypeIs v T∧∀a,v=.ref a→∃ob,s.heap.get? a=some ob∧ob.dict=none:=by
 cases x with
 |str z=>
  obtain⟨t,rfl⟩:=r
  cases (show T= "str" from ty)
  exact⟨typeIs_str s z t,fun _ e=>nomatch e⟩
 |int i=>
  obtain⟨t,rfl⟩:=r
  cases (show T= "int" from ty)
  exact⟨typeIs_int s i t,fun _ e=>nomatch e⟩
 |ref p=>
  cases r
  rcases ty with ⟨rfl,xs,hq⟩ |⟨rfl,⟨o,hk,hc,hd⟩ |⟨xs,hx⟩⟩ |⟨rfl,hk⟩ |⟨rfl,S,n,hk⟩
  ·obtain⟨its,_,pl,_⟩:=I.list hq
   refine⟨pl.isList.typeIs,fun a e=> ?_⟩
   cases e
   obtain⟨o,n,e,c,hd,_⟩:=pl
   exact⟨o,e,hd⟩
  ·refine⟨⟨o,I.bW p o hk,hc⟩,fun a e=> ?_⟩
   cases e
   exact⟨o,I.bW _ o hk,hd⟩
  ·obtain⟨_,_,_,⟨o,e,c,_⟩,o2,e2,hd⟩:=(show aO X.prog X.w H s.heap p (.tup xs) from I.ag p _ hx)
   refine⟨⟨o,e,c⟩,fun a e3=> ?_⟩
   cases e3
   exact⟨o2,e2,hd⟩
  ·have z:∃o,s.heap.get? p=some o∧o.ExactDict:=by
    rcases hk with ⟨kvs,hk⟩ |⟨kvs,hk⟩
    ·obtain⟨_,_,_,_,o,_,_,e,ex,_⟩:=I.ag p _ hk
     exact⟨o,e,ex⟩
    ·obtain⟨_,_,_,_,o,_,_,e,ex,_⟩:=I.ag p _ hk
     exact⟨o,e,ex⟩
   obtain⟨o,e,ex⟩:=z
   refine⟨⟨o,e,ex.1⟩,fun a e2=> ?_⟩
   cases e2
   exact⟨o,e,ex.2.1⟩
  ·obtain⟨o,_,_,_,e,ex,_⟩:=I.ag p _ hk
   refine⟨⟨o,e,ex.1⟩,fun a e2=> ?_⟩
   cases e2
   exact⟨o,e,ex.2.1⟩
 |_=>exact False.elim ty
def Ah (K:PySem.W.Frag) (T:String) (r:V→List V→Hp→VK→Prop) (to:TE) (t:TA):TE:=fun σ H Q=>to σ H fun x H1=>zW K T x H1∧t σ H1 fun xs H2=>r x xs H2 Q
variable {o e:Expr}{es:List Expr}{to:TE}{t:TA}{name:Str}{apos bw:Pos}{T id:String}{r:V→List V→Hp→VK→Prop}
theorem Yv (pa:PlainAttrs T) (slot:Slot T name id) (Kw:typeOf (.builtin id)=pure (.type "method_descriptor")) (hm:EJ X id r) (ho:PE X o to) (ha:PA X (e::es) t)
    (qk:attributeBase o name X.env (eval o X.env)=eval o X.env:=by rfl)
    (LG:((backTo bw (starEach (e::es) X.env)).all (fun x=> !x.1)&&(backToKw bw (keywordEach [] X.env)).all (fun x=>x.1.isSome)
      &&decide ((e::es).length+([]:List Keyword).length+(if ([]:List Keyword).isEmpty then 0 else 1)<30))=true:=by rfl)
    (pV:(apos.endLine==bw.line)=true:=by rfl) (hs:starEach (e::es) X.env=(false,eval e X.env)::starEach es X.env:=by rfl) (KY:(backTo bw (starEach es X.env)).any (·.1)=false:=by rfl):
    PE X (.Call (.Attribute o name apos) (e::es) [] bw) (Ah X.K T r to t):=by
  intro pins s σ H Q I h
  refine wpAny_Call_method_late qk LG pV rfl (ar (ho pins s σ H _ I h) fun v s1 ⟨x,H1,I1,r1,ty,q1⟩=> ?_)
  obtain⟨h1,h2⟩:=Oy I1 r1 ty
  refine⟨T,id,pa,slot,Kw,h1,h2,?_⟩
  have hA:=ha bw pins s1 σ H1 _ I1 q1
  rw[hs]at hA ⊢
  refine Calls.callWith_builtin (by show(false||(backTo bw (starEach es X.env)).any (·.1))=false;rw[KY]<;>rfl) (Calls.evalArgs_plain ?_)
  exact ar hA fun us s2 ⟨vs,H2,I2,r2,q2⟩=>hm pins s2 σ H2 x vs v us Q I2 r1 r2 q2
end
def EK (X:Cx) (id:String) (r:V→List V→Hp→VK→Prop):Prop:=
 ∀(pins:List (Addr×Obj)) (s:Shared) (σ:St) (H:Hp) (x:V) (xs:List V) (v:Value) (us:List Value) (Q:VK),Inv X pins σ H s→RelV x v→Vals xs us→r x xs H Q→
  wpAny (model X.prog X.w) X.A (call (.builtin id) (v::us)) (EP X pins σ Q) X.xe s
theorem Vals.one:∀{x:V}{us:List Value},Vals [x] us→∃u,us=[u]∧RelV x u
 |_,_,.cons r .nil=> ⟨_,rfl,r⟩
theorem Vals.eraseIdx:∀{xs:List V}{us:List Value}(i:Nat),Vals xs us→Vals (xs.eraseIdx i) (us.eraseIdx i)
 |_,_,_,.nil=> .nil
 |_,_,0,.cons _ t=>t
 |_,_,i+1,.cons r t=> .cons r (Vals.eraseIdx i t)
theorem Vals.rep {xs:List V}{us:List Value}(h:Vals xs us):∀k:Nat,Vals (List.replicate k xs).flatten (List.replicate k us).flatten
 |0=> .nil
 |k+1=>by
  rw[List.replicate_succ,List.replicate_succ,List.flatten_cons,List.flatten_cons]
  exact Vals.append h (Vals.rep h k)
theorem WO {α:Type} :∀(l:List α) (i:Nat),(l.eraseIdx i).length≤l.length
 | [],_=>Nat.le_refl _
 |_::_,0=>Nat.le_succ _
 |_::r,i+1=>Nat.succ_le_succ (WO r i)
theorem WT (its:List Value):∀(k:Nat) (acc:List Value),
  List.foldl (fun x1 x2=>x1++x2) acc.toArray (List.replicate k its.toArray)=(acc++(List.replicate k its).flatten).toArray
 |0,acc=>by simp
 |k+1,acc=>by
  have e:acc.toArray++its.toArray=(acc++its).toArray:=by simp
  have e2:(acc++its)++(List.replicate k its).flatten=acc++(List.replicate (k+1) its).flatten:=by
   rw[List.replicate_succ,List.flatten_cons,List.append_assoc]
  rw[←e2,←WT its k (acc++its),←e,List.replicate_succ,List.foldl_cons]
section
variable {X:Cx}{pins:List (Addr×Obj)}{σ:St}{H:Hp}{s:Shared}{l b:Addr}{xs ys zs:List V}
theorem Inv.BB {its its':List Value}{n:Nat}{f:Array Value→Array Value}{t':Nat}(I:Inv X pins σ H s) (hH:H l=some (.lst xs))
  (e:s.heap.get? l=some {cls:=.type "list",data:=.seq its.toArray n}) (hf:f its.toArray=its'.toArray) (hv:Vals ys its') (hz:ys.length≤sizeLine):
  Inv X pins σ (upd H l (.lst ys)) {s with heap:=s.heap.update l (Obj.mapSeq f),toks:=t'} :=by
 have q:=PySem.IsL.update e f
 rw[hf]at q
 refine I.write (x:=l) (e:=l) (by rw[hH];exact trivial) (.inl rfl) (fun b' u hb hu=> (Heap.get?_update_other s.heap (Obj.mapSeq f) (Ne.symm hb)).trans hu) ⟨_,q⟩ ?_
 exact⟨hz,its',_,hv,q⟩
theorem Inv.BD {its:List Value}{t':Nat}(I:Inv X pins σ H s) (hv:Vals ys its) (hz:ys.length≤sizeLine):
  Inv X pins σ (upd H s.heap.objs.size (.lst ys)) {s with heap:=s.heap.push {cls:=.type "list",data:=.seq its.toArray},toks:=t'} :=
 I.laid (fun _ _ q=>Heap.get?_push_of_some _ q) (Nat.le_refl _) ⟨hz,its,0,hv,Heap.get?_push_size _ rfl⟩
theorem Inv.fresh (I:Inv X pins σ H s):H s.heap.objs.size=none:=I.ag.fresh (Nat.le_refl _)
theorem Inv.pD (I:Inv X pins σ H s) (hH:H l=some (.lst xs)):xs.length≤sizeLine∧∃(its:List Value) (n:Nat),Vals xs its∧xs.length=its.length∧s.heap.get? l=some {cls:=.type "list",data:=.seq its.toArray n} :=by
 obtain⟨z,its,n,r,e⟩:=I.ag l _ hH
 exact⟨z,its,n,r,r.length,e⟩
theorem HH {n:Nat}(h:n≤sizeLine):Builtin.List.listTooLong n=false:=by
 unfold Builtin.List.listTooLong
 exact decide_eq_false (by omega)
end
section
variable {X:Cx}
def A4:V→List V→Hp→VK→Prop:=fun x vs H Q=> ∃l xs y,x=.ref l∧vs=[y]∧H l=some (.lst xs)∧xs.length<sizeLine∧Q .af (upd H l (.lst (xs++[y])))
theorem ZO:EK X "list.append" A4:=by
 intro pins s σ H x vs v us Q I rx rv h
 obtain⟨l,xs,y,rfl,rfl,hH,hz,q⟩:=h
 cases rx
 obtain⟨u,rfl,ru⟩:=rv.one
 obtain⟨z,its,n,r,hl,e⟩:=I.pD hH
 refine call_meets F.slot_list_append ⟨_,e,rfl⟩ F.entry_list_append (F.args_list_append_2 _ _) (PySem.list_append l its.toArray n u (by rw[List.size_toArray];omega)) ⟨e,?_⟩
 refine⟨.af,_,I.BB (its':=its++[u]) hH e (by simp) (r.append (.cons ru .nil)) ?_,rfl,q⟩
 rw[List.length_append,List.length_singleton]
 omega
def G9:V→List V→Hp→VK→Prop:=fun x vs H Q=> ∃l xs i k y,x=.ref l∧vs=[.int i]∧H l=some (.lst xs)∧ -(2^63)≤i∧i<2^63∧seqIndex? i xs.length=some k∧xs[k]? =some y∧Q y (upd H l (.lst (xs.eraseIdx k)))
theorem Rh:EK X "list.pop" G9:=by
 intro pins s σ H x vs v us Q I rx rv h
 obtain⟨l,xs,i,k,y,rfl,rfl,hH,h1,h2,hk,hy,q⟩:=h
 cases rx
 obtain⟨u,rfl,ru⟩:=rv.one
 obtain⟨t,rfl⟩:=ru
 obtain⟨z,its,n,r,hl,e⟩:=I.pD hH
 obtain⟨w,hw,fX⟩:=r.get hy
 refine call_meets F.slot_list_pop ⟨_,e,rfl⟩ F.entry_list_pop (F.args_list_pop_2 _ _)
  (MeetsSeq.list_pop_at l its.toArray n i t k w (fitsIndex_both h1 h2) (by rw[List.size_toArray,←hl];exact hk) (by rw[←Array.getElem?_toList];exact hw) (by rw[List.size_toArray];omega)) ⟨e,?_⟩
 refine⟨y,_,I.BB (its':=its.eraseIdx k) hH e ?_ (r.eraseIdx k) ?_,fX,q⟩
 ·show its.toArray.eraseIdxIfInBounds k=(its.eraseIdx k).toArray
  rw[List.eraseIdxIfInBounds_toArray]
 ·have:=WO xs k
  omega
def Hh:R2:=fun x y H Q=> ∃l b xs zs,x=.ref l∧y=.ref b∧H l=some (.lst xs)∧H b=some (.lst zs)∧xs.length+zs.length≤sizeLine∧∀p,H p=none→Q (.ref p) (upd H p (.lst (xs++zs)))
theorem YM:bg X (binaryOp .Add) Hh:=by
 intro pins s σ H x y v u Q I rx ry h
 obtain⟨l,b,xs,zs,rfl,rfl,hH,hB,hz,q⟩:=h
 cases rx
 cases ry
 obtain⟨z,its,n,r,hl,e⟩:=I.pD hH
 obtain⟨z2,lN,n2,r2,iK,e2⟩:=I.pD hB
 refine PySem.P.add_list e e2 ?_ (by rw[List.size_toArray,List.size_toArray];omega)
 have ea:its.toArray++lN.toArray=(its++lN).toArray:=by simp
 rw[ea]
 exact⟨.ref _,_,I.BD (t':=s.toks) (r.append r2) (by rw[List.length_append];omega),rfl,q _ I.fresh⟩
def G7:R2:=fun x y H Q=> ∃l k xs,x=.ref l∧y=.int k∧H l=some (.lst xs)∧ -(2^63)≤k∧k<2^63∧xs.length*k.toNat≤sizeLine∧
 ∀p,H p=none→Q (.ref p) (upd H p (.lst (List.replicate k.toNat xs).flatten))
theorem ON {α:Type}(xs:List α) (k:Nat):(List.replicate k xs).flatten.length=k*xs.length:=by
 induction k with
 |zero=>simp
 |succ k ih=>rw[List.replicate_succ,List.flatten_cons,List.length_append,ih,Nat.succ_mul,Nat.add_comm]
theorem yT:bg X (binaryOp .Mult) G7:=by
  intro pins s σ H x y v u Q I rx ry h
  obtain⟨l,k,xs,rfl,rfl,hH,h1,h2,hz,q⟩:=h
  cases rx
  obtain⟨t,rfl⟩:=ry
  obtain⟨z,its,n,r,hl,e⟩:=I.pD hH
  have hlen:its.toArray.size*k.toNat≤sizeLine:=by rw[List.size_toArray,←hl];exact hz
  have L5:¬its.toArray.size*k.toNat> (2^63 - 1)/8:=by
    have:(sizeLine:Nat)≤(2^63 - 1)/8:=by decide
    omega
  have LF:¬(!Builtin.List.listFitsIndex k)=true:=by
    rw[fitsIndex_both h1 h2]
    exact Bool.false_ne_true
  have Lj:¬Builtin.List.listTooLong (its.toArray.size*k.toNat)=true:=by
    rw[HH hlen]
    exact Bool.false_ne_true
  have La:List.foldl (fun x1 x2=>x1++x2) #[] (List.replicate (if its.toArray.isEmpty=true then 0 else k.toNat) its.toArray)=(List.replicate k.toNat its).flatten.toArray:=by
    have f0:∀m:Nat,List.foldl (fun x1 x2=>x1++x2) #[] (List.replicate m its.toArray)=(List.replicate m its).flatten.toArray:=fun m=>by
      have:=WT its m []
      rw[List.nil_append]at this
      exact this
    rw[f0]
    cases its with
    |nil=>simp
    |cons a r'=>rw[if_neg (by simp)]
  refine wpAny_binaryOp_repeat_ref (T:= "list") (U:= "int") (by decide) ⟨_,e,rfl⟩ (fun s'=>typeIs_int s' k t) noFill_list_mul F.fills_int_mul F.slot_int_rmul repeat_list F.slot_int_index.lookup
    (call_meets F.slot_int_rmul (typeIs_int s k t) F.entry_int_rmul (F.args_int_rmul_2 _ _) (int___rmul___int_list k t l its.toArray n)
      ⟨e,rfl,⟨_,e,rfl⟩,call_meets F.slot_list_mul ⟨_,e,rfl⟩ F.entry_list_mul (F.args_list_mul_2 _ _) (AutoListH.list___mul___list_int_3 l its.toArray n k t LF L5 Lj) ⟨e,?_⟩⟩)
  rw[La]
  exact⟨.ref _,_,I.BD (t':=s.toks) (r.rep k.toNat) (by rw[ON,Nat.mul_comm];exact hz),rfl,q _ I.fresh⟩
end
end L2
namespace EW
open PySem PySem.W PySem.Calls PyProof.Rows
theorem JI {P:Params}{h:Heap} :∀(ns:List Int) (vs:List Value),WellAll P h vs (ns.map WData.int)→IntsAre vs ns:=by
 intro ns
 induction ns with
 |nil=>
  intro vs w
  rw[List.map_nil]at w
  cases w
  exact .nil
 |cons n ns ih=>
  intro vs w
  rw[List.map_cons]at w
  cases w with
  |cons a b=>
   cases a
   exact .cons _ _ (ih _ b)
theorem RP {l:OpenLaw}{n:Nat}(hn:l.most=some n) {P:Params}{h:Heap}{args:List WData}{vals:List Value}
  (tD:l.row.toRowW.claim.pre args=true) (wW:WellAll P h vals args):
  ∃a vs ns,vals=[Value.ref a]∧args=[WData.list (ns.map WData.int)]∧h.get? a=some {cls:=.type "list",data:=.seq vs.toArray}∧IntsAre vs ns∧ns.length≤n:=by
 have KO:WShape.hasAll [] args [.list .int]=true:=(pre_splitW tD).1
 have hc:l.pre.holds [] {args:=args} =true:=(pre_splitW tD).2
 obtain⟨d,r,rfl,h1,h2⟩:=hasAllW_cons KO
 obtain rfl:=hasAllW_nil h2
 obtain⟨xs,rfl,h3⟩:=hasW_list h1
 obtain⟨ns,rfl⟩:=items_int h3
 have hlen:ns.length≤n:=by
  unfold OpenLaw.pre at hc
  have h4:(WTm.not (.lt (.lit (.int (n:Int))) (.len (.arg 0)))).holds [] {args:=[.list (ns.map .int)]} =true:=by
   have h4:=(holds_andW hc).1
   rw[hn]at h4
   exact h4
  have h5:=condW_of h4 (w_not (w_lt w_lit (w_len_list (w_arg rfl))))
  rw[List.length_map]at h5
  refine Nat.le_of_not_lt fun q=> ?_
  have q':(n:Int)< ((ns.length:Nat):Int):=by omega
  first
   |(rw[decide_eq_true q']at h5;exact absurd h5 (by decide))
   |(simp at h5;omega)
 cases wW with
 |cons w1 w2=>
  cases w2
  cases w1 with
  |list ho mn=>exact⟨_,_,ns,rfl,rfl,ho,JI ns _ mn,hlen⟩
theorem RO (l:OpenLaw) (args:List WData):l.row.toRowW.claim.post args (.bool true) args=true:=
 postW_of (r:=l.row.toRowW) (X:=(true==true))
  (show WShape.has [] (.bool true) .bool=true by first |rfl |decide |simp[WShape.has,WShape.arms,WShape.armsAll])
  (show(WTm.eq .res (.lit (.bool true))).value [] {args:=args,res:=some (.bool true),after:=args} =some (.bool (true==true)) from w_eq_bool (w_res rfl) w_lit) rfl
theorem NQ {l:OpenLaw}{n:Nat}{q:Program}{loose:List Str}{XP:(Str→Option Value)→Heap→Prop}{YP:World→Heap→Prop}{d:DefRec}
    (hn:l.most=some n) (xF:d.params.defaults=[])
    (call:∀(w:World) (bT aP:Shared) (mg mb:Str→Option Value) (fa:Addr) (o:Obj) (pm cd doc:Value) (a:Addr) (vs:List Value) (ns:List Int),
      Ground q loose [] XP w bT mg mb aP.heap→YP w aP.heap→
      aP.heap.get? fa=some o→o.data=.func (docDef d.name d.params d.body d.scope pm cd doc)→aP.heap.CodeRec cd d.name→mg d.name=some (.ref fa)→
      aP.heap.get? a=some {cls:=.type "list",data:=.seq vs.toArray}→IntsAre vs ns→ns.length≤n→aP.gens= #[]→
      codeAny (model l.prog w) callerA (.call (.ref fa) ⟨[.ref a],[]⟩) (fun r s'=>r=.ok (.ret (.bool true))∧OldK aP.heap s'.heap∧s'.os=aP.os∧AllBare s'.gens) aP):
    WalkO q loose XP YP l.row.toRowW d [] (fun f vs=>PySem.call f vs):=by
  intro w bT aP mg mb G Y fa o pm cd doc dV kV ho hd cG hD hmg hg args vals as tD TM TF wW pT
  obtain rfl:dV=.none:=Dflts.none hD xF
  obtain rfl:kV=.none:=Dflts.noKw hD
  obtain⟨a,vs,ns,rfl,rfl,xm,hints,hlen⟩:=RP hn tD wW
  refine enter_call (codeAny_mono (call w bT aP mg mb fa o pm cd doc a vs ns G Y ho (fd_plain hd) cG hmg xm hints hlen hg) fun r s' hq=> ?_)
  obtain⟨rfl,h2,h3,h4⟩:=hq
  exact⟨.inl ⟨.bool true,.bool true,[],rfl,fun _=>rfl,.bool true,RO l _,fun _=> ⟨List.Pairwise.nil,fun _ hm=> (nomatch hm)⟩⟩,h2,h3,h4⟩
end EW
namespace L2
open PySem PySem.Spec PyProof.Rows
theorem WC:∀{vs:List Value}{ns:List Int},IntsAre vs ns→Vals (ns.map V.int) vs
 |_,_,.nil=> .nil
 |_,_,.cons n t h=> .cons ⟨t,rfl⟩ (WC h)
def eV (s:Stmt):Arguments:=match s with
 | .FunctionDef _ a _ _ _ _ _ _ _ _=>a
 |_=> {posonlyargs:=[],args:=[],vararg:=none,kwonlyargs:=[],kw_defaults:=[],kwarg:=none,defaults:=[]}
def bM (s:Stmt):List Stmt:=match s with
 | .FunctionDef _ _ b _ _ _ _ _ _ _=>b
 |_=> []
def ay (s:Stmt):Scope:=match s with
 | .FunctionDef _ _ _ _ _ _ sc _ _ _=>sc
 |_=> {kind:=.function,names:=[],isGenerator:=false,isCoroutine:=false}
abbrev aH:iZ:=fun _ _ _ _ _ _=>False
abbrev E0:XK:=fun _ _ _=>False
theorem Hy {X:Cx} :Passes aH X E0:=fun _ _ _ _ _ _ _ h=>h.elim
structure aJ (K:PySem.W.Frag) (x qual:Str) (st:Stmt) (f:Addr) (fd:FuncData):Prop where
 ex:∃(oc:Value) (od:Option Addr) (kV doc pm:Value) (an:Option Addr) (ak ct:Value) (fg:Array (Option Value)),
  fd=PySem.W.fnOf x qual (eV st) (bM st) (ay st) .none kV doc pm an ak ct∧K.lookup f=some ⟨oc,od,.func fd,fg⟩∧PySem.W.codeIn K ak qual=true
 kp:PySem.W.keepIn K (.ref f)=true
section
variable {P:Program}{w:World}{K:PySem.W.Frag}{mg:Str→Option Value}{base:Heap}
theorem aJ.ok {x qual:Str}{st:Stmt}{f:Addr}{fd:FuncData}{N ps:List Str}{k:Nat}{sp:Sp}(F:aJ K x qual st f fd) (S:br N ps (ay st)) (len:∀vs H Q E,sp vs H Q E→vs.length=ps.length)
    (xJ:∀(ak:Value) (A:Around) (outer:List Env) (s:Shared) (H:Hp) (vs:List V) (Q:VK) (E:XK),bR k (A.deeper (envOfC qual (ay st) s.heap.objs.size f ak))→sp vs H Q E→
      ∃t,eY (bD aH P w K mg base N qual (ay st) f ak A outer s H E).cX (bM st) t∧t {nx:=fun _ H'=>Q .af H',rt:=Q} (start N vs) H):aE P w K mg base aH (k+1) f fd ps sp:=by
  obtain⟨oc,od,kV,doc,pm,an,ak,ct,fg,rfl,lk,cG⟩:=F.ex
  refine yM lk cG S len fun A outer s H vs Q E hr dw=> ?_
  obtain⟨t,h,q⟩:=xJ ak A outer s H vs Q E hr dw
  exact⟨t,h.cX,q⟩
theorem aJ.binds {x qual:Str}{st:Stmt}{f:Addr}{fd:FuncData}{ps:List Str}(F:aJ K x qual st f fd)
  (h:∀(kV doc pm:Value) (an:Option Addr) (ak ct:Value) (us:List Value),us.length=ps.length→bindArgs (PySem.W.fnOf x qual (eV st) (bM st) (ay st) .none kV doc pm an ak ct) ⟨us,[]⟩=pure (ps.zip us)):Binds K fd ps []:=by
 obtain⟨oc,od,kV,doc,pm,an,ak,ct,fg,rfl,lk,cG⟩:=F.ex
 exact .all (h kV doc pm an ak ct)
theorem Pl {x qual:Str}{st:Stmt}{f:Addr}{oc:Value}{od an:Option Addr}{fg:Array (Option Value)}{kV doc pm ak ct:Value}(l:K.lookup f=some ⟨oc,od,.func (PySem.W.fnOf x qual (eV st) (bM st) (ay st) .none kV doc pm an ak ct),fg⟩)
  (c:PySem.W.codeIn K ak qual=true) (k:PySem.W.keepIn K (.ref f)=true):aJ K x qual st f (PySem.W.fnOf x qual (eV st) (bM st) (ay st) .none kV doc pm an ak ct):=⟨⟨oc,od,kV,doc,pm,an,ak,ct,fg,rfl,l,c⟩,k⟩
end
theorem UN {A:Around}{k:Nat}(hr:bR k A):A.units+1<cLine:=Nat.lt_of_le_of_lt (Nat.add_le_add_left (by decide:1≤64) _) hr.units
theorem vt {n:Nat}(h:n≤1000):n<sizeLine:=Nat.lt_of_le_of_lt h (by decide)
section
variable {X:Cx}
theorem pv (i:Nat) {x:Str}{pos:Pos}(hN:X.N[i]? =some x:=by rfl) (hv:ow X.env.scope x:=by first |exact Or.inl rfl |exact Or.inr (Or.inl rfl) |exact Or.inr (Or.inr rfl)) (hd:(x==("__debug__" :Str))=false:=by decide)
  (cG:(x==("__classdict__" :Str))=false:=by decide):PE X (.Name x pos) (jH i):=ZF hN hv hd cG
end
theorem aR {A B:Prop}(h:B):if false=true then A else B:=by
 rw[if_neg Bool.false_ne_true]
 exact h
theorem bh {A B:Prop}(h:A):if true=true then A else B:=by
 rw[if_pos rfl]
 exact h
theorem sY {c A B:Prop} [Decidable c] (h1:c→A) (h2:¬c→B):if c then A else B:=by
 by_cases h:c
 ·rw[if_pos h]
  exact h1 h
 ·rw[if_neg h]
  exact h2 h
def ae (H H':Hp):Prop:=∀b o,H b=some o→H' b=some o
theorem ae.refl (H:Hp):ae H H:=fun _ _ h=>h
theorem ae.trans {H H1 H2:Hp}(a:ae H H1) (b:ae H1 H2):ae H H2:=fun c o h=>b c o (a c o h)
theorem ae.free {H H':Hp}(e:ae H H') {l:Addr}(h:H' l=Option.none):H l=Option.none:=by
 cases q:H l with
 |none=>rfl
 |some o=>
  rw[e l o q]at h
  cases h
section
variable {κ:Type} [DecidableEq κ]
def bK (kvs:List (κ×V)) (k:κ):Option V:=(kvs.find? fun kv=>decide (kv.1=k)).map (·.2)
def putK (kvs:List (κ×V)) (k:κ) (v:V):List (κ×V):=
 if (kvs.any fun kv=>decide (kv.1=k))=true then kvs.map (fun kv=>if kv.1=k then (kv.1,v) else kv) else kvs++[(k,v)]
theorem ZV {p:κ×V}{r:List (κ×V)}{k:κ}(e:p.1=k):bK (p::r) k=some p.2:=by simp[bK,List.find?_cons,e]
theorem ZY {p:κ×V}{r:List (κ×V)}{k:κ}(e:¬p.1=k):bK (p::r) k=bK r k:=by simp[bK,List.find?_cons,e]
theorem Yu (k:κ):∀kvs:List (κ×V),(kvs.any fun kv=>decide (kv.1=k))=(bK kvs k).isSome
 | []=>rfl
 |p::r=>by
  rw[List.any_cons]
  by_cases e:p.1=k
  ·simp only[ZV e,decide_eq_true e,Bool.true_or,Option.isSome_some]
  ·rw[ZY e,decide_eq_false e,Bool.false_or];exact Yu k r
theorem Up (k j:κ) (y:V):∀kvs:List (κ×V),bK (kvs.map fun kv=>if kv.1=k then (kv.1,y) else kv) j=(bK kvs j).map fun x=>if j=k then y else x
 | []=>rfl
 |p::r=>by
  have ih:=Up k j y r
  rw[List.map_cons]
  by_cases h:p.1=k
  ·rw[if_pos h]
   by_cases e:p.1=j
   ·rw[ZV (p:=(p.1,y)) e,ZV e,Option.map_some,if_pos (e.symm.trans h)]
   ·rw[ZY (p:=(p.1,y)) e,ZY e,ih]
  ·rw[if_neg h]
   by_cases e:p.1=j
   ·rw[ZV (p:=p) e,ZV e,Option.map_some,if_neg (fun z=>h (e.trans z))]
   ·rw[ZY (p:=p) e,ZY e,ih]
theorem WD (k j:κ) (y:V):∀kvs:List (κ×V),bK kvs k=none→bK (kvs++[(k,y)]) j=if j=k then some y else bK kvs j
 | [],_=>by
  by_cases e:k=j
  ·rw[if_pos e.symm];exact ZV (p:=(k,y)) e
  ·rw[if_neg (fun z=>e z.symm)];exact ZY (p:=(k,y)) e
 |p::r,hn=>by
  rw[List.cons_append]
  have hk:¬p.1=k:=fun z=>by rw[ZV z]at hn;cases hn
  rw[ZY hk]at hn
  have ih:=WD k j y r hn
  by_cases e:p.1=j
  ·rw[ZV e,ZV e,if_neg (fun z=>hk (e.trans z))]
  ·rw[ZY e,ZY e,ih]
theorem Rg (kvs:List (κ×V)) (k j:κ) (y:V):bK (putK kvs k y) j=if j=k then some y else bK kvs j:=by
 unfold putK
 by_cases a:(kvs.any fun kv=>decide (kv.1=k))=true
 ·rw[if_pos a,Up]
  rw[Yu]at a
  by_cases e:j=k
  ·obtain⟨x,hx⟩:=Option.isSome_iff_exists.mp a
   rw[if_pos e,e,hx,Option.map_some,if_pos rfl]
  ·rw[if_neg e]
   cases bK kvs j with
   |none=>rfl
   |some x=>rw[Option.map_some,if_neg e]
 ·rw[if_neg a]
  refine WD k j y kvs ?_
  rw[Yu]at a
  cases q:bK kvs k with
  |none=>rfl
  |some x=>rw[q]at a;exact(a rfl).elim
theorem YU (kvs:List (κ×V)) (k:κ) (v:V):(putK kvs k v).length≤kvs.length+1:=by
 unfold putK
 split
 ·rw[List.length_map];omega
 ·rw[List.length_append,List.length_cons,List.length_nil];omega
theorem Q6 {kvs:List (κ×V)}{k:κ}(v:V) (h:bK kvs k=none):putK kvs k v=kvs++[(k,v)]:=by
 unfold putK
 rw[Yu,h]
 exact if_neg (by decide)
theorem jw.wM {o:Option V}{u:Option Value}(r:jw o u):o.isSome=u.isSome:=by
 cases o with
 |none=>cases u with
  |none=>rfl
  |some _=>exact(show False from r).elim
 |some _=>cases u with
  |none=>exact(show False from r).elim
  |some _=>rfl
theorem jw.getD {o:Option V}{u:Option Value}{d:V}{d':Value}(r:jw o u) (rd:RelV d d'):RelV (o.getD d) (u.getD d'):=by
 cases o with
 |none=>cases u with
  |none=>exact rd
  |some _=>exact(show False from r).elim
 |some _=>cases u with
  |none=>exact(show False from r).elim
  |some _=>exact r
theorem KV.val {kvs:List (κ×V)}{vs:List (κ×Value)}(r:KV kvs vs) (k:κ):jw (bK kvs k) (valueAt vs k):=by
 unfold KV at r
 induction r with
 |nil=>exact True.intro
 | @cons p q ps qs h t ih=>
  obtain⟨h1,h2⟩:=h
  by_cases e:p.1=k
  ·have e':q.1=k:=h1.symm.trans e
   have b:valueAt (q::qs) k=some q.2:=by simp[valueAt,List.find?_cons,e']
   rw[ZV e,b];exact h2
  ·have e':¬q.1=k:=fun z=>e (h1.trans z)
   have b:valueAt (q::qs) k=valueAt qs k:=by simp[valueAt,List.find?_cons,e']
   rw[ZY e,b];exact ih
theorem KV.any {kvs:List (κ×V)}{vs:List (κ×Value)}(r:KV kvs vs) (k:κ):(kvs.any fun kv=>decide (kv.1=k))=vs.any fun kv=>decide (kv.1=k):=by
 unfold KV at r
 induction r with
 |nil=>rfl
 |cons h t ih=>rw[List.any_cons,List.any_cons,ih,h.1]
theorem KV.wc {kvs:List (κ×V)}{vs:List (κ×Value)}(r:KV kvs vs) (k:κ) {y:V}{u:Value}(ry:RelV y u):
  KV (kvs.map fun kv=>if kv.1=k then (kv.1,y) else kv) (vs.map fun kv=>if kv.1=k then (kv.1,u) else kv):=by
 unfold KV at r ⊢
 induction r with
 |nil=>exact .nil
 | @cons p q ps qs h t ih=>
  rw[List.map_cons,List.map_cons]
  refine .cons ?_ ih
  obtain⟨h1,h2⟩:=h
  by_cases e:p.1=k
  ·rw[if_pos e,if_pos (h1.symm.trans e)];exact⟨h1,ry⟩
  ·rw[if_neg e,if_neg (fun z=>e (h1.trans z))];exact⟨h1,h2⟩
theorem KV.put {kvs:List (κ×V)}{vs:List (κ×Value)}(r:KV kvs vs) (k:κ) {y:V}{u:Value}(ry:RelV y u):KV (putK kvs k y) (stored vs k u):=by
 unfold putK stored
 rw[r.any k]
 by_cases e:(vs.any fun kv=>decide (kv.1=k))=true
 ·rw[if_pos e,if_pos e];exact r.wc k ry
 ·rw[if_neg e,if_neg e];exact Paired.snoc r ⟨rfl,ry⟩
theorem KV.length {kvs:List (κ×V)}{vs:List (κ×Value)}(r:KV kvs vs):kvs.length=vs.length:=Paired.length r
end
theorem uh {P:Program}{w:World}{k:Key}{u:Value}(r:RelV (kV k) u):(dW P w).is k u=true:=by
 cases k with
 |inl i=>obtain⟨t,e⟩:=(show ∃t,u=Value.int i t from r);subst e;exact UE P w i t
 |inr x=>obtain⟨t,e⟩:=(show ∃t,u=Value.str x t from r);subst e;exact UD P w x t
theorem WP {P:Program}{w:World} :∀{ks:List Key}{us:List Value},Vals (ks.map kV) us→ItemsAre (dW P w) ks us
 | [],_,r=>by rw[List.map_nil]at r;cases r;exact .nil
 |k::ks,_,r=>by
  rw[List.map_cons]at r
  cases r with
  |cons h t=>exact .cons (uh h) (WP t)
abbrev KT (H:Hp):List (List Key×V)→List (List Key×Addr×Value)→Prop:=Paired fun p q=>p.1=q.1∧H q.2.1=some (.tup (p.1.map kV))∧RelV p.2 q.2.2
theorem KT.val {H:Hp}{kvs:List (List Key×V)}{xs:List (List Key×Addr×Value)}(r:KT H kvs xs) (k:List Key):jw (bK kvs k) ((atKey xs k).map (·.2)):=by
 induction r with
 |nil=>exact True.intro
 | @cons p q ps qs h t ih=>
  obtain⟨h1,_,h2⟩:=h
  by_cases e:p.1=k
  ·have e':q.1=k:=h1.symm.trans e
   have b:atKey (q::qs) k=some q.2:=by simp[atKey,List.find?_cons,e']
   rw[ZV e,b];exact h2
  ·have e':¬q.1=k:=fun z=>e (h1.trans z)
   have b:atKey (q::qs) k=atKey qs k:=by simp[atKey,List.find?_cons,e']
   rw[ZY e,b];exact ih
theorem KT.wc {H:Hp}{kvs:List (List Key×V)}{xs:List (List Key×Addr×Value)}(r:KT H kvs xs) (k:List Key) {y:V}{u:Value}(ry:RelV y u):
  KT H (kvs.map fun kv=>if kv.1=k then (kv.1,y) else kv) (xs.map (putAt k u)):=by
 induction r with
 |nil=>exact .nil
 | @cons p q ps qs h t ih=>
  rw[List.map_cons,List.map_cons]
  refine .cons ?_ ih
  obtain⟨h1,h2,h3⟩:=h
  unfold putAt
  by_cases e:p.1=k
  ·rw[if_pos e,if_pos (h1.symm.trans e)];exact⟨h1,h2,ry⟩
  ·rw[if_neg e,if_neg (fun z=>e (h1.trans z))];exact⟨h1,h2,h3⟩
theorem KT.put {H:Hp}{kvs:List (List Key×V)}{xs:List (List Key×Addr×Value)}(r:KT H kvs xs) (k:List Key) {b:Addr}{y:V}{u:Value}(hb:H b=some (.tup (k.map kV))) (ry:RelV y u):
  KT H (putK kvs k y) (storedH xs k b u):=by
 have e:(kvs.any fun kv=>decide (kv.1=k))=(atKey xs k).isSome:=by
  rw[Yu,(r.val k).wM,Option.isSome_map]
 unfold putK storedH
 rw[e]
 by_cases q:(atKey xs k).isSome=true
 ·rw[if_pos q,if_pos q];exact r.wc k ry
 ·rw[if_neg q,if_neg q];exact Paired.snoc r ⟨rfl,hb,ry⟩
theorem KT.keeps {H H':Hp}{kvs:List (List Key×V)}{xs:List (List Key×Addr×Value)}(r:KT H kvs xs) (ht:∀b ys,H b=some (.tup ys)→H' b=some (.tup ys)):KT H' kvs xs:=
 Paired.dj r fun _ _ z=> ⟨z.1,ht _ _ z.2.1,z.2.2⟩
section
variable {P:Program}{w:World}{H:Hp}{h:Heap}{a:Addr}
theorem DS {u:HO}(ok:bo P w H h) (e:Rd H a u):aO P w H h a u:=e.ok ok
theorem ue {kvs:List (Key×V)}(ok:bo P w H h) (e:Rd H a (.dK kvs)):kvs.length≤sizeLine∧(a==sysModules)=false∧∃vs,KV kvs vs∧h.DictOf (dW P w) a vs:=
 show aO P w H h a (.dK kvs) from DS ok e
theorem NW {kvs:List (Key×V)}(ok:bo P w H h) (e:H a=some (.dK kvs)):kvs.length≤sizeLine∧(a==sysModules)=false∧∃vs,KV kvs vs∧h.DictOf (dW P w) a vs:=ue ok (.inl e)
theorem Ue {ks:List Key}(ok:bo P w H h) (e:H a=some (.tup (ks.map kV))):(tupleKind (dW P w)).is h ks a:=by
 obtain⟨_,its,r,⟨o,h1,h2,n,h3⟩,_⟩:=(show aO P w H h a (.tup (ks.map kV)) from ok a _ e)
 exact⟨o,its.toArray,n,h1,h2,h3,by simpa using WP r⟩
theorem uf {kvs:List (List Key×V)}(ok:bo P w H h) (e:Rd H a (.dT kvs)):kvs.length≤sizeLine∧(a==sysModules)=false∧
  ∃xs,KT H kvs xs∧h.DictOfH (tupleKind (dW P w)) a xs:=by
 obtain⟨z,y,xs,r,o,es,ep,h1,h2,h3,h4,h5⟩:=(show aO P w H h a (.dT kvs) from DS ok e)
 refine⟨z,y,xs,r,o,es,ep,h1,h2,h3,h4,fun x hx=> ?_,h5⟩
 have all:∀{l:List (List Key×V)}{m:List (List Key×Addr×Value)},KT H l m→∀x∈m,(tupleKind (dW P w)).is h x.1 x.2.1:=by
  intro l m q
  induction q with
  |nil=>intro x hx;exact nomatch hx
  | @cons p q ps qs hq t ih=>
   intro x hx
   rcases List.mem_cons.mp hx with e |hx
   ·subst e
    exact Ue ok (by rw[←hq.1];exact hq.2.1)
   ·exact ih x hx
 exact all r x hx
theorem NX {kvs:List (List Key×V)}(ok:bo P w H h) (e:H a=some (.dT kvs)):kvs.length≤sizeLine∧(a==sysModules)=false∧
  ∃xs,KT H kvs xs∧h.DictOfH (tupleKind (dW P w)) a xs:=uf ok (.inl e)
end
def jC (H:Hp) (a:Addr) (y:V) (r:Option V):Prop:=
 (∃kvs k,Rd H a (.dK kvs)∧y=kV k∧r=bK kvs k)∨∃kvs k b,Rd H a (.dT kvs)∧y=.ref b∧H b=some (.tup (k.map kV))∧r=bK kvs k
def oF (H:Hp) (a:Addr) (y v:V) (H':Hp):Prop:=
 (∃kvs k,H a=some (.dK kvs)∧y=kV k∧kvs.length<sizeLine∧H'=upd H a (.dK (putK kvs k v)))∨
 ∃kvs k b,H a=some (.dT kvs)∧y=.ref b∧H b=some (.tup (k.map kV))∧kvs.length<sizeLine∧H'=upd H a (.dT (putK kvs k v))
theorem jC.t {H:Hp}{a b:Addr}{kvs:List (List Key×V)}{k:List Key}(e:H a=some (.dT kvs)) (eb:H b=some (.tup (k.map kV))):jC H a (.ref b) (bK kvs k):=.inr ⟨kvs,k,b,.inl e,rfl,eb,rfl⟩
theorem oF.t {H:Hp}{a b:Addr}{kvs:List (List Key×V)}{k:List Key}{v:V}(e:H a=some (.dT kvs)) (eb:H b=some (.tup (k.map kV))) (hl:kvs.length<sizeLine):
  oF H a (.ref b) v (upd H a (.dT (putK kvs k v))):=.inr ⟨kvs,k,b,e,rfl,eb,hl,rfl⟩
section
variable {X:Cx}{pins:List (Addr×Obj)}{σ:St}{H:Hp}{s:Shared}{a:Addr}{y v:V}{u r:Value}{o:Option V}{A:Around}{E:Value→Shared→Prop}
theorem Inv.big (I:Inv X pins σ H s):sysModules<s.heap.objs.size:=by
 have h:mainGlobals<s.heap.objs.size:=(I.mod.glob.keeps I.bk).lt
 exact Nat.lt_trans (by decide) h
theorem Nb {Q:Value→Shared→Prop}(hu:A.units+1<cLine) (I:Inv X pins σ H s) (g:jC H a y o) (ry:RelV y u) (h:∀s',Inv X pins σ H s'→Q (.bool o.isSome) s'):
  wpAny (model X.prog X.w) A (compareOp .In u (.ref a)) Q E s:=by
 rcases g with ⟨kvs,k,e,ey,l⟩ |⟨kvs,k,b,e,ey,eb,l⟩
 ·subst ey
  obtain⟨z,hd,vs,rel,dd⟩:=ue I.ag e
  refine wpAny_in_of (uh ry) hd dd.mapOf ?_
  rw[←(rel.val k).wM,←l]
  exact h _ (I.tok _)
 ·subst ey
  cases (show u=Value.ref b from ry)
  obtain⟨z,hd,xs,rel,dd⟩:=uf I.ag e
  refine wpAny_in_heap (tupleKind_room_in1 hu) (Ue I.ag eb) hd dd ?_
  have q:=(rel.val k).wM
  rw[Option.isSome_map]at q
  rw[←q,←l]
  exact h _ (I.tok _)
theorem Er {h':Heap}{t':Nat}{ob:HO}(I:Inv X pins σ H s) (mu:qM (H a)) (hs:Heap.SameBut a s.heap h') (he:∃q,h'.get? a=some q) (new:aO X.prog X.w (upd H a ob) h' a ob):
  Inv X pins σ (upd H a ob) {s with heap:=h',toks:=t'} :=
 I.write (x:=a) (e:=a) mu (.inl rfl) (fun b q hb z=> (hs.2 b hb).trans z) he new
theorem Pj {P:Program}{w:World}{H':Hp}{h':Heap}{kvs:List (Key×V)}{vs:List (Key×Value)}(z:kvs.length≤sizeLine) (hd:(a==sysModules)=false) (rel:KV kvs vs) (dd:h'.DictOf (dW P w) a vs):
  aO P w H' h' a (.dK kvs):=⟨z,hd,vs,rel,dd⟩
theorem QF {H':Hp}{Q:Unit→Shared→Prop}(hu:A.units+1<cLine) (I:Inv X pins σ H s) (g:oF H a y v H') (ry:RelV y u) (rv:RelV v r) (h:∀s',Inv X pins σ H' s'→Q () s'):
  wpAny (model X.prog X.w) A (setItem (.ref a) u r) Q E s:=by
 rcases g with ⟨kvs,k,e,ey,l,eH⟩ |⟨kvs,k,b,e,ey,eb,l,eH⟩
 ·subst ey eH
  obtain⟨z,hd,vs,rel,dd⟩:=NW I.ag e
  have hz:vs.length≤sizeLine:=by rw[←rel.length];exact z
  have hl:(putK kvs k v).length≤sizeLine:=by have:=YU kvs k v;omega
  refine wpAny_setItem_pairs (hsz:=hz) (uh ry) dd fun h' t9 hs=>h _ ?_
  have he:∃q,h'.get? a=some q:=let ⟨q,_,_,hq,_⟩:=t9;⟨q,hq⟩
  exact Er I (by rw[e];exact True.intro) hs he (Pj hl hd (rel.put k rv) t9)
 ·subst ey eH
  cases (show u=Value.ref b from ry)
  obtain⟨z,hd,xs,rel,dd⟩:=NX I.ag e
  have hz:xs.length≤sizeLine:=by rw[←Paired.length rel];exact z
  have hl:(putK kvs k v).length≤sizeLine:=by have:=YU kvs k v;omega
  refine wpAny_setItem_heap (hsz:=hz) (tupleKind_room_in1 hu) (Ue I.ag eb) dd fun h' t9 hs=>h _ ?_
  obtain⟨q,es,ep,hq,h2,h3,h4,_,h5⟩:=t9
  refine Er I (by rw[e];exact True.intro) hs ⟨q,hq⟩ ⟨hl,hd,_,(rel.put k eb rv).keeps fun c ys ec=> ?_,q,es,ep,hq,h2,h3,h4,h5⟩
  rw[Zh (Z4 ec e (fun z=>nomatch z))]
  exact ec
end
def Ge (ty td:TE):TE:=fun σ H Q=>ty σ H fun y H1=>td σ H1 fun x H2=> ∃a o,x=.ref a∧jC H2 a y o∧Q (.bl o.isSome) H2
def GR (td ty tv:TE):TS:=fun D σ H=>tv σ H fun v H1=>td σ H1 fun x H2=>ty σ H2 fun y H3=> ∃a H4,x=.ref a∧oF H3 a y v H4∧D.nx σ H4
section
variable {X:Cx}{o i e value:Expr}{pos pos' SW:Pos}{td ty tv:TE}
theorem O9 (hu:X.A.units+1<cLine) (hi:PE X i ty) (ho:PE X o td):PC X .In i o (Ge ty td):=by
 intro pins s σ H Q I h
 refine ar (hi pins s σ H _ I h) fun iv s1 ⟨y,H1,I1,ry,q1⟩=>ar (ho pins s1 σ H1 _ I1 q1) fun u s2 ⟨x,H2,I2,rx,a,ov,ex,g,q2⟩=> ?_
 subst ex
 obtain rfl:u=Value.ref a:=rx
 exact Nb hu I2 g ry fun s3 I3=> ⟨.bl ov.isSome,H2,I3,rfl,q2⟩
theorem EG (hu:X.A.units+1<cLine) (ho:PE X o td) (hi:PE X i ty) (hv:PE X value tv) (hs:swapsWith value (some (.Subscript o i pos')) pos.line X.env=pure false):
  PS X (.Assign [.Subscript o i pos'] value pos) (GR td ty tv):=by
 intro pins s σ H D I h
 refine wpAny_Assign_Subscript (ar (hv pins s σ H _ I h) fun r s1 ⟨v,H1,I1,rv,q1⟩=>ar (ho pins s1 σ H1 _ I1 q1) fun u s2 ⟨x,H2,I2,rx,q2⟩=>ar (hi pins s2 σ H2 _ I2 q2) fun iv s3 ⟨y,H3,I3,ry,a,H4,ex,g,q3⟩=> ?_) hs
 subst ex
 obtain rfl:u=Value.ref a:=rx
 exact QF hu I3 g ry rv fun s4 I4=> ⟨σ,H4,I4,q3⟩
end
theorem Py {P:Program}{w:World}{H:Hp}(h:Heap) (hb:sysModules<h.objs.size):aO P w H (h.push {cls:=.type "dict",data:=.dict #[]}) h.objs.size (.dK []):=
 ⟨Nat.zero_le _,beq_eq_false_iff_ne.mpr (Ne.symm (Nat.ne_of_lt hb)),[],.nil,Heap.DictOf.new h⟩
theorem Pz {P:Program}{w:World}{H:Hp}(h:Heap) (hb:sysModules<h.objs.size):aO P w H (h.push {cls:=.type "dict",data:=.dict #[]}) h.objs.size (.dT []):=
 ⟨Nat.zero_le _,beq_eq_false_iff_ne.mpr (Ne.symm (Nat.ne_of_lt hb)),[],.nil,_, #[],0,Heap.get?_push_size _ rfl,⟨rfl,rfl,rfl⟩,rfl,rfl,List.nodup_nil⟩
def Gd:TE:=fun _ H Q=> ∀p,H p=none→Q (.ref p) (upd H p (.dK []))
def Gb:TE:=fun _ H Q=> ∀p,H p=none→Q (.ref p) (upd H p (.dT []))
section
variable {X:Cx}{pos:Pos}
theorem Uy:PE X (.Dict [] [] pos) Gd:=fun pins s σ H Q I h=>
 wpAny_Dict_empty ⟨.ref s.heap.objs.size,_,I.laid (a:=s.heap.objs.size) (o:=.dK []) (t':=s.toks) (fun _ _ q=>Heap.get?_push_of_some _ q) (Nat.le_refl _) (Py s.heap I.big),rfl,h _ (I.ag.fresh (Nat.le_refl _))⟩
theorem Ux:PE X (.Dict [] [] pos) Gb:=fun pins s σ H Q I h=>
 wpAny_Dict_empty ⟨.ref s.heap.objs.size,_,I.laid (a:=s.heap.objs.size) (o:=.dT []) (t':=s.toks) (fun _ _ q=>Heap.get?_push_of_some _ q) (Nat.le_refl _) (Pz s.heap I.big),rfl,h _ (I.ag.fresh (Nat.le_refl _))⟩
end
structure M1 (X:Cx) (o:Expr) (m:Str) (apos:Pos) (e:Expr) (bw:Pos):Prop where
 base:attributeBase o m X.env (eval o X.env)=eval o X.env
 Di:((backTo bw (starEach [e] X.env)).all (fun x=> !x.1)&&(backToKw bw (keywordEach [] X.env)).all (fun x=>x.1.isSome)
  &&decide (([e]:List Expr).length+([]:List Keyword).length+(if ([]:List Keyword).isEmpty then 0 else 1)<30))=true
 line:(apos.endLine==bw.line)=true
 trees:backTo bw (starEach [e] X.env)=[(false,eval e X.env)]
structure M2 (X:Cx) (o:Expr) (m:Str) (apos:Pos) (e f:Expr) (bw:Pos):Prop where
 base:attributeBase o m X.env (eval o X.env)=eval o X.env
 Di:((backTo bw (starEach [e,f] X.env)).all (fun x=> !x.1)&&(backToKw bw (keywordEach [] X.env)).all (fun x=>x.1.isSome)
  &&decide (([e,f]:List Expr).length+([]:List Keyword).length+(if ([]:List Keyword).isEmpty then 0 else 1)<30))=true
 line:(apos.endLine==bw.line)=true
 trees:backTo bw (starEach [e,f] X.env)=[(false,eval e X.env),(false,eval f X.env)]
def EN (H:Hp) (a:Addr):Prop:=(∃kvs,Rd H a (.dK kvs))∨∃kvs,Rd H a (.dT kvs)
theorem Pm {X:Cx}{pins:List (Addr×Obj)}{σ:St}{H:Hp}{s:Shared}{a:Addr}(I:Inv X pins σ H s) (d:EN H a):
  s.TypeIs (.ref a) "dict" ∧(∀b,Value.ref a=.ref b→∃ob,s.heap.get? b=some ob∧ob.dict=none)∧(a==sysModules)=false:=by
 rcases d with ⟨kvs,e⟩ |⟨kvs,e⟩
 ·obtain⟨_,hd,vs,_,dd⟩:=ue I.ag e
  refine⟨dd.typeIs,fun b q=> ?_,hd⟩
  cases q
  obtain⟨ob,_,_,h1,h2,_⟩:=dd
  exact⟨ob,h1,h2.2.1⟩
 ·obtain⟨_,hd,xs,_,dd⟩:=uf I.ag e
  refine⟨dd.typeIs,fun b q=> ?_,hd⟩
  cases q
  obtain⟨ob,_,_,h1,h2,_⟩:=dd
  exact⟨ob,h1,h2.2.1⟩
section
variable {X:Cx}{pins:List (Addr×Obj)}{σ:St}{H:Hp}{s:Shared}{a:Addr}{y d:V}{u r:Value}{o:Option V}{A:Around}{E:Value→Shared→Prop}
theorem Pg {Q:Value→Shared→Prop}(hu:A.units+1<cLine) (I:Inv X pins σ H s) (g:jC H a y o) (ry:RelV y u) (rd:RelV d r) (h:∀w' s',Inv X pins σ H s'→RelV (o.getD d) w'→Q w' s'):
  wpAny (model X.prog X.w) A (call (.builtin "dict.get") [.ref a,u,r]) Q E s:=by
 rcases g with ⟨kvs,k,e,ey,l⟩ |⟨kvs,k,b,e,ey,eb,l⟩
 ·subst ey
  obtain⟨z,hd,vs,rel,dd⟩:=ue I.ag e
  refine call_meetsIn PySem.F.slot_dict_get dd.typeIs PySem.F.entry_dict_get (PySem.F.args_dict_get_3 _ _ _) (meets_dict_get_default (dW X.prog X.w) a (uh ry) hd r) ⟨_,dd.mapOf,h _ _ (I.tok _) ?_⟩
  rw[l]
  exact(rel.val k).getD rd
 ·subst ey
  cases (show u=Value.ref b from ry)
  obtain⟨z,hd,xs,rel,dd⟩:=uf I.ag e
  refine call_meetsIn PySem.F.slot_dict_get dd.typeIs PySem.F.entry_dict_get (PySem.F.args_dict_get_3 _ _ _) (meetsH_dict_get_default (tupleKind (dW X.prog X.w)) a b hd r) ⟨tupleKind_room_in1 hu,k,xs,Ue I.ag eb,dd,h _ _ (I.tok _) ?_⟩
  rw[l]
  exact(rel.val k).getD rd
end
def Gf (td ty tx:TE):TE:=fun σ H Q=>td σ H fun x H1=> ∃a,x=.ref a∧EN H1 a∧ty σ H1 fun y H2=>tx σ H2 fun z H3=> ∃o,jC H3 a y o∧Q (o.getD z) H3
section
variable {X:Cx}{o e f:Expr}{apos bw:Pos}{td ty tx:TE}
theorem Uz (hu:X.A.units+1<cLine) (ho:PE X o td) (he:PE X e ty) (hf:PE X f tx) (m:M2 X o "get" apos e f bw):PE X (.Call (.Attribute o "get" apos) [e,f] [] bw) (Gf td ty tx):=by
 intro pins s σ H Q I h
 refine wpAny_Call_method m.base m.Di m.line PySem.F.plainAttrs_dict PySem.F.slot_dict_get PySem.F.type_dict_get (ar (ho pins s σ H _ I h) fun u s1 ⟨x,H1,I1,rx,a,ex,d,q1⟩=> ?_)
 subst ex
 obtain rfl:u=Value.ref a:=rx
 obtain⟨t1,t2,_⟩:=Pm I1 d
 refine⟨t1,t2,?_⟩
 rw[m.trees]
 refine Calls.callWith_builtin rfl (Calls.evalArgs_plain (Calls.spliced_cons (ar (he pins s1 σ H1 _ I1 q1) fun iv s2 ⟨y,H2,I2,ry,q2⟩=>
  Calls.spliced_cons (ar (hf pins s2 σ H2 _ I2 q2) fun fv s3 ⟨z,H3,I3,rz,ov,g,q3⟩=>Calls.spliced_nil ?_))))
 exact Pg hu I3 g ry rz fun w' s4 I4 fX=> ⟨_,H3,I4,fX,q3⟩
end
section
variable {κ:Type} [DecidableEq κ]
theorem Rf {kvs:List (κ×V)}{k:κ}(h:bK kvs k=none):¬k∈kvs.map (·.1):=by
 intro m
 obtain⟨p,hp,e⟩:=List.mem_map.mp m
 have q:(kvs.any fun kv=>decide (kv.1=k))=true:=List.any_eq_true.mpr ⟨p,hp,decide_eq_true e⟩
 rw[Yu,h]at q
 exact absurd q (by simp)
theorem Qh {kvs:List (κ×V)}{k:κ}{v:V}(h:bK kvs k=some v):k∈kvs.map (·.1):=by
 have q:(kvs.any fun kv=>decide (kv.1=k))=true:=by
  rw[Yu,h]
  all_goals rfl
 obtain⟨p,hp,e⟩:=List.any_eq_true.mp q
 exact List.mem_map.mpr ⟨p,hp,of_decide_eq_true e⟩
theorem Ua:∀{l:List κ}{k:κ},l.Nodup→¬k∈l→(l++[k]).Nodup
 | [],k,_,_=>by simp
 |a::r,k,h,hk=>by
  obtain⟨h1,h2⟩:=List.nodup_cons.mp h
  show(a::(r++[k])).Nodup
  refine List.nodup_cons.mpr ⟨fun m=> ?_,Ua h2 fun m=>hk (List.mem_cons.mpr (Or.inr m))⟩
  rcases List.mem_append.mp m with q |q
  ·exact h1 q
  ·exact hk (List.mem_cons.mpr (Or.inl (List.mem_singleton.mp q).symm))
end
def bQ (scope:Scope) (env:Env):List (Str×Addr):=scope.names.foldl (fun cs y=>if y.2==.free then (y.1,(env.cells.lookup y.1).getD 0)::cs else cs) []
theorem Z5 {scope:Scope}{env:Env}(h:∀y∈scope.names,y.2=.free→∃c,env.cells.lookup y.1=some c):closureFor scope env=pure (bQ scope env):=by
 unfold closureFor bQ
 have key:∀(l:List (Str×NameKind)) (cs:List (Str×Addr)),(∀y∈l,y.2=.free→∃c,env.cells.lookup y.1=some c)→
   (forIn l cs (fun x r=>match x with |(name,kind)=>if (kind==NameKind.free)=true then do let c ←cellOf env name;pure (ForInStep.yield ((name,c)::r)) else pure (ForInStep.yield r)):Sem (List (Str×Addr)))
    =pure (l.foldl (fun cs y=>if y.2==.free then (y.1,(env.cells.lookup y.1).getD 0)::cs else cs) cs):=by
  intro l
  induction l with
  |nil=>intro cs _;rfl
  |cons y l ih=>
   intro cs hl
   obtain⟨n,k⟩:=y
   rw[List.forIn_cons,List.foldl_cons]
   by_cases hk:k=.free
   ·subst hk
    obtain⟨c,hc⟩:=hl (n,.free) List.mem_cons_self rfl
    have aV:env.cells.lookup n=some c:=hc
    have e1:cellOf env n=pure c:=by unfold cellOf;rw[aV]
    simp only[beq_self_eq_true,if_true,e1,aV,Option.getD_some,pure_bind]
    exact ih _ fun y hy=>hl y (List.mem_cons_of_mem _ hy)
   ·have hb:(k==NameKind.free)=false:=by simpa using hk
    simp only[hb,Bool.false_eq_true,if_false,pure_bind]
    exact ih _ fun y hy=>hl y (List.mem_cons_of_mem _ hy)
 simp only[key scope.names [] h,pure_bind]
 all_goals rfl
theorem Yh {scope:Scope}{env:Env}{x:Str}{c:Addr}(h:(bQ scope env).lookup x=some c):c=(env.cells.lookup x).getD 0∧(x,NameKind.free)∈scope.names:=by
 unfold bQ at h
 have key:∀(l:List (Str×NameKind)) (cs:List (Str×Addr)),(l.foldl (fun cs y=>if y.2==.free then (y.1,(env.cells.lookup y.1).getD 0)::cs else cs) cs).lookup x=some c→
   (c=(env.cells.lookup x).getD 0∧(x,NameKind.free)∈l)∨cs.lookup x=some c:=by
  intro l
  induction l with
  |nil=>intro cs h;exact .inr h
  |cons y l ih=>
   intro cs h
   obtain⟨n,k⟩:=y
   rw[List.foldl_cons]at h
   rcases ih _ h with ⟨h1,h2⟩ |h'
   ·exact .inl ⟨h1,List.mem_cons_of_mem _ h2⟩
   ·by_cases hk:k=.free
    ·subst hk
     simp only[beq_self_eq_true,if_true]at h'
     rw[List.lookup_cons]at h'
     cases hx:x==n with
     |true=>
      rw[hx]at h'
      have e:x=n:=by simpa using hx
      subst e
      have e':(env.cells.lookup x).getD 0=c:=Option.some.inj h'
      exact .inl ⟨e'.symm,List.mem_cons_self⟩
     |false=>rw[hx]at h';exact .inr h'
    ·have hb:(k==NameKind.free)=false:=by simpa using hk
     simp only[hb,Bool.false_eq_true,if_false]at h'
     exact .inr h'
 rcases key _ _ h with h |h
 ·exact h
 ·simp at h
theorem YX {scope:Scope}{env:Env}{x:Str}(h:(x,NameKind.free)∈scope.names):∃c,(bQ scope env).lookup x=some c:=by
 unfold bQ
 have key:∀(l:List (Str×NameKind)) (cs:List (Str×Addr)),((x,NameKind.free)∈l∨∃c,cs.lookup x=some c)→∃c,(l.foldl (fun cs y=>if y.2==.free then (y.1,(env.cells.lookup y.1).getD 0)::cs else cs) cs).lookup x=some c:=by
  intro l
  induction l with
  |nil=>
   intro cs h
   rcases h with h |h
   ·simp at h
   ·exact h
  |cons y l ih=>
   intro cs h
   obtain⟨n,k⟩:=y
   rw[List.foldl_cons]
   refine ih _ ?_
   by_cases hk:k=.free
   ·subst hk
    simp only[beq_self_eq_true,if_true]
    rw[List.lookup_cons]
    cases hx:x==n with
    |true=>exact .inr ⟨_,rfl⟩
    |false=>
     rcases h with h |h
     ·rcases List.mem_cons.mp h with e |h
      ·have e1:x=n:=congrArg Prod.fst e
       simp[e1]at hx
      ·exact .inl h
     ·exact .inr h
   ·have hb:(k==NameKind.free)=false:=by simpa using hk
    simp only[hb,Bool.false_eq_true,if_false]
    rcases h with h |h
    ·rcases List.mem_cons.mp h with e |h
     ·exact absurd (congrArg Prod.snd e).symm hk
     ·exact .inl h
    ·exact .inr h
 exact key _ _ (.inl h)
def rl (env:Env) (y:Str×NameKind):Str×NameKind:=if (y.2==NameKind.free&&env.scope.kind==.function&&env.kindOf y.1==some .cell) then (y.1,NameKind.cell) else y
theorem U9 (env:Env) (y:Str×NameKind):(rl env y).1=y.1:=by unfold rl;split<;>rfl
theorem Qe {env:Env}{y:Str×NameKind}(h:y.2=.free):(rl env y).2=.cell∨(rl env y).2=.free:=by
 unfold rl;split
 ·exact .inl rfl
 ·exact .inr h
theorem Ee {env:Env}{y:Str×NameKind}(h:y.2≠.free):rl env y=y:=by
 have hb:(y.2==NameKind.free)=false:=by simpa using h
 unfold rl;rw[hb];simp
theorem YB (scope:Scope) (env:Env):(relabel scope env).names=scope.names.map (rl env):=rfl
theorem W3 {scope:Scope}{env:Env}{x:Str}(hc:∀y∈scope.names,y.2≠.cell) (h:(relabel scope env).names.lookup x=some .cell∨(relabel scope env).names.lookup x=some .free):(x,NameKind.free)∈scope.names:=by
 rw[YB]at h
 have key:∀(l:List (Str×NameKind)),(∀y∈l,y.2≠.cell)→(∃k,(k=NameKind.cell∨k=.free)∧(l.map (rl env)).lookup x=some k)→(x,NameKind.free)∈l:=by
  intro l
  induction l with
  |nil=>rintro _ ⟨k,_,h⟩;simp at h
  |cons y l ih=>
   rintro hl ⟨k',aY,h⟩
   obtain⟨n,k⟩:=y
   have e1:(rl env (n,k))=(n,(rl env (n,k)).2):=Prod.ext (U9 env _) rfl
   rw[List.map_cons,e1,List.lookup_cons]at h
   cases hx:x==n with
   |true=>
    have e:x=n:=by simpa using hx
    subst e
    by_cases hk:k=.free
    ·subst hk;exact List.mem_cons_self
    ·rw[hx]at h
     rw[Ee (env:=env) (y:=(x,k)) hk]at h
     have e:k=k':=Option.some.inj h
     subst e
     rcases aY with z |z
     ·exact absurd z (hl _ List.mem_cons_self)
     ·exact absurd z hk
   |false=>
    rw[hx]at h
    exact List.mem_cons_of_mem _ (ih (fun y hy=>hl y (List.mem_cons_of_mem _ hy)) ⟨k',aY,h⟩)
 refine key _ hc ?_
 rcases h with h |h
 ·exact⟨_,.inl rfl,h⟩
 ·exact⟨_,.inr rfl,h⟩
theorem Yo {scope:Scope}{env:Env}{x:Str}(h:scope.names.lookup x=some .free):(relabel scope env).names.lookup x=some .cell∨(relabel scope env).names.lookup x=some .free:=by
 rw[YB]
 have key:∀(l:List (Str×NameKind)),l.lookup x=some .free→(l.map (rl env)).lookup x=some .cell∨(l.map (rl env)).lookup x=some .free:=by
  intro l
  induction l with
  |nil=>intro h;simp at h
  |cons y l ih=>
   intro h
   obtain⟨n,k⟩:=y
   have e1:(rl env (n,k))=(n,(rl env (n,k)).2):=Prod.ext (U9 env _) rfl
   rw[List.map_cons,e1,List.lookup_cons]
   rw[List.lookup_cons]at h
   cases hx:x==n with
   |true=>
    rw[hx]at h
    have e:k=.free:=Option.some.inj h
    rcases Qe (env:=env) (y:=(n,k)) e with z |z
    ·exact .inl (congrArg some z)
    ·exact .inr (congrArg some z)
   |false=>rw[hx]at h;exact ih h
 exact key _ h
def aT (X:Cx) (N':List Str) (scope:Scope) (C:Addr) (s2:Shared) (H2:Hp) (fp:List Addr):Cx:=
 {X with N:=N',bT:=s2,iY:=H2,env:=compEnvC scope (bQ scope X.env) C X.env,outer:=X.stack,stack:=X.stack,ex:=fp,fn:=fun _=>false,pn:=[],xe:=fun _ _=>False}
def qG (so si:Scope) (N N':List Str) (ts:Nat) (aC:List Nat):Bool:=
 decide (si.kind=.function)&&si.names.all (fun y=>y.2 !=.cell)&&si.names.all (fun y=>y.2 !=.local||si.names.lookup y.1==some .local)
 &&si.names.all (fun y=>y.2 !=.free||so.names.lookup y.1==some .cell||so.names.lookup y.1==some .free)
 &&decide N'.Nodup&&decide (N'.length=ts+aC.length)
 &&(List.range aC.length).all (fun k=> (N'[ts+k]? ==(aC[k]?.bind fun j=>N[j]?))&&(N'[ts+k]?.isSome)&&(N'[ts+k]?.all fun x=>so.names.lookup x !=some .local&&si.names.lookup x==some .free))
def eW (ts:Nat) (aC:List Nat) (σ:St):St:=List.replicate ts none++aC.map fun j=> (σ[j]?).join
structure zj (X:Cx) (N':List Str) (ts:Nat) (aC:List Nat) (scope:Scope):Prop where
 kind:scope.kind=.function
 ji:∀y∈scope.names,y.2≠.cell
 names:∀y∈scope.names,y.2=.local→scope.names.lookup y.1=some .local
 free:∀y∈scope.names,y.2=.free→X.env.kindOf y.1=some .cell∨X.env.kindOf y.1=some .free
 nd:N'.Nodup
 len:N'.length=ts+aC.length
 yy:∀k j,aC[k]? =some j→∃x,N'[ts+k]? =some x∧X.N[j]? =some x∧X.env.kindOf x≠some .local∧scope.names.lookup x=some .free
theorem Yz {x:Str}{k:NameKind} :∀{l:List (Str×NameKind)},l.lookup x=some k→(x,k)∈l
 | [],h=>by simp at h
 |(n,j)::l,h=>by
  rw[List.lookup_cons]at h
  cases hx:x==n with
  |true=>
   rw[hx]at h
   have e:x=n:=by simpa using hx
   have e':j=k:=Option.some.inj h
   subst e e'
   exact List.mem_cons_self
  |false=>rw[hx]at h;exact List.mem_cons_of_mem _ (Yz h)
theorem Wj {X:Cx}{N':List Str}{ts:Nat}{aC:List Nat}{scope:Scope}(h:qG X.env.scope scope X.N N' ts aC=true):zj X N' ts aC scope:=by
 unfold qG at h
 simp only[Bool.and_eq_true]at h
 obtain⟨⟨⟨⟨⟨⟨h1,h2⟩,h3⟩,h4⟩,h5⟩,h6⟩,h7⟩:=h
 refine⟨of_decide_eq_true h1,fun y hy z=> ?_,fun y hy z=> ?_,fun y hy z=> ?_,of_decide_eq_true h5,of_decide_eq_true h6,fun k j hk=> ?_⟩
 ·have q:=List.all_eq_true.mp h2 y hy
  rw[z]at q;exact absurd q (by decide)
 ·have q:=List.all_eq_true.mp h3 y hy
  rw[z]at q
  simpa using q
 ·have q:=List.all_eq_true.mp h4 y hy
  rw[z]at q
  simpa[Env.kindOf] using q
 ·have aA:k<aC.length:=(List.getElem?_eq_some_iff.mp hk).1
  have q:=List.all_eq_true.mp h7 k (List.mem_range.mpr aA)
  simp only[Bool.and_eq_true]at q
  obtain⟨⟨q1,q2⟩,q3⟩:=q
  obtain⟨x,hx⟩:=Option.isSome_iff_exists.mp q2
  rw[hx]at q1 q3
  rw[hk]at q1
  have e1:some x=X.N[j]? :=by simpa using q1
  have lj:(X.env.scope.names.lookup x !=some .local&&scope.names.lookup x==some .free)=true:=q3
  simp only[Bool.and_eq_true]at lj
  refine⟨x,hx,e1.symm,?_,by simpa using lj.2⟩
  have z:=lj.1
  intro e
  have e':X.env.scope.names.lookup x=some .local:=e
  rw[e']at z
  exact absurd z (by decide)
section
variable {X:Cx}{pins:List (Addr×Obj)}{σ:St}{H:Hp}{s:Shared}
theorem OI {N':List Str}{ts:Nat}{aC:List Nat}{scope:Scope}{fp:List Addr}{h':Heap}{t':Nat}{m:Str→Option Value}{C:Addr}(S:zj X N' ts aC scope) (I:Inv X pins σ H s) (hf:∀b∈fp,bI X pins H b)
  (ho:∀b∈fp,∃o,s.heap.get? b=some o) (hC:s.heap.objs.size≤C) (hn:h'.Ns C m) (k:∀b o,s.heap.get? b=some o→h'.get? b=some o):
  Inv (aT X N' scope C s H fp) [] (eW ts aC σ) H {s with heap:=h',toks:=t'} :=by
 have sub:∀x c,(bQ scope X.env).lookup x=some c→X.env.cells.lookup x=some c:=fun x c e=>by
  obtain⟨e1,e2⟩:=Yh e
  obtain⟨c',aV⟩:=I.ok.has x (S.free _ e2 rfl)
  rw[aV]at e1
  rw[aV,e1];rfl
 have di:∀b o,s.heap.get? b=some o→b≠C:=fun b o e=>Nat.ne_of_lt (Nat.lt_of_lt_of_le (Heap.lt_size e) hC)
 refine⟨⟨I.ok.mod,?_,I.ok.glob,I.ok.blt,hC,fun x y c e1 e2=>I.ok.inj x y c (sub x c e1) (sub y c e2),fun x hx=> ?_,fun x c z _=>absurd z Bool.false_ne_true,I.ok.hd,I.ok.frames,.inl rfl,fun b hb=> ?_,fun b o e=>I.bs b o e,Nat.le_trans I.ok.ip I.sz,fun b o e hb=> ?_,fun b hb=> ?_,I.stack,I.mZ⟩,
  rfl,I.bare,Un.kept k,⟨m,hn,fun i x v e1 e2 e3=> ?_⟩,fun x c e=> ?_,I.ag.fresh hC,fun x c e=>I.fm x c (sub x c e),fun p hp=>absurd (show p∈([]:List (Addr×Obj)) from hp) (by simp),I.ag.kept k,?_⟩
 ·show(relabel scope X.env).kind=.function
  exact S.kind
 ·exact YX (W3 S.ji hx)
 ·obtain⟨o,e⟩:=ho b hb
  refine⟨di b o e,fun x c ec=> ?_⟩
  exact(hf b hb).2.2.2.2.1 x c (sub x c ec)
 ·obtain⟨e1,e2⟩:=I.bs b o e
  obtain⟨f0,f1,f2,f3,f4,f5⟩:=hf b hb
  rcases f3 with z |z
  ·exact I.ok.jV b o e z
  ·exact absurd (Nat.lt_of_lt_of_le (Heap.lt_size (I.ok.bs b o e).1) z) (Nat.lt_irrefl _)
 ·intro z
  obtain⟨f0,f1,f2,f3,f4,f5⟩:=hf b hb
  rcases List.mem_cons.mp (I.oT b z) with q |q
  ·exact f1 q
  ·exact f2 q
 ·-- the HX values
  have hlen:¬i<ts:=fun aA=>by
   unfold eW at e2
   rw[List.getElem?_append_left (by simpa using aA),List.getElem?_replicate]at e2
   split at e2<;>cases e2
  have ik:(aC.map fun j=> (σ[j]?).join)[i - ts]? =some (some v):=by
   unfold eW at e2
   rw[List.getElem?_append_right (by simpa using hlen),List.length_replicate]at e2
   exact e2
  rw[List.getElem?_map]at ik
  cases hc:aC[i - ts]? with
  |none=>rw[hc]at ik;cases ik
  |some j=>
   rw[hc]at ik
   have jt:(σ[j]?).join=some v:=Option.some.inj ik
   have e4:σ[j]? =some (some v):=by
    cases q:σ[j]? with
    |none=>rw[q]at jt;cases jt
    |some o=>rw[q]at jt;exact congrArg some jt
   obtain⟨x',n1,n2,n3,n4⟩:=S.yy _ _ hc
   have ei:ts+(i - ts)=i:=by omega
   rw[ei]at n1
   have ex:x=x':=by
    have iS:N'[i]? =some x:=e1
    rw[n1]at iS;exact(Option.some.inj iS).symm
   subst ex
   obtain⟨mX,Lb,hl⟩:=I.loc
   have uG:ow X.env.scope x:=by
    rcases S.free _ (Yz n4) rfl with z |z
    ·exact .inr (.inl z)
    ·exact .inr (.inr z)
   obtain⟨u,ru,lk⟩:=hl j x v n2 e4 uG
   refine⟨u,ru,?_⟩
   rcases lk with ⟨z,_⟩ |⟨z,c,ec,iM⟩
   ·exact absurd z n3
   ·obtain⟨c',aV⟩:=YX (env:=X.env) (Yz n4)
    have:=sub x c' aV
    rw[ec]at this
    cases this
    refine .inr ⟨?_,c,aV,iM.keeps k⟩
    exact Yo n4
 ·obtain⟨v,z⟩:=I.cell x c (sub x c e)
  exact⟨v,z.keeps k⟩
 ·show(eW ts aC σ).length=N'.length
  unfold eW
  rw[List.length_append,List.length_replicate,List.length_map,S.len]
end
def AccAt (h:Heap) (D:Addr) (ys:List V):Prop:=ys.length≤sizeLine∧∃(its:List Value) (n:Nat),Vals ys its∧h.get? D=some {cls:=.type "list",data:=.seq its.toArray n}
theorem AccAt.keep {h h':Heap}{D:Addr}{ys:List V}(a:AccAt h D ys) (k:∀o,h.get? D=some o→h'.get? D=some o):AccAt h' D ys:=by
 obtain⟨z,its,n,r,e⟩:=a
 exact⟨z,its,n,r,k _ e⟩
abbrev TC:=List V→St→Hp→(List V→St→Hp→Prop)→Prop
def kH (Y:Cx) (D:Addr) (m:Sem PySem.Fin→Sem PySem.Fin) (t:TC):Prop:=
 ∀(pins:List (Addr×Obj)) (s:Shared) (σ:St) (H:Hp) (ys:List V) (Q:List V→St→Hp→Prop) (k:Sem PySem.Fin) (R:PySem.Fin→Shared→Prop),Inv Y pins σ H s→bI Y pins H D→AccAt s.heap D ys→t ys σ H Q→
  (∀s' bJ ai H',Inv Y pins ai H' s'→bI Y pins H' D→AccAt s'.heap D bJ→Q bJ ai H'→wpAny (model Y.prog Y.w) Y.A k R (fun _ _=>False) s')→wpAny (model Y.prog Y.w) Y.A (m k) R (fun _ _=>False) s
def z7 (ifs:List Expr) (env:Env):Sem Bool:=forIn ifs true fun c r=>if r=true then do let ok ←isTrue c env (eval c env);pure (ForInStep.yield ok) else pure (ForInStep.yield r)
def jz (Y:Cx) (ifs:List Expr) (t:TT):Prop:=
 ∀(pins:List (Addr×Obj)) (s:Shared) (σ:St) (H:Hp) (Q:Bool→Hp→Prop),Inv Y pins σ H s→t σ H Q→wpAny (model Y.prog Y.w) Y.A (z7 ifs Y.env) (TP Y pins σ Q) Y.xe s
def FQ:TT:=fun _ H Q=>Q true H
section
variable {Y:Cx}{D:Addr}
theorem YH:jz Y [] FQ:=fun pins s σ H Q I h=>wpAny_tests_nil ⟨H,I,h⟩
theorem Yp {c:Expr}{t:TT}(hc:PT Y c t):jz Y [c] t:=fun pins s σ H Q I h=>wpAny_tests_one (hc pins s σ H Q I h)
def F9 (te:TE):TC:=fun ys σ H Q=>te σ H fun v H1=>ys.length<sizeLine∧Q (ys++[v]) σ H1
theorem AccAt.ji {h:Heap}{ys:List V}(a:AccAt h D ys):∀b∈[D],∃o,h.get? b=some o∧∀v,o.data≠.cell v:=fun b hb=>by
 have e:b=D:=by simpa using hb
 subst e
 obtain⟨z,its,n,r,e⟩:=a
 exact⟨_,e,fun v z=>by
  have z':Data.seq its.toArray n=Data.cell v:=z
  cases z'⟩
theorem AccAt.through {h:Heap}{pins:List (Addr×Obj)}{ai:St}{H':Hp}{s':Shared}{ys:List V}(a:AccAt h D ys) (I:Inv Y (pins++jg [D] h) ai H' s'):AccAt s'.heap D ys∧H' D=none:=by
 obtain⟨z,its,n,r,e⟩:=a
 have q:=I.pin (D,_) (List.mem_append_right _ (List.mem_append_right _ (Z1 (List.mem_singleton.mpr rfl) e)))
 exact⟨⟨z,its,n,r,q.1⟩,q.2.1⟩
theorem ZK {elt:Expr}{te:TE}(hx:Y.xe=fun _ _=>False) (he:PE Y elt te):
    kH Y D (fun k=> (do let _ ←call (.builtin "list.append") [.ref D,←eval elt Y.env]) >>=fun _=>k) (F9 te):=by
  intro pins s σ H ys Q k R I f a h hk
  refine wpAny_bind (wpAny_mono (Q:=fun _ s'=> ∃bJ ai H',Inv Y pins ai H' s'∧bI Y pins H' D∧AccAt s'.heap D bJ∧Q bJ ai H') ?_ (fun _ s' ⟨bJ,ai,H',q1,q2,q3,q4⟩=>hk s' bJ ai H' q1 q2 q3 q4) fun _ _ z=>z)
  have I':=I.pinned (fp:=[D]) (fun b hb=>by have e:b=D:=by simpa using hb
                                            subst e;exact f) a.ji
  refine wpAny_bind (wpAny_mono (he _ s σ H _ I' h) (fun u s1 ⟨v,H1,I1,ru,hz,q⟩=> ?_) fun e s1 z=>by rw[hx]at z;exact z)
  obtain⟨a1,n1⟩:=a.through I1
  have f1:bI Y pins H1 D:=⟨n1,f.2⟩
  obtain⟨z,its,n,r,e⟩:=a1
  have hl:=r.length
  refine wpAny_bind (call_meets F.slot_list_append ⟨_,e,rfl⟩ F.entry_list_append (F.args_list_append_2 _ _) (PySem.list_append D its.toArray n u (by rw[List.size_toArray];omega)) ⟨e,wpAny_pure ?_⟩)
  have q2:=PySem.IsL.update e (·.push u)
  obtain⟨f0,g1,g2,g3,g4,g5⟩:=f1
  have I2:Inv Y pins σ H1 {s1 with heap:=s1.heap.update D (Obj.mapSeq (·.push u))} :=I1.i6.turned (t':=s1.toks) (it:=D) (fun b o hb eb=> (Heap.get?_update_other s1.heap _ (Ne.symm hb)).trans eb) f0 g1 g3 g4 g5
  refine⟨ys++[v],σ,H1,I2,⟨f0,g1,g2,g3,g4,g5⟩,⟨by rw[List.length_append,List.length_singleton];omega,its++[u],(if ((its.toArray.push u).size==its.toArray.size)=true then n else n+1),r.append (.cons ru .nil),?_⟩,q⟩
  have e3:its.toArray.push u=(its++[u]).toArray:=by simp
  rw[←e3]
  exact q2
def inner (elt:Expr) (gens:List Comprehension) (scope:Scope) (pos:Pos) (d:Nat) (acc:Value) (env:Env) (k:Sem PySem.Fin):Sem PySem.Fin:=
 match gens[d+1]? with
 |some g'=>eval g'.iter env >>=fun x=>standAt g'.iter.pos >>=fun _=>foldedSetIterable g'.iter env x >>=fun x=>holding [x] (pyIter x) >>=fun jY=>
  runOwn (.compStart (.ListComp elt gens scope pos) (d+1) jY acc env) env >>=fun _=>k
 |none=> (do let _ ←call (.builtin "list.append") [acc,←eval elt env]) >>=fun _=>k
set_option maxHeartbeats 400000 in
theorem UV (elt tg iter:Expr) (ifs:List Expr) (gens:List Comprehension) (scope:Scope) (pos:Pos) (d:Nat) (it acc:Value) (env:Env) (hg:gens[d]? =some ⟨tg,iter,ifs,0⟩) (h2:∀g',gens[d+1]? =some g'→g'.is_async=0):
  compTurn (.ListComp elt gens scope pos) d it acc env=(standAt iter.pos >>=fun _=>pyNext it >>=fun r=>match r with
   |none=>pure (.done .next)
   |some v=>letOwnedTupleGo tg it v >>=fun _=>assign tg env v >>=fun _=>z7 ifs env >>=fun ok=>
    if ok=true then inner elt gens scope pos d acc env (again (.compLoop (.ListComp elt gens scope pos) d it acc env)) else again (.compLoop (.ListComp elt gens scope pos) d it acc env)):=by
 unfold compTurn inner
 dsimp only
 rw[hg]
 generalize hn:gens[d+1]? =o
 cases o with
 |none=>rfl
 |some g'=>
  have e:=h2 g' hn
  obtain⟨t',i',f',a'⟩:=g'
  have e':a'=0:=e
  subst e'
  rfl
def iB (g:TG) (tt:TT) (ti:TC) (J:It):TC:=fun ys σ H Q=> ∃W:Nat→Nat→List V→St→Hp→Prop,(∃m,W 0 m ys σ H)∧∀i m ys σ H,W i m ys σ H→
 (J.stop i H∧Q ys σ H)∨(J.go i H∧∃N:List V→St→Hp→Prop,(∀bJ ai H',N bJ ai H'→∃m',m'<m∧W (i+1) m' bJ ai H')∧
  ∀x H',J.oK i H x H'→g x σ H' fun bC H2=>tt bC H2 fun b H3=>if b=true then ti ys bC H3 N else N ys bC H3)
theorem WU {elt tg iter:Expr}{ifs:List Expr}{gens:List Comprehension}{scope:Scope}{pos:Pos}{d:Nat}{it:Addr}{fp:List Addr}{tn:Nat→Heap→Prop}{J:It}{g:TG}{tt:TT}{ti:TC}{pins:List (Addr×Obj)}{s:Shared}{σ:St}{H:Hp}{ys:List V}{Q:List V→St→Hp→Prop}
    (hx:Y.xe=fun _ _=>False) (hc:Y.calm=true) (hg:gens[d]? =some ⟨tg,iter,ifs,0⟩) (T:Turn Y.prog Y.w Y.K tg J fp it tn) (hf:∀b∈fp,bI Y pins H b) (st:tn 0 s.heap) (hD:D∉fp)
    (h2:∀g',gens[d+1]? =some g'→g'.is_async=0) (pg:PG Y tg g) (pt:jz Y ifs tt) (pi:kH Y D (inner elt gens scope pos d (.ref D) Y.env) ti)
    (I:Inv Y pins σ H s) (f:bI Y pins H D) (a:AccAt s.heap D ys) (h:iB g tt ti J ys σ H Q):
    codeAny (model Y.prog Y.w) Y.A (.compLoop (.ListComp elt gens scope pos) d (.ref it) (.ref D) Y.env) (fun r s'=>match r with
      | .ok _=> ∃bJ ai H',Inv Y pins ai H' s'∧bI Y pins H' D∧AccAt s'.heap D bJ∧Q bJ ai H'
      | .error _=>False) s:=by
  obtain⟨W,⟨m0,w0⟩,turn⟩:=h
  have stat:∀{H':Hp},(∀b∈fp,H' b=none)→∀b∈fp,bI Y pins H' b:=fun hn b hb=> ⟨hn b hb,(hf b hb).2⟩
  refine codeAny_loop rfl (fun n s'=> ∃i bJ ai H',Inv Y pins ai H' s'∧bI Y pins H' D∧AccAt s'.heap D bJ∧tn i s'.heap∧(∀b∈fp,H' b=none)∧W i n bJ ai H') (fun n s3 hI=> ?_) m0 ⟨0,ys,σ,H,I,f,a,st,fun b hb=> (hf b hb).1,w0⟩
  obtain⟨i,oI,gJ,H3,I3,f3,a3,aK,tS,w3⟩:=hI
  show wpAny _ Y.A ((compTurn (.ListComp elt gens scope pos) d (.ref it) (.ref D) Y.env).onRaise (fun x=>do noteFrame x Y.env;theTreesLotGoes x)) _ _ s3
  refine wpAny_noted (wpAny_mono (E:=fun _ _=>False) ?_ (fun _ _ q=>q) fun _ _ z=>z.elim)
  rw[UV elt tg iter ifs gens scope pos d (.ref it) (.ref D) Y.env hg h2]
  refine wpAny_bind (wpAny_standAt (wpAny_bind ?_))
  have aD:∀{h h':Heap},(∀b o,b∉fp→h.get? b=some o→h'.get? b=some o)→∀{zs},AccAt h D zs→AccAt h' D zs:=fun k _ q=>q.keep fun o e=>k D o hD e
  have EO:=I3.pinned (fp:=[D]) (fun b hb=>by have e:b=D:=by simpa using hb
                                             subst e;exact f3) a3.ji
  have Al:∀b∈fp,bI Y (pins++jg [D] s3.heap) H3 b:=fun b hb=>by
    obtain⟨g0,g1,g2,g3,g4,g5⟩:=stat tS b hb
    refine⟨g0,g1,g2,g3,g4,fun p hp=> ?_⟩
    rcases List.mem_append.mp hp with z |z
    · exact g5 p (List.mem_append_left _ z)
    · rcases List.mem_append.mp z with z |z
      · exact g5 p (List.mem_append_right _ z)
      · intro q
        have e:p.1=D:=by simpa using (Jw z).1
        exact hD (by rw[←e,q];exact hb)
  rcases turn i n oI gJ H3 w3 with ⟨stop,qn⟩ |⟨go,N,hN,step⟩
  · refine wpAny_mono (T.done Y rfl rfl rfl hc i _ s3 gJ H3 (fun _ _=>False) EO Al aK stop) (fun r s4 ⟨hr,I4⟩=> ?_) fun _ _ z=>z
    subst hr
    obtain⟨a4,n4⟩:=a3.through I4
    exact wpAny_pure ⟨oI,gJ,H3,I4.i6,f3,a4,qn⟩
  · refine wpAny_mono (T.item Y rfl rfl rfl hc i _ s3 gJ H3 (fun _ _=>False) EO Al aK go) (fun r s4 ⟨u,hr,h4⟩=> ?_) fun _ _ z=>z
    subst hr
    refine wpAny_bind (wpAny_mono h4 (fun _ s5 ⟨x,H5,I5,r5,y5,fe,yd⟩=> ?_) fun _ _ z=>z)
    obtain⟨a5,n5⟩:=a3.through I5
    have f5:bI Y pins H5 D:=⟨n5,f3.2⟩
    have K4:∀b∈D::fp,∃o,s5.heap.get? b=some o∧∀v,o.data≠.cell v:=fun b hb=>by
      rcases List.mem_cons.mp hb with e |hb
      · exact a5.ji b (by simp[e])
      · exact T.obj _ _ fe b hb
    have zb:=I5.i6.pinned (fp:=D::fp) (fun b hb=>by
      rcases List.mem_cons.mp hb with e |hb
      · rw[e];exact f5
      · exact stat yd b hb) K4
    refine wpAny_bind (wpAny_mono (pg _ s5 gJ H5 x u _ zb r5 (step x H5 y5)) (fun _ s6 ⟨oG,H6,I6,q6⟩=> ?_) fun _ _ z=>by rw[hx]at z;exact z)
    refine wpAny_bind (wpAny_mono (pt _ s6 oG H6 _ I6 q6) (fun b s7 ⟨H7,I7,q7⟩=> ?_) fun _ _ z=>by rw[hx]at z;exact z)
    have Bg:∀{dM:St}{H7:Hp}{s7:Shared},Inv Y (pins++jg (D::fp) s5.heap) dM H7 s7→AccAt s7.heap D oI∧H7 D=none:=fun {dM H7 s7} J=>by
      obtain⟨z,its,n,r,e⟩:=id a5
      have q:=J.pin (D,_) (List.mem_append_right _ (List.mem_append_right _ (Z1 List.mem_cons_self e)))
      exact⟨⟨z,its,n,r,q.1⟩,q.2.1⟩
    have Bf:∀{dM:St}{H7:Hp}{s7:Shared},Inv Y (pins++jg (D::fp) s5.heap) dM H7 s7→tn (i+1) s7.heap∧∀b∈fp,H7 b=none:=fun {dM H7 s7} J=>by
      refine⟨T.keep _ _ _ fe fun b hb o e=> (J.pin (b,o) (List.mem_append_right _ (List.mem_append_right _ (Z1 (List.mem_cons_of_mem _ hb) e)))).1,fun b hb=> ?_⟩
      obtain⟨o,e,dd⟩:=T.obj _ _ fe b hb
      exact(J.pin (b,o) (List.mem_append_right _ (List.mem_append_right _ (Z1 (List.mem_cons_of_mem _ hb) e)))).2.1
    cases b with
    |false=>
     simp only[Bool.false_eq_true,if_false]at q7 ⊢
     obtain⟨m',hm,w7⟩:=hN _ _ _ q7
     obtain⟨a7,n7⟩:=Bg I7
     obtain⟨t7,r7⟩:=Bf I7
     exact wpAny_pure ⟨rfl,m',hm,i+1,oI,oG,H7,I7.i6,⟨n7,f3.2⟩,a7,t7,r7,w7⟩
    |true=>
     simp only[if_true]at q7 ⊢
     obtain⟨a7,n7⟩:=Bg I7
     obtain⟨t7,r7⟩:=Bf I7
     have Sa:=I7.i6.pinned (fp:=fp) (stat r7) (T.obj _ _ t7)
     have f7:bI Y (pins++jg fp s7.heap) H7 D:=by
       obtain⟨g0,g1,g2,g3,g4,g5⟩:=f3
       refine⟨n7,g1,g2,g3,g4,fun p hp=> ?_⟩
       rcases List.mem_append.mp hp with z |z
       · exact g5 p (List.mem_append_left _ z)
       · rcases List.mem_append.mp z with z |z
         · exact g5 p (List.mem_append_right _ z)
         · intro q
           exact hD (by rw[←q];exact(Jw z).1)
     refine pi _ s7 oG H7 oI N _ _ Sa f7 a7 q7 fun s8 EZ qS H8 I8 f8 a8 q8=> ?_
     obtain⟨m',hm,w8⟩:=hN _ _ _ q8
     refine wpAny_pure ⟨rfl,m',hm,i+1,EZ,qS,H8,I8.i6,⟨f8.1,f3.2⟩,a8,T.keep _ _ _ t7 fun b hb o e=> (I8.pin (b,o) (List.mem_append_right _ (List.mem_append_right _ (Z1 hb e)))).1,fun b hb=> ?_,w8⟩
     obtain⟨o,e,dd⟩:=T.obj _ _ t7 b hb
     exact(I8.pin (b,o) (List.mem_append_right _ (List.mem_append_right _ (Z1 hb e)))).2.1
theorem Wi {elt tg iter:Expr}{ifs:List Expr}{gens:List Comprehension}{scope:Scope}{pos:Pos}{d:Nat}{it:Addr}{R:Result→Shared→Prop}{s:Shared}{A:Around}{prog:Program}{w:World}{env:Env}{acc:Value}{fp:List Addr}{tn:Nat→Heap→Prop}{J:It}{K:PySem.W.Frag}
  (hg:gens[d]? =some ⟨tg,iter,ifs,0⟩) (T:Turn prog w K tg J fp it tn) {i:Nat} (st:tn i s.heap) (h:codeAny (model prog w) A (.compLoop (.ListComp elt gens scope pos) d (.ref it) acc env) R s):
  codeAny (model prog w) A (.compStart (.ListComp elt gens scope pos) d (.ref it) acc env) R s:=by
 refine codeAny_of_tree ?_
 show wpAny _ _ ((compStart (.ListComp elt gens scope pos) d (.ref it) acc env).onRaise (fun x=>do noteFrame x env;standAt theWindowsPlace)) _ _ s
 refine wpAny_notedAt ?_
 have xx:(clausesOf (.ListComp elt gens scope pos))[d]? =some ⟨tg,iter,ifs,0⟩:=hg
 unfold compStart
 rw[xx]
 show wpAny _ _ (ask >>=_) _ _ s
 refine wpAny_bind (wpAny_askSetting (wpAny_ite ?_))
 split
 ·first
   |exact wpAny_bind (wpAny_pure (wpAny_pure (And.intro rfl h)))
   |exact wpAny_pure (And.intro rfl h)
 ·refine wpAny_bind (wpAny_rule ?_)
  show wpAny _ _ (standAt iter.pos >>=_) _ _ s
  exact wpAny_bind (wpAny_standAt (wpAny_bind (T.self A i s _ _ st (wpAny_pure (And.intro rfl h)))))
end
section
variable {X:Cx}{pins:List (Addr×Obj)}{σ:St}{H H':Hp}{s s':Shared}
theorem Wl {N':List Str}{scope:Scope}{C D:Addr}{fp:List Addr}{ai:St}{ys:List V}{pl:List (Addr×Obj)}{h':Heap}(I:Inv X pins σ H s) (hf:∀b∈fp,bI X pins H b) (hC:s.heap.objs.size≤C) (hD:s.heap.objs.size≤D) (eR:D≠C)
  (J:Inv (aT X N' scope C s H fp) pl ai H' s') (n:H' D=none) (a:AccAt s'.heap D ys) (sb:Heap.SameBut C s'.heap h'):Inv X pins σ (upd H' D (.lst ys)) {s' with heap:=h'} :=by
 have di:∀b o,s.heap.get? b=some o→b≠C:=fun b o e=>Nat.ne_of_lt (Nat.lt_of_lt_of_le (Heap.lt_size e) hC)
 have wF:∀b o,s.heap.get? b=some o→b≠D:=fun b o e=>Nat.ne_of_lt (Nat.lt_of_lt_of_le (Heap.lt_size e) hD)
 have lJ:∀b o,H b=some o→b≠D:=fun b o e=>Nat.ne_of_lt (Nat.lt_of_lt_of_le (I.ag.lt e) hD)
 have fC:H' C=none:=J.free
 have u:Un (aS X.stack) fp H H' s.heap s'.heap:=J.base
 refine I.yz (s':= {s' with heap:=h'}) (ch:=fp) J.os ⟨fun b o e nb hb hx=> (sb.2 b (di b o e)).trans (u.keep b o e nb hb hx),fun b o e nb hb hx=> ?_,fun b o e nb hx=>by rw[Zh (wF b o e)];exact u.free b o e nb hx,fun b o e hx=> ?_,
  fun b xs e=>by rw[Zh (lJ b _ e)];exact u.fA b xs e,fun b o xs e=>by rw[Zh (lJ b _ e)];exact u.fk b o xs e,fun b ps e=>by rw[Zh (lJ b _ e)];exact u.fc b ps e⟩ (fun b v e=> ?_) J.bare fun b hb=> ?_
 ·obtain⟨sl,q⟩:=u.slot b o e nb hb hx
  exact⟨sl,(sb.2 b (di b o e)).trans q⟩
 ·obtain⟨o',q⟩:=u.there b o e hx
  exact⟨o',(sb.2 b (di b o e)).trans q⟩
 ·by_cases hb:b=D
  ·subst hb
   rw[Zc]at e
   cases e
   obtain⟨z,its,k,r,q⟩:=a
   exact⟨z,its,k,r,(sb.2 b eR).trans q⟩
  ·rw[Zh hb]at e
   refine(J.ag b v e).dP (fun c w hc q=> (sb.2 c ?_).trans q) (fun c q=>by rw[Zh (Zd q n)];exact q) fun c xs q=>by rw[Zh (Zd q n)];exact q
   rcases hc with z |z
   ·rw[z];exact Zd e fC
   ·exact Zd z fC
 ·obtain⟨f0,f1,f2,f3,f4,f5⟩:=hf b hb
  exact⟨f3,f1,f4,f5⟩
theorem Jd {elt tg iter:Expr}{ifs:List Expr}{rest:List Comprehension}{scope:Scope}{pos:Pos}{N':List Str}{ts:Nat}{aC:List Nat}{it:Addr}{fp:List Addr}{tn:Nat→Heap→Prop}{J:It}{g:TG}{tt:TT}{ti:TC}{Q:List V→Hp→Prop}{E:Value→Shared→Prop}{RR:Value→Addr→Result→Shared→Prop}
  (S:zj X N' ts aC scope) (hc:X.calm=true) (I:Inv X pins σ H s) (T:Turn X.prog X.w X.K tg J fp it tn) (st:tn 0 s.heap) (hf:∀b∈fp,bI X pins H b)
  (h2:∀g',(Comprehension.mk tg iter ifs 0::rest)[0+1]? =some g'→g'.is_async=0)
  (pg:∀C,PG (aT X N' scope C s H fp) tg g) (pt:∀C,jz (aT X N' scope C s H fp) ifs tt)
  (pi:∀C D,kH (aT X N' scope C s H fp) D (inner elt (⟨tg,iter,ifs,0⟩::rest) scope pos 0 (.ref D) (aT X N' scope C s H fp).env) ti)
  (h:iB g tt ti J [] (eW ts aC σ) H fun ys _ H2=>Q ys H2)
  (xR:∀C D s' ai H' ys fl,s.heap.objs.size≤C→s.heap.objs.size≤D→D≠C→Inv (aT X N' scope C s H fp) [] ai H' s'→H' D=none→AccAt s'.heap D ys→Q ys H'→RR (.ref D) C (.ok fl) s'):
  wpAny (model X.prog X.w) X.A (newList []) (fun acc uO=>wpAny (model X.prog X.w) X.A (newFunctionEnv scope X.env.globals (bQ scope X.env) [] X.env.qual none .none (some X.env)) (fun qH uN=>
   codeAny (model X.prog X.w) X.A (.compStart (.ListComp elt (⟨tg,iter,ifs,0⟩::rest) scope pos) 0 (.ref it) acc {qH with scope:=relabel scope X.env}) (RR acc qH.locals) uN) E uO) E s:=by
 refine wpAny_newObj_type (wpAny_newFunctionEnv S.ji (by intro y hy;simp at hy) (fun gW l8 jl=> ?_) S.kind)
 dsimp only at l8 jl ⊢
 generalize mC:s.heap.push {cls:=.type "list",dict:=none,data:=.seq ([]:List Value).toArray} =h0 at l8 jl ⊢
 have hC:h0.objs.size=s.heap.objs.size+1:=by rw[←mC,Heap.size_push]
 have eR:s.heap.objs.size≠h0.objs.size:=by rw[hC];exact Nat.ne_of_lt (Nat.lt_succ_self _)
 have mD:s.heap.objs.size≤h0.objs.size:=by rw[hC];exact Nat.le_succ _
 have di:∀b o,s.heap.get? b=some o→b≠h0.objs.size:=fun b o e=>Nat.ne_of_lt (Nat.lt_of_lt_of_le (Heap.lt_size e) mD)
 have old:∀b o,s.heap.get? b=some o→gW.get? b=some o:=fun b o e=>jl.extBut b o (di b o e) (Heap.get?_push_of_some _ (mC▸Heap.get?_push_of_some _ e))
 have qo:gW.get? s.heap.objs.size=some {cls:=.type "list",data:=.seq ([]:List Value).toArray 0} :=jl.extBut _ _ eR (Heap.get?_push_of_some _ (mC▸Heap.get?_push_size _ rfl))
 have ho:∀b∈fp,∃o,s.heap.get? b=some o:=fun b hb=>let ⟨o,e,_⟩:=T.obj _ _ st b hb;⟨o,e⟩
 have I1:Inv (aT X N' scope h0.objs.size s H fp) [] (eW ts aC σ) H {s with heap:=gW,toks:=s.toks+([]:List (Str×Value)).length} :=OI S I hf ho mD l8 old
 have fresh:=I.ag.fresh (a:=s.heap.objs.size) (Nat.le_refl _)
 have ye:∀b∈fp,bI (aT X N' scope h0.objs.size s H fp) [] H b:=fun b hb=>by
  obtain⟨f0,f1,f2,f3,f4,f5⟩:=hf b hb
  refine⟨f0,(I1.ok.kA b hb).1,I1.ok.kr b hb,.inl hb,(I1.ok.kA b hb).2,fun p hp=>absurd (show p∈([]:List (Addr×Obj)) from hp) (by simp)⟩
 have fD:bI (aT X N' scope h0.objs.size s H fp) [] H s.heap.objs.size:=by
  refine⟨fresh,eR,fun z=> ?_,.inr (Nat.le_refl _),fun x c e z=> ?_,fun p hp=>absurd (show p∈([]:List (Addr×Obj)) from hp) (by simp)⟩
  ·obtain⟨_,o,cu,_⟩:=I.stack.mem z
   exact absurd (Heap.lt_size cu) (Nat.lt_irrefl _)
  ·obtain⟨e1,e2⟩:=Yh e
   obtain⟨c',aV⟩:=I.ok.has x (S.free _ e2 rfl)
   obtain⟨v,q⟩:=I.cell x c' aV
   rw[aV]at e1
   have e3:c=c':=e1
   have l:=q.lt
   rw[←e3,z]at l
   exact absurd l (Nat.lt_irrefl _)
 have aD:AccAt gW s.heap.objs.size []:=⟨Nat.zero_le _,[],0,.nil,qo⟩
 have xZ:s.heap.objs.size∉fp:=fun z=>by obtain⟨o,e⟩:=ho _ z;exact absurd (Heap.lt_size e) (Nat.lt_irrefl _)
 have aw:tn 0 gW:=T.keep _ _ _ st fun b _ o e=>old b o e
 have run:=Wi (elt:=elt) (gens:=⟨tg,iter,ifs,0⟩::rest) (scope:=scope) (pos:=pos) (d:=0) rfl T aw
  (WU (Y:=aT X N' scope h0.objs.size s H fp) (D:=s.heap.objs.size) (Q:=fun ys _ H2=>Q ys H2) (elt:=elt) (gens:=⟨tg,iter,ifs,0⟩::rest) (scope:=scope) (pos:=pos) (d:=0) rfl hc rfl T ye aw xZ h2 (pg _) (pt _) (pi _ _) I1 fD aD h)
 refine codeAny_mono run fun r s' hr=> ?_
 cases r with
 |error e=>exact hr.elim
 |ok fl=>
  obtain⟨bJ,ai,H',q1,q2,q3,q4⟩:=hr
  exact xR _ _ s' ai H' bJ fl mD (Nat.le_refl _) eR q1 q2.1 q3 q4
end
def uL (wi:TI) (ts:Nat) (aC:List Nat) (g:TG) (tt:TT) (ti:TC):TE:=fun σ H Q=>wi σ H fun J H1=>iB g tt ti J [] (eW ts aC σ) H1 fun ys _ H2=> ∀p,H2 p=none→Q (.ref p) (upd H2 p (.lst ys))
section
variable {X:Cx}{elt tg iter:Expr}{ifs:List Expr}{rest:List Comprehension}{scope:Scope}{pos:Pos}{wi:TI}{g:TG}{tt:TT}{ti:TC}
theorem Yk (N':List Str) (ts:Nat) (aC:List Nat) (hi:PI X tg iter wi) (pg:∀C s H fp,PG (aT X N' scope C s H fp) tg g) (pt:∀C s H fp,jz (aT X N' scope C s H fp) ifs tt)
  (pi:∀C s H fp D,kH (aT X N' scope C s H fp) D (inner elt (⟨tg,iter,ifs,0⟩::rest) scope pos 0 (.ref D) (aT X N' scope C s H fp).env) ti)
  (ok:qG X.env.scope scope X.N N' ts aC=true:=by rfl) (hc:X.calm=true:=by rfl) (h2:∀g',(Comprehension.mk tg iter ifs 0::rest)[0+1]? =some g'→g'.is_async=0:=by(intro g' h;cases h<;>rfl))
  (hs:∀x,foldedSetIterable iter X.env x=pure x:=by intro _;rfl):
  PE X (.ListComp elt (⟨tg,iter,ifs,0⟩::rest) scope pos) (uL wi ts aC g tt ti):=by
 intro pins s σ H Q I h
 have S:=Wj ok
 rw[eval_ListComp]
 refine wpAny_comprehension_free (use:=none) rfl hs (Z5 fun y hy e=>I.ok.has _ (S.free y hy e)) S.kind S.names (ar (hi pins s σ H _ I h) fun v s1 h1=>ar h1 fun jY s2 km=> ?_)
 obtain⟨it,fp,tn,J,H2,e,I2,T,aj,f2,q2⟩:=km
 subst e
 refine Jd (RR:=fun acc C=>compPost (model X.prog X.w) X.A X.xe none _ acc C) S hc I2 T aj f2 h2 (fun C=>pg C _ _ _) (fun C=>pt C _ _ _) (fun C D=>pi C _ _ _ D) q2 ?_
 intro C D s' ai H' ys fl hC hD eR J' n a q
 obtain⟨m,hn,_⟩:=J'.loc
 exact⟨m,hn,fun h' sb=> ⟨.ref D,_,Wl I2 f2 hC hD eR J' n a sb,rfl,q D n⟩⟩
theorem JN (N':List Str) (ts:Nat) (aC:List Nat) {i:Nat}{x:Str}{px An:Pos}(hN:X.N.Nodup) (gb:X.N[i]? =some x) (hx:Loc X.env.scope x) (hi:PI X tg iter wi) (pg:∀C s H fp,PG (aT X N' scope C s H fp) tg g) (pt:∀C s H fp,jz (aT X N' scope C s H fp) ifs tt)
  (pi:∀C s H fp D,kH (aT X N' scope C s H fp) D (inner elt (⟨tg,iter,ifs,0⟩::rest) scope pos 0 (.ref D) (aT X N' scope C s H fp).env) ti)
  (w5:swapsWith (.ListComp elt (⟨tg,iter,ifs,0⟩::rest) scope pos) (some (.Name x px)) An.line X.env=pure true:=by rfl)
  (ok:qG X.env.scope scope X.N N' ts aC=true:=by rfl) (hc:X.calm=true:=by rfl) (h2:∀g',(Comprehension.mk tg iter ifs 0::rest)[0+1]? =some g'→g'.is_async=0:=by(intro g' h;cases h<;>rfl))
  (hs:∀x,foldedSetIterable iter X.env x=pure x:=by intro _;rfl) (fN:X.fn x=true∨X.env.scope.names.lookup x=some .local:=by first |exact .inl rfl |exact .inr rfl |assumption):
  PS X (.Assign [.Name x px] (.ListComp elt (⟨tg,iter,ifs,0⟩::rest) scope pos) An) (oR (uL wi ts aC g tt ti) (dc i)):=by
 intro pins s σ H D I h
 have S:=Wj ok
 rw[exec_Assign_Name_used _ _ _ _ w5]
 refine wpAny_bind (wpAny_standAt (wpAny_bind ?_))
 show wpAny _ X.A (do let _ ←comprehension (.ListComp elt (⟨tg,iter,ifs,0⟩::rest) scope pos) scope X.env _ (newList []) false (eval iter X.env) (some (assign (.Name x px) X.env))) _ _ s
 refine wpAny_bind (wpAny_mono (wpAny_comprehension_free (use:=some (assign (.Name x px) X.env)) (Q:=fun _ s'=> ∃ai H',Inv X pins ai H' s'∧D.nx ai H') rfl hs (Z5 fun y hy e=>I.ok.has _ (S.free y hy e)) S.kind S.names
  (ar (hi pins s σ H _ I h) fun v s1 h1=>ar h1 fun jY s2 km=> ?_)) (fun _ s' hq=>wpAny_pure (wpAny_pure hq)) fun _ _ e=>e)
 obtain⟨it,fp,tn,J,H2,e,I2,T,aj,f2,q2⟩:=km
 subst e
 refine Jd (RR:=fun acc C=>compPost (model X.prog X.w) X.A X.xe (some (assign (.Name x px) X.env)) _ acc C) S hc I2 T aj f2 h2 (fun C=>pg C _ _ _) (fun C=>pt C _ _ _) (fun C D=>pi C _ _ _ D) q2 ?_
 intro C B s' ai H' ys fl hC hB C3 J' n a q
 obtain⟨m,hn,_⟩:=J'.loc
 have IX:Inv X pins σ (upd H' B (.lst ys)) s':=Wl I2 f2 hC hB C3 J' n a (Heap.SameBut.refl C s'.heap)
 have fC:=I2.om (H':=upd H' B (.lst ys)) (b:=C) hC (by rw[Zh (Ne.symm C3)];exact J'.free)
 obtain⟨f0,f1,TZ,f3,f4,f5⟩:=fC
 show wpAny _ X.A (assign (.Name x px) X.env (.ref B)) _ _ s'
 refine wpAny_assign_Name (WF (v:=.ref B) (u:=.ref B) IX hN gb hx rfl (fun dh Sb ⟨c,sb,iN⟩=> ?_) fN)
 have My:C≠c:=by
  rcases iN with z |z
  ·rw[z];exact f1
  ·exact(f4 x c z).symm
 refine⟨m,Heap.Ns.sameBut hn sb My,fun h' GP=> ?_⟩
 refine⟨σ.set i (some (.ref B)),_,Sb.turned (t':=dh.toks) (it:=C) (fun b o hb e=> (GP.2 b hb).trans e) f0 f1 f3 f4 f5,q B n⟩
end
section
variable {X:Cx}
theorem Yn {c:String} :cU X (.builtin "isinstance") (fun xs H Q=> ∃x t b,xs=[x,.ty c]∧eG X.K H x t∧PySem.W.kitOne X.K t (.type c)=some b∧Q (.bl b) H):=by
 intro pins s σ H xs us Q I r h
 obtain⟨x,t,b,rfl,ty,e,q⟩:=h
 obtain⟨u,v,rfl,ru,rv⟩:=vals2 r
 cases rv
 exact QK I ru ty e fun tk=> ⟨.bl b,H,I.tok tk,rfl,q⟩
theorem UY (hc:X.calm=true:=by rfl):cU X (.builtin "all") (fun xs H Q=> ∃(p:Addr) (bs:List Bool),xs=[.ref p]∧ah X.K H p (bs.map V.bl)∧Q (.bl (bs.all id)) H):=by
 intro pins s σ H xs us Q I r h
 obtain⟨p,bs,rfl,hp,q⟩:=h
 obtain⟨u,rfl,ru⟩:=vals1 r
 cases ru
 obtain⟨its,rv,pl,hz⟩:=I.list hp
 have hb:∀(i:Nat) (v:Value),its.toArray[i]? =some v→v=.bool (bs.getD i false):=fun i v e=>by
  have e':its[i]? =some v:=by simpa using e
  have hl:=rv.length
  have hi:i<its.length:=(List.getElem?_eq_some_iff.mp e').1
  have bP:i< (bs.map V.bl).length:=by omega
  obtain⟨u,hu,ru⟩:=rv.get (i:=i) (x:=(bs.map V.bl)[i]) (by simp)
  rw[e']at hu
  cases hu
  rw[List.getElem_map]at ru
  have gf:i<bs.length:=by simpa using bP
  have e2:bs.getD i false=bs[i]:=by simp[List.getD_eq_getElem?_getD,gf]
  rw[e2]
  exact ru
 refine call_all_walk (wpAny_pyIter_list pl.isList ?_)
 have bZ:p≠s.heap.objs.size:=Nat.ne_of_lt (by obtain⟨o,n,e,_⟩:=pl;exact Heap.lt_size e)
 refine⟨s.heap.objs.size,_,_,_,_,_,fun i=>bs.getD i false,rfl,Walks.list (A:=X.A.in1) (show X.A.in1.handled=none from I.ok.hd hc) s.heap.objs.size p bZ its.toArray,⟨⟨_,Heap.get?_push_size _ rfl,rfl,rfl⟩,pl.isList.at fun o e=>Heap.get?_push_of_some _ e⟩,fun i v s' Q' E' hP hQ=> ?_,fun h' tk hk=> ?_⟩
 ·rw[hb i v hP]
  exact wpAny_truthy_bool hQ
 ·have e:(List.range its.toArray.size).all (fun i=>bs.getD i false)=bs.all id:=by
   have hl:its.toArray.size=bs.length:=by have:=rv.length;rw[List.length_map]at this;simpa using this.symm
   rw[hl,Bool.eq_iff_iff,List.all_eq_true,List.all_eq_true]
   constructor
   ·intro h b hb
    obtain⟨i,hi,e⟩:=List.mem_iff_getElem.mp hb
    have:=h i (List.mem_range.mpr hi)
    rw[List.getD_eq_getElem?_getD,List.getElem?_eq_getElem hi,Option.getD_some,e]at this
    exact this
   ·intro h i hi
    have bP:=List.mem_range.mp hi
    rw[List.getD_eq_getElem?_getD,List.getElem?_eq_getElem bP,Option.getD_some]
    exact h _ (List.getElem_mem bP)
  rw[e]
  refine⟨.bl (bs.all id),H,I.kept fun b o eb=>hk b o ?_ (Heap.get?_push_of_some _ eb),rfl,q⟩
  intro z
  have e1:b=s.heap.objs.size:=by simpa using z
  exact absurd (Heap.lt_size eb) (by rw[e1];exact Nat.lt_irrefl _)
def nD (ns:List Int):Nat:=(PyProof.Rows.firstMet (fun i=>ns.getD i 0) ns.length).length
theorem Wx (hc:X.calm=true:=by rfl):cU X (.type "set") (fun xs H Q=> ∃(p:Addr) (ns:List Int),xs=[.ref p]∧ah X.K H p (ns.map V.int)∧ns.length≤1000∧∀q S,H q=none→Q (.ref q) (upd H q (.set S (nD ns)))):=by
 intro pins s σ H xs us Q I r h
 obtain⟨p,ns,rfl,hp,hn,q⟩:=h
 obtain⟨u,rfl,ru⟩:=vals1 r
 cases ru
 obtain⟨its,rv,pl,hz⟩:=I.list hp
 have hl:=rv.length
 rw[List.length_map]at hl
 refine call_set_list (I.ok.hd hc) pl.isList (YO rv) (by rw[List.size_toArray,←hl];unfold scanBound;omega) fun h' tk hs hk=> ?_
 have e:its.toArray.size=ns.length:=by simp[hl]
 rw[e]at hs
 exact⟨.ref s.heap.objs.size,_,I.laid (a:=s.heap.objs.size) (o:=.set _ (nD ns)) (fun b o eb=>hk b o (Heap.lt_size eb) eb) (Nat.le_refl _) hs,rfl,q _ _ I.fresh⟩
theorem Wz:cU X (.builtin "len") (fun xs H Q=> ∃p S n,xs=[.ref p]∧H p=some (.set S n)∧Q (.int n) H):=by
 intro pins s σ H xs us Q I r h
 obtain⟨p,S,n,rfl,hp,q⟩:=h
 obtain⟨u,rfl,ru⟩:=vals1 r
 cases ru
 obtain⟨o,es,ep,t,h1,h2,h3,h4,h5,h6,h7,h8⟩:=(show aO X.prog X.w H s.heap p (.set S n) from I.ag p _ hp)
 refine call_len_set h1 h2 h3 h7 (by have:scanBound=4096:=rfl;omega) ⟨.int n,H,I.tok _,⟨_,by rw[h8]⟩,q⟩
theorem UX:cU X (.type "range") (fun xs H Q=> ∃j:Int,xs=[.int j]∧∀q,H q=none→Q (.ref q) (upd H q (.fY 0 j))):=by
 intro pins s σ H xs us Q I r h
 obtain⟨j,rfl,q⟩:=h
 obtain⟨u,rfl,ru⟩:=vals1 r
 obtain⟨t,rfl⟩:=ru
 refine call_range_1 ?_
 exact⟨.ref s.heap.objs.size,_,I.laid (a:=s.heap.objs.size) (o:=.fY 0 j) (fun b o eb=>Heap.get?_push_of_some _ eb) (Nat.le_refl _) ⟨_,_,_,Heap.get?_push_size _ rfl⟩,rfl,q _ I.fresh⟩
def upTo (n:Nat):List V:=(List.range n).map fun(i:Nat)=>V.int (i:Int)
theorem Ug {acc:Array Value}{n:Nat}(h:ItemsOf (fun i v=> ∃t,v=.int (0+i*1) t) acc n):Vals (upTo n) acc.toList:=by
 obtain⟨h1,h2⟩:=h
 obtain⟨l⟩:=acc
 have h1:l.length=n:=h1
 have h2:∀(j:Nat) (v:Value),l[j]? =some v→∃t,v=.int (j:Int) t:=fun j v e=>by
  obtain⟨t,q⟩:=h2 j v (by simpa using e)
  exact⟨t,by rw[q];congr 1;omega⟩
 have key:∀(l:List Value) (k:Nat),(∀(j:Nat) (v:Value),l[j]? =some v→∃t,v=.int ((k+j:Nat):Int) t)→Vals ((List.range' k l.length).map fun(i:Nat)=>V.int (i:Int)) l:=by
  intro l
  induction l with
  |nil=>intro k _;exact .nil
  |cons v l ih=>
   intro k h
   rw[List.length_cons,List.range'_succ,List.map_cons]
   obtain⟨t,e⟩:=h 0 v rfl
   refine .cons ⟨t,by rw[e];simp⟩ (ih (k+1) fun j w q=> ?_)
   obtain⟨t',e'⟩:=h (j+1) w (by simpa using q)
   exact⟨t',by rw[e'];congr 1;omega⟩
 have:=key l 0 (fun j v e=>by simpa using h2 j v e)
 unfold upTo
 rw[←h1,List.range_eq_range']
 exact this
theorem Wy (hc:X.calm=true:=by rfl):cU X (.type "list") (fun xs H Q=> ∃(p:Addr) (j:Int),xs=[.ref p]∧H p=some (.fY 0 j)∧0≤j∧j≤1000∧∀q,H q=none→Q (.ref q) (upd H q (.lst (upTo j.toNat)))):=by
 intro pins s σ H xs us Q I r h
 obtain⟨p,j,rfl,hp,h0,h1,q⟩:=h
 obtain⟨u,rfl,ru⟩:=vals1 r
 cases ru
 obtain⟨t,u,v,e⟩:=(show aO X.prog X.w H s.heap p (.fY 0 j) from I.ag p _ hp)
 refine call_list_range (n:=j.toNat) (I.ok.hd hc) e (small_one (by omega) (by omega) (by omega) (by omega)) (by rw[rangeSize_one];split<;>omega) (by omega) fun h' tk acc c' hk hS qo=> ?_
 have r2:=Ug qo
 have hlen:(upTo j.toNat).length≤sizeLine:=by unfold upTo;rw[List.length_map,List.length_range,sizeLine_eq];omega
 exact⟨.ref s.heap.objs.size,_,I.laid (a:=s.heap.objs.size) (o:=.lst (upTo j.toNat)) hk (Nat.le_refl _) ⟨hlen,acc.toList,c',r2,by simpa using hS⟩,rfl,q _ I.fresh⟩
theorem QX:bg X (binaryOp .Add) (fun x y H Q=> ∃a b ys,x=.ref a∧y=.ref b∧ao X.K H a []∧ao X.K H b ys∧Q (.ref b) H):=by
 intro pins s σ H x y u v Q I rx ry h
 obtain⟨a,b,ys,rfl,rfl,ha,hb,q⟩:=h
 cases rx
 cases ry
 obtain⟨its,rv,pl,hz⟩:=I.tuple ha
 obtain⟨lN,rZ,lE,aF⟩:=I.tuple hb
 cases rv
 obtain⟨⟨cls,dd,data,sl⟩,ho,mh,n,hd⟩:=id pl
 obtain⟨⟨Nx,tZ,data2,kW⟩,l7,mi,n2,hd2⟩:=id lE
 simp only at mh hd mi hd2
 subst mh hd mi hd2
 exact concat_meets ⟨_,ho,rfl⟩ ⟨_,l7,rfl⟩ noFill_tuple_add seq_tuple_add PySem.F.slot_tuple_add PySem.F.entry_tuple_add (PySem.F.args_tuple_add_2 _ _)
   (tuple_addW0 a b #[] lN.toArray n n2 dd tZ sl kW rfl) ⟨ho,l7,⟨.ref b,H,I,rfl,q⟩⟩
end
theorem Wa {K:PySem.W.Frag}{a:Addr}{xs:List V}{g:TG}{tt:TT}{ti:TC}{ys:List V}{σ:St}{H:Hp}{Q:List V→St→Hp→Prop}(Pv:Nat→List V→St→Hp→Prop) (h0:Pv 0 ys σ H)
  (hl:∀i ys σ H,i≤xs.length→Pv i ys σ H→ao K H a xs)
  (hs:∀i x ys σ H,xs[i]? =some x→Pv i ys σ H→g x σ H fun bC H2=>tt bC H2 fun b H3=>if b=true then ti ys bC H3 (Pv (i+1)) else Pv (i+1) ys bC H3)
  (hd:∀ys σ H,Pv xs.length ys σ H→Q ys σ H):iB g tt ti (y7 K a) ys σ H Q:=by
 refine⟨fun i m ys σ H=>m=xs.length - i∧i≤xs.length∧Pv i ys σ H,⟨xs.length,by simp,Nat.zero_le _,h0⟩,?_⟩
 rintro i m ys σ H ⟨rfl,hi,p⟩
 have q:=hl i ys σ H hi p
 by_cases aA:i<xs.length
 ·refine .inr ⟨⟨xs,xs[i],q,by simp[aA]⟩,Pv (i+1),fun bJ ai H' p'=> ⟨xs.length - (i+1),by omega,rfl,aA,p'⟩,fun x H' y=> ?_⟩
  obtain⟨e,y⟩:=y
  subst e
  exact hs i x ys σ _ (y xs q) p
 ·have e:i=xs.length:=by omega
  subst e
  exact .inl ⟨⟨xs,q,Nat.le_refl _⟩,hd ys σ H p⟩
theorem Yt {K:PySem.W.Frag}{a:Addr}{xs:List V}{g:TG}{tt:TT}{ti:TC}{ys:List V}{σ:St}{H:Hp}{Q:List V→St→Hp→Prop}(Pv:Nat→List V→St→Hp→Prop) (h0:Pv 0 ys σ H)
  (hl:∀i ys σ H,i≤xs.length→Pv i ys σ H→ah K H a xs)
  (hs:∀i x ys σ H,xs[i]? =some x→Pv i ys σ H→g x σ H fun bC H2=>tt bC H2 fun b H3=>if b=true then ti ys bC H3 (Pv (i+1)) else Pv (i+1) ys bC H3)
  (hd:∀ys σ H,Pv xs.length ys σ H→Q ys σ H):iB g tt ti (oB K a) ys σ H Q:=by
 refine⟨fun i m ys σ H=>m=xs.length - i∧i≤xs.length∧Pv i ys σ H,⟨xs.length,by simp,Nat.zero_le _,h0⟩,?_⟩
 rintro i m ys σ H ⟨rfl,hi,p⟩
 have q:=hl i ys σ H hi p
 by_cases aA:i<xs.length
 ·refine .inr ⟨⟨xs,xs[i],q,by simp[aA]⟩,Pv (i+1),fun bJ ai H' p'=> ⟨xs.length - (i+1),by omega,rfl,aA,p'⟩,fun x H' y=> ?_⟩
  obtain⟨e,y⟩:=y
  subst e
  exact hs i x ys σ _ (y xs q) p
 ·have e:i=xs.length:=by omega
  subst e
  exact .inl ⟨⟨xs,q,Nat.le_refl _⟩,hd ys σ H p⟩
theorem YN {lo:Int}{n:Nat}{g:TG}{tt:TT}{ti:TC}{ys:List V}{σ:St}{H:Hp}{Q:List V→St→Hp→Prop}(Pv:Nat→List V→St→Hp→Prop) (h0:Pv 0 ys σ H)
  (hs:∀i ys σ H,i<n→Pv i ys σ H→g (.int (lo+i)) σ H fun bC H2=>tt bC H2 fun b H3=>if b=true then ti ys bC H3 (Pv (i+1)) else Pv (i+1) ys bC H3)
  (hd:∀ys σ H,Pv n ys σ H→Q ys σ H):iB g tt ti (kK lo n) ys σ H Q:=by
 refine⟨fun i m ys σ H=>m=n - i∧i≤n∧Pv i ys σ H,⟨n,by simp,Nat.zero_le _,h0⟩,?_⟩
 rintro i m ys σ H ⟨rfl,hi,p⟩
 by_cases aA:i<n
 ·refine .inr ⟨aA,Pv (i+1),fun bJ ai H' p'=> ⟨n - (i+1),by omega,rfl,aA,p'⟩,fun x H' y=> ?_⟩
  obtain⟨e,y⟩:=y
  subst e y
  exact hs i ys σ _ aA p
 ·have e:i=n:=by omega
  subst e
  exact .inl ⟨Nat.le_refl _,hd ys σ H p⟩
theorem pb {X:Cx}{N':List Str}{scope:Scope}{C:Addr}{s:Shared}{H:Hp}{fp:List Addr}(i:Nat) {x:Str}{pos:Pos}(hN:N'.Nodup:=by decide+kernel) (hi:N'[i]? =some x:=by rfl) (hx:(relabel scope X.env).names.lookup x=some .local:=by rfl):
  PG (aT X N' scope C s H fp) (.Name x pos) (dc i):=Zy (X:=aT X N' scope C s H fp) hN hi (.inl hx) (.inr hx)
def Def (P:Program) (w:World) (K:PySem.W.Frag) (mg:Str→Option Value) (base:Heap) (k:Nat) (x:Str) (ps:List Str) (sp:Sp):Prop:=
 ∃f fd,aE P w K mg base aH k f fd ps sp∧mg x=some (.ref f)∧PySem.W.keepIn K (.ref f)=true∧Binds K fd ps []
section
variable {X:Cx}{k:Nat}{x:Str}{ps:List Str}{sp:Sp}{e:Expr}{es:List Expr}{t:TA}{p pos:Pos}
theorem Zj (d:Def X.prog X.w X.K X.mg X.base k x ps sp) (hr:bR k X.A) (ha:PA X (e::es) t) (hg:Gl X x:=by rfl) (jq:(x==("__debug__" :Str))=false:=by decide)
  (he:starEach (e::es) X.env=(false,eval e X.env)::starEach es X.env:=by rfl) (dA:(backTo pos (starEach es X.env)).any (·.1)=false:=by rfl):
  PE X (.Call (.Name x p) (e::es) [] pos) (uM sp [] E0 t):=by
 obtain⟨f,fd,F,hm,hk,hb⟩:=d
 exact Yq F hr hg hm hk hb .nil Hy ha jq he dA
end
def cj (K:PySem.W.Frag) (H:Hp) (x:V):Prop:=∃T,eG K H x (.type T)
def whole:V→Bool
 | .int _=>true
 |_=>false
def bS:V→Int→Int→Bool
 | .int i,a,b=>decide (a≤i)&&decide (i≤b)
 |_,_,_=>false
def uI:Option HO→Option (List V)
 |some (.tup xs)=>some xs
 |_=>none
def aZ (H:Hp):V→Option (List V)
 | .ref a=>uI (H a)
 |_=>none
theorem Zx {H:Hp}{a:Addr} :aZ H (.ref a)=uI (H a):=rfl
theorem Zr {H:Hp}{a:Addr}{xs:List V}(h:H a=some (.tup xs)):aZ H (.ref a)=some xs:=by rw[Zx,h];rfl
theorem RQ {o:Option HO}{xs:List V}(h:uI o=some xs):o=some (.tup xs):=by
 cases o with
 |none=>cases h
 |some o=>cases o<;>first |(cases h;rfl) |cases h
theorem ZI {H:Hp}{x:V}{xs:List V}(h:aZ H x=some xs):∃a,x=.ref a∧H a=some (.tup xs):=by
 cases x with
 |ref a=>exact⟨a,rfl,RQ h⟩
 |_=>cases h
theorem ae.aZ {H H':Hp}(s:ae H H') {x:V}{xs:List V}(h:L2.aZ H x=some xs):L2.aZ H' x=some xs:=by
 obtain⟨a,rfl,q⟩:=ZI h
 exact Zr (s _ _ q)
theorem ae.gO {K:PySem.W.Frag}{H H':Hp}(s:ae H H') {x:V}(h:cj K H x):cj K H' x:=by
 obtain⟨T,t⟩:=h
 cases t with
 |af=>exact⟨_,.af⟩
 |bl y=>exact⟨_,.bl y⟩
 |int i=>exact⟨_,.int i⟩
 |str y=>exact⟨_,.str y⟩
 |ij y=>exact⟨_,.ij y⟩
 |lst e=>exact⟨_,.lst (s _ _ e)⟩
 |aW e=>exact⟨_,.aW (s _ _ e)⟩
 |tup e=>exact⟨_,.tup (s _ _ e)⟩
 |dK e=>exact⟨_,.dK (s _ _ e)⟩
 |dT e=>exact⟨_,.dT (s _ _ e)⟩
def wN:V→Bool
 | .int _=>true
 | .bl _=>true
 |_=>false
def BH:V→Bool
 | .bl _=>true
 |_=>false
theorem OK {K:PySem.W.Frag}{H:Hp}{x:V}{T:String}(t:eG K H x (.type T)):PySem.W.kitOne K (.type T) (.type "int")=some (wN x):=by cases t<;>rfl
theorem PN {K:PySem.W.Frag}{H:Hp}{x:V}{T:String}(t:eG K H x (.type T)):PySem.W.kitOne K (.type T) (.type "bool")=some (BH x):=by cases t<;>rfl
theorem QO {K:PySem.W.Frag}{H:Hp}{x:V}{T:String}(t:eG K H x (.type T)):PySem.W.kitOne K (.type T) (.type "tuple")=some (aZ H x).isSome:=by
 cases t with
 |tup e=>rw[Zr e];rfl
 |lst e=>rw[Zx,e];rfl
 |aW e=>rw[Zx,e];rfl
 |dK e=>rw[Zx,e];rfl
 |dT e=>rw[Zx,e];rfl
 |_=>rfl
theorem UK (x:V):whole x=(wN x&& !BH x):=by cases x<;>rfl
def FW (i j k:Nat) (ta:TA):TS:=fun D σ H=>ta σ H fun vs H1=> ∃v w z,vs=[v,w,z]∧D.nx (((σ.set k (some z)).set j (some w)).set i (some v)) H1
theorem W6 {X:Cx}{pos:Pos}{i j k:Nat}{x y z:Str}{a b c:Expr}{ta:TA}{px py pz pt:Pos}{kt k2 lC} (hc:X.calm=true) (hN:X.N.Nodup) (hi:X.N[i]? =some x) (hj:X.N[j]? =some y) (hk:X.N[k]? =some z)
  (hx:X.env.scope.names.lookup x=some .local) (hy:X.env.scope.names.lookup y=some .local) (hz:X.env.scope.names.lookup z=some .local) (ha:PA X [a,b,c] ta)
  (hw:swappedStores [.Tuple [.Name x px,.Name y py,.Name z pz] kt pt] (.Tuple [a,b,c] k2 lC) X.env=pure (some [x,y,z]):=by rfl)
  (hs:swapsWithSole [.Tuple [.Name x px,.Name y py,.Name z pz] kt pt] (.Tuple [a,b,c] k2 lC) pos.line X.env=pure false:=by rfl):
  PS X (.Assign [.Tuple [.Name x px,.Name y py,.Name z pz] kt pt] (.Tuple [a,b,c] k2 lC) pos) (FW i j k ta):=by
 intro pins s σ H D I h
 rw[exec_Assign_arm]
 refine wpAny_bind (wpAny_standAt ?_)
 rw[hs]
 refine wpAny_bind (wpAny_pure ?_)
 rw[if_neg (by decide)]
 refine wpAny_bind (Tuple_ (ar (ha _ pins s σ H _ I h) fun us s1 ⟨vs,H1,I1,r1,q1⟩=> ?_))
 obtain⟨v,w,t,e1,q1⟩:=q1
 subst e1
 obtain⟨u1,u2,u3,rfl,rv,fX,rt⟩:∃u1 u2 u3,us=[u1,u2,u3]∧RelV v u1∧RelV w u2∧RelV t u3:=by
  cases r1 with
  |cons p q=>
   cases q with
   |cons p' q'=>
    cases q' with
    |cons HA Hl=>
     cases Hl
     exact⟨_,_,_,rfl,p,p',HA⟩
 refine wpAny_newObj_type ?_ (by show 3≤sizeLine;decide)
 have I2:Inv X pins σ H1 {s1 with heap:=s1.heap.push {cls:=.type "tuple",data:=.seq [u1,u2,u3].toArray} } :=I1.kept (t':=s1.toks) fun b o e=>Heap.get?_push_of_some _ e
 rw[hw]
 refine wpAny_bind (wpAny_pure ?_)
 show wpAny (model X.prog X.w) X.A (do rule "assign.swapped-stores";let items ←unpackItems (.ref s1.heap.objs.size) 3 none;assignInOrder [fun v=>bindName X.env z v,fun v=>bindName X.env y v,fun v=>bindName X.env x v] items.reverse;pure Flow.next) _ _ _
 refine wpAny_bind (wpAny_rule (wpAny_bind (unpackItems_tuple (items:= #[u1,u2,u3]) (I.ok.hd hc) (IsTup.new s1.heap _) fun h' gZ=> ?_)))
 have I3:=I2.kept (h':=h') (t':=s1.toks) fun b o e=>gZ b o (Nat.ne_of_lt (Heap.lt_size e)) e
 show wpAny _ _ (assignInOrder [fun v=>bindName X.env z v,fun v=>bindName X.env y v,fun v=>bindName X.env x v] [u3,u2,u1] >>=fun _=>pure Flow.next) _ _ _
 refine wpAny_bind (assignInOrder_cons (wpAny_bindName (Yf I3 hN hk (.inl hz) rt (fun s2 I4=> ?_) (.inr hz))))
 refine assignInOrder_cons (wpAny_bindName (Yf I4 hN hj (.inl hy) fX (fun s3 I5=> ?_) (.inr hy)))
 refine assignInOrder_cons (wpAny_bindName (Yf I5 hN hi (.inl hx) rv (fun s4 I6=>assignInOrder_nil (wpAny_pure ?_)) (.inr hx)))
 exact⟨_,H1,I6,q1⟩
def aq (p:Addr) (H H':Hp):Prop:=∀b o,H b=some o→b≠p→H' b=some o
theorem aq.refl (p:Addr) (H:Hp):aq p H H:=fun _ _ h _=>h
theorem aq.trans {p:Addr}{H H1 H2:Hp}(a:aq p H H1) (b:aq p H1 H2):aq p H H2:=fun c o h n=>b c o (a c o h n) n
theorem ae.x {p:Addr}{H H1:Hp}(a:ae H H1):aq p H H1:=fun c o h _=>a c o h
theorem aq.upd {p:Addr}{H:Hp}{o:HO} :aq p H (L2.upd H p o):=fun b u h n=>by rw[Zh n];exact h
theorem O8 {X:Cx}(hu:X.A.units<cLine):bg X (compareOp .Eq) (fun x y H Q=> ∃(a b:Addr) (xs:List V),x=.ref a∧y=.ref b∧ah X.K H a xs∧ah X.K H b []∧Q (.bl xs.isEmpty) H):=by
 intro pins s σ H x y u v Q I rx ry h
 obtain⟨a,b,xs,rfl,rfl,ha,hb,q⟩:=h
 cases rx
 cases ry
 obtain⟨its,rv,pl,hz⟩:=I.list ha
 obtain⟨lN,rZ,lE,aF⟩:=I.list hb
 cases rZ
 cases rv with
 |nil=>exact SeqAt.eq_listAt (e:=fun _=>true) pl.isList lE.isList rfl hu (fun j h1 h2=>absurd h2 (by simp)) ⟨.bl true,H,I,rfl,q⟩
 |cons r t=>exact SeqAt.eq_list_lengthsAt pl.isList lE.isList (by simp) hu ⟨.bl false,H,I,rfl,q⟩
theorem Ea {X:Cx}(hu:X.A.units<cLine):bg X (compareOp .NotEq) (fun x y H Q=> ∃(a b:Addr) (xs:List V),x=.ref a∧y=.ref b∧ah X.K H a xs∧ah X.K H b []∧Q (.bl (!xs.isEmpty)) H):=by
 intro pins s σ H x y u v Q I rx ry h
 obtain⟨a,b,xs,rfl,rfl,ha,hb,q⟩:=h
 cases rx
 cases ry
 obtain⟨its,rv,pl,hz⟩:=I.list ha
 obtain⟨lN,rZ,lE,aF⟩:=I.list hb
 cases rZ
 cases rv with
 |nil=>exact SeqAt.RcNeAt.lists (e:=fun _=>true) pl.isList lE.isList rfl hu (fun j h1 h2=>absurd h2 (by simp)) _ _ _ _ ⟨.bl false,H,I,rfl,q⟩
 |cons r t=>exact SeqAt.RcNeAt.lists_lengths pl.isList lE.isList (by simp) hu _ _ _ _ ⟨.bl true,H,I,rfl,q⟩
section
variable {prog:Program}{w:World}{A:Around}{E:Value→Shared→Prop}{s:Shared}
theorem RA {j t:Addr}{i:Nat}{its:Array Value}{x:Value}{Q:Value→Shared→Prop}(h1:s.heap.IsTupleIter j t i) (h2:s.heap.IsTuple t its) (hx:its[i]? =some x)
  (k:∀h',h'.IsTupleIter j t (i+1)→Heap.SameBut j s.heap h'→Q x {s with heap:=h'}):wpAny (model prog w) A (Builtin.SmallTypes.nextOf (.ref j)) Q E s:=by
 obtain⟨o,eo,co,dO⟩:=id h1
 obtain⟨ot,et,_,nt,dt⟩:=h2
 unfold Builtin.SmallTypes.nextOf
 refine wpAny_bind (wpAny_callSpecial?_slot (name:=Str.ofString "__next__") h1.typeIs F.slot_tuple_iterator_next (wpAny_call_entry F.slot_tuple_iterator_next h1.typeIs F.entry_tuple_iterator_next ?_ (F.args_tuple_iterator_next_1 _)))
 show wpAny _ _ (field (.ref j) 0 >>=_) _ _ s
 refine wpAny_bind (wpAny_field eo dO (x:=.ref t) rfl ?_)
 show wpAny _ _ (if (Value.ref t==Value.none)=true then _ else _) _ _ s
 rw[if_neg (show ¬((Value.ref t==Value.none)=true) from Bool.false_ne_true)]
 show wpAny _ _ (field (.ref j) 1 >>=_) _ _ s
 refine wpAny_bind (wpAny_field eo dO (x:=.int i 0) rfl ?_)
 show wpAny _ _ (seqItems? (.ref t) >>=_) _ _ s
 refine wpAny_bind (wpAny_seqItems et dt ?_)
 simp only[Int.toNat_natCast,hx]
 refine wpAny_bind (wpAny_setField eo dO (by simp) (wpAny_pure ⟨x,rfl,wpAny_pure (k _ ⟨_,Heap.get?_update_self _ eo (Obj.isFreed_of_fields (Obj.data_mapFields dO _)),(Obj.cls_mapFields ..).trans co,?_⟩ (Heap.SameBut.update ..))⟩))
 rw[Obj.data_mapFields dO]
 simp[rawInt]
theorem QU {j t:Addr}{i:Nat}{its:Array Value}{Q:Value→Shared→Prop}(hh:A.handled=none) (h1:s.heap.IsTupleIter j t i) (h2:s.heap.IsTuple t its) (hx:its[i]? =none)
  (k:∀h' e,Heap.ExtBut j s.heap h'→(∃o,h'.get? e=some o∧o.cls=.type "StopIteration")→E (.ref e) {s with heap:=h'}):wpAny (model prog w) A (Builtin.SmallTypes.nextOf (.ref j)) Q E s:=by
 obtain⟨o,eo,co,dO⟩:=id h1
 obtain⟨ot,et,_,nt,dt⟩:=h2
 unfold Builtin.SmallTypes.nextOf
 refine wpAny_bind (wpAny_callSpecial?_slot (name:=Str.ofString "__next__") h1.typeIs F.slot_tuple_iterator_next (wpAny_call_entry F.slot_tuple_iterator_next h1.typeIs F.entry_tuple_iterator_next ?_ (F.args_tuple_iterator_next_1 _)))
 show wpAny _ _ (field (.ref j) 0 >>=_) _ _ s
 refine wpAny_bind (wpAny_field eo dO (x:=.ref t) rfl ?_)
 show wpAny _ _ (if (Value.ref t==Value.none)=true then _ else _) _ _ s
 rw[if_neg (show ¬((Value.ref t==Value.none)=true) from Bool.false_ne_true)]
 show wpAny _ _ (field (.ref j) 1 >>=_) _ _ s
 refine wpAny_bind (wpAny_field eo dO (x:=.int i 0) rfl ?_)
 show wpAny _ _ (seqItems? (.ref t) >>=_) _ _ s
 refine wpAny_bind (wpAny_seqItems et dt ?_)
 simp only[Int.toNat_natCast,hx]
 refine wpAny_bind (wpAny_rule (wpAny_bind (wpAny_setField eo dO (by simp) ?_)))
 show wpAny _ _ (newExc (.type "StopIteration") [] >>=_) _ _ _
 refine wpAny_bind ?_
 simp only[newExc,newTuple]
 refine wpAny_bind (wpAny_newObj_type ?_ (by size_fits))
 refine wpAny_bind (m:=firstArgMember _ _) (wpAny_of_eq (a:=Value.none) (by first |rfl |(simp only[firstArgMember];rfl)) (wpAny_newObj_type ?_ (by size_fits)))
 simp only[raiseNew]
 refine wpAny_bind (wpAny_handled ?_)
 first |rw[show A.in1.handled=none from hh] |rw[hh]
 exact wpAny_bind (wpAny_pure (wpAny_throw (k _ _ (((Heap.SameBut.update ..).extBut.push _).push _) ⟨_,Heap.get?_push_size _ rfl,rfl⟩)))
end
theorem Dr {prog:Program}{w:World}{A:Around}(hh:A.handled=none) (j t:Addr) (bZ:t≠j) (its:Array Value):
  Draws prog w A j [j,t] its.size (fun i v=>its[i]? =some v) (fun i h=>h.IsTupleIter j t i∧h.IsTuple t its) where
 live:=fun _ _ st=>let ⟨o,ho,_⟩:=st.1;⟨o,ho⟩
 frame:=fun _ _ _ st hk=> ⟨st.1.at fun o e=>hk j (by simp) o e,st.2.at fun o e=>hk t (by simp) o e⟩
 item:=fun i s Q E hi st hQ=>RA st.1 st.2 (x:=its[i]) (by simp[hi]) fun h' a b=>hQ _ h' s.toks (by simp[hi]) ⟨a,st.2.extBut b.extBut bZ⟩ b
 done:=fun s Q E st hE=>QU hh st.1 st.2 (by simp) hE
section
variable {prog:Program}{w:World}{A:Around}{E:Value→Shared→Prop}{s:Shared}
theorem QG (l:Addr) (its:Array Value) (n:Nat) (dZ:Option Addr) (sl:Array (Option Value)):
  Meets (Builtin.«enumerate.__new__» ⟨[.type "enumerate",.ref l],[]⟩) (fun _ R s=>s.heap.get? l=some {cls:=.type "tuple",dict:=dZ,data:=.seq its n,slots:=sl}∧
   R (.ok (.ret (.ref (s.heap.push {cls:=.type "tuple_iterator",data:=.fields #[.ref l,.int 0 0]}).objs.size)))
    {s with heap:=(s.heap.push {cls:=.type "tuple_iterator",data:=.fields #[.ref l,.int 0 0]}).push {cls:=.type "enumerate",data:=.fields #[.none,.bool false,.ref s.heap.objs.size,rawInt 0,.none,.none]} }):=
 .of_wp fun prog w A R s h=>by
  obtain⟨hp,g,d,tk,os⟩:=s
  obtain⟨hl,h⟩:=h
  have Tz:=sub_enumerate
  have hL:Heap.IsTuple (Shared.heap ⟨hp,g,d,tk,os⟩) l its:=⟨_,hl,rfl,n,rfl⟩
  wp_walk using AutoSeq1.wpAny_loadPart' hl
  refine wpAny_stack_any fun st=>wpAny_pure ?_
  split
  ·rename_i c _ _ _ _ _
   cases (c==Value.type "enumerate")<;> (wp_walk using AutoSeq1.wpAny_loadPart' hl,wpAny_pyIter_tuple hL;exact⟨_,rfl,h⟩)
  ·wp_walk using AutoSeq1.wpAny_loadPart' hl,wpAny_pyIter_tuple hL
   exact⟨_,rfl,h⟩
theorem Ru {l:Addr}{its:Array Value}{Q:Value→Shared→Prop}(hL:s.heap.IsTuple l its)
  (h:∀h',IsEnum h' (s.heap.objs.size+1) s.heap.objs.size 0 .none→h'.IsTupleIter s.heap.objs.size l 0→(∀b o,s.heap.get? b=some o→h'.get? b=some o)→Q (.ref (s.heap.objs.size+1)) {s with heap:=h'}):
  wpAny (model prog w) A (call (.type "enumerate") [.ref l]) Q E s:=by
 obtain⟨⟨c,dZ,dt,sl⟩,hl,hc,n,hd⟩:=hL
 replace hc:c=.type "tuple" :=hc
 replace hd:dt=.seq its n:=hd
 subst hc hd
 refine callType_new F.called_enumerate (by decide) (F.typeCall_enumerate_1 _) (F.newCall_enumerate_1 _) (fun obj=>F.args_object_init_2 obj _) F.entry_enumerate_new (QG l its n dZ sl) ⟨hl,?_⟩
 have hz:(s.heap.push {cls:=.type "tuple_iterator",data:=.fields #[.ref l,.int 0 0]}).objs.size=s.heap.objs.size+1:=Heap.size_push ..
 show _∧_
 rw[hz]
 have he:IsEnum ((s.heap.push {cls:=.type "tuple_iterator",data:=.fields #[.ref l,.int 0 0]}).push {cls:=.type "enumerate",data:=.fields #[.none,.bool false,.ref s.heap.objs.size,rawInt 0,.none,.none]}) (s.heap.objs.size+1) s.heap.objs.size 0 .none:=by
  have q:=Heap.get?_push_size (s.heap.push {cls:=.type "tuple_iterator",data:=.fields #[.ref l,.int 0 0]}) (o:= {cls:=.type "enumerate",data:=.fields #[.none,.bool false,.ref s.heap.objs.size,rawInt 0,.none,.none]}) rfl
  rw[hz]at q
  exact q
 exact⟨⟨_,he,rfl⟩,h _ he ⟨_,Heap.get?_push_of_some _ (Heap.get?_push_size _ rfl),rfl,rfl⟩ fun b o x=>Heap.get?_push_of_some _ (Heap.get?_push_of_some _ x)⟩
end
def y9 (K:PySem.W.Frag) (t:Addr):It:=
 ⟨fun i H=> ∃xs x,ao K H t xs∧xs[i]? =some x,fun i H x H'=> ∃(T:Addr) (y:V),x=.ref T∧H T=none∧H'=upd H T (.par [.int (i:Int),y])∧∀xs,ao K H t xs→xs[i]? =some y,fun i H=> ∃xs,ao K H t xs∧xs.length=i⟩
theorem RT {P:Program}{w:World}{K:PySem.W.Frag}{elts:List Expr}{kk:Nat}{pos:Pos}(t e j:Addr) (tI:e≠j) (BV:t≠e) (BU:t≠j):
  Turn P w K (.Tuple elts kk pos) (y9 K t) [e,j] e (fun i h=> (∃old,IsEnum h e j i old)∧h.IsTupleIter j t i) where
 mem:=by simp
 obj:=fun i h st b hb=>by
  obtain⟨⟨old,he⟩,o,ho,hc,hd⟩:=st
  rcases List.mem_cons.mp hb with rfl |hb
  ·exact⟨_,he,fun v z=>by cases z⟩
  ·rw[List.mem_singleton.mp hb]
   exact⟨o,ho,fun v z=>by rw[hd]at z;cases z⟩
 keep:=fun i h h' st k=> ⟨let ⟨old,he⟩:=st.1;⟨old,k e (by simp) _ he⟩,st.2.at fun o q=>k j (by simp) o q⟩
 item:=by
  intro X hP hw hK hc i pins s σ H E I hf st hg
  subst hP hw hK
  obtain⟨xs,x,hq,hx⟩:=hg
  obtain⟨its,rv,p,hz⟩:=I.tuple hq
  obtain⟨u,hu,ru⟩:=rv.get hx
  have hl:=rv.length
  have qa:i<its.toArray.size:=by
   have:=(List.getElem?_eq_some_iff.mp hu).1
   simpa using this
  have W:=WalksT.enumerateD (prog:=X.prog) (w:=X.w) (A:=X.A) (Dr (A:=X.A.in1) (show X.A.in1.handled=none from I.ok.hd hc) j t BU its.toArray) e tI (by simp[tI,BV.symm]) (by simp)
  have hT:s.heap.IsTuple t its.toArray:=p
  refine W.item i s _ _ qa ⟨st.1,st.2,hT⟩ fun T vals h' tk hP mq Mj Ck hk=> ⟨_,rfl,W.go elts kk pos i T _ _ _ Ck fun fj kU ke=> ?_⟩
  obtain⟨uJ,x2,wU,rfl⟩:=hP
  have BN:its[i]? =some x2:=by simpa using wU
  rw[hu]at BN
  cases BN
  have qr:H T=none:=I.ag.fresh mq
  have both:∀b o,b∉[e,j]→s.heap.get? b=some o→fj.get? b=some o:=fun b o hb q=>ke b o hb (hk b o hb q)
  have CO:T∉[e,j]:=W.apart _ _ _ Ck
  have Ml:fj.IsTuple T #[.int i uJ,u]:=Mj.at fun o q=>ke T o CO q
  have neT:∀b o,s.heap.get? b=some o→b≠T:=fun b o q=>Nat.ne_of_lt (Nat.lt_of_lt_of_le (Heap.lt_size q) mq)
  have gP:∀b o,H b=some o→b≠T:=fun b o q=>Zd q qr
  have eJ:∀b o,H b=some o→b∉[e,j]:=fun b o q z=>by
   have:=(hf b z).1
   rw[this]at q;cases q
  refine⟨.ref T,upd H T (.par [.int (i:Int),x]),?_,rfl,⟨T,x,rfl,qr,rfl,fun ys hy=>by rw[I.zZ hy hq];exact hx⟩,⟨kU.1,kU.2.1⟩,fun b hb=> ?_⟩
  ·refine(show Inv X pins σ (upd H T (.par [.int (i:Int),x])) {s with heap:=fj,toks:=tk} from ?_)
   refine I.call (g':=s.gens) (d':=s.drawn) (t':=tk) (h':=fj) (ch:=[e,j]) ⟨fun b o q _ _ hx=>both b o hx q,fun b o q _ _ hx=> ⟨o.slots,both b o hx q⟩,fun b o q n hx=>by rw[Zh (neT b o q)];exact n,fun b o q hx=> ⟨o,both b o hx q⟩,
    fun b ys q=>by rw[Zh (gP b _ q)];exact q,fun b o u q=>by rw[Zh (gP b _ q)];exact q,fun b ps q=> ⟨#[],by rw[Zh (gP b _ q),q];simp⟩⟩ (fun b v q=> ?_) I.bare fun b hb=> ?_
   ·by_cases hb:b=T
    ·subst hb
     rw[Zc]at q
     cases q
     exact⟨by show 2≤sizeLine;decide,[.int i uJ,u],.cons ⟨uJ,rfl⟩ (.cons ru .nil),Ml⟩
    ·rw[Zh hb]at q
     refine(I.ag b v q).dP (fun c z aV q'=>both c z ?_ q') (fun c q'=>by rw[Zh (gP c _ q')];exact q') fun c ys q'=>by rw[Zh (gP c _ q')];exact q'
     rcases aV with z' |z'
     ·rw[z'];exact eJ b v q
     ·exact eJ c _ z'
   ·obtain⟨f0,f1,f2,f3,f4,f5⟩:=hf b hb
    exact⟨f3,f1,f4,f5⟩
  ·rw[Zh (fun z=>CO (by rw[←z];exact hb))]
   exact(hf b hb).1
 done:=by
  intro X hP hw hK hc i pins s σ H E I hf st hg
  subst hP hw hK
  obtain⟨xs,hq,hx⟩:=hg
  obtain⟨its,rv,p,hz⟩:=I.tuple hq
  have hl:=rv.length
  have W:=WalksT.enumerateD (prog:=X.prog) (w:=X.w) (A:=X.A) (Dr (A:=X.A.in1) (show X.A.in1.handled=none from I.ok.hd hc) j t BU its.toArray) e tI (by simp[tI,BV.symm]) (by simp)
  have hn:i=its.toArray.size:=by rw[List.size_toArray];omega
  have hT:s.heap.IsTuple t its.toArray:=p
  rw[hn]at st
  refine W.done s _ _ ⟨st.1,st.2,hT⟩ fun h' tk hk=> ⟨rfl,?_⟩
  have eJ:∀b o,H b=some o→b∉[e,j]:=fun b o q z=>by
   have:=(hf b z).1
   rw[this]at q;cases q
  refine I.call (g':=s.gens) (d':=s.drawn) (t':=tk) (h':=h') (ch:=[e,j]) ⟨fun b o q _ _ hx=>hk b o hx q,fun b o q _ _ hx=> ⟨o.slots,hk b o hx q⟩,fun b o q n hx=>n,fun b o q hx=> ⟨o,hk b o hx q⟩,fun b ys q=>q,fun b o u q=>q,fun b ps q=> ⟨#[],by rw[q];simp⟩⟩ (fun b v q=> ?_) I.bare fun b hb=> ?_
  ·refine(I.ag b v q).dP (fun c z aV q'=>hk c z ?_ q') (fun _ q'=>q') fun _ _ q'=>q'
   rcases aV with z' |z'
   ·rw[z'];exact eJ b v q
   ·exact eJ c _ z'
  ·obtain⟨f0,f1,f2,f3,f4,f5⟩:=hf b hb
   exact⟨f3,f1,f4,f5⟩
 self:=fun A i s Q E st h=>let ⟨old,he⟩:=st.1;wpAny_pyIter_enum he h
section
variable {X:Cx}{elts:List Expr}{kk:Nat}{tp:Pos}
def Ki (K:PySem.W.Frag) (ta:TA):TI:=fun σ H R=>ta σ H fun vs H1=> ∃t,vs=[.ref t]∧(∃xs,ao K H1 t xs)∧R (y9 K t) H1
theorem Qb {a:Expr}{ta:TA}{p pos:Pos}(hg:Gl X "enumerate") (hm:X.mg "enumerate" =none) (ha:PA X [a] ta) (hs:starEach [a] X.env=[(false,eval a X.env)]:=by rfl):PI X (.Tuple elts kk tp) (.Call (.Name "enumerate" p) [a] [] pos) (Ki X.K ta):=by
 intro pins s σ H R I h
 refine Call_ (Jb I hg hm boot_enumerate (PyProof.Rows.callWith_type1 (ar (ha pos pins s σ H _ I h) fun us s1 ⟨vs,H1,I1,r1,q1⟩=> ?_) hs rfl))
 obtain⟨t,e,⟨xs,hq⟩,q⟩:=q1
 subst e
 obtain⟨u,rfl,ru⟩:=vals1 r1
 cases ru
 obtain⟨its,rv,pl,hz⟩:=I1.tuple hq
 have hT:s1.heap.IsTuple t its.toArray:=pl
 have ht:t<s1.heap.objs.size:=by obtain⟨o,ho,_⟩:=hT;exact Heap.lt_size ho
 refine Ru hT fun h' he hj hk=>wpAny_pyIter_enum he ?_
 have I2:Inv X pins σ H1 {s1 with heap:=h'} :=I1.kept (t':=s1.toks) hk
 refine⟨s1.heap.objs.size+1,[s1.heap.objs.size+1,s1.heap.objs.size],_,_,H1,rfl,I2,RT t _ _ (Nat.succ_ne_self _) (Nat.ne_of_lt (Nat.lt_succ_of_lt ht)) (Nat.ne_of_lt ht),⟨⟨_,he⟩,hj⟩,fun b hb=> ?_,q⟩
 have CI:s1.heap.objs.size≤b:=by
  rcases List.mem_cons.mp hb with z |z
  ·rw[z];exact Nat.le_succ _
  ·rw[List.mem_singleton.mp z];exact Nat.le_refl _
 exact I1.om CI (I1.ag.fresh CI)
end
theorem QT {K:PySem.W.Frag}{a:Addr}{xs:List V}{g:TG}{tt:TT}{ti:TC}{ys:List V}{σ:St}{H:Hp}{Q:List V→St→Hp→Prop}(Pv:Nat→List V→St→Hp→Prop) (h0:Pv 0 ys σ H)
  (hl:∀i ys σ H,i≤xs.length→Pv i ys σ H→ao K H a xs)
  (hs:∀i x T ys σ H,xs[i]? =some x→H T=none→Pv i ys σ H→g (.ref T) σ (upd H T (.par [.int (i:Int),x])) fun bC H2=>tt bC H2 fun b H3=>if b=true then ti ys bC H3 (Pv (i+1)) else Pv (i+1) ys bC H3)
  (hd:∀ys σ H,Pv xs.length ys σ H→Q ys σ H):iB g tt ti (y9 K a) ys σ H Q:=by
 refine⟨fun i m ys σ H=>m=xs.length - i∧i≤xs.length∧Pv i ys σ H,⟨xs.length,by simp,Nat.zero_le _,h0⟩,?_⟩
 rintro i m ys σ H ⟨rfl,hi,p⟩
 have q:=hl i ys σ H hi p
 by_cases aA:i<xs.length
 ·refine .inr ⟨⟨xs,xs[i],q,by simp[aA]⟩,Pv (i+1),fun bJ ai H' p'=> ⟨xs.length - (i+1),by omega,rfl,aA,p'⟩,fun x H' y=> ?_⟩
  obtain⟨T,z,e1,e2,e3,e4⟩:=y
  subst e1 e3
  exact hs i z T ys σ H (e4 xs q) e2 p
 ·have e:i=xs.length:=by omega
  subst e
  exact .inl ⟨⟨xs,q,rfl⟩,hd ys σ H p⟩
structure Fl (P:Program) (w:World) (outer:List Env) (H:Hp) (s:Shared) (e C:Addr) (H':Hp) (s':Shared):Prop where
 os:s'.os=s.os
 bare:AllBare s'.gens
 un:Un (aS outer) [] H H' s.heap s'.heap
 ag:bo P w H' s'.heap
 yg:∃B a0,Heap.FlyingW B outer e (.ref C) a0 s'.heap∧(∀b o,s.heap.get? b=some o→b∉aS outer→∃u,B.get? b=some u)∧∀b o,H' b=some o→∃u,B.get? b=some u
def bE (P:Program) (w:World):iZ:=fun outer H s E ev s'=> ∃e C H',ev=.ref e∧Fl P w outer H s e C H' s'∧E (.ref e) (some C) H'
section
variable {P:Program}{w:World}{base:Heap}{env:Env}{outer:List Env}{s0 s1 s2:Shared}{H0 H1 H2:Hp}{e C L:Addr}{A:Around}
theorem Y4 {B h1 h2:Heap}{H:Hp}(x:bo P w H h1) (bU:∀b o,H b=some o→∃u,B.get? b=some u) (k1:B.StaysIn h1) (k2:B.StaysIn h2):bo P w H h2:=fun a o ha=>
  (x a o ha).dP (fun b u hb hq=>by
    have:∃u',B.get? b=some u':=by
      rcases hb with rfl |hb
      · exact bU _ _ ha
      · exact bU _ _ hb
    obtain⟨u',hu⟩:=this
    have e1:=k1 b u' hu
    rw[hq]at e1
    cases e1
    exact k2 b _ hu) (fun _ q=>q) fun _ _ q=>q
theorem JS {B h':Heap}(u0:Un (aS outer) [] H0 H1 s0.heap s1.heap) (u1:Un (aS (env::outer)) [] H1 H2 s1.heap s2.heap) (hf:env.frame=some L) (ab:s0.heap.objs.size≤L) (fu:s0.heap.FunFrames base outer) (fz:∀b∈aS outer,H0 b=none)
  (bU:∀b o,s1.heap.get? b=some o→b∉aS (env::outer)→∃u,B.get? b=some u) (k1:B.StaysIn s2.heap) (k2:B.StaysIn h') (up:s2.heap.UpToSlots h'):Un (aS outer) [] H0 H2 s0.heap h':=by
 have nU:∀b,b∈aS (env::outer)↔b=L∨b∈aS outer:=fun b=>by
  show b∈(env::outer).filterMap (·.frame)↔_
  rw[List.filterMap_cons_some (f:=fun(x:Env)=>x.frame) (a:=env) (b:=L) hf,List.mem_cons]
  exact Iff.rfl
 have out:∀b o,s0.heap.get? b=some o→b∉aS outer→b∉aS (env::outer):=fun b o hb hn hm=>by
  rcases (nU b).mp hm with q |q
  ·rw[q]at hb
   exact absurd (Nat.lt_of_lt_of_le (Heap.lt_size hb) ab) (Nat.lt_irrefl _)
  ·exact hn q
 have wL:∀b o u,s2.heap.get? b=some o→B.get? b=some u→h'.get? b=some o:=fun b o u hb hu=>by
  have e1:=k1 b u hu
  rw[hb]at e1
  cases e1
  exact k2 b _ hu
 have nC:∀b o,s0.heap.get? b=some o→b∈aS outer→∃sl,h'.get? b=some {o with slots:=sl} :=fun b o hb hm=>by
  obtain⟨_,o',cu,nf⟩:=fu.mem hm
  rw[hb]at cu
  cases cu
  obtain⟨Gv,e1⟩:=u0.slot b o hb (fz b hm) hm (by simp)
  have n1:=u0.free b o hb (fz b hm) (by simp)
  obtain⟨kW,e2⟩:=u1.slot b _ e1 n1 ((nU b).mpr (.inr hm)) (by simp)
  obtain⟨Gu,e3⟩:=up b _ e2 nf
  exact⟨Gu,e3⟩
 refine⟨fun b o hb hn Cf _=> ?_,fun b o hb hn hm _=>nC b o hb hm,fun b o hb hn hx=> ?_,fun b o hb _=> ?_,fun b xs hb=>u1.fA b xs (u0.fA b xs hb),fun b o u hb=>u1.fk b o u (u0.fk b o u hb),fun b ps hb=> ?_⟩
 ·have e1:=u0.keep b o hb hn Cf (by simp)
  have n1:=u0.free b o hb hn (by simp)
  have gk:=out b o hb Cf
  have e2:=u1.keep b o e1 n1 gk (by simp)
  obtain⟨u,hu⟩:=bU b o e1 gk
  exact wL b o u e2 hu
 ·obtain⟨o1,e1⟩:=u0.there b o hb (by simp)
  have n1:=u0.free b o hb hn (by simp)
  exact u1.free b o1 e1 n1 (by simp)
 ·by_cases hm:b∈aS outer
  ·obtain⟨sl,q⟩:=nC b o hb hm
   exact⟨_,q⟩
  ·obtain⟨o1,e1⟩:=u0.there b o hb (by simp)
   obtain⟨u,hu⟩:=bU b o1 e1 (out b o hb hm)
   exact⟨u,k2 b u hu⟩
 ·obtain⟨m1,q1⟩:=u0.fc b ps hb
  obtain⟨m2,q2⟩:=u1.fc b _ q1
  exact⟨m1++m2,by rw[q2,Array.append_assoc]⟩
end
theorem Hx {P:Program}{w:World}{K:PySem.W.Frag}{mg:Str→Option Value}{base:Heap}{N:List Str}{qual:Str}{scope:Scope}{f:Addr}{cd:Value}{A:Around}{outer:List Env}{s:Shared}{H:Hp}{E:XK} :
  Passes (bE P w) (bD (bE P w) P w K mg base N qual scope f cd A outer s H E) E:=by
 intro pins σ H1 s1 ev s2 I h
 obtain⟨e,C,H',rfl,F,hE⟩:=h
 obtain⟨B,a0,fl,bU,fO⟩:=F.yg
 refine wpAny_leaves_onW (L:=s.heap.objs.size) I.ok.frames rfl fl fun h' mH up=> ?_
 refine⟨e,C,H',rfl,⟨F.os.trans I.os,F.bare,JS (base:=base) (L:=s.heap.objs.size) I.base F.un rfl (Nat.le_refl _) I.ok.dH I.ok.gB bU fl.1 mH.1 up,Y4 F.ag fO fl.1 mH.1,B,a0,mH,fun b o hb hn=> ?_,fO⟩,hE⟩
 obtain⟨o1,e1⟩:=I.base.there b o hb (by simp[bD])
 refine bU b o1 e1 fun hm=> ?_
 have cw:b∈(envOfC qual scope s.heap.objs.size f cd::outer).filterMap (·.frame):=hm
 rw[List.filterMap_cons_some (f:=fun(x:Env)=>x.frame) (a:=envOfC qual scope s.heap.objs.size f cd) (b:=s.heap.objs.size) rfl]at cw
 rcases List.mem_cons.mp cw with q |q
 ·rw[q]at hb
  exact absurd (Heap.lt_size hb) (Nat.lt_irrefl _)
 ·exact hn q
theorem OG {K:PySem.W.Frag}{h:Heap}{C:Addr}{qI:List Value}{newId:String}(X:K.In h) (q:PySem.W.excIn K C qI newId=true):
  ∃bm N nm qn bs hdct sn sub ab col dd k0 k1 k2 k3 k5 mN,h.get? C=some (excClassObj nm qn C N bs bm hdct sn sub ab col dd k0 k1 k2 k3 k5 newId)∧h.Ns N mN∧mN "__init__" =none∧OwnTail h qI bm:=by
 unfold PySem.W.excIn at q
 split at q
 ·rename_i dd cd sl lk
  split at q
  ·rename_i c2 bm j0 j1 j2 j3 nn j5 em es
   rw[Bool.and_eq_true,Bool.and_eq_true,Bool.and_eq_true,Bool.and_eq_true,Bool.and_eq_true]at q
   obtain⟨⟨⟨⟨⟨q1,q2⟩,q3⟩,q4⟩,q5⟩,q6⟩:=q
   have z1:=beq_iff_eq.mp q1
   have z2:=beq_iff_eq.mp q2
   have z6:=beq_iff_eq.mp q6
   subst z1 z2
   have ob:=X _ _ lk
   have z3:cd.hasDel=false:=by revert q3;cases cd.hasDel<;>simp
   have zs:sl= #[j0,j1,j2,j3,some (.builtin nn),j5]:=by
    apply Array.toList_inj.mp
    rw[es]
   refine⟨bm,cd.ns,cd.name,cd.qualname,cd.bases,cd.hasDict,cd.slotNames,cd.subclasses,cd.abstract,cd.collection,dd,j0,j1,j2,j3,j5,h.nsMap cd.ns,?_,.of_isNs (PySem.W.isNs_of_in X q5),PySem.W.nsMap_none_of_in X q5 z6,PySem.W.tail_of_in X q4⟩
   rw[ob,zs]
   obtain⟨a1,a2,a3,a4,a5,a6,a7,a8,a9,a10,a11⟩:=cd
   cases em
   cases z3
   rfl
  ·cases q
 ·cases q
def FV (C:Addr) (E:XK) (ta:TA):TS:=fun _ σ H=>ta σ H fun vs H1=>vs.length≤sizeLine∧∀e,E (.ref e) (some C) H1
theorem UG {P:Program}{w:World}{K:PySem.W.Frag}{mg:Str→Option Value}{base:Heap}{N:List Str}{qual:Str}{scope:Scope}{f:Addr}{cd:Value}{A:Around}{outer:List Env}{s s1:Shared}{H H1:Hp}{E:XK}
  {pins:List (Addr×Obj)}{σ:St}{h':Heap}{e C:Addr}{vs:List Value} (I:Inv (bD (bE P w) P w K mg base N qual scope f cd A outer s H E) pins σ H1 s1) (mk:Heap.MadeExcOf s1.heap h' e (.ref C) vs) (hE:E (.ref e) (some C) H1):
  (bD (bE P w) P w K mg base N qual scope f cd A outer s H E).xe (.ref e) {s1 with heap:=h'} :=by
 have nX:∀env∈(envOfC qual scope s.heap.objs.size f cd::outer),∀b,env.frame=some b→b∈aS (envOfC qual scope s.heap.objs.size f cd::outer):=fun env he b hb=>List.mem_filterMap.mpr ⟨env,he,hb⟩
 have st:=I.stack
 refine wpAny_leaves_madeW (L:=s.heap.objs.size) (base:=PySem.W.hideAll s1.heap (aS (envOfC qual scope s.heap.objs.size f cd::outer))) (h:=s1.heap) I.ok.frames rfl (fun b o q=>PySem.W.of_hideAll _ q) (PySem.W.funFrames_hide st nX) mk fun h2 t fl tp _ up=> ?_
 have bU:∀b o,s1.heap.get? b=some o→b∉aS (envOfC qual scope s.heap.objs.size f cd::outer)→∃u,(PySem.W.hideAll s1.heap (aS (envOfC qual scope s.heap.objs.size f cd::outer))).get? b=some u:=fun b o hb hn=> ⟨o,PySem.W.hideAll_get _ hb hn⟩
 have fO:∀b o,H1 b=some o→∃u,(PySem.W.hideAll s1.heap (aS (envOfC qual scope s.heap.objs.size f cd::outer))).get? b=some u:=fun b o hb=>by
  have hl:=I.ag.lt hb
  have hx:∃u,s1.heap.get? b=some u:=by
   have ok:=I.ag b o hb
   cases o with
   |lst xs=>obtain⟨_,_,_,_,q⟩:=ok;exact⟨_,q⟩
   |tup xs=>obtain⟨_,_,_,⟨ob,q,_⟩,_⟩:=ok;exact⟨_,q⟩
   |par xs=>obtain⟨_,_,_,ob,q,_⟩:=ok;exact⟨_,q⟩
   |dK kvs=>obtain⟨_,_,_,_,ob,_,_,q,_⟩:=ok;exact⟨_,q⟩
   |dT kvs=>obtain⟨_,_,_,_,ob,_,_,q,_⟩:=ok;exact⟨_,q⟩
   |set S n=>obtain⟨ob,_,_,_,q,_⟩:=ok;exact⟨_,q⟩
   |ins C dx fs=>obtain⟨_,_,_,q,_⟩:=ok;exact⟨_,q⟩
   |own y=>exact ok
   |xd fs=>obtain⟨_,⟨_,_,_,q,_⟩,_⟩:=ok;exact⟨_,q⟩
   |fY lo hi=>obtain⟨_,_,_,q⟩:=ok;exact⟨_,q⟩
   |aW ob u=>exact⟨_,ok.1⟩
   |cg ps=>exact⟨_,(show s1.heap.get? b=some _ from ok)⟩
   |met f y=>exact⟨_,(show s1.heap.get? b=some _ from ok)⟩
   |ext φ=>exact ok.2.1
  obtain⟨u,hu⟩:=hx
  exact bU b u hu fun hm=>by
   have:=I.mZ b hm
   rw[this]at hb
   cases hb
 have k1:Heap.StaysIn (PySem.W.hideAll s1.heap (aS (envOfC qual scope s.heap.objs.size f cd::outer))) h':=fun b o q=>mk.keeps b o (PySem.W.of_hideAll _ q)
 refine⟨e,C,H1,rfl,⟨I.os,I.bare,JS (s1:=s1) (s2:= {s1 with heap:=h'}) (base:=base) (L:=s.heap.objs.size) I.base (Un.kept mk.keeps) rfl (Nat.le_refl _) I.ok.dH I.ok.gB bU k1 fl.1 up,Y4 (I.ag.kept mk.keeps) fO k1 fl.1,_,_,fl,fun b o hb hn=> ?_,fO⟩,hE⟩
 obtain⟨o1,e1⟩:=I.base.there b o hb (by simp[bD])
 refine bU b o1 e1 fun hm=> ?_
 have cw:b∈(envOfC qual scope s.heap.objs.size f cd::outer).filterMap (·.frame):=hm
 rw[List.filterMap_cons_some (f:=fun(x:Env)=>x.frame) (a:=envOfC qual scope s.heap.objs.size f cd) (b:=s.heap.objs.size) rfl]at cw
 rcases List.mem_cons.mp cw with q |q
 ·rw[q]at hb
  exact absurd (Heap.lt_size hb) (Nat.lt_irrefl _)
 ·exact hn q
theorem J5 {P:Program}{w:World}{K:PySem.W.Frag}{mg:Str→Option Value}{base:Heap}{N:List Str}{qual:Str}{scope:Scope}{f:Addr}{cd:Value}{A:Around}{outer:List Env}{s:Shared}{H:Hp}{E:XK}{x:Str}{C:Addr}{B newId Kd:String}{qI:List Value}
  {mI:Expr}{rest:List Expr}{np bw pos:Pos}{ta:TA} (FB:ExcBaseFacts B newId Kd qI) (hmg:mg x=some (.ref C)) (hex:PySem.W.excIn K C qI newId=true) (hg:Gl (bD (bE P w) P w K mg base N qual scope f cd A outer s H E) x)
  (ha:PA (bD (bE P w) P w K mg base N qual scope f cd A outer s H E) (mI::rest) ta)
  (he:starEach (mI::rest) (envOfC qual scope s.heap.objs.size f cd)=(false,eval mI (envOfC qual scope s.heap.objs.size f cd))::starEach rest (envOfC qual scope s.heap.objs.size f cd):=by rfl)
  (dA:(backTo bw (starEach rest (envOfC qual scope s.heap.objs.size f cd))).any (·.1)=false:=by rfl) (hd:(x==("__debug__" :Str))=false:=by decide):
  PS (bD (bE P w) P w K mg base N qual scope f cd A outer s H E) (.Raise (some (.Call (.Name x np) (mI::rest) [] bw)) none pos) (FV C E ta):=by
 intro pins s1 σ H1 D I h
 obtain⟨bm,Nn,nm,qn,bs,hdct,sn,sub,ab,col,dd,k0,k1,k2,k3,k5,mN,hC,hN,K9,T⟩:=OG I.mod.nO hex
 refine wpAny_Raise_call_subT (C:=C) (nm:=nm) (q:=qn) (N:=Nn) (bs:=bs) (bm:=bm) (hdct:=hdct) (sn:=sn) (sub:=sub) (ab:=ab) (col:=col) (dd:=dd) (k0:=k0) (k1:=k1) (k2:=k2) (k3:=k3) (k5:=k5)
  FB (mN:=mN) (T.hasType FB.hasBase) (I.ok.hd rfl) ?_ K9 (Jl I hg hmg ⟨rfl,?_⟩ hd)
 ·show(backTo bw (starEach (mI::rest) (envOfC qual scope s.heap.objs.size f cd))).any (·.1)=false
  rw[he]
  show(false||(backTo bw (starEach rest (envOfC qual scope s.heap.objs.size f cd))).any (·.1))=false
  rw[dA]
  rfl
 ·have q:=ha bw pins s1 σ H1 _ I h
  show wpAny _ _ (evalArgs (.ref C) true (backTo bw (starEach (mI::rest) (envOfC qual scope s.heap.objs.size f cd))) []) _ _ _
  have q':wpAny (model P w) (A.deeper (envOfC qual scope s.heap.objs.size f cd)) (spliced (backTo bw (starEach (mI::rest) (envOfC qual scope s.heap.objs.size f cd)))) _ _ s1:=q
  rw[he]at q' ⊢
  refine Calls.evalArgs_plain (wpAny_mono q' (fun us s2 h2=> ?_) fun _ _ y=>y)
  obtain⟨vs,H2,I2,r,hz,hE⟩:=h2
  refine⟨rfl,by rw[←r.length];exact hz,I2.bk _ _ hC,hN.keeps I2.bk,T.keeps I2.bk,fun h' e mk=> ?_⟩
  exact UG I2 mk (hE e)
section
variable {X:Cx}
def F7 (ta tb:TE):TE:=fun σ H Q=>ta σ H fun v H1=> ∃x,v=.str x∧(Str.empty++x).length≤sizeLine∧tb σ H1 fun u H2=> ∃n:Int,u=.int n∧n.natAbs.log2<1920∧(Str.empty++x++(Str.ofString (toString n))).length≤sizeLine∧∀z,Q (.str z) H2
theorem P9 {a b:Expr}{ta tb:TE}{p pos:Pos}(ha:PE X a ta) (hb:PE X b tb):PE X (.JoinedStr [a,.FormattedValue b (-1) none p] pos) (F7 ta tb):=by
 intro pins s σ H Q I h
 refine JoinedStr_many (joinParts_cons (wpAny_mono (ha pins s σ H _ I h) (fun u s1 h1=> ?_) fun _ _ y=>y))
 obtain⟨v,H1,I1,r1,x,rfl,hz,h2⟩:=h1
 obtain⟨t,rfl⟩:=r1
 refine⟨hz,joinParts_cons (FormattedValue_plain (wpAny_mono (hb pins s1 σ H1 _ I1 h2) (fun u s2 h3=> ?_) fun _ _ y=>y))⟩
 obtain⟨v,H2,I2,r2,n,rfl,hn,aF,q⟩:=h3
 obtain⟨t2,rfl⟩:=r2
 refine formatField_int_small hn ⟨aF,?_⟩
 refine joinParts_nil ?_ aF
 exact⟨.str _,H2,(I2.tok _).tok _,⟨_,rfl⟩,q _⟩
end
section
variable {P:Program}{w:World}{K:PySem.W.Frag}{mg:Str→Option Value}{base:Heap}
theorem aJ.iF {x qual:Str}{st:Stmt}{f:Addr}{fd:FuncData}{N ps:List Str}{k:Nat}{sp:Sp}(F:aJ K x qual st f fd) (S:br N ps (ay st)) (len:∀vs H Q E,sp vs H Q E→vs.length=ps.length)
    (hb:∀(ak:Value) (A:Around) (outer:List Env) (s:Shared) (H:Hp) (vs:List V) (Q:VK) (E:XK),bR k (A.deeper (envOfC qual (ay st) s.heap.objs.size f ak))→sp vs H Q E→
      ∃t,eY (bD (bE P w) P w K mg base N qual (ay st) f ak A outer s H E) (bM st) t∧t {nx:=fun _ H'=>Q .af H',rt:=Q} (start N vs) H):aE P w K mg base (bE P w) (k+1) f fd ps sp:=by
  obtain⟨oc,od,kV,doc,pm,an,ak,ct,fg,rfl,lk,cG⟩:=F.ex
  exact yM lk cG S len fun A outer s H vs Q E hr dw=>hb ak A outer s H vs Q E hr dw
def bA (P:Program) (w:World) (K:PySem.W.Frag) (mg:Str→Option Value) (base:Heap) (k:Nat) (x:Str) (ps:List Str) (sp:Sp):Prop:=
 ∃f fd,aE P w K mg base (bE P w) k f fd ps sp∧mg x=some (.ref f)∧PySem.W.keepIn K (.ref f)=true∧Binds K fd ps []
theorem ZZ {N:List Str}{qual:Str}{scope:Scope}{f:Addr}{cd:Value}{A:Around}{outer:List Env}{s:Shared}{H:Hp}{E:XK}{k:Nat}{x:Str}{ps:List Str}{sp:Sp}{e:Expr}{es:List Expr}{t:TA}{p pos:Pos}
  (d:bA P w K mg base k x ps sp) (hr:bR k (A.deeper (envOfC qual scope s.heap.objs.size f cd))) (ha:PA (bD (bE P w) P w K mg base N qual scope f cd A outer s H E) (e::es) t) (hg:Gl (bD (bE P w) P w K mg base N qual scope f cd A outer s H E) x:=by rfl)
  (jq:(x==("__debug__" :Str))=false:=by decide)
  (he:starEach (e::es) (envOfC qual scope s.heap.objs.size f cd)=(false,eval e (envOfC qual scope s.heap.objs.size f cd))::starEach es (envOfC qual scope s.heap.objs.size f cd):=by rfl)
  (dA:(backTo pos (starEach es (envOfC qual scope s.heap.objs.size f cd))).any (·.1)=false:=by rfl):
  PE (bD (bE P w) P w K mg base N qual scope f cd A outer s H E) (.Call (.Name x p) (e::es) [] pos) (uM sp [] E t):=by
 obtain⟨g,fd,F,hm,hk,hb⟩:=d
 exact Yq F hr hg hm hk hb .nil Hx ha jq he dA
end
end L2
namespace L2
open PySem PySem.Spec PyProof.Rows PySem.Builtin PySem.Builtin.ObjectAttr PySem.Builtin.Getset_descriptor
def kB (e C:Addr):HO:=.ext fun h=> ∃o,h.get? e=some o∧o.cls=.ref C
structure mU (K:PySem.W.Frag) (C:Addr):Prop where
 ga:PySem.W.findIn K (.ref C) "__getattribute__" =some (some (.builtin "BaseException.__getattribute__"))
 hook:PySem.W.findIn K (.ref C) "__getattr__" =some none
 cl:PySem.W.findIn K (.ref C) "__class__" =some (some (.builtin "object.__class__"))
 ob:PySem.W.mroIn K C (.type "object")=some true
 bx:PySem.W.mroIn K C (.type "BaseException")=some true
 cls:(PySem.W.clsIn K C).isSome=true
section
variable {prog:Program}{w:World}{A:Around}{E:Value→Shared→Prop}{s:Shared}{K:PySem.W.Frag}{e C:Addr}{o:Obj}{R:Result→Shared→Prop}
theorem Jy {M:Model}{h:Heap}(hx:h.get? e=some o) (hc:o.cls=.ref C):PySem.W.Looks M h (typeOf (.ref e)) (.ref C):=hc▸(PySem.W.Looks.ld hx).andThen .now
theorem PH {tp:Value}(X:K.In s.heap) (hx:s.heap.get? e=some o) (hc:o.cls=.ref C) (Z:mU K C) (h:R (.ok (.ret (.ref C))) s):
  codeAny (model prog w) A (.call (.builtin "getset_descriptor.__get__") ⟨[.builtin "object.__class__",.ref e,tp],[]⟩) R s:=by
 obtain⟨h0,g0,d0,t0,o0⟩:=s
 have LT:=Jy (M:=model prog w) hx hc
 have LM:=PySem.W.looks_mroIn (M:=model prog w) X Z.ob
 refine codeAny_call_builtin PySem.W.KF.slot_gs.plain PySem.W.KF.entry_gs (PySem.W.KF.slot_gs.check _ _ _ _ _ _ _ _ PySem.W.KF.type_class (PySem.W.KF.args_gs _ _ _) ?_)
 unfold Builtin.«getset_descriptor.__get__» descrGet
 rw[PySem.W.dga_obj]
 refine wpAny_bind (wpAny_pure ?_)
 unfold descrGetter descrCheckInstance descrNameAndClass isInstance
 simp only[PySem.W.KF.owner_class]
 repeat lk
 refine⟨Code.quiet_builtin _ (by decide+kernel),codeAny_builtin PySem.W.KF.entry_class ?_⟩
 unfold Builtin.«object.__class__» shownTypeOf
 repeat lk
 exact h
theorem QH {tk:Tok}{Q:PySem.Fin→Shared→Prop}(X:K.In s.heap) (hx:s.heap.get? e=some o) (hc:o.cls=.ref C) (Z:mU K C) (hq:Q (.done (.ret (.ref C))) s):
  wpAny (model prog w) A (Builtin.«object.__getattribute__» ⟨[.ref e,.str "__class__" tk],[]⟩) Q E s:=by
 obtain⟨h0,g0,d0,t0,o0⟩:=s
 have LT:=Jy (M:=model prog w) hx hc
 have LC:=PySem.W.looks_findIn (M:=model prog w) X Z.cl
 have TR:(⟨h0,g0,d0,t0,o0⟩:Shared).TypeIs (.builtin "object.__class__") "getset_descriptor" :=F.typeOf_object_class
 have f5:=F.typeOf_object_class
 have f6:=F.slot_gs_get.lookup
 have f7:=F.slot_gs_set.lookup
 repeat (any_goals (first |assumption |with_reducible refine LT.at ?_ |with_reducible refine LC.at ?_ |wp_step))
 refine PH (s:=⟨h0,g0,d0,t0,o0⟩) X hx hc Z ?_
 exact wpAny_pure hq
theorem PF {tk:Tok}(X:K.In s.heap) (hx:s.heap.get? e=some o) (hc:o.cls=.ref C) (Z:mU K C) (hq:R (.ok (.ret (.ref C))) s):
  codeAny (model prog w) A (.call (.builtin "BaseException.__getattribute__") ⟨[.ref e,.str "__class__" tk],[]⟩) R s:=by
 refine codeAny_call_builtin F.attr_ValueError.ga.plain F.entry_bexc_ga ?_
 obtain⟨h0,g0,d0,t0,o0⟩:=s
 have LT:=Jy (M:=model prog w) hx hc
 have LB:=PySem.W.looks_mroIn (M:=model prog w) X Z.bx
 have hk:builtinKind "BaseException.__getattribute__" =some .slot:=by decide+kernel
 have dw:splitId "BaseException.__getattribute__" =some ("BaseException", "__getattribute__"):=by decide+kernel
 have ha:=F.args_bexc_ga (.ref e) (.str "__class__" tk)
 simp only[checkBuiltinCall,hk,dw]
 have LI:PySem.W.Looks (model prog w) h0 (isInstance (.ref e) (.type "BaseException")) true:=LT.andThen LB
 refine wpAny_bind (LI.at ?_)
 repeat (first |exact QH (s:=⟨h0,g0,d0,t0,o0⟩) X hx hc Z hq |assumption |wp_step)
theorem PD {Q:Option Value→Shared→Prop}(X:K.In s.heap) (hx:s.heap.get? e=some o) (hc:o.cls=.ref C) (Z:mU K C) (hq:Q (some (.ref C)) {s with toks:=s.toks+1}):
  wpAny (model prog w) A (getAttr? (.ref e) "__class__") Q E s:=by
 obtain⟨h0,g0,d0,t0,o0⟩:=s
 have LT:=Jy (M:=model prog w) hx hc
 have L1:=PySem.W.looks_findIn (M:=model prog w) X Z.ga
 have L2:=PySem.W.looks_findIn (M:=model prog w) X Z.hook
 have f3:=F.attr_ValueError.ga.bind (.ref e)
 have wU:(Value.builtin "BaseException.__getattribute__" ==Value.builtin "object.__getattribute__")=false:=by decide+kernel
 have wV:(onTheHeap (Value.ref C)&&Value.builtin "BaseException.__getattribute__" ==Value.builtin "object.__getattribute__")=false:=by rw[wU];rfl
 unfold getAttr? getAttrBy? getAttrBy
 refine wpAny_bind (wpAny_mkText (wpAny_bind (wpAny_attempt (wpAny_holding (wpAny_bind (LT.at (wpAny_bind (L1.at ?_))))))))
 repeat (any_goals (first |assumption |with_reducible refine L2.at ?_ |wp_step))
 refine PF (s:=⟨h0,g0,d0,t0+1,o0⟩) X hx hc Z ?_
 repeat (any_goals (first |assumption |wp_step))
theorem PQ (Z:mU K C):PySem.W.KitX K (.ref e) (.ref C) (fun h=> ∃o,h.get? e=some o∧o.cls=.ref C) where
 ty:=fun M h _ ⟨o,hx,hc⟩=>Jy hx hc
 it:=fun M h X _=>by
  obtain⟨cd,cG⟩:=Option.isSome_iff_exists.mp Z.cls
  unfold PySem.W.clsIn at cG
  split at cG
  ·rename_i lk
   intro A2 Q2 E2 s2 k q
   unfold isType loadHead
   exact wpAny_bind (wpAny_loadPart (k _ _ (X _ _ lk)) (wpAny_pure q))
  ·cases cG
 ne:=fun h tp dd its n sl X BQ=>by
  obtain⟨cd,cG⟩:=Option.isSome_iff_exists.mp Z.cls
  refine Bool.eq_false_iff.mpr fun q=> ?_
  have z:C=tp:=Value.ref.inj (beq_iff_eq.mp q)
  rw[←z]at BQ
  unfold PySem.W.clsIn at cG
  split at cG
  ·rename_i lk
   have y:=(X _ _ lk).symm.trans BQ
   cases y
  ·cases cG
 ca:=fun X ⟨o,hx,hc⟩ k=>PD X hx hc Z k
end
section
variable {X:Cx}
theorem Zs:cU X (.builtin "isinstance") (fun xs H Q=> ∃e C y c b,xs=[.ref e,y]∧H e=some (kB e C)∧mU X.K C∧(∀u,RelV y u→u=c)∧PySem.W.kitOne X.K (.ref C) c=some b∧Q (.bl b) H):=by
 rintro pins s σ H vs us Q I r ⟨e,C,y,c,b,rfl,he,Z,hy,hk,q⟩
 cases r with
 |cons r1 r2=>
  cases r2 with
  |cons r3 r4=>
   cases r4
   rw[hy _ r3]
   rw[show _=Value.ref e from r1]
   obtain⟨p,_,_⟩:=(show aO X.prog X.w H s.heap e (kB e C) from I.ag e _ he)
   exact PySem.W.kia_one (PQ Z) I.bW p hk (fun z=>nomatch z) fun tk=> ⟨.bl b,H,I.tok _,rfl,q⟩
end
end L2
namespace L2
open PySem PySem.Spec PyProof.Rows
abbrev Cx.dF (X:Cx) (e:Value):Cx:= {X with A:=X.A.mark (some e),calm:=false,xe:=fun _ _=>False}
section
variable {X:Cx}{pins:List (Addr×Obj)}{σ:St}{H H':Hp}{s s':Shared}
theorem Inv.dF (I:Inv X pins σ H s) (e:Value):Inv (X.dF e) pins σ H s:=
 ⟨⟨I.ok.mod,I.ok.kind,I.ok.glob,I.ok.blt,I.ok.above,I.ok.inj,I.ok.has,I.ok.kE,fun h=>Bool.noConfusion h,I.ok.frames,I.ok.nh,I.ok.kA,I.ok.bs,I.ok.ip,I.ok.jV,I.ok.kr,I.ok.dH,I.ok.gB⟩,I.os,I.bare,I.base,I.loc,I.cell,I.free,I.fm,I.pin,I.ag,I.len⟩
theorem Inv.Fi {e:Value}(I:Inv (X.dF e) pins σ H s) (hd:X.calm=true→X.A.handled=none):Inv X pins σ H s:=
 ⟨⟨I.ok.mod,I.ok.kind,I.ok.glob,I.ok.blt,I.ok.above,I.ok.inj,I.ok.has,I.ok.kE,hd,I.ok.frames,I.ok.nh,I.ok.kA,I.ok.bs,I.ok.ip,I.ok.jV,I.ok.kr,I.ok.dH,I.ok.gB⟩,I.os,I.bare,I.base,I.loc,I.cell,I.free,I.fm,I.pin,I.ag,I.len⟩
theorem Inv.Dw {e C:Addr}{B h':Heap}{o:Obj}(I:Inv X pins σ H s) (un:Un (aS X.stack) [] H H' s.heap s'.heap) (os:s'.os=s.os) (bare:AllBare s'.gens) (ag:bo X.prog X.w H' s'.heap)
  (bU:∀b o,s.heap.get? b=some o→b∉aS X.stack→∃u,B.get? b=some u) (fO:∀b o,H' b=some o→∃u,B.get? b=some u) (be:B.get? e=none) (k1:B.StaysIn s'.heap) (k2:B.StaysIn h') (up:s'.heap.UpToSlots h')
  (he:h'.get? e=some o) (hc:o.cls=.ref C) (hd:∃vs,o.data=.fields vs):Inv X pins σ (upd H' e (kB e C)) {s' with heap:=h'}∧H' e=none:=by
 have n0:H' e=none:=by
  cases q:H' e with
  |none=>rfl
  |some u=>
   obtain⟨u',hu⟩:=fO e u q
   rw[be]at hu
   cases hu
 have nC:∀b o,s.heap.get? b=some o→b∈aS X.stack→∃sl,h'.get? b=some {o with slots:=sl} :=fun b o hb hm=>by
  obtain⟨_,o',cu,nf⟩:=I.stack.mem hm
  rw[hb]at cu
  cases cu
  obtain⟨Gv,e1⟩:=un.slot b o hb (I.mZ b hm) hm (by simp)
  obtain⟨kW,e2⟩:=up b _ e1 nf
  exact⟨kW,e2⟩
 have HJ:∀b u,s.heap.get? b=some u→b≠e:=fun b u hb z=>by
  rw[z]at hb
  by_cases hm:e∈aS X.stack
  ·obtain⟨_,o',cu,nf⟩:=I.stack.mem hm
   rw[hb]at cu
   cases cu
   obtain⟨sl,q⟩:=nC e u hb hm
   rw[he]at q
   cases q
   obtain⟨vs,hv⟩:=hd
   exact nf vs hv
  ·obtain⟨u',hu⟩:=bU e u hb hm
   rw[be]at hu
   cases hu
 have wL:∀b o u,s'.heap.get? b=some o→B.get? b=some u→h'.get? b=some o:=fun b o u hb hu=>by
  have e1:=k1 b u hu
  rw[hb]at e1
  cases e1
  exact k2 b _ hu
 refine⟨I.yz (s':= {s' with heap:=h'}) (ch:=[]) os ⟨fun b u hb hn hf _=> ?_,fun b u hb hn hm _=>nC b u hb hm,fun b u hb hn _=> ?_,fun b u hb _=> ?_,fun b xs hb=> ?_,fun b u v hb=> ?_,fun b ps hb=> ?_⟩ ?_ bare (fun b hb=>absurd hb (by simp)),n0⟩
 ·have e1:=un.keep b u hb hn hf (by simp)
  obtain⟨u',hu⟩:=bU b u hb hf
  exact wL b u u' e1 hu
 ·rw[Zh (HJ b u hb)]
  exact un.free b u hb hn (by simp)
 ·by_cases hm:b∈aS X.stack
  ·obtain⟨sl,q⟩:=nC b u hb hm
   exact⟨_,q⟩
  ·obtain⟨u',hu⟩:=bU b u hb hm
   exact⟨u',k2 b u' hu⟩
 ·have q:=un.fA b xs hb
  rw[Zh (Zd q n0)]
  exact q
 ·have q:=un.fk b u v hb
  rw[Zh (Zd q n0)]
  exact q
 ·obtain⟨m,q⟩:=un.fc b ps hb
  exact⟨m,by rw[Zh (Zd q n0)];exact q⟩
 ·intro b u hb
  by_cases iO:b=e
  ·subst iO
   rw[Zc]at hb
   cases hb
   refine⟨⟨o,he,hc⟩,⟨o,he⟩,fun h1 h2 p k=> ?_⟩
   obtain⟨o1,q1,q2⟩:=p
   exact⟨o1,k _ q1,q2⟩
  ·rw[Zh iO]at hb
   have x:=Y4 ag fO k1 k2 b u hb
   refine x.dP (fun c w' iN q=>q) (fun c q=> ?_) fun c xs q=> ?_
   ·rw[Zh (Zd q n0)];exact q
   ·rw[Zh (Zd q n0)];exact q
end
def FP (X:Cx) (ic ie:Nat) (cS:Addr) (k:Nat) (ts:TS):TS:=fun D σ H=> ∃f fd sp,σ[ic]? =some (some (.ref f))∧(∀s,bo X.prog X.w H s→PySem.W.FnAt f s)∧aE X.prog X.w X.K X.mg X.base (bE X.prog X.w) k f fd [] sp∧(∀s,BindsTo s fd ⟨[],[]⟩ [])∧
 sp [] H (fun _ _=>False) fun ev c H'=> ∃e C,ev=.ref e∧c=some C∧PySem.W.exmOne X.K (.ref C) (.ref cS)=some true∧(H' e=none→ts {nx:=fun ai H2=>D.nx (ai.set ie none) H2,rt:=fun _ _=>False} (σ.set ie (some (.ref e))) (upd H' e (kB e C)))
theorem RG {X:Cx}{ic ie k:Nat}{c n S:Str}{cS:Addr}{b0:Stmt}{Ak:List Stmt}{ts:TS}{p1 p2 p3 p4 p5 p6:Pos}(CG:X.calm=true) (lV:X.stack=X.env::X.outer) (jo:X.env.frame=some X.env.locals) (hN:X.N.Nodup) (Lw:X.N[ic]? =some c) (Kn:ow X.env.scope c)
  (tH:X.N[ie]? =some n) (pU:X.env.scope.names.lookup n=some .local) (hS:X.mg S=some (.ref cS)) (Lz:Gl X S) (hr:bR k X.A) (KJ:∀e,eY (X.dF (.ref e)) (b0::Ak) ts)
  (LU:(c==("__debug__" :Str))=false:=by decide) (LR:(c==("__classdict__" :Str))=false:=by decide) (LV:(S==("__debug__" :Str))=false:=by decide)
  (w5:swapsWith (.Call (.Name c p1) [] [] p2) none p3.line X.env=pure false:=by rfl):
  PS X (.Try [.Expr (.Call (.Name c p1) [] [] p2) p3] [.ExceptHandler (some (.Name S p4)) (some n) (b0::Ak) p5] [] [] p6) (FP X ic ie cS k ts):=by
 intro pins s σ H D I h
 obtain⟨f,fd,sp,lP,fN,F,hb,dw⟩:=h
 refine wpAny_Try_except ?_
 refine wpAny_execs_cons (wpAny_Expr_any ?_ I.quiet w5)
 refine wpAny_Call_Name_kw ?_
 have nm:=ZF (X:=X.gr (fun _ _=>False)) (i:=ic) (x:=c) (pos:=p1) Lw Kn LU LR pins s σ H (fun v H2=>v=.ref f∧H2=H) (I.gr _) ⟨_,lP,rfl,rfl⟩
 refine wpAny_mono nm (fun u s1 h1=> ?_) (fun _ _ z=>z.elim)
 obtain⟨v,H1,I1,r1,rfl,rfl⟩:=h1
 have I1:=I1.i5
 obtain rfl:u=Value.ref f:=r1
 refine PySem.W.callWith_F0 (fN _ I1.ag) ?_
 refine wpAny_call (codeAny_mono (F.run X.A X.stack s1 H1 ⟨[],[]⟩ [] [] _ _ hr I1.Dn (hb s1) .nil dw) fun r s2 hq=> ?_)
 cases r with
 |ok fl=>
  cases fl with
  |ret u=>obtain⟨_,_,_,_,_,_,_,z⟩:=hq;exact z.elim
  |next=>exact hq.elim
  |brk=>exact hq.elim
  |cont=>exact hq.elim
 |error ev=>
  obtain⟨e,C,H2,rfl,FL,e',C',q1,q2,hx,hk⟩:=hq
  cases q1
  cases q2
  obtain⟨B,a0,fl,bU,fO⟩:=FL.yg
  rw[lV]at fl
  show wpAny (model X.prog X.w) X.A (noteFrame (.ref e) X.env) _ X.xe s2
  have tU:X.A.frames=some (X.env::X.outer):=by rw[←lV];exact I.ok.frames
  refine wpAny_looks_onW (L:=X.env.locals) tU jo fl fun h4 held zU=> ?_
  refine wpAny_landsW held fun h5 yh zT=> ?_
  have gp:∃o vs,h5.get? e=some o∧o.cls=.ref C∧o.data=.fields vs:=by
   obtain⟨oe,vs,g1,g2,g3,_⟩:=yh.first
   exact⟨oe,vs,g1,g2,g3⟩
  obtain⟨o5,uF,Dc,C9,MK⟩:=gp
  have c5:=I1.Dw (h':=h5) FL.un FL.os FL.bare FL.ag bU fO fl.2.1 fl.1 yh.1 (zU.trans zT) Dc C9 ⟨_,MK⟩
  have I5:=c5.1.dF (.ref e)
  refine wpAny_handleBy_cons (codeAny_handlers_test ?_) (by intro q;cases q)
  refine Jl (X:=X.dF (.ref e)) I5 Lz hS ?_ LV
  have LX:=PySem.W.exm_one (M:=model X.prog X.w) (c:=.ref cS) (e:=e) I5.bW (Jy Dc C9) hx
  refine LX.at ?_
  refine codeAny_handlers_suite_as ?_
  refine lands_againW (s:= {s2 with heap:=h5}) yh fun h6 Dh Fh=> ?_
  obtain⟨o6,uE,MJ,MI,MH,_⟩:=Dh.first
  obtain⟨I6,n6⟩:=I1.Dw (h':=h6) FL.un FL.os FL.bare FL.ag bU fO fl.2.1 fl.1 Dh.1 ((zU.trans zT).trans Fh) MJ MI ⟨_,MH⟩
  have I6:=I6.dF (.ref e)
  have Ky:=hk n6
  refine Yf (X:=X.dF (.ref e)) (i:=ie) I6 hN tH (.inl pU) (v:=.ref e) (u:=.ref e) rfl (fun s7 I7=> ?_) (.inr pU)
  refine wpAny_mono (KJ e pins s7 _ _ _ I7 Ky) (fun MO s8 h8=> ?_) fun _ _ z=>z.elim
  cases MO with
  |ret u=>obtain⟨_,_,_,_,_,z⟩:=h8;exact z.elim
  |brk=>obtain⟨_,_,_,z⟩:=h8;exact z.elim
  |cont=>obtain⟨_,_,_,z⟩:=h8;exact z.elim
  |next=>
   obtain⟨qS,H8,I8,q8⟩:=h8
   have I8:=I8.Fi (fun z=>I.ok.hd z)
   obtain⟨m8,Cg,Lo⟩:=I8.loc
   have xI:(X.env.scope.kind==.class||(X.env.scope.kind==.module&&X.env.locals !=X.env.globals))=false:=by rw[I8.ok.kind];rfl
   refine wpAny_nameGoes_keeps pU Cg xI fun h9 v9 Lc lW=> ?_
   have st:=Yf (M:=model X.prog X.w) (A:=X.A) (E:=fun _ _=>False) (X:=X) (i:=ie) I8 hN tH (.inl pU) (v:=.af) (u:=.none) rfl (Q:=fun _ _=>True) (fun _ _=>trivial) (.inr pU)
   refine⟨qS.set ie none,H8,?_,q8⟩
   have aA:ie<qS.length:=by rw[I8.len];exact(List.getElem?_eq_some_iff.mp tH).1
   obtain⟨oL,_,_,hoL,_⟩:=id Cg
   have gF:=I8.gF
   refine⟨I8.ok,I8.os,I8.bare,⟨fun b o eb nb hb hx=> ?_,fun b o eb nb hb hx=> ?_,I8.base.free,fun b o eb hx=> ?_,I8.base.fA,I8.base.fk,I8.base.fc⟩,⟨_,Lc,fun j y v' e1 e2 e3=> ?_⟩,fun y cc ec=> ?_,I8.free,I8.fm,fun p hp=> ?_,fun b ob eb=> ?_,by simpa using I8.len⟩
   ·exact(lW.2 b (Nat.ne_of_lt (Nat.lt_of_lt_of_le (Heap.lt_size eb) I8.ok.above))).trans (I8.base.keep b o eb nb hb hx)
   ·obtain⟨sl,q⟩:=I8.base.slot b o eb nb hb hx
    exact⟨sl,(lW.2 b (Nat.ne_of_lt (Nat.lt_of_lt_of_le (Heap.lt_size eb) I8.ok.above))).trans q⟩
   ·obtain⟨o',q⟩:=I8.base.there b o eb hx
    exact⟨o',(lW.2 b (Nat.ne_of_lt (Nat.lt_of_lt_of_le (Heap.lt_size eb) I8.ok.above))).trans q⟩
   ·by_cases hj:j=ie
    ·subst hj
     rw[List.getElem?_set_self aA]at e2
     cases e2
    ·rw[List.getElem?_set_ne (Ne.symm hj)]at e2
     obtain⟨u',r',q⟩:=Lo j y v' e1 e2 e3
     refine⟨u',r',?_⟩
     rcases q with ⟨kk,q⟩ |⟨kk,c',ec,z⟩
     ·refine .inl ⟨kk,?_⟩
      have ne:y≠n:=fun z=>hj (J9 hN e1 (z▸tH))
      simp[ne,q]
     ·exact .inr ⟨kk,c',ec,z.sameBut lW (gF y c' ec)⟩
   ·obtain⟨w',z⟩:=I8.cell y cc ec
    exact⟨w',z.sameBut lW (gF y cc ec)⟩
   ·obtain⟨e1,n1,ne1,HW,d1⟩:=I8.pin p hp
    exact⟨(lW.2 p.1 ne1).trans e1,n1,ne1,HW,d1⟩
   ·refine(I8.ag b ob eb).dP (fun cc w' iN q=> (lW.2 cc ?_).trans q) (fun _ q=>q) fun _ _ q=>q
    rintro rfl
    rcases iN with rfl |iN
    ·rw[I8.free]at eb;cases eb
    ·rw[I8.free]at iN;cases iN
def gE (c:Addr) (q:Str):HO:=.ext fun h=>h.CodeRec (.ref c) q
def nM (f:Addr) (q:Str) (params:Arguments) (body:Expr) (scope:Scope) (cl:List (Str×Addr)) (pm:Value) (c:Addr) (ct:Value):HO:=.ext fun h=>h.get? f=some (PySem.W.kla_obj "<lambda>" q params body scope cl pm c ct)
def jB (H:Hp) (f:Addr) (q:Str) (params:Arguments) (body:Expr) (scope:Scope) (cl:List (Str×Addr)):Prop:=∃pm c ct,H f=some (nM f q params body scope cl pm c ct)∧H c=some (gE c q)
theorem jB.same {H H':Hp}{f:Addr}{q:Str}{params:Arguments}{body:Expr}{scope:Scope}{cl:List (Str×Addr)}(x:jB H f q params body scope cl) (s:ae H H'):jB H' f q params body scope cl:=by
 obtain⟨pm,c,ct,h1,h2⟩:=x
 exact⟨pm,c,ct,s _ _ h1,s _ _ h2⟩
def RV (H:Hp) (q:Str) (ps:Array Value):Prop:=TriplesOk ps.toList∧∀pos cv,codeAmong pos ps.toList=some cv→∃c,cv=.ref c∧H c=some (gE c q)
def TabAt (H:Hp) (P:Addr) (q:Str):Prop:=∃ps,H P=some (.cg ps)∧RV H q ps
theorem Jr {h h':Heap}{c:Addr}{q:Str}(x:h.CodeRec (.ref c) q) (k:∀o,h.get? c=some o→h'.get? c=some o):h'.CodeRec (.ref c) q:=by
 obtain⟨c2,oc,vs,tq,e,g1,g2,g3⟩:=x
 cases e
 exact⟨c,oc,vs,tq,rfl,k _ g1,g2,g3⟩
theorem Pu {P:Program}{w:World}{H:Hp}{h:Heap}{c:Addr}{q:Str}(x:h.CodeRec (.ref c) q):aO P w H h c (gE c q):=by
 obtain⟨c2,oc,vs,tq,e,g1,g2,g3⟩:=id x
 cases e
 exact⟨x,⟨_,g1⟩,fun h1 h2 p k=>Jr p k⟩
theorem Ex {P:Program}{w:World}{H:Hp}{h:Heap}{f:Addr}{q:Str}{params:Arguments}{body:Expr}{scope:Scope}{cl:List (Str×Addr)}{pm:Value}{c:Addr}{ct:Value}(x:h.get? f=some (PySem.W.kla_obj "<lambda>" q params body scope cl pm c ct)):
  aO P w H h f (nM f q params body scope cl pm c ct):=⟨x,⟨_,x⟩,fun h1 h2 p k=>k _ p⟩
theorem Wo {pos p2:Pos}{c cv:Value} :∀(l:List Value),TriplesOk l→codeAmong p2 (l++[rawInt pos.line,rawInt pos.col,c])=some cv→codeAmong p2 l=some cv∨cv=c
 | [],_,h=>by
  have h':(if (pos.line:Int)==(p2.line:Int)&&(pos.col:Int)==(p2.col:Int) then some c else codeAmong p2 [])=some cv:=h
  split at h'
  ·exact .inr (Option.some.inj h').symm
  ·cases h'
 | .int a t:: .int b u::x::r,ht,h=>by
  have h':(if a==p2.line&&b==p2.col then some x else codeAmong p2 (r++[rawInt pos.line,rawInt pos.col,c]))=some cv:=h
  show(if a==p2.line&&b==p2.col then some x else codeAmong p2 r)=some cv∨cv=c
  split at h'
  ·rename_i hq
   rw[if_pos hq]
   exact .inl h'
  ·rename_i hq
   rw[if_neg hq]
   exact Wo r ht h'
theorem Jf {pos:Pos}{c:Value} :∀(l:List Value),TriplesOk l→TriplesOk (l++[rawInt pos.line,rawInt pos.col,c])
 | [],_=>trivial
 | .int _ _:: .int _ _::_::r,h=>Jf r h
structure EM (X:Cx) (c P:Addr):Prop where
 code:X.env.code=.ref c
 hd:PySem.W.CodeHd X.base c P
 bm:∃bm ob,X.mg "__builtins__" =some (.ref bm)∧bm≠builtinsNs∧X.base.get? bm=some ob∧ob.cls=.type "module" ∧ob.dict=some builtinsNs∧ob.data=.plain
def F4 (X:Cx) (P:Addr) (params:Arguments) (body:Expr) (scope:Scope):TE:=fun σ H Q=>TabAt H P (X.env.qual++ "<lambda>")∧∀f H',aq P H H'→H f=none→TabAt H' P (X.env.qual++ "<lambda>")→jB H' f (X.env.qual++ "<lambda>") params body scope (bQ scope X.env)→Q (.ref f) H'
theorem YC {X:Cx}{c P:Addr}{params:Arguments}{body:Expr}{scope:Scope}{pos:Pos}(L:EM X c P) (LQ:defaultsOf params X.env=([],[])) (jo:∀y∈scope.names,y.2=.free→X.env.kindOf y.1=some .cell∨X.env.kindOf y.1=some .free):
  PE X (.Lambda params body scope pos) (F4 X P params body scope):=by
 intro pins s σ H Q I h
 obtain⟨⟨ps,hP,hT,hC⟩,q⟩:=h
 have oP:s.heap.get? P=some (PySem.W.tabObj ps):=I.ag P _ hP
 have mh:=Z5 (scope:=scope) (env:=X.env) fun y hy e=>I.ok.has _ (jo y hy e)
 have tQ:s.heap.Ns mainGlobals X.mg:=I.mod.glob.keeps I.bk
 obtain⟨bm,ob,b1,b2,b3,b4,b5,b6⟩:=L.bm
 have LA:mainGlobals≠P:=fun z=>by
  obtain⟨o,es,ep,e,d,_⟩:=tQ
  rw[z,oP]at e
  cases e
  cases d
 have mj:bm≠P:=fun z=>by
  have e:=I.bk _ _ b3
  rw[z,oP]at e
  cases e
  cases b4
 have Mc:bm≠mainGlobals:=fun z=>by
  obtain⟨o,es,ep,e,d,_⟩:=tQ
  have e2:=I.bk _ _ b3
  rw[z,e]at e2
  cases e2
  rw[d]at b6
  cases b6
 have BA:s.heap.BuiltinsAt X.mg P:=⟨bm,ob,b1,b2,Mc,mj,I.bk _ _ b3,b4,b5,b6⟩
 refine PySem.W.kla_eval LQ ?_
 cases hf:codeAmong pos ps.toList with
 |some cv=>
  obtain⟨c',rfl,aV⟩:=hC pos cv hf
  refine PySem.W.kla_makeFunctionHit mh I.ok.glob tQ L.code (L.hd.keeps I.bk) oP hT hf BA fun mJ h' tk hk hsz=> ?_
  have nf:H h'.objs.size=none:=I.ag.fresh hsz
  have s1:ae H (upd H h'.objs.size (nM h'.objs.size (X.env.qual++ "<lambda>") params body scope (bQ scope X.env) ((X.mg "__name__").getD .none) c' mJ)):=fun b o hb=>by rw[Zh (Zd hb nf)];exact hb
  refine⟨.ref h'.objs.size,_,I.laid (t':=tk) (a:=h'.objs.size) (fun b u e=>Heap.get?_push_of_some _ (hk b u e)) hsz (Ex (Heap.get?_push_size _ rfl)),rfl,?_⟩
  exact q _ _ (fun b o hb _=>s1 b o hb) nf ⟨ps,s1 _ _ hP,hT,fun p2 yu z=>by obtain⟨c2,e2,h2⟩:=hC p2 yu z;exact⟨c2,e2,s1 _ _ h2⟩⟩ ⟨_,c',mJ,Zc,s1 _ _ aV⟩
 |none=>
  refine PySem.W.kla_makeFunction mh I.ok.glob tQ L.code (L.hd.keeps I.bk) oP hT hf LA BA fun c' mJ h' tk hx bq aA KS wZ=> ?_
  have Iu:∀b o,s.heap.get? b=some o→b<c':=fun b o e=>Nat.lt_of_lt_of_le (Heap.lt_size e) bq
  have Tp:∀b o,H b=some o→b<c':=fun b o e=>Nat.lt_of_lt_of_le (I.ag.lt e) bq
  have nc:H c'=none:=I.ag.fresh bq
  have nf:H h'.objs.size=none:=I.ag.fresh (Nat.le_trans bq (Nat.le_of_lt aA))
  have Hv:P≠c':=Zd hP nc
  have Bb:P≠h'.objs.size:=Zd hP nf
  have cnf:c'≠h'.objs.size:=Nat.ne_of_lt aA
  generalize CA:h'.objs.size=f at nf Bb cnf
  generalize xf:ps++ #[rawInt pos.line,rawInt pos.col,Value.ref c']=lD at wZ
  generalize pT:nM f (X.env.qual++ "<lambda>") params body scope (bQ scope X.env) ((X.mg "__name__").getD .none) c' mJ=lo
  have keep:∀b o,b≠P→s.heap.get? b=some o→(h'.push (PySem.W.kla_obj "<lambda>" (X.env.qual++ "<lambda>") params body scope (bQ scope X.env) ((X.mg "__name__").getD .none) c' mJ)).get? b=some o:=fun b o hb e=>Heap.get?_push_of_some _ (hx b o hb e)
  have cb:∀b o,H b=some o→b≠P→upd (upd (upd H P (.cg lD)) c' (gE c' (X.env.qual++ "<lambda>"))) f lo b=some o:=fun b o hb bZ=>by
   rw[Zh (Zd hb nf),Zh (Zd hb nc),Zh bZ]
   exact hb
  have yG:upd (upd (upd H P (.cg lD)) c' (gE c' (X.env.qual++ "<lambda>"))) f lo P=some (.cg lD):=by rw[Zh Bb,Zh Hv,Zc]
  have atC:upd (upd (upd H P (.cg lD)) c' (gE c' (X.env.qual++ "<lambda>"))) f lo c'=some (gE c' (X.env.qual++ "<lambda>")):=by rw[Zh cnf,Zc]
  have DJ:upd (upd (upd H P (.cg lD)) c' (gE c' (X.env.qual++ "<lambda>"))) f lo f=some lo:=Zc
  have J:Inv X pins σ (upd (upd (upd H P (.cg lD)) c' (gE c' (X.env.qual++ "<lambda>"))) f lo) {s with heap:=h'.push (PySem.W.kla_obj "<lambda>" (X.env.qual++ "<lambda>") params body scope (bQ scope X.env) ((X.mg "__name__").getD .none) c' mJ),toks:=tk} :=by
   refine I.un (t':=tk) ⟨fun b o e n _ _=>keep b o (fun z=>by rw[z,hP]at n;cases n) e,fun b o e n _ _=> ⟨o.slots,keep b o (fun z=>by rw[z,hP]at n;cases n) e⟩,fun b o e n _=> ?_,fun b o e _=> ?_,fun b xs e=>cb b _ e (fun z=>by rw[z,hP]at e;cases e),fun b o u e=>cb b _ e (fun z=>by rw[z,hP]at e;cases e),fun b qs e=> ?_⟩ ?_
   ·have hl:=Iu b o e
    rw[Zh (by rw[←CA];exact Nat.ne_of_lt (Nat.lt_trans hl aA)),Zh (Nat.ne_of_lt hl),Zh (fun z=>by rw[z,hP]at n;cases n)]
    exact n
   ·by_cases hb:b=P
    ·rw[hb];exact⟨_,Heap.get?_push_of_some _ wZ⟩
    ·exact⟨o,keep b o hb e⟩
   ·by_cases hb:b=P
    ·rw[hb,hP]at e
     cases e
     exact⟨_,by rw[hb,yG,xf]⟩
    ·exact⟨#[],by rw[cb b _ e hb];simp⟩
   ·intro b o hb
    by_cases h1:b=f
    ·rw[h1,DJ]at hb
     cases hb
     rw[h1,←pT]
     refine Ex ?_
     rw[←CA]
     exact Heap.get?_push_size _ rfl
    ·by_cases h2:b=c'
     ·rw[h2,atC]at hb
      cases hb
      rw[h2]
      exact Pu (Jr KS fun o e=>Heap.get?_push_of_some _ e)
     ·by_cases h3:b=P
      ·rw[h3,yG]at hb
       cases hb
       rw[h3]
       exact Heap.get?_push_of_some _ wZ
      ·have gk:H b=some o:=by rw[Zh h1,Zh h2,Zh h3]at hb;exact hb
       refine(I.ag b o gk).dP (fun z u hz e=>keep z u ?_ e) (fun z e=> ?_) fun z xs e=> ?_
       ·rcases hz with hz |hz
        ·rw[hz];exact h3
        ·intro aF;rw[aF,hP]at hz;cases hz
       ·exact cb z _ e fun aF=>by rw[aF,hP]at e;cases e
       ·exact cb z _ e fun aF=>by rw[aF,hP]at e;cases e
  refine⟨.ref f,_,J,rfl,?_⟩
  refine q f _ (fun b o hb bZ=>cb b o hb bZ) nf ⟨lD,yG,?_,fun p2 yu z=> ?_⟩ ⟨_,c',mJ,by rw[DJ,←pT],atC⟩
  ·rw[←xf,Array.toList_append]
   exact Jf _ hT
  ·rw[←xf,Array.toList_append]at z
   rcases Wo _ hT z with z |z
   ·obtain⟨c2,e2,h2⟩:=hC p2 yu z
    exact⟨c2,e2,cb _ _ h2 fun aF=>by rw[aF,hP]at h2;cases h2⟩
   ·exact⟨c',z,atC⟩
theorem lF {X:Cx}{E:XK}(Kl:∀e s',wpAny (model X.prog X.w) X.A (leaving X.env e) (fun _ dh=>bE X.prog X.w X.outer X.iY X.bT E e dh) (fun e' dh=>bE X.prog X.w X.outer X.iY X.bT E e' dh) s'→X.xe e s')
  (lV:X.stack=X.env::X.outer) (jo:X.env.frame=some X.env.locals) (hex:X.ex=[]):Passes (bE X.prog X.w) X E:=by
 intro pins σ H1 s1 ev s2 I h
 obtain⟨e,C,H',rfl,F,hE⟩:=h
 obtain⟨B,a0,fl,bU,fO⟩:=F.yg
 have un:=F.un
 rw[lV]at fl bU un
 have ib:Un (aS X.outer) [] X.iY H1 X.bT.heap s1.heap:=by have:=I.base;rw[hex]at this;exact this
 have tU:X.A.frames=some (X.env::X.outer):=by rw[←lV];exact I.ok.frames
 refine Kl _ _ (wpAny_leaves_onW (L:=X.env.locals) tU jo fl fun h' mH up=> ?_)
 refine⟨e,C,H',rfl,⟨F.os.trans I.os,F.bare,JS (base:=X.base) (L:=X.env.locals) ib un jo I.ok.above I.ok.dH I.ok.gB bU fl.1 mH.1 up,Y4 F.ag fO fl.1 mH.1,B,a0,mH,fun b o hb hn=> ?_,fO⟩,hE⟩
 obtain⟨o1,e1⟩:=ib.there b o hb (by simp)
 refine bU b o1 e1 fun hm=> ?_
 have cw:b∈(X.env::X.outer).filterMap (·.frame):=hm
 rw[List.filterMap_cons_some (f:=fun(x:Env)=>x.frame) (a:=X.env) (b:=X.env.locals) jo]at cw
 rcases List.mem_cons.mp cw with q |q
 ·rw[q]at hb
  exact absurd (Nat.lt_of_lt_of_le (Heap.lt_size hb) I.ok.above) (Nat.lt_irrefl _)
 ·exact hn q
def eC (P:Program) (w:World) (K:PySem.W.Frag) (mg:Str→Option Value) (base:Heap) (N:List Str) (q:Str) (scope:Scope) (f:Addr) (cd:Value) (cl:List (Str×Addr)) (A:Around) (outer:List Env) (s:Shared) (H:Hp) (E:XK):Cx where
 prog:=P
 w:=w
 K:=K
 mg:=mg
 base:=base
 A:=A.deeper (PySem.W.envX q scope s.heap.objs.size f cd cl)
 N:=N
 bT:=s
 iY:=H
 env:=PySem.W.envX q scope s.heap.objs.size f cd cl
 outer:=outer
 stack:=PySem.W.envX q scope s.heap.objs.size f cd cl::outer
 ex:=[]
 calm:=true
 fn:=fun _=>false
 pn:=[]
 xe:=fun e s'=>wpAny (model P w) (A.deeper (PySem.W.envX q scope s.heap.objs.size f cd cl)) (leaving (PySem.W.envX q scope s.heap.objs.size f cd cl) e) (fun _ dh=>bE P w outer H s E e dh) (fun e' dh=>bE P w outer H s E e' dh) s'
structure iV (base:Heap) (scope:Scope) (cl:List (Str×Addr)) (x y:Str) (vx vy:V):Prop where
 kx:scope.names.lookup x=some .free
 ky:scope.names.lookup y=some .free
 only:∀z,scope.names.lookup z=some .cell∨scope.names.lookup z=some .free→z=x∨z=y
 ne:x≠y
 cx:∃c u,cl.lookup x=some c∧base.IsCell c (some u)∧RelV vx u
 cy:∃c u,cl.lookup y=some c∧base.IsCell c (some u)∧RelV vy u
 mem:∀z c,cl.lookup z=some c→z=x∨z=y
 inj:∀c,cl.lookup x=some c→cl.lookup y=some c→False
theorem Jq {h b1 b2:Heap} :∀{l:List Env},h.FunFrames b1 l→(∀b∈aS l,b2.get? b=none)→h.FunFrames b2 l
 | [],_,_=>trivial
 |env::r,⟨hk,⟨L,o,hf,_,ho,hd⟩,hr⟩,hn=> ⟨hk,⟨L,o,hf,hn L (List.mem_filterMap.mpr ⟨env,.head _,hf⟩),ho,hd⟩,Jq hr fun b hb=>hn b (by
  obtain⟨e,he,q⟩:=List.mem_filterMap.mp hb
  exact List.mem_filterMap.mpr ⟨e,.tail _ he,q⟩)⟩
theorem Inv.rebase {X:Cx}{pins:List (Addr×Obj)}{σ:St}{H:Hp}{s:Shared}(I:Inv X pins σ H s):
  ∃bf,X.base.StaysIn bf∧qQ X.prog X.w X.K X.mg bf X.A X.stack s H∧∀b o,s.heap.get? b=some o→H b=none→b∉aS X.stack→bf.get? b=some o:=by
 have bU:∀b o,s.heap.get? b=some o→H b=none→b∉aS X.stack→(PySem.W.hideAll (gA s.heap H) (aS X.stack)).get? b=some o:=fun b o e n hf=>PySem.W.hideAll_get _ (UO e n) hf
 have st:X.base.StaysIn (PySem.W.hideAll (gA s.heap H) (aS X.stack)):=fun b o e=>bU b o (I.bs b o e).1 (I.bs b o e).2 fun hm=>by
  have:=(I.stack.mem hm).1
  rw[e]at this
  cases this
 refine⟨_,st,⟨I.ok.frames,⟨I.mod.nO.keeps st,I.mod.glob.keeps st,?_,I.mod.nolimit.keeps st⟩,fun b o e=>ED (PySem.W.of_hideAll _ e),?_,Jq I.stack fun b hb=>PySem.W.hideAll_none _ hb,I.mZ,I.ag,I.bare⟩,bU⟩
 ·obtain⟨mb,h1,h2⟩:=I.mod.blt
  exact⟨mb,h1.keeps st,h2⟩
 ·rw[PySem.W.hideAll_size,WR]
  exact Nat.le_refl _
def Gg (wi:TI) (ts:Nat) (aC:List Nat) (g:TG) (tt:TT) (ti:St→TC):TE:=fun σ H Q=>wi σ H fun J H1=>iB g tt (ti σ) J [] (eW ts aC σ) H1 fun ys _ H2=> ∀p,H2 p=none→Q (.ref p) (upd H2 p (.lst ys))
theorem Q0 {X:Cx}{elt tg iter:Expr}{ifs:List Expr}{rest:List Comprehension}{scope:Scope}{pos:Pos}{wi:TI}{g:TG}{tt:TT}{ti:St→TC}(N':List Str) (ts:Nat) (aC:List Nat) (hi:PI X tg iter wi) (pg:∀C s H fp,PG (aT X N' scope C s H fp) tg g) (pt:∀C s H fp,jz (aT X N' scope C s H fp) ifs tt)
  (pi:∀pins σ C s H fp D,Inv X pins σ H s→(∀b∈fp,bI X pins H b)→kH (aT X N' scope C s H fp) D (inner elt (⟨tg,iter,ifs,0⟩::rest) scope pos 0 (.ref D) (aT X N' scope C s H fp).env) (ti σ))
  (ok:qG X.env.scope scope X.N N' ts aC=true:=by rfl) (hc:X.calm=true:=by rfl) (h2:∀g',(Comprehension.mk tg iter ifs 0::rest)[0+1]? =some g'→g'.is_async=0:=by(intro g' h;cases h<;>rfl))
  (hs:∀x,foldedSetIterable iter X.env x=pure x:=by intro _;rfl):
  PE X (.ListComp elt (⟨tg,iter,ifs,0⟩::rest) scope pos) (Gg wi ts aC g tt ti):=by
 intro pins s σ H Q I h
 have S:=Wj ok
 rw[eval_ListComp]
 refine wpAny_comprehension_free (use:=none) rfl hs (Z5 fun y hy e=>I.ok.has _ (S.free y hy e)) S.kind S.names (ar (hi pins s σ H _ I h) fun v s1 h1=>ar h1 fun jY s2 km=> ?_)
 obtain⟨it,fp,tn,J,H2,e,I2,T,aj,f2,q2⟩:=km
 subst e
 refine Jd (RR:=fun acc C=>compPost (model X.prog X.w) X.A X.xe none _ acc C) S hc I2 T aj f2 h2 (fun C=>pg C _ _ _) (fun C=>pt C _ _ _) (fun C D=>pi pins σ C _ _ _ D I2 f2) q2 ?_
 intro C D s' ai H' ys fl hC hD eR J' n a q
 obtain⟨m,hn,_⟩:=J'.loc
 exact⟨m,hn,fun h' sb=> ⟨.ref D,_,Wl I2 f2 hC hD eR J' n a sb,rfl,q D n⟩⟩
def Nw:Const→Option V
 | .int n=>some (.int n)
 | .bool b=>some (.bl b)
 | .str x=>some (.str x)
 | .none=>some .af
 |_=>none
def oZ:Expr→Option V
 | .Constant c _ _=>Nw c
 | .UnaryOp .USub (.Constant (.int n) _ _) _=>some (.int (-n))
 | .BinOp (.Constant (.int a) _ _) .Pow (.Constant (.int b) _ _) _=>if 0≤b∧b≤1000000∧a.natAbs<2^64 then some (.int (a^b.toNat)) else none
 |_=>none
def oY:List Expr→Option (List V)
 | []=>some []
 |e::r=>match oZ e,oY r with
  |some v,some vs=>some (v::vs)
  |_,_=>none
inductive Lit where
 |sc (v:V)
 |tup (xs:List V)
 |lst (xs:List V)
 |dZ
def fw (H:Hp) (v:V):Lit→Prop
 | .sc u=>v=u
 | .tup xs=> ∃a:Addr,v=.ref a∧H a=some (.tup xs)
 | .lst xs=> ∃a:Addr,v=.ref a∧H a=some (.lst xs)
 | .dZ=> ∃a:Addr,v=.ref a∧H a=some (.dK [])
theorem fw.same {H H':Hp}{v:V} :∀{l:Lit},fw H v l→ae H H'→fw H' v l
 | .sc _,h,_=>h
 | .tup _,⟨a,e,h⟩,s=> ⟨a,e,s _ _ h⟩
 | .lst _,⟨a,e,h⟩,s=> ⟨a,e,s _ _ h⟩
 | .dZ,⟨a,e,h⟩,s=> ⟨a,e,s _ _ h⟩
def litOf:Expr→Option Lit
 | .Tuple es _ _=>match oY es with
  |some xs=>if xs.length≤1000 then some (.tup xs) else none
  |none=>none
 | .List es _=>match oY es with
  |some xs=>if xs.length≤1000 then some (.lst xs) else none
  |none=>none
 | .Dict [] [] _=>some .dZ
 |e=> (oZ e).map .sc
def litsOf:List Expr→Option (List Lit)
 | []=>some []
 |e::r=>match litOf e,litsOf r with
  |some v,some vs=>some (v::vs)
  |_,_=>none
section
variable {X:Cx}
theorem DQ {e:Expr}{v:V}(h:oZ e=some v):PE X e (tC v)∧(∀es,starEach (e::es) X.env=(false,eval e X.env)::starEach es X.env)∧∀a:Addr,v≠.ref a:=by
 unfold oZ at h
 split at h
 ·rename_i c j p
  cases c with
  |int n=>cases h;exact⟨Zi,fun _=>rfl,fun a z=>by cases z⟩
  |bool b=>cases h;exact⟨WL,fun _=>rfl,fun a z=>by cases z⟩
  |str x=>cases h;exact⟨J7,fun _=>rfl,fun a z=>by cases z⟩
  |none=>cases h;exact⟨YI,fun _=>rfl,fun a z=>by cases z⟩
  |_=>cases h
 ·cases h
  refine⟨fun pins s σ H Q I q=>Oi Oz Zi pins s σ H Q I ⟨_,rfl,q⟩,fun _=>rfl,fun a z=>by cases z⟩
 ·split at h
  ·rename_i hc
   cases h
   refine⟨fun pins s σ H Q I q=>Zn W7 Zi Zi pins s σ H Q I ⟨_,_,rfl,rfl,hc,q⟩,fun _=>rfl,fun a z=>by cases z⟩
  ·cases h
 ·cases h
theorem yU:∀{es:List Expr}{vs:List V},oY es=some vs→PA X es (fun _ H Q=>Q vs H)
 | [],vs,h=>by cases h;exact Zb
 |e::r,vs,h=>by
  unfold oY at h
  split at h
  ·rename_i v ws h1 h2
   cases h
   obtain⟨p1,p2,_⟩:=DQ (X:=X) h1
   exact fun pos pins s σ H Q I q=>Za p1 (yU h2) (p2 r) pos pins s σ H Q I q
  ·cases h
theorem Pb {e:Expr}{l:Lit}(h:litOf e=some l):PE X e (fun _ H Q=> ∀v H',ae H H'→fw H' v l→(∀a:Addr,v=.ref a→H a=none)→Q v H')∧∀es,starEach (e::es) X.env=(false,eval e X.env)::starEach es X.env:=by
 unfold litOf at h
 split at h
 ·split at h
  ·rename_i xs hx
   split at h
   ·rename_i hl
    cases h
    refine⟨fun pins s σ H Q I q=>ZA (yU hx) pins s σ H Q I ⟨Nat.le_of_lt (vt hl),fun p hp=>q _ _ (fun b o hb=>by rw[Zh (Zd hb hp)];exact hb) ⟨p,rfl,Zc⟩ fun a z=>by cases z;exact hp⟩,fun _=>rfl⟩
   ·cases h
  ·cases h
 ·split at h
  ·rename_i xs hx
   split at h
   ·rename_i hl
    cases h
    refine⟨fun pins s σ H Q I q=>ZB (yU hx) pins s σ H Q I ⟨Nat.le_of_lt (vt hl),fun p hp=>q _ _ (fun b o hb=>by rw[Zh (Zd hb hp)];exact hb) ⟨p,rfl,Zc⟩ fun a z=>by cases z;exact hp⟩,fun _=>rfl⟩
   ·cases h
  ·cases h
 ·cases h
  exact⟨fun pins s σ H Q I q=>Uy pins s σ H Q I fun p hp=>q _ _ (fun b o hb=>by rw[Zh (Zd hb hp)];exact hb) ⟨p,rfl,Zc⟩ fun a z=>by cases z;exact hp,fun _=>rfl⟩
 ·rename_i x0 h1 h2 h3
  cases hs:oZ e with
  |none=>rw[hs]at h;cases h
  |some v=>
   rw[hs]at h
   cases h
   obtain⟨p1,p2,p3⟩:=DQ (X:=X) hs
   exact⟨fun pins s σ H Q I q=>p1 pins s σ H Q I (q v H (ae.refl H) rfl fun a z=>absurd z (p3 a)),p2⟩
theorem Y3:∀{es:List Expr}{ls:List Lit},litsOf es=some ls→PA X es (fun _ H Q=> ∀vs H',ae H H'→Paired (fw H') vs ls→(∀a,V.ref a∈vs→H a=none)→Q vs H')
 | [],ls,h=>by cases h;exact fun pos pins s σ H Q I q=>Zb pos pins s σ H Q I (q [] H (ae.refl H) .nil fun a z=>nomatch z)
 |e::r,ls,h=>by
  unfold litsOf at h
  split at h
  ·rename_i v ws h1 h2
   cases h
   obtain⟨p1,p2⟩:=Pb (X:=X) h1
   exact fun pos pins s σ H Q I q=>Za p1 (Y3 h2) (p2 r) pos pins s σ H Q I fun v1 H1 s1 l1 n1 vs H2 s2 pr n2=>q (v1::vs) H2 (s1.trans s2) (.cons (l1.same s2) pr) fun a z=>by
    rcases List.mem_cons.mp z with z |z
    ·exact n1 a z.symm
    ·exact s1.free (n2 a z)
  ·cases h
end
end L2
namespace L2
open PySem PySem.Spec PyProof.Rows SeqAt
def wO (items:Array Value) (x:Value) (i:Nat) (_:Option PySem.Fin×Unit):Sem (ForInStep (Option PySem.Fin×Unit)):=
 match items[i]? with
 |some y=> (do
  let b ←eqBool y x
  if b=true then (do let v ←retInt (i:Int);pure (ForInStep.done (some v,()))) else pure (ForInStep.yield (none,())))
 |_=>pure (ForInStep.yield (none,()))
theorem UM {prog:Program}{w:World}{A:Around}{E:Value→Shared→Prop}{s:Shared}{items:Array Value}{x:Value}{e:Value→Bool}{j:Nat}{Q:Option PySem.Fin×Unit→Shared→Prop}(hj:j<items.size) (hit:e items[j]=true) (iI:∀m (hm:m<items.size),m<j→e items[m]=false)
  (he:∀y,y∈items→EqAt A s y x (e y)) (h:Q (some (.done (.ret (.int j s.toks))),()) {s with toks:=s.toks+1}):
  ∀k i,i+k=items.size→i≤j→wpAny (model prog w) A (forIn (List.range' i k) ((none:Option PySem.Fin),()) (wO items x)) Q E s
 |0,i,hk,hi=>by omega
 |k+1,i,hk,hi=>by
  have aA:i<items.size:=by omega
  rw[List.range'_succ,List.forIn_cons]
  refine wpAny_bind ?_
  unfold wO
  rw[Array.getElem?_eq_getElem aA]
  refine wpAny_bind (he _ (Array.getElem_mem aA) prog w _ _ ?_)
  by_cases cM:i=j
  ·subst cM
   rw[hit,if_pos rfl]
   refine wpAny_bind ?_
   wp_walk
   exact h
  ·rw[iI i aA (by omega),if_neg Bool.false_ne_true]
   refine wpAny_pure ?_
   exact UM hj hit iI he h k (i+1) (by omega) (by omega)
theorem Wr (l:Addr) (items:Array Value) (n:Nat) (dd:Option Addr) (sl:Array (Option Value)) (x:Value) (e:Value→Bool) (j:Nat) (hj:j<items.size) (hit:e items[j]=true) (iI:∀m (hm:m<items.size),m<j→e items[m]=false):
  Meets (Builtin.«tuple.index» ⟨[.ref l,x],[]⟩)
   (fun A R s=>s.heap.get? l=some {cls:=.type "tuple",dict:=dd,data:=.seq items n,slots:=sl}∧(∀y,y∈items→EqAt A.in1 s y x (e y))∧R (.ok (.ret (.int j s.toks))) {s with toks:=s.toks+1}):=
 .of_wp fun prog w A R s h=>by
  obtain⟨hp,g,d,tk,os⟩:=s;obtain⟨hl,he,h⟩:=h
  wp_walk using AutoSeq1.wpAny_loadPart' hl
  show wpAny (model prog w) A.in1 (forIn (m:=Sem) [:min items.size items.size] ((none:Option PySem.Fin),()) (wO items x)) _ _ _
  rw[Std.Legacy.Range.forIn_eq_forIn_range']
  refine UM hj hit iI he ?_ _ _ (by simp[Std.Legacy.Range.size]) (Nat.zero_le _)
  exact wpAny_pure ⟨_,rfl,h⟩
def GY (K:PySem.W.Frag):V→List V→Hp→VK→Prop:=fun v vs H Q=> ∃(a:Addr) (xs:List V) (x:V) (j:Nat),v=.ref a∧vs=[x]∧ao K H a xs∧gC x=true∧xs.all gC=true∧(∃y,xs[j]? =some y∧dI y x=true)∧(∀m y,m<j→xs[m]? =some y→dI y x=false)∧Q (.int (j:Int)) H
theorem QS {X:Cx} :EJ X "tuple.index" (GY X.K):=by
 intro pins s σ H v vs u us Q I rv GX h
 obtain⟨a,xs,x,j,rfl,rfl,hq,fx,fs,⟨y,hy,ey⟩,iI,q⟩:=h
 cases rv
 obtain⟨ux,rfl,rx⟩:=vals1 GX
 obtain⟨its,r,pl,hz⟩:=I.tuple hq
 obtain⟨o,ho,hc,n,hd⟩:=id pl
 obtain⟨cls,dd,dt,sl⟩:=o
 replace hc:cls=.type "tuple" :=hc
 replace hd:dt=.seq its.toArray n:=hd
 subst hc hd
 obtain⟨uy,Ku,S7⟩:=r.get hy
 have md:j<its.length:=(List.getElem?_eq_some_iff.mp Ku).1
 have qJ:∀k (hk:k<its.length),∃z,xs[k]? =some z∧RelV z its[k]:=fun k hk=>by
  have f9:k<xs.length:=by rw[r.length];exact hk
  obtain⟨w,hw,fX⟩:=r.get (List.getElem?_eq_getElem f9)
  rw[List.getElem?_eq_getElem hk]at hw
  cases hw
  exact⟨_,List.getElem?_eq_getElem f9,fX⟩
 have eqs:∀(A:Around) (k:Nat) (hk:k<its.length) z,xs[k]? =some z→EqAt A s its[k] ux (dI z x):=fun A k hk z bj=>by
  obtain⟨z',aF,rz⟩:=qJ k hk
  rw[bj]at aF
  cases aF
  exact DV rz rx (List.all_eq_true.mp fs z (List.mem_of_getElem? bj)) fx
 have vd:∀k l' (hk:k<its.length) (hl:l'<its.length) zk zl,xs[k]? =some zk→xs[l']? =some zl→its[k]=its[l']→dI zk x=dI zl x:=fun k l' hk hl zk zl h1 h2 he=>by
  obtain⟨z1,e1,r1⟩:=qJ k hk
  obtain⟨z2,e2,r2⟩:=qJ l' hl
  rw[h1]at e1;rw[h2]at e2
  cases e1;cases e2
  rw[he]at r1
  have f1:=List.all_eq_true.mp fs zk (List.mem_of_getElem? h1)
  have f2:=List.all_eq_true.mp fs zl (List.mem_of_getElem? h2)
  have:zk=zl:=by
   generalize its[l']=val at r1 r2
   cases zk<;>cases zl<;>first
    |rfl
    |(exact absurd f1 Bool.false_ne_true)
    |(exact absurd f2 Bool.false_ne_true)
    |(cases r1;cases r2;rfl)
    |(cases r1;cases r2;done)
    |(obtain⟨_,rfl⟩:=r1;obtain⟨_,e⟩:=r2;cases e;rfl)
    |(obtain⟨_,rfl⟩:=r1;obtain⟨_,e⟩:=r2;cases e;done)
    |(obtain⟨_,rfl⟩:=r1;cases r2;done)
    |(cases r1;obtain⟨_,e⟩:=r2;cases e;done)
  rw[this]
 classical
 refine call_meets F.slot_tuple_index ⟨_,ho,rfl⟩ F.entry_tuple_index (F.args_tuple_index_2 _ _)
  (Wr a its.toArray n dd sl ux (fun val=>decide (∃(k:Nat) (z:V),its[k]? =some val∧xs[k]? =some z∧dI z x=true)) j (by simpa using md) ?_ ?_) ⟨ho,fun val Kq=> ?_,?_⟩
 ·refine decide_eq_true ⟨j,y,?_,hy,ey⟩
  simp[md]
 ·intro m hm Lf
  refine decide_eq_false ?_
  rintro⟨k,z,hk,bj,ez⟩
  have cw:m<its.length:=by simpa using hm
  obtain⟨zm,BL,_⟩:=qJ m cw
  have aY:=(List.getElem?_eq_some_iff.mp hk)
  obtain⟨nW,pX⟩:=aY
  have e2:=vd k m nW cw z zm bj BL (by rw[pX];simp)
  rw[ez,iI m zm Lf BL]at e2
  cases e2
 ·have Ko:val∈its:=by simpa using Kq
  obtain⟨k,nW,pX⟩:=List.getElem_of_mem Ko
  obtain⟨z,bj,rz⟩:=qJ k nW
  have ee:=eqs X.A.in1 k nW z bj
  rw[pX]at ee
  have:decide (∃(k:Nat) (z:V),its[k]? =some val∧xs[k]? =some z∧dI z x=true)=dI z x:=by
   cases hb:dI z x with
   |true=>exact decide_eq_true ⟨k,z,by rw[List.getElem?_eq_getElem nW,pX],bj,hb⟩
   |false=>
    refine decide_eq_false ?_
    rintro⟨k2,z2,h1,h2,h3⟩
    obtain⟨iK,kg⟩:=List.getElem?_eq_some_iff.mp h1
    have:=vd k2 k iK nW z2 z h2 bj (by rw[kg,pX])
    rw[h3,hb]at this
    cases this
  rw[this]
  exact ee
 ·exact⟨.int (j:Int),H,I.tok _,⟨_,rfl⟩,q⟩
theorem Y7 {α β:Type}{F:α→β→Prop} :∀{jX:List α}{jW:List β}{i:Nat}{x:α},Paired F jX jW→jX[i]? =some x→∃y,jW[i]? =some y∧F x y
 |_,_,_,_,.nil,h=>by simp at h
 |_,_,0,_,.cons r _,h=>by simp at h;subst h;exact⟨_,rfl,r⟩
 |_,_,i+1,_,.cons _ t,h=>by
  obtain⟨y,e,q⟩:=Y7 t (i:=i) (by simpa using h)
  exact⟨y,by simpa using e,q⟩
section
variable {X:Cx}
theorem WQ {ns:List Int}{us:List Value}(r:Vals (ns.map V.int) us) (j:Nat) (h:j<us.length):∃t,us[j]=.int (ns.getD j 0) t:=by
 have hl:=r.length
 rw[List.length_map]at hl
 have hj:j<ns.length:=by omega
 obtain⟨u,hu,t,ru⟩:=r.get (i:=j) (x:=.int ns[j]) (by rw[List.getElem?_map,List.getElem?_eq_getElem hj];rfl)
 rw[List.getElem?_eq_getElem h]at hu
 cases hu
 exact⟨t,by rw[ru];simp[hj]⟩
end
end L2
namespace L2
open PySem PySem.Spec PyProof.Rows
structure One (base:Heap) (scope:Scope) (cl:List (Str×Addr)) (x:Str) (vx:V):Prop where
 kx:scope.names.lookup x=some .free
 only:∀z,scope.names.lookup z=some .cell∨scope.names.lookup z=some .free→z=x
 cx:∃c u,cl.lookup x=some c∧base.IsCell c (some u)∧RelV vx u
 mem:∀z c,cl.lookup z=some c→z=x
structure Src (prog:Program) (w:World) (i l:Addr) (n:Nat) (f:Nat→Value) (S:Nat→Heap→Prop):Prop where
 here:∀k h,S k h→∃o,h.get? i=some o
 dP:∀k h h',S k h→(∀c,c=i∨c=l→∀o,h.get? c=some o→h'.get? c=some o)→S k h'
 item:∀(A:Around) k (s:Shared) (Q:Value→Shared→Prop) (E:Value→Shared→Prop),k<n→S k s.heap→(∀h',S (k+1) h'→Heap.SameBut i s.heap h'→Q (f k) {s with heap:=h'})→wpAny (model prog w) A (Builtin.SmallTypes.nextOf (.ref i)) Q E s
 stop:∀(A:Around) (s:Shared) (Q:Value→Shared→Prop) (E:Value→Shared→Prop),A.handled=none→S n s.heap→(∀h' e,Heap.ExtBut i s.heap h'→(∃o,h'.get? e=some o∧o.cls=.type "StopIteration")→E (.ref e) {s with heap:=h'})→wpAny (model prog w) A (Builtin.SmallTypes.nextOf (.ref i)) Q E s
end L2
namespace L2
open PySem PySem.Spec PyProof.Rows SeqAt
structure Cells (base:Heap) (scope:Scope) (cl:List (Str×Addr)) (N:List Str) (vs:List V):Prop where
 len:vs.length=N.length
 only:∀z,scope.names.lookup z=some .cell∨scope.names.lookup z=some .free→z∈N
 at_:∀(i:Nat) x v,N[i]? =some x→vs[i]? =some v→scope.names.lookup x=some .free∧∃c u,cl.lookup x=some c∧base.IsCell c (some u)∧RelV v u
 mem:∀z c,cl.lookup z=some c→z∈N
 inj:∀x y c,cl.lookup x=some c→cl.lookup y=some c→x=y
theorem OL {P:Program}{w:World}{K:PySem.W.Frag}{mg:Str→Option Value}{base:Heap}{f:Addr}{q:Str}{params:Arguments}{body:Expr}{scope:Scope}{cl:List (Str×Addr)}{pm:Value}{c:Addr}{ct:Value}{k:Nat}{N:List Str}{ws:List V}{sp:Sp}
    (T:Cells base scope cl N ws) (hk:scope.kind=.function) (L0:scope.isCoroutine=false) (Ly:scope.isGenerator=false) (iM:∀z∈scope.names,z.2≠.cell)
    (dw:∀vs H Q E,sp vs H Q E→vs=[]∧H f=some (nM f q params body scope cl pm c ct)∧H c=some (gE c q))
    (hb:∀(A:Around) (outer:List Env) (s:Shared) (H:Hp) (Q:VK) (E:XK),bR k (A.deeper (PySem.W.envX q scope s.heap.objs.size f (.ref c) cl))→sp [] H Q E→
      ∃t,PE (eC P w K mg base N q scope f (.ref c) cl A outer s H E) body t∧t (ws.map some) H Q):
    aE P w K mg base (bE P w) (k+1) f (PySem.W.kla_fn "<lambda>" q params body scope cl pm (.ref c) ct) [] sp:=by
  refine⟨fun vs H Q E h=>by rw[(dw vs H Q E h).1];rfl,fun A outer s H args us vs Q E hr e0 xM rv h=> ?_⟩
  obtain⟨rfl,hf,hc⟩:=dw _ _ _ _ h
  have of:s.heap.get? f=some (PySem.W.kla_obj "<lambda>" q params body scope cl pm c ct):=(e0.ag f _ hf).1
  have oc:s.heap.CodeRec (.ref c) q:=(e0.ag c _ hc).1
  have lim:s.heap.NoLimit:=e0.mod.nolimit.keeps fun b o e=> (e0.bs b o e).1
  refine PySem.W.kla_callFunE hr.depth of rfl L0 Ly rfl oc (xM _ _ _ _ ?_)
  refine wpAny_newFunctionEnv iM (fun z hz=>by cases rv;exact absurd hz (by simp)) (fun h1 pQ KP=> ?_) hk
  have k1:∀b o,s.heap.get? b=some o→h1.get? b=some o:=fun b o e=>KP.extBut b o (Nat.ne_of_lt (Heap.lt_size e)) (Heap.get?_push_of_some _ e)
  refine⟨lim.keeps k1,?_⟩
  show codeAny _ A (.expr body (PySem.W.envX q scope s.heap.objs.size f (.ref c) cl)) _ _
  obtain⟨t,ht,hq⟩:=hb A outer s H Q E (hr.deeper _) h
  have yx:∀{a:Addr}{v:Option Value},base.IsCell a v→h1.IsCell a v∧H a=none:=fun {a v} ⟨o,ho,hd⟩=> ⟨⟨o,k1 _ _ (e0.bs _ _ ho).1,hd⟩,(e0.bs _ _ ho).2⟩
  have DI:∀z,z∈N→∃c u,cl.lookup z=some c∧base.IsCell c (some u):=fun z hz=>by
    obtain⟨i,hi,e⟩:=List.getElem_of_mem hz
    have bP:i<ws.length:=by rw[T.len];exact hi
    obtain⟨_,c,u,h1,h2,_⟩:=T.at_ i z ws[i] (by rw[←e];exact List.getElem?_eq_getElem hi) (List.getElem?_eq_getElem bP)
    exact⟨c,u,h1,h2⟩
  have cells:∀z a,cl.lookup z=some a→∃v,base.IsCell a v:=fun z a hz=>by
    obtain⟨c,u,h1,h2⟩:=DI z (T.mem z a hz)
    rw[hz]at h1;cases h1;exact⟨_,h2⟩
  have I:Inv (eC P w K mg base N q scope f (.ref c) cl A outer s H E) [] (ws.map some) H {s with heap:=h1,toks:=s.toks+(([]:List Str).zip us).length} :=by
    refine⟨⟨e0.mod,hk,rfl,rfl,Nat.le_refl _,fun a b cc h2 h3=> ?_,fun a ha=> ?_,fun a cc hn=>Bool.noConfusion hn,fun _=>hr.hd,Around.frames_deeper e0.frames,.inr ⟨rfl,rfl⟩,fun b z=>absurd (show b∈([]:List Addr) from z) (by simp),e0.bs,e0.ip,fun b _ _ z=>absurd (show b∈([]:List Addr) from z) (by simp),fun b z=>absurd (show b∈([]:List Addr) from z) (by simp),e0.dH,e0.gB⟩,
      rfl,e0.bare,Un.kept k1,⟨_,pQ,fun i z v h2 h3 h4=> ?_⟩,fun z a hz=> ?_,e0.ag.fresh (Nat.le_refl _),fun z a hz=> ?_,fun p hp=>absurd (show p∈([]:List (Addr×Obj)) from hp) (by simp),e0.ag.kept k1,(by rw[List.length_map];exact T.len)⟩
    · have h2:cl.lookup a=some cc:=h2
      have h3:cl.lookup b=some cc:=h3
      exact T.inj _ _ _ h2 h3
    · obtain⟨c,_,h1,_⟩:=DI a (T.only a ha)
      exact⟨c,h1⟩
    · have ya:(ws.map some)[i]? =some (some v):=h3
      rw[List.getElem?_map]at ya
      obtain⟨v',e',Na⟩:=Option.map_eq_some_iff.mp ya
      cases Na
      obtain⟨kx,c,u,h5,h6,h7⟩:=T.at_ i z v h2 e'
      exact⟨u,h7,.inr ⟨.inr kx,c,h5,(yx h6).1⟩⟩
    · obtain⟨v,b⟩:=cells z a hz
      exact⟨v,(yx b).1⟩
    · obtain⟨v,b⟩:=cells z a hz
      exact(yx b).2
  refine PySem.W.kla_codeExpr (wpAny_mono (ht [] _ _ H _ I hq) (fun u s' hs=> ?_) fun e s' hs=>hs)
  obtain⟨v,H',J,r,z⟩:=hs
  exact⟨v,H',J.os,J.bare,J.base,J.ag,r,z⟩
end L2
namespace L2
open PySem PySem.Spec PyProof.Rows
end L2
namespace PyProof.Rows.fP
open PySem
def MF:Bool→Keyed→Array Keyed→Nat→Nat→Nat→StateT SortSt Sem (Option Nat):=sortPriv%PySem.Builtin.gallop
def ua (left:Bool) (key:Keyed) (arr:Array Keyed) (base:Nat) (i:Nat):StateT SortSt Sem (Option Bool):=
 elem' arr (base+i) >>=fun x=>if left=true then lt' x key else lt' key x >>=fun c=>pure (c.map fun z=> !z)
structure Ord (r:Keyed→Keyed→Bool):Prop where
 bO:∀x y,r x y=true→r y x=false
 cR:∀x y z,r y x=false→r z y=false→r z x=false
theorem Ord.jZ {r:Keyed→Keyed→Bool}(o:Ord r) (x:Keyed):r x x=false:=by
 cases h:r x x with
 |false=>rfl
 |true=>have:=o.bO x x h;rw[h]at this;cases this
section
variable {prog:Program}{w:World}{A:Around}{E:Value→Shared→Prop}{s:Shared}{κ:SortKind}{a₀:Array Keyed}{r:Keyed→Keyed→Bool}
def iz (prog:Program) (w:World) (A:Around) (E:Value→Shared→Prop) (s:Shared) (κ:SortKind) (a₀:Array Keyed) (r:Keyed→Keyed→Bool):Prop:=
 ∀(x y:Keyed) (st:SortSt) (Q:Option Bool→SortSt→Prop),x∈a₀.toList→y∈a₀.toList→kindOf st=κ→Q (some (r x y)) st→wpS (model prog w) A E s (lt' x y) Q st
theorem Zl {arr:Array Keyed}{i:Nat}{x:Keyed}{Q:Keyed→SortSt→Prop}{st:SortSt}(hx:arr[i]? =some x) (h:Q x st):wpS (model prog w) A E s (elem' arr i) Q st:=by
 rw[elem'_eq,hx]
 exact wpS_pure h
def bp (r:Keyed→Keyed→Bool) (left:Bool) (key x:Keyed):Bool:=if left=true then r x key else !r key x
theorem U1 {left:Bool}{key:Keyed}{arr:Array Keyed}{base i:Nat}{x:Keyed}{Q:Option Bool→SortSt→Prop}{st:SortSt}(hc:iz prog w A E s κ a₀ r) (hk:kindOf st=κ) (hx:arr[base+i]? =some x) (mx:x∈a₀.toList) (mk:key∈a₀.toList) (h:Q (some (bp r left key x)) st):
  wpS (model prog w) A E s (ua left key arr base i) Q st:=by
 unfold ua
 refine wpS_bind (Zl hx ?_)
 cases left with
 |true=>
  rw[if_pos rfl]
  exact hc _ _ _ _ mx mk hk h
 |false=>
  rw[if_neg Bool.false_ne_true]
  exact wpS_bind (hc _ _ _ _ mk mx hk (wpS_pure h))
theorem ZD {left:Bool}{key:Keyed}{arr:Array Keyed}{base n hint:Nat}{Q:Option Nat→SortSt→Prop}{st:SortSt}(hc:iz prog w A E s κ a₀ r) (hk:kindOf st=κ) (p:Nat→Bool)
  (hp:∀i,i<n→∃x,arr[base+i]? =some x∧x∈a₀.toList∧p i=bp r left key x) (mk:key∈a₀.toList) (mono:∀i j,i≤j→j<n→p j=true→p i=true) (hh:hint<n)
  (h:∀k,k≤n→(∀i,i<k→p i=true)→(∀i,k≤i→i<n→p i=false)→Q (some k) st):wpS (model prog w) A E s (MF left key arr base n hint) Q st:=by
 have jv:∀{i:Nat}{Q:Option Bool→SortSt→Prop},i<n→Q (some (p i)) st→wpS (model prog w) A E s (ua left key arr base i) Q st:=fun {i Q} hi hq=>by
  obtain⟨x,e,m,ep⟩:=hp i hi
  exact U1 hc hk e m mk (by rw[←ep];exact hq)
 have down:∀i j,i≤j→j<n→p i=false→p j=false:=fun i j cM hj hf=>by
  cases hh:p j with
  |false=>rfl
  |true=>rw[mono i j cM hj hh]at hf;cases hf
 show wpS (model prog w) A E s (ua left key arr base hint >>=_) _ _
 dsimp only
 refine wpS_bind (jv hh ?_)
 cases B5:p hint with
 |true=>
  dsimp only
  rw[if_pos rfl]
  refine wpS_bind (wpS_forRange (I:=fun x c aa=>aa=st∧∃dk cQ,c=(none,dk,cQ)∧hint+dk<n∧p (hint+dk)=true∧dk<cQ∧x+1≤cQ) ?Gq ?MQ ⟨rfl,0,1,rfl,hh,B5,by omega,by omega⟩)
  case MQ=>
   rintro c aa ⟨rfl,dk,cQ,rfl,q1,q2,q3,q4⟩
   rw[Nat.max_eq_right (Nat.zero_le n)]at q4
   dsimp only
   refine wpS_bind (wpS_forRange (I:=fun x c aj=>aj=aa∧∃lo hi,c=(none,lo,hi)∧lo≤hi∧hi≤n∧(∀i,i<lo→p i=true)∧(∀i,hi≤i→i<n→p i=false)∧hi - lo≤n - x) ?_ ?_ ⟨rfl,_,_,rfl,(by omega),(by omega),(fun i hi=>mono i (hint+dk) (by omega) q1 q2),(fun i h1 h2=>by omega),by omega⟩)
   ·rintro x c aj _ hx ⟨rfl,lo,hi,rfl,h1,h2,h3,h4,h5⟩
    dsimp only
    by_cases bq:lo≥hi
    ·rw[if_pos bq]
     have e:lo=hi:=by omega
     subst e
     exact wpS_pure (wpS_pure (h lo h2 h3 h4))
    ·rw[if_neg bq]
     have hm:lo+(hi - lo)/2<hi:=by omega
     generalize em:lo+(hi - lo)/2=m at hm
     have hV:lo≤m:=by omega
     refine wpS_bind (jv (by omega) ?_)
     cases dX:p m with
     |true=>exact wpS_pure ⟨rfl,m+1,hi,rfl,by omega,h2,fun i bP=>mono i m (by omega) (by omega) dX,h4,by omega⟩
     |false=>exact wpS_pure ⟨rfl,lo,m,rfl,hV,by omega,h3,fun i h1 h2=>down m i h1 h2 dX,by omega⟩
   ·rintro c aj ⟨rfl,lo,hi,rfl,h1,h2,h3,h4,h5⟩
    rw[Nat.max_eq_right (Nat.zero_le n)]at h5
    have e:lo=hi:=by omega
    subst e
    exact wpS_pure (h lo h2 h3 h4)
  case Gq=>
   rintro x c aa _ hx ⟨rfl,dk,cQ,rfl,q1,q2,q3,q4⟩
   dsimp only
   by_cases bq:cQ≥n - hint
   ·rw[if_pos bq]
    refine wpS_pure ?_
    dsimp only
    refine wpS_bind (wpS_forRange (I:=fun x c aj=>aj=aa∧∃lo hi,c=(none,lo,hi)∧lo≤hi∧hi≤n∧(∀i,i<lo→p i=true)∧(∀i,hi≤i→i<n→p i=false)∧hi - lo≤n - x) ?_ ?_ ⟨rfl,_,_,rfl,(by omega),(by omega),(fun i hi=>mono i (hint+dk) (by omega) q1 q2),(fun i h1 h2=>by omega),by omega⟩)
    ·rintro x c aj _ hx ⟨rfl,lo,hi,rfl,h1,h2,h3,h4,h5⟩
     dsimp only
     by_cases bq:lo≥hi
     ·rw[if_pos bq]
      have e:lo=hi:=by omega
      subst e
      exact wpS_pure (wpS_pure (h lo h2 h3 h4))
     ·rw[if_neg bq]
      have hm:lo+(hi - lo)/2<hi:=by omega
      generalize em:lo+(hi - lo)/2=m at hm
      have hV:lo≤m:=by omega
      refine wpS_bind (jv (by omega) ?_)
      cases dX:p m with
      |true=>exact wpS_pure ⟨rfl,m+1,hi,rfl,by omega,h2,fun i bP=>mono i m (by omega) (by omega) dX,h4,by omega⟩
      |false=>exact wpS_pure ⟨rfl,lo,m,rfl,hV,by omega,h3,fun i h1 h2=>down m i h1 h2 dX,by omega⟩
    ·rintro c aj ⟨rfl,lo,hi,rfl,h1,h2,h3,h4,h5⟩
     rw[Nat.max_eq_right (Nat.zero_le n)]at h5
     have e:lo=hi:=by omega
     subst e
     exact wpS_pure (h lo h2 h3 h4)
   ·rw[if_neg bq]
    refine wpS_bind (jv (by omega) ?_)
    cases pN:p (hint+cQ) with
    |true=>exact wpS_pure ⟨rfl,cQ,2*cQ+1,rfl,by omega,pN,by omega,by omega⟩
    |false=>
     refine wpS_pure ?_
     dsimp only
     refine wpS_bind (wpS_forRange (I:=fun x c aj=>aj=aa∧∃lo hi,c=(none,lo,hi)∧lo≤hi∧hi≤n∧(∀i,i<lo→p i=true)∧(∀i,hi≤i→i<n→p i=false)∧hi - lo≤n - x) ?_ ?_ ⟨rfl,_,_,rfl,(by omega),(by omega),(fun i hi=>mono i (hint+dk) (by omega) q1 q2),(fun i h1 h2=>down (hint+cQ) i (by omega) h2 pN),by omega⟩)
     ·rintro x c aj _ hx ⟨rfl,lo,hi,rfl,h1,h2,h3,h4,h5⟩
      dsimp only
      by_cases bq:lo≥hi
      ·rw[if_pos bq]
       have e:lo=hi:=by omega
       subst e
       exact wpS_pure (wpS_pure (h lo h2 h3 h4))
      ·rw[if_neg bq]
       have hm:lo+(hi - lo)/2<hi:=by omega
       generalize em:lo+(hi - lo)/2=m at hm
       have hV:lo≤m:=by omega
       refine wpS_bind (jv (by omega) ?_)
       cases dX:p m with
       |true=>exact wpS_pure ⟨rfl,m+1,hi,rfl,by omega,h2,fun i bP=>mono i m (by omega) (by omega) dX,h4,by omega⟩
       |false=>exact wpS_pure ⟨rfl,lo,m,rfl,hV,by omega,h3,fun i h1 h2=>down m i h1 h2 dX,by omega⟩
     ·rintro c aj ⟨rfl,lo,hi,rfl,h1,h2,h3,h4,h5⟩
      rw[Nat.max_eq_right (Nat.zero_le n)]at h5
      have e:lo=hi:=by omega
      subst e
      exact wpS_pure (h lo h2 h3 h4)
 |false=>
  dsimp only
  rw[if_neg Bool.false_ne_true]
  refine wpS_bind (wpS_forRange (I:=fun x c aa=>aa=st∧∃dk cQ,c=(none,dk,cQ)∧dk≤hint∧p (hint - dk)=false∧dk<cQ∧x+1≤cQ) ?Gp ?fin2 ⟨rfl,0,1,rfl,by omega,B5,by omega,by omega⟩)
  case fin2=>
   rintro c aa ⟨rfl,dk,cQ,rfl,q1,q2,q3,q4⟩
   rw[Nat.max_eq_right (Nat.zero_le n)]at q4
   dsimp only
   refine wpS_bind (wpS_forRange (I:=fun x c aj=>aj=aa∧∃lo hi,c=(none,lo,hi)∧lo≤hi∧hi≤n∧(∀i,i<lo→p i=true)∧(∀i,hi≤i→i<n→p i=false)∧hi - lo≤n - x) ?_ ?_ ⟨rfl,_,_,rfl,(by omega),(by omega),(fun i hi=>by omega),(fun i h1 h2=>down (hint - dk) i (by omega) h2 q2),by omega⟩)
   ·rintro x c aj _ hx ⟨rfl,lo,hi,rfl,h1,h2,h3,h4,h5⟩
    dsimp only
    by_cases bq:lo≥hi
    ·rw[if_pos bq]
     have e:lo=hi:=by omega
     subst e
     exact wpS_pure (wpS_pure (h lo h2 h3 h4))
    ·rw[if_neg bq]
     have hm:lo+(hi - lo)/2<hi:=by omega
     generalize em:lo+(hi - lo)/2=m at hm
     have hV:lo≤m:=by omega
     refine wpS_bind (jv (by omega) ?_)
     cases dX:p m with
     |true=>exact wpS_pure ⟨rfl,m+1,hi,rfl,by omega,h2,fun i bP=>mono i m (by omega) (by omega) dX,h4,by omega⟩
     |false=>exact wpS_pure ⟨rfl,lo,m,rfl,hV,by omega,h3,fun i h1 h2=>down m i h1 h2 dX,by omega⟩
   ·rintro c aj ⟨rfl,lo,hi,rfl,h1,h2,h3,h4,h5⟩
    rw[Nat.max_eq_right (Nat.zero_le n)]at h5
    have e:lo=hi:=by omega
    subst e
    exact wpS_pure (h lo h2 h3 h4)
  case Gp=>
   rintro x c aa _ hx ⟨rfl,dk,cQ,rfl,q1,q2,q3,q4⟩
   dsimp only
   by_cases bq:cQ≥hint+1
   ·rw[if_pos bq]
    refine wpS_pure ?_
    dsimp only
    refine wpS_bind (wpS_forRange (I:=fun x c aj=>aj=aa∧∃lo hi,c=(none,lo,hi)∧lo≤hi∧hi≤n∧(∀i,i<lo→p i=true)∧(∀i,hi≤i→i<n→p i=false)∧hi - lo≤n - x) ?_ ?_ ⟨rfl,_,_,rfl,(by omega),(by omega),(fun i hi=>by omega),(fun i h1 h2=>down (hint - dk) i (by omega) h2 q2),by omega⟩)
    ·rintro x c aj _ hx ⟨rfl,lo,hi,rfl,h1,h2,h3,h4,h5⟩
     dsimp only
     by_cases bq:lo≥hi
     ·rw[if_pos bq]
      have e:lo=hi:=by omega
      subst e
      exact wpS_pure (wpS_pure (h lo h2 h3 h4))
     ·rw[if_neg bq]
      have hm:lo+(hi - lo)/2<hi:=by omega
      generalize em:lo+(hi - lo)/2=m at hm
      have hV:lo≤m:=by omega
      refine wpS_bind (jv (by omega) ?_)
      cases dX:p m with
      |true=>exact wpS_pure ⟨rfl,m+1,hi,rfl,by omega,h2,fun i bP=>mono i m (by omega) (by omega) dX,h4,by omega⟩
      |false=>exact wpS_pure ⟨rfl,lo,m,rfl,hV,by omega,h3,fun i h1 h2=>down m i h1 h2 dX,by omega⟩
    ·rintro c aj ⟨rfl,lo,hi,rfl,h1,h2,h3,h4,h5⟩
     rw[Nat.max_eq_right (Nat.zero_le n)]at h5
     have e:lo=hi:=by omega
     subst e
     exact wpS_pure (h lo h2 h3 h4)
   ·rw[if_neg bq]
    refine wpS_bind (jv (by omega) ?_)
    cases pN:p (hint - cQ) with
    |true=>
     refine wpS_pure ?_
     dsimp only
     refine wpS_bind (wpS_forRange (I:=fun x c aj=>aj=aa∧∃lo hi,c=(none,lo,hi)∧lo≤hi∧hi≤n∧(∀i,i<lo→p i=true)∧(∀i,hi≤i→i<n→p i=false)∧hi - lo≤n - x) ?_ ?_ ⟨rfl,_,_,rfl,(by omega),(by omega),(fun i hi=>mono i (hint - cQ) (by omega) (by omega) pN),(fun i h1 h2=>down (hint - dk) i (by omega) h2 q2),by omega⟩)
     ·rintro x c aj _ hx ⟨rfl,lo,hi,rfl,h1,h2,h3,h4,h5⟩
      dsimp only
      by_cases bq:lo≥hi
      ·rw[if_pos bq]
       have e:lo=hi:=by omega
       subst e
       exact wpS_pure (wpS_pure (h lo h2 h3 h4))
      ·rw[if_neg bq]
       have hm:lo+(hi - lo)/2<hi:=by omega
       generalize em:lo+(hi - lo)/2=m at hm
       have hV:lo≤m:=by omega
       refine wpS_bind (jv (by omega) ?_)
       cases dX:p m with
       |true=>exact wpS_pure ⟨rfl,m+1,hi,rfl,by omega,h2,fun i bP=>mono i m (by omega) (by omega) dX,h4,by omega⟩
       |false=>exact wpS_pure ⟨rfl,lo,m,rfl,hV,by omega,h3,fun i h1 h2=>down m i h1 h2 dX,by omega⟩
     ·rintro c aj ⟨rfl,lo,hi,rfl,h1,h2,h3,h4,h5⟩
      rw[Nat.max_eq_right (Nat.zero_le n)]at h5
      have e:lo=hi:=by omega
      subst e
      exact wpS_pure (h lo h2 h3 h4)
    |false=>exact wpS_pure ⟨rfl,cQ,2*cQ+1,rfl,by omega,pN,by omega,by omega⟩
end
def Ap:Nat→StateT SortSt Sem Unit:=sortPriv%PySem.Builtin.setMinGallop
def Ii:Array Keyed→Array Keyed→StateT SortSt Sem (Array Keyed):=sortPriv%PySem.Builtin.mergeLo
theorem Jt (g:Nat):Ap g=modify fun s=>SortSt.mk' (kindOf s) (arrOf s) (pendingOf s) g (failedOf s):=rfl
abbrev Pw (r:Keyed→Keyed→Bool) (l:List Keyed):Prop:=l.Pairwise fun x y=>r y x=false
def SG (st aa:SortSt):Prop:=kindOf aa=kindOf st∧arrOf aa=arrOf st∧pendingOf aa=pendingOf st∧failedOf aa=failedOf st
theorem SG.refl (st:SortSt):SG st st:=⟨rfl,rfl,rfl,rfl⟩
def Good (r:Keyed→Keyed→Bool) (a b res:Array Keyed):Prop:=res.toList.Perm (a.toList++b.toList)∧Pw r res.toList
structure JW (r:Keyed→Keyed→Bool) (a b out:Array Keyed) (ia ib:Nat):Prop where
 perm:(out.toList++(a.toList.drop ia++b.toList.drop ib)).Perm (a.toList++b.toList)
 i8:Pw r out.toList
 gm:∀x∈out.toList,∀y∈a.toList.drop ia++b.toList.drop ib,r y x=false
structure eI (r:Keyed→Keyed→Bool) (a b:Array Keyed):Prop where
 o:Ord r
 sa:Pw r a.toList
 sb:Pw r b.toList
theorem Y5 {α:Type}{l:List α}{i:Nat}{x:α}(h:l[i]? =some x):l.drop i=x::l.drop (i+1):=by
 obtain⟨hi,e⟩:=List.getElem?_eq_some_iff.mp h
 rw[List.drop_eq_getElem_cons hi,e]
theorem Zw {xs:Array Keyed}{i:Nat}{x:Keyed}(h:xs[i]? =some x):xs.toList[i]? =some x:=by rw[Array.getElem?_toList];exact h
theorem Zg {xs:Array Keyed}{i:Nat}(h:i<xs.size):∃x,xs[i]? =some x:=⟨xs[i],getElem?_pos xs i h⟩
theorem Jg {r:Keyed→Keyed→Bool}{l:List Keyed}{i:Nat}{x:Keyed}(o:Ord r) (p:Pw r l) (h:l[i]? =some x):∀y∈l.drop i,r y x=false:=fun y hy=>by
 rw[Y5 h]at hy
 rcases List.mem_cons.mp hy with rfl |hy
 ·exact o.jZ _
 ·have q:Pw r (l.drop i):=List.Pairwise.sublist (List.drop_sublist i l) p
  rw[Y5 h]at q
  exact(List.pairwise_cons.mp q).1 y hy
theorem Jx (xs:Array Keyed) (i j:Nat):(xs.extract i j).toList=(xs.toList.drop i).take (j - i):=by
 rw[Array.toList_extract,List.extract_eq_drop_take]
theorem JR (xs:Array Keyed) (i:Nat):(xs.extract i xs.size).toList=xs.toList.drop i:=by
 rw[Jx,List.take_of_length_le (by rw[List.length_drop,Array.length_toList];exact Nat.le_refl _)]
section
variable {r:Keyed→Keyed→Bool}{a b out:Array Keyed}{ia ib:Nat}
theorem JW.cJ (C:eI r a b) (J:JW r a b out ia ib) {x:Keyed}(hx:a[ia]? =some x) (h:∀y,b[ib]? =some y→r y x=false):JW r a b (out.push x) (ia+1) ib:=by
 have gZ:=Zw hx
 have hd:=Y5 gZ
 have low:∀y∈a.toList.drop (ia+1)++b.toList.drop ib,r y x=false:=fun y hy=>by
  rcases List.mem_append.mp hy with hy |hy
  ·exact Jg C.o C.sa gZ y (by rw[hd];exact List.mem_cons_of_mem _ hy)
  ·cases e:b[ib]? with
   |none=>
    rw[←Array.getElem?_toList]at e
    rw[List.drop_eq_nil_of_le (by rw[List.getElem?_eq_none_iff]at e;exact e)]at hy
    cases hy
   |some z=>
    have h1:=Jg C.o C.sb (Zw e) y hy
    exact C.o.cR x z y (h z e) h1
 refine⟨?_,?_,fun u hu y hy=> ?_⟩
 ·rw[Array.toList_push,List.append_assoc]
  have:=J.perm
  rw[hd]at this
  exact this
 ·rw[Array.toList_push]
  refine List.pairwise_append.mpr ⟨J.i8,List.pairwise_singleton _ _,fun u hu v hv=> ?_⟩
  rw[List.mem_singleton.mp hv]
  exact J.gm u hu x (List.mem_append_left _ (by rw[hd];exact List.mem_cons_self))
 ·rw[Array.toList_push]at hu
  rcases List.mem_append.mp hu with hu |hu
  ·refine J.gm u hu y ?_
   rcases List.mem_append.mp hy with hy |hy
   ·exact List.mem_append_left _ (by rw[hd];exact List.mem_cons_of_mem _ hy)
   ·exact List.mem_append_right _ hy
  ·rw[List.mem_singleton.mp hu]
   exact low y hy
theorem JW.fH (C:eI r a b) (J:JW r a b out ia ib) {y:Keyed}(hy:b[ib]? =some y) (h:∀x,a[ia]? =some x→r x y=false):JW r a b (out.push y) ia (ib+1):=by
 have lT:=Zw hy
 have hd:=Y5 lT
 have low:∀z∈a.toList.drop ia++b.toList.drop (ib+1),r z y=false:=fun z hz=>by
  rcases List.mem_append.mp hz with hz |hz
  ·cases e:a[ia]? with
   |none=>
    rw[←Array.getElem?_toList]at e
    rw[List.drop_eq_nil_of_le (by rw[List.getElem?_eq_none_iff]at e;exact e)]at hz
    cases hz
   |some x=>
    have h1:=Jg C.o C.sa (Zw e) z hz
    exact C.o.cR y x z (h x e) h1
  ·exact Jg C.o C.sb lT z (by rw[hd];exact List.mem_cons_of_mem _ hz)
 refine⟨?_,?_,fun u hu z hz=> ?_⟩
 ·rw[Array.toList_push,List.append_assoc]
  have:=J.perm
  rw[hd]at this
  refine List.Perm.trans (List.Perm.append_left _ ?_) this
  exact(show(y::(a.toList.drop ia++b.toList.drop (ib+1))).Perm _ from List.perm_middle.symm)
 ·rw[Array.toList_push]
  refine List.pairwise_append.mpr ⟨J.i8,List.pairwise_singleton _ _,fun u hu v hv=> ?_⟩
  rw[List.mem_singleton.mp hv]
  exact J.gm u hu y (List.mem_append_right _ (by rw[hd];exact List.mem_cons_self))
 ·rw[Array.toList_push]at hu
  rcases List.mem_append.mp hu with hu |hu
  ·refine J.gm u hu z ?_
   rcases List.mem_append.mp hz with hz |hz
   ·exact List.mem_append_left _ hz
   ·exact List.mem_append_right _ (by rw[hd];exact List.mem_cons_of_mem _ hz)
  ·rw[List.mem_singleton.mp hu]
   exact low z hz
theorem UR {xs:Array Keyed}{i k:Nat}{x:Keyed}(hx:xs[i+k]? =some x):xs.extract i (i+(k+1))=(xs.extract i (i+k)).push x:=by
 obtain⟨h,e⟩:=Array.getElem?_eq_some_iff.mp hx
 rw[←e,←Nat.add_assoc,Array.extract_succ_right (by omega) h]
theorem JW.nI (C:eI r a b) (J:JW r a b out ia ib):∀k,ia+k≤a.size→(∀i,i<k→∀x y,a[ia+i]? =some x→b[ib]? =some y→r y x=false)→JW r a b (out++a.extract ia (ia+k)) (ia+k) ib
 |0,_,_=>by
  rw[Nat.add_zero]
  have e:a.extract ia ia= #[]:=by simp;omega
  rw[e,Array.append_empty]
  exact J
 |k+1,hk,h=>by
  obtain⟨x,hx⟩:=Zg (xs:=a) (i:=ia+k) (by omega)
  have ih:=JW.nI C J k (by omega) fun i hi=>h i (by omega)
  have:=ih.cJ C hx fun y hy=>h k (by omega) x y hx hy
  rw[UR hx,Array.append_push]
  exact this
theorem JW.jP (C:eI r a b) (J:JW r a b out ia ib):∀k,ib+k≤b.size→(∀i,i<k→∀y x,b[ib+i]? =some y→a[ia]? =some x→r x y=false)→JW r a b (out++b.extract ib (ib+k)) ia (ib+k)
 |0,_,_=>by
  rw[Nat.add_zero]
  have e:b.extract ib ib= #[]:=by simp;omega
  rw[e,Array.append_empty]
  exact J
 |k+1,hk,h=>by
  obtain⟨y,hy⟩:=Zg (xs:=b) (i:=ib+k) (by omega)
  have ih:=JW.jP C J k (by omega) fun i hi=>h i (by omega)
  have:=ih.fH C hy fun x hx=>h k (by omega) y x hy hx
  rw[UR hy,Array.append_push]
  exact this
theorem JW.done (C:eI r a b) (J:JW r a b out ia ib) (h:a.size≤ia∨b.size≤ib):Good r a b (out++a.extract ia a.size++b.extract ib b.size):=by
 unfold Good
 rw[Array.toList_append,Array.toList_append,JR,JR]
 refine⟨by rw[List.append_assoc];exact J.perm,?_⟩
 have pa:Pw r (a.toList.drop ia):=List.Pairwise.sublist (List.drop_sublist _ _) C.sa
 have pb:Pw r (b.toList.drop ib):=List.Pairwise.sublist (List.drop_sublist _ _) C.sb
 rw[List.append_assoc]
 refine List.pairwise_append.mpr ⟨J.i8,?_,J.gm⟩
 rcases h with h |h
 ·rw[List.drop_eq_nil_of_le (by rw[Array.length_toList];exact h),List.nil_append]
  exact pb
 ·rw[List.drop_eq_nil_of_le (as:=b.toList) (by rw[Array.length_toList];exact h),List.append_nil]
  exact pa
theorem JW.last (C:eI r a b) (J:JW r a b out ia ib) (h:ia+1=a.size) (hl:∀x,a[a.size - 1]? =some x→∀y∈b.toList,r x y=false):Good r a b (out++b.extract ib b.size++a.extract ia a.size):=by
 unfold Good
 rw[Array.toList_append,Array.toList_append,JR,JR]
 obtain⟨x,hx⟩:=Zg (xs:=a) (i:=ia) (by omega)
 have ed:a.toList.drop ia=[x]:=by
  rw[Y5 (Zw hx),List.drop_eq_nil_of_le (by rw[Array.length_toList];omega)]
 have P:=J.perm
 have B:=J.gm
 rw[ed]at P B ⊢
 have pb:Pw r (b.toList.drop ib):=List.Pairwise.sublist (List.drop_sublist _ _) C.sb
 refine⟨?_,?_⟩
 ·rw[List.append_assoc]
  exact List.Perm.trans (List.Perm.append_left _ List.perm_append_comm) P
 ·rw[List.append_assoc]
  refine List.pairwise_append.mpr ⟨J.i8,List.pairwise_append.mpr ⟨pb,List.pairwise_singleton _ _,fun y hy z hz=> ?_⟩,fun u hu z hz=>B u hu z ?_⟩
  ·rw[List.mem_singleton.mp hz]
   exact hl x (by rw[show a.size - 1=ia by omega];exact hx) y (List.mem_of_mem_drop hy)
  ·rcases List.mem_append.mp hz with hz |hz
   ·exact List.mem_append_right _ hz
   ·exact List.mem_append_left _ hz
end
theorem Zt {xs:Array Keyed}{i:Nat}{x:Keyed}(h:xs[i]? =some x):x∈xs.toList:=List.mem_of_getElem? (Zw h)
theorem Ym {r:Keyed→Keyed→Bool}{l:List Keyed}{i j:Nat}{x y:Keyed}(o:Ord r) (p:Pw r l) (hx:l[i]? =some x) (hy:l[j]? =some y) (h:i≤j):r y x=false:=by
 refine Jg o p hx y ?_
 have:(l.drop i)[j - i]? =some y:=by rw[List.getElem?_drop,show i+(j - i)=j by omega];exact hy
 exact List.mem_of_getElem? this
theorem Jj {r:Keyed→Keyed→Bool}{x y z:Keyed}(o:Ord r) (h:r y z=true) (h2:r y x=false):r x z=true:=by
 cases e:r x z with
 |true=>rfl
 |false=>
  have:=o.cR z x y e h2
  rw[h]at this
  cases this
section
variable {prog:Program}{w:World}{A:Around}{E:Value→Shared→Prop}{s:Shared}{κ:SortKind}{a₀:Array Keyed}{r:Keyed→Keyed→Bool}
theorem YD {g:Nat}{Q:Unit→SortSt→Prop}{st:SortSt}(h:Q () (SortSt.mk' (kindOf st) (arrOf st) (pendingOf st) g (failedOf st))):wpS (model prog w) A E s (Ap g) Q st:=by
 rw[Jt]
 exact wpS_modify h
theorem Uk {a b:Array Keyed}{Q:Array Keyed→SortSt→Prop}{st:SortSt}(hc:iz prog w A E s κ a₀ r) (hk:kindOf st=κ) (C:eI r a b) (ma:∀x∈a.toList,x∈a₀.toList) (mb:∀x∈b.toList,x∈a₀.toList) (na:1≤a.size) (nb:1≤b.size)
  (h0:∀y,b[0]? =some y→∀x∈a.toList,r x y=false) (hl:∀x,a[a.size - 1]? =some x→∀y∈b.toList,r x y=false)
  (h:∀res aa,SG st aa→Good r a b res→Q res aa):wpS (model prog w) A E s (Ii a b) Q st:=by
 show wpS (model prog w) A E s (_ >>=_) _ _
 try dsimp only
 refine wpS_bind (wpS_lift (wpAny_rule ⟨rfl,?_⟩))
 obtain⟨y0,j4⟩:=Zg (xs:=b) (i:=0) (by omega)
 refine wpS_bind (Zl j4 ?_)
 have J0:JW r a b #[y0] 0 1:=by
  have e:JW r a b #[] 0 0:=⟨by simp,.nil,fun x hx=>by cases hx⟩
  exact e.fH C j4 fun x hx=>h0 y0 j4 x (Zt hx)
 by_cases bu:(1==b.size)=true
 ·rw[if_pos bu]
  exact wpS_pure (h _ _ (SG.refl _) (J0.done C (.inr (by have:=beq_iff_eq.mp bu;omega))))
 rw[if_neg bu]
 by_cases cm:(0+1==a.size)=true
 ·rw[if_pos cm]
  exact wpS_pure (h _ _ (SG.refl _) (J0.last C (by have:=beq_iff_eq.mp cm;omega) hl))
 rw[if_neg cm]
 have nQ:¬(1=b.size):=fun z=>bu (beq_iff_eq.mpr z)
 have tf:¬(0+1=a.size):=fun z=>cm (beq_iff_eq.mpr z)
 refine wpS_bind (wpS_get ?_)
 refine wpS_bind (wpS_mono (wpS_forRange (I:=fun x c aw=>SG st aw∧∃out ia ib g,c=(none,out,ia,ib,g)∧JW r a b out ia ib∧ia+1<a.size∧ib<b.size∧x+1≤ia+ib) (Q:=fun c aw=>SG st aw∧∃res,c.fst=some res∧Good r a b res) ?step ?fin ⟨SG.refl _,_,_,_,_,rfl,J0,by omega,by omega,by omega⟩) ?post)
 case post=>
  rintro c aw ⟨gK,res,ec,gd⟩
  rw[ec]
  exact wpS_pure (h res aw gK gd)
 case fin=>
  rintro c aw ⟨_,out,ia,ib,g,_,_,i1,i2,i3⟩
  rw[Nat.max_eq_right (Nat.zero_le _)]at i3
  omega
 case step=>
  rintro x c aw _ hx ⟨gK,out,ia,ib,g,rfl,J,i1,i2,i3⟩
  dsimp only
  have bF:kindOf aw=κ:=by rw[gK.1];exact hk
  refine wpS_bind (wpS_mono (wpS_forRange (I:=fun y c aj=>aj=aw∧∃dR dE dD ac bc,c=(none,dR,dE,dD,ac,bc)∧JW r a b dR dE dD∧dE+1<a.size∧dD<b.size∧ia+ib+y≤dE+dD)
   (Q:=fun c aj=>aj=aw∧((∃res,c.fst=some res∧Good r a b res)∨∃dR dE dD ac bc,c=(none,dR,dE,dD,ac,bc)∧JW r a b dR dE dD∧dE+1<a.size∧dD<b.size∧ia+ib+1≤dE+dD)) ?_ ?_ ⟨rfl,_,_,_,_,_,rfl,J,i1,i2,by omega⟩) ?_)
  ·rintro y c aj _ hy ⟨rfl,dR,dE,dD,ac,bc,rfl,J',j1,j2,j3⟩
   dsimp only
   obtain⟨yb,gX⟩:=Zg (xs:=b) (i:=dD) (by omega)
   obtain⟨xa,gY⟩:=Zg (xs:=a) (i:=dE) (by omega)
   refine wpS_bind (Zl gX (wpS_bind (Zl gY (wpS_bind (hc _ _ _ _ (mb _ (Zt gX)) (ma _ (Zt gY)) bF ?_)))))
   dsimp only
   cases hr:r yb xa with
   |true=>
    rw[if_pos rfl]
    refine wpS_bind (Zl gX ?_)
    have J2:=J'.fH C gX (fun x hx=>by rw[gY]at hx;cases hx;exact C.o.bO _ _ hr)
    by_cases hz:(dD+1==b.size)=true
    ·rw[if_pos hz]
     exact wpS_pure ⟨rfl,.inl ⟨_,rfl,J2.done C (.inr (by have:=beq_iff_eq.mp hz;omega))⟩⟩
    rw[if_neg hz]
    have bj:¬(dD+1=b.size):=fun z=>hz (beq_iff_eq.mpr z)
    by_cases hg:bc+1≥g
    ·rw[if_pos hg]
     exact wpS_pure ⟨rfl,.inr ⟨_,_,_,_,_,rfl,J2,by omega,by omega,by omega⟩⟩
    ·rw[if_neg hg]
     exact wpS_pure ⟨rfl,_,_,_,_,_,rfl,J2,by omega,by omega,by omega⟩
   |false=>
    rw[if_neg Bool.false_ne_true]
    refine wpS_bind (Zl gY ?_)
    have J2:=J'.cJ C gY (fun x hx=>by rw[gX]at hx;cases hx;exact hr)
    by_cases hz:(dE+1+1==a.size)=true
    ·rw[if_pos hz]
     exact wpS_pure ⟨rfl,.inl ⟨_,rfl,J2.last C (by have:=beq_iff_eq.mp hz;omega) hl⟩⟩
    rw[if_neg hz]
    have bj:¬(dE+1+1=a.size):=fun z=>hz (beq_iff_eq.mpr z)
    by_cases hg:ac+1≥g
    ·rw[if_pos hg]
     exact wpS_pure ⟨rfl,.inr ⟨_,_,_,_,_,rfl,J2,by omega,by omega,by omega⟩⟩
    ·rw[if_neg hg]
     exact wpS_pure ⟨rfl,_,_,_,_,_,rfl,J2,by omega,by omega,by omega⟩
  ·rintro c aj ⟨rfl,dR,dE,dD,ac,bc,rfl,J',j1,j2,j3⟩
   rw[Nat.max_eq_right (Nat.zero_le _)]at j3
   omega
  rintro c aj ⟨rfl,⟨res,ec,gd⟩ |⟨dR,dE,dD,ac,bc,rfl,J',j1,j2,j3⟩⟩
  ·rw[ec]
   exact wpS_pure ⟨gK,res,rfl,gd⟩
  dsimp only
  refine wpS_bind (wpS_lift (wpAny_rule ⟨rfl,?_⟩))
  refine wpS_bind (wpS_mono (wpS_forRange (I:=fun y c aj=>SG st aj∧∃out ia ib g ac bc,c=(none,out,ia,ib,g,ac,bc)∧JW r a b out ia ib∧ia+1<a.size∧ib<b.size∧dE+dD+y≤ia+ib)
   (Q:=fun c aj=>SG st aj∧((∃res,c.fst=some res∧Good r a b res)∨∃out ia ib g ac bc,c=(none,out,ia,ib,g,ac,bc)∧JW r a b out ia ib∧ia+1<a.size∧ib<b.size∧dE+dD≤ia+ib)) ?_ ?_ ⟨gK,_,_,_,_,_,_,rfl,J',j1,j2,by omega⟩) ?_)
  ·clear J i1 i2 bF
   rintro y c aj _ hy ⟨fV,out,BJ,BI,g,ac,bc,rfl,J,i1,i2,i4⟩
   dsimp only
   revert J i1 i2 i4
   have Tu:ia+ib+1≤dE+dD:=j3
   clear j3 i3
   generalize BJ=ia
   generalize BI=ib
   intro J i1 i2 i4
   by_cases qb:g>1
   ·rw[if_pos qb]
    refine wpS_bind (YD ?_)
    generalize mf:SortSt.mk' _ _ _ _ _=aK
    have au:SG st aK:=by rw[←mf];exact fV
    have fi:kindOf aK=κ:=by rw[au.1];exact hk
    obtain⟨y2,ba⟩:=Zg (xs:=b) (i:=ib) (by omega)
    refine wpS_bind (Zl ba ?_)
    refine wpS_bind (ZD hc fi (fun i=>match a[ia+i]? with |some x=> !r y2 x |none=>false) (fun i hi=> ?_) (mb y2 (Zt ba)) (fun i j cM hj hp=> ?_) (by omega) fun k kn dm cD=> ?_)
    ·obtain⟨x,hx⟩:=Zg (xs:=a) (i:=ia+i) (by omega)
     refine⟨x,hx,ma x (Zt hx),?_⟩
     try dsimp only
     rw[hx]
     rfl
    ·obtain⟨xj,fK⟩:=Zg (xs:=a) (i:=ia+j) (by omega)
     obtain⟨xi,fL⟩:=Zg (xs:=a) (i:=ia+i) (by omega)
     try dsimp only at hp ⊢
     rw[fK]at hp
     rw[fL]
     rw[Bool.not_eq_true']at hp ⊢
     exact C.o.cR _ _ _ (Ym C.o C.sa (Zw fL) (Zw fK) (by omega)) hp
    try dsimp only
    by_cases hW:k>0
    ·rw[if_pos hW]
     have J1:=J.nI C k (by omega) (fun i hi x y hx hy=>by
      rw[ba]at hy
      cases hy
      have:=dm i hi
      try dsimp only at this
      rw[hx,Bool.not_eq_true']at this
      exact this)
     by_cases bu:(ia+k+1==a.size)=true
     ·rw[if_pos bu]
      exact wpS_pure ⟨au,.inl ⟨_,rfl,J1.last C (by have:=beq_iff_eq.mp bu;omega) hl⟩⟩
     rw[if_neg bu]
     by_cases cm:(ia+k==a.size)=true
     ·rw[if_pos cm]
      exact wpS_pure ⟨au,.inl ⟨_,rfl,J1.done C (.inl (by have:=beq_iff_eq.mp cm;omega))⟩⟩
     rw[if_neg cm]
     have nQ:¬(ia+k+1=a.size):=fun z=>bu (beq_iff_eq.mpr z)
     have tf:¬(ia+k=a.size):=fun z=>cm (beq_iff_eq.mpr z)
     refine wpS_bind (Zl ba ?_)
     have J2:=J1.fH C ba (fun x hx=>by
      have:=cD k (Nat.le_refl _) (by omega)
      try dsimp only at this
      rw[hx,Bool.not_eq_false']at this
      exact C.o.bO _ _ this)
     by_cases hz:(ib+1==b.size)=true
     ·rw[if_pos hz]
      exact wpS_pure ⟨au,.inl ⟨_,rfl,J2.done C (.inr (by have:=beq_iff_eq.mp hz;omega))⟩⟩
     rw[if_neg hz]
     have bj:¬(ib+1=b.size):=fun z=>hz (beq_iff_eq.mpr z)
     obtain⟨x3,aQ⟩:=Zg (xs:=a) (i:=ia+k) (by omega)
     refine wpS_bind (Zl aQ ?_)
     refine wpS_bind (ZD hc fi (fun i=>match b[ib+1+i]? with |some y=>r y x3 |none=>false) (fun i hi=> ?_) (ma x3 (Zt aQ)) (fun i j cM hj hp=> ?_) (by omega) fun k1 lL dm cD=> ?_)
     ·obtain⟨y,hy⟩:=Zg (xs:=b) (i:=ib+1+i) (by omega)
      refine⟨y,hy,mb y (Zt hy),?_⟩
      try dsimp only
      rw[hy]
      rfl
     ·obtain⟨yj,bX⟩:=Zg (xs:=b) (i:=ib+1+j) (by omega)
      obtain⟨yi,bY⟩:=Zg (xs:=b) (i:=ib+1+i) (by omega)
      try dsimp only at hp ⊢
      rw[bX]at hp
      rw[bY]
      exact Jj C.o hp (Ym C.o C.sb (Zw bY) (Zw bX) (by omega))
     try dsimp only
     by_cases bF:k1>0
     ·rw[if_pos bF]
      have J3:=J2.jP C k1 (by omega) (fun i hi y x hy hx=>by
       rw[aQ]at hx
       cases hx
       have:=dm i hi
       try dsimp only at this
       rw[hy]at this
       exact C.o.bO _ _ this)
      by_cases aF:(ib+1+k1==b.size)=true
      ·rw[if_pos aF]
       exact wpS_pure ⟨au,.inl ⟨_,rfl,J3.done C (.inr (by have:=beq_iff_eq.mp aF;omega))⟩⟩
      rw[if_neg aF]
      have lQ:¬(ib+1+k1=b.size):=fun z=>aF (beq_iff_eq.mpr z)
      obtain⟨x4,av⟩:=Zg (xs:=a) (i:=ia+k) (by omega)
      refine wpS_bind (Zl av ?_)
      have J4:=J3.cJ C av (fun y hy=>by
       have:=cD k1 (Nat.le_refl _) (by omega)
       try dsimp only at this
       rw[hy]at this
       have e:x4=x3:=by rw[aQ]at av;exact(Option.some.inj av).symm
       rw[e]
       exact this)
      by_cases hz:(ia+k+1+1==a.size)=true
      ·rw[if_pos hz]
       exact wpS_pure ⟨au,.inl ⟨_,rfl,J4.last C (by have:=beq_iff_eq.mp hz;omega) hl⟩⟩
      ·rw[if_neg hz]
       have bj:¬(ia+k+1+1=a.size):=fun z=>hz (beq_iff_eq.mpr z)
       by_cases h7:(decide (k<7)&&decide (k1<7))=true
       ·rw[if_pos h7]
        exact wpS_pure ⟨au,.inr ⟨_,_,_,_,_,_,rfl,J4,by omega,by omega,by omega⟩⟩
       ·rw[if_neg h7]
        exact wpS_pure ⟨au,_,_,_,_,_,_,rfl,J4,by omega,by omega,by omega⟩
     ·rw[if_neg bF]
      obtain rfl:k1=0:=by omega
      obtain⟨x4,av⟩:=Zg (xs:=a) (i:=ia+k) (by omega)
      refine wpS_bind (Zl av ?_)
      have J4:=J2.cJ C av (fun y hy=>by
       have:=cD 0 (Nat.le_refl _) (by omega)
       try dsimp only at this
       rw[Nat.add_zero,hy]at this
       have e:x4=x3:=by rw[aQ]at av;exact(Option.some.inj av).symm
       rw[e]
       exact this)
      by_cases hz:(ia+k+1+1==a.size)=true
      ·rw[if_pos hz]
       exact wpS_pure ⟨au,.inl ⟨_,rfl,J4.last C (by have:=beq_iff_eq.mp hz;omega) hl⟩⟩
      ·rw[if_neg hz]
       have bj:¬(ia+k+1+1=a.size):=fun z=>hz (beq_iff_eq.mpr z)
       by_cases h7:(decide (k<7)&&decide (0<7))=true
       ·rw[if_pos h7]
        exact wpS_pure ⟨au,.inr ⟨_,_,_,_,_,_,rfl,J4,by omega,by omega,by omega⟩⟩
       ·rw[if_neg h7]
        exact wpS_pure ⟨au,_,_,_,_,_,_,rfl,J4,by omega,by omega,by omega⟩
    ·rw[if_neg hW]
     obtain rfl:k=0:=by omega
     refine wpS_bind (Zl ba ?_)
     have J2:=J.fH C ba (fun x hx=>by
      have:=cD 0 (Nat.le_refl _) (by omega)
      try dsimp only at this
      rw[Nat.add_zero,hx,Bool.not_eq_false']at this
      exact C.o.bO _ _ this)
     by_cases hz:(ib+1==b.size)=true
     ·rw[if_pos hz]
      exact wpS_pure ⟨au,.inl ⟨_,rfl,J2.done C (.inr (by have:=beq_iff_eq.mp hz;omega))⟩⟩
     rw[if_neg hz]
     have bj:¬(ib+1=b.size):=fun z=>hz (beq_iff_eq.mpr z)
     obtain⟨x3,aQ⟩:=Zg (xs:=a) (i:=ia) (by omega)
     refine wpS_bind (Zl aQ ?_)
     refine wpS_bind (ZD hc fi (fun i=>match b[ib+1+i]? with |some y=>r y x3 |none=>false) (fun i hi=> ?_) (ma x3 (Zt aQ)) (fun i j cM hj hp=> ?_) (by omega) fun k1 lL dm cD=> ?_)
     ·obtain⟨y,hy⟩:=Zg (xs:=b) (i:=ib+1+i) (by omega)
      refine⟨y,hy,mb y (Zt hy),?_⟩
      try dsimp only
      rw[hy]
      rfl
     ·obtain⟨yj,bX⟩:=Zg (xs:=b) (i:=ib+1+j) (by omega)
      obtain⟨yi,bY⟩:=Zg (xs:=b) (i:=ib+1+i) (by omega)
      try dsimp only at hp ⊢
      rw[bX]at hp
      rw[bY]
      exact Jj C.o hp (Ym C.o C.sb (Zw bY) (Zw bX) (by omega))
     try dsimp only
     by_cases bF:k1>0
     ·rw[if_pos bF]
      have J3:=J2.jP C k1 (by omega) (fun i hi y x hy hx=>by
       rw[aQ]at hx
       cases hx
       have:=dm i hi
       try dsimp only at this
       rw[hy]at this
       exact C.o.bO _ _ this)
      by_cases aF:(ib+1+k1==b.size)=true
      ·rw[if_pos aF]
       exact wpS_pure ⟨au,.inl ⟨_,rfl,J3.done C (.inr (by have:=beq_iff_eq.mp aF;omega))⟩⟩
      rw[if_neg aF]
      have lQ:¬(ib+1+k1=b.size):=fun z=>aF (beq_iff_eq.mpr z)
      obtain⟨x4,av⟩:=Zg (xs:=a) (i:=ia) (by omega)
      refine wpS_bind (Zl av ?_)
      have J4:=J3.cJ C av (fun y hy=>by
       have:=cD k1 (Nat.le_refl _) (by omega)
       try dsimp only at this
       rw[hy]at this
       have e:x4=x3:=by rw[aQ]at av;exact(Option.some.inj av).symm
       rw[e]
       exact this)
      by_cases hz:(ia+1+1==a.size)=true
      ·rw[if_pos hz]
       exact wpS_pure ⟨au,.inl ⟨_,rfl,J4.last C (by have:=beq_iff_eq.mp hz;omega) hl⟩⟩
      ·rw[if_neg hz]
       have bj:¬(ia+1+1=a.size):=fun z=>hz (beq_iff_eq.mpr z)
       by_cases h7:(decide (0<7)&&decide (k1<7))=true
       ·rw[if_pos h7]
        exact wpS_pure ⟨au,.inr ⟨_,_,_,_,_,_,rfl,J4,by omega,by omega,by omega⟩⟩
       ·rw[if_neg h7]
        exact wpS_pure ⟨au,_,_,_,_,_,_,rfl,J4,by omega,by omega,by omega⟩
     ·rw[if_neg bF]
      obtain rfl:k1=0:=by omega
      obtain⟨x4,av⟩:=Zg (xs:=a) (i:=ia) (by omega)
      refine wpS_bind (Zl av ?_)
      have J4:=J2.cJ C av (fun y hy=>by
       have:=cD 0 (Nat.le_refl _) (by omega)
       try dsimp only at this
       rw[Nat.add_zero,hy]at this
       have e:x4=x3:=by rw[aQ]at av;exact(Option.some.inj av).symm
       rw[e]
       exact this)
      by_cases hz:(ia+1+1==a.size)=true
      ·rw[if_pos hz]
       exact wpS_pure ⟨au,.inl ⟨_,rfl,J4.last C (by have:=beq_iff_eq.mp hz;omega) hl⟩⟩
      ·rw[if_neg hz]
       have bj:¬(ia+1+1=a.size):=fun z=>hz (beq_iff_eq.mpr z)
       by_cases h7:(decide (0<7)&&decide (0<7))=true
       ·rw[if_pos h7]
        exact wpS_pure ⟨au,.inr ⟨_,_,_,_,_,_,rfl,J4,by omega,by omega,by omega⟩⟩
       ·rw[if_neg h7]
        exact wpS_pure ⟨au,_,_,_,_,_,_,rfl,J4,by omega,by omega,by omega⟩
   ·rw[if_neg qb]
    refine wpS_bind (YD ?_)
    generalize mf:SortSt.mk' _ _ _ _ _=aK
    have au:SG st aK:=by rw[←mf];exact fV
    have fi:kindOf aK=κ:=by rw[au.1];exact hk
    obtain⟨y2,ba⟩:=Zg (xs:=b) (i:=ib) (by omega)
    refine wpS_bind (Zl ba ?_)
    refine wpS_bind (ZD hc fi (fun i=>match a[ia+i]? with |some x=> !r y2 x |none=>false) (fun i hi=> ?_) (mb y2 (Zt ba)) (fun i j cM hj hp=> ?_) (by omega) fun k kn dm cD=> ?_)
    ·obtain⟨x,hx⟩:=Zg (xs:=a) (i:=ia+i) (by omega)
     refine⟨x,hx,ma x (Zt hx),?_⟩
     try dsimp only
     rw[hx]
     rfl
    ·obtain⟨xj,fK⟩:=Zg (xs:=a) (i:=ia+j) (by omega)
     obtain⟨xi,fL⟩:=Zg (xs:=a) (i:=ia+i) (by omega)
     try dsimp only at hp ⊢
     rw[fK]at hp
     rw[fL]
     rw[Bool.not_eq_true']at hp ⊢
     exact C.o.cR _ _ _ (Ym C.o C.sa (Zw fL) (Zw fK) (by omega)) hp
    try dsimp only
    by_cases hW:k>0
    ·rw[if_pos hW]
     have J1:=J.nI C k (by omega) (fun i hi x y hx hy=>by
      rw[ba]at hy
      cases hy
      have:=dm i hi
      try dsimp only at this
      rw[hx,Bool.not_eq_true']at this
      exact this)
     by_cases bu:(ia+k+1==a.size)=true
     ·rw[if_pos bu]
      exact wpS_pure ⟨au,.inl ⟨_,rfl,J1.last C (by have:=beq_iff_eq.mp bu;omega) hl⟩⟩
     rw[if_neg bu]
     by_cases cm:(ia+k==a.size)=true
     ·rw[if_pos cm]
      exact wpS_pure ⟨au,.inl ⟨_,rfl,J1.done C (.inl (by have:=beq_iff_eq.mp cm;omega))⟩⟩
     rw[if_neg cm]
     have nQ:¬(ia+k+1=a.size):=fun z=>bu (beq_iff_eq.mpr z)
     have tf:¬(ia+k=a.size):=fun z=>cm (beq_iff_eq.mpr z)
     refine wpS_bind (Zl ba ?_)
     have J2:=J1.fH C ba (fun x hx=>by
      have:=cD k (Nat.le_refl _) (by omega)
      try dsimp only at this
      rw[hx,Bool.not_eq_false']at this
      exact C.o.bO _ _ this)
     by_cases hz:(ib+1==b.size)=true
     ·rw[if_pos hz]
      exact wpS_pure ⟨au,.inl ⟨_,rfl,J2.done C (.inr (by have:=beq_iff_eq.mp hz;omega))⟩⟩
     rw[if_neg hz]
     have bj:¬(ib+1=b.size):=fun z=>hz (beq_iff_eq.mpr z)
     obtain⟨x3,aQ⟩:=Zg (xs:=a) (i:=ia+k) (by omega)
     refine wpS_bind (Zl aQ ?_)
     refine wpS_bind (ZD hc fi (fun i=>match b[ib+1+i]? with |some y=>r y x3 |none=>false) (fun i hi=> ?_) (ma x3 (Zt aQ)) (fun i j cM hj hp=> ?_) (by omega) fun k1 lL dm cD=> ?_)
     ·obtain⟨y,hy⟩:=Zg (xs:=b) (i:=ib+1+i) (by omega)
      refine⟨y,hy,mb y (Zt hy),?_⟩
      try dsimp only
      rw[hy]
      rfl
     ·obtain⟨yj,bX⟩:=Zg (xs:=b) (i:=ib+1+j) (by omega)
      obtain⟨yi,bY⟩:=Zg (xs:=b) (i:=ib+1+i) (by omega)
      try dsimp only at hp ⊢
      rw[bX]at hp
      rw[bY]
      exact Jj C.o hp (Ym C.o C.sb (Zw bY) (Zw bX) (by omega))
     try dsimp only
     by_cases bF:k1>0
     ·rw[if_pos bF]
      have J3:=J2.jP C k1 (by omega) (fun i hi y x hy hx=>by
       rw[aQ]at hx
       cases hx
       have:=dm i hi
       try dsimp only at this
       rw[hy]at this
       exact C.o.bO _ _ this)
      by_cases aF:(ib+1+k1==b.size)=true
      ·rw[if_pos aF]
       exact wpS_pure ⟨au,.inl ⟨_,rfl,J3.done C (.inr (by have:=beq_iff_eq.mp aF;omega))⟩⟩
      rw[if_neg aF]
      have lQ:¬(ib+1+k1=b.size):=fun z=>aF (beq_iff_eq.mpr z)
      obtain⟨x4,av⟩:=Zg (xs:=a) (i:=ia+k) (by omega)
      refine wpS_bind (Zl av ?_)
      have J4:=J3.cJ C av (fun y hy=>by
       have:=cD k1 (Nat.le_refl _) (by omega)
       try dsimp only at this
       rw[hy]at this
       have e:x4=x3:=by rw[aQ]at av;exact(Option.some.inj av).symm
       rw[e]
       exact this)
      by_cases hz:(ia+k+1+1==a.size)=true
      ·rw[if_pos hz]
       exact wpS_pure ⟨au,.inl ⟨_,rfl,J4.last C (by have:=beq_iff_eq.mp hz;omega) hl⟩⟩
      ·rw[if_neg hz]
       have bj:¬(ia+k+1+1=a.size):=fun z=>hz (beq_iff_eq.mpr z)
       by_cases h7:(decide (k<7)&&decide (k1<7))=true
       ·rw[if_pos h7]
        exact wpS_pure ⟨au,.inr ⟨_,_,_,_,_,_,rfl,J4,by omega,by omega,by omega⟩⟩
       ·rw[if_neg h7]
        exact wpS_pure ⟨au,_,_,_,_,_,_,rfl,J4,by omega,by omega,by omega⟩
     ·rw[if_neg bF]
      obtain rfl:k1=0:=by omega
      obtain⟨x4,av⟩:=Zg (xs:=a) (i:=ia+k) (by omega)
      refine wpS_bind (Zl av ?_)
      have J4:=J2.cJ C av (fun y hy=>by
       have:=cD 0 (Nat.le_refl _) (by omega)
       try dsimp only at this
       rw[Nat.add_zero,hy]at this
       have e:x4=x3:=by rw[aQ]at av;exact(Option.some.inj av).symm
       rw[e]
       exact this)
      by_cases hz:(ia+k+1+1==a.size)=true
      ·rw[if_pos hz]
       exact wpS_pure ⟨au,.inl ⟨_,rfl,J4.last C (by have:=beq_iff_eq.mp hz;omega) hl⟩⟩
      ·rw[if_neg hz]
       have bj:¬(ia+k+1+1=a.size):=fun z=>hz (beq_iff_eq.mpr z)
       by_cases h7:(decide (k<7)&&decide (0<7))=true
       ·rw[if_pos h7]
        exact wpS_pure ⟨au,.inr ⟨_,_,_,_,_,_,rfl,J4,by omega,by omega,by omega⟩⟩
       ·rw[if_neg h7]
        exact wpS_pure ⟨au,_,_,_,_,_,_,rfl,J4,by omega,by omega,by omega⟩
    ·rw[if_neg hW]
     obtain rfl:k=0:=by omega
     refine wpS_bind (Zl ba ?_)
     have J2:=J.fH C ba (fun x hx=>by
      have:=cD 0 (Nat.le_refl _) (by omega)
      try dsimp only at this
      rw[Nat.add_zero,hx,Bool.not_eq_false']at this
      exact C.o.bO _ _ this)
     by_cases hz:(ib+1==b.size)=true
     ·rw[if_pos hz]
      exact wpS_pure ⟨au,.inl ⟨_,rfl,J2.done C (.inr (by have:=beq_iff_eq.mp hz;omega))⟩⟩
     rw[if_neg hz]
     have bj:¬(ib+1=b.size):=fun z=>hz (beq_iff_eq.mpr z)
     obtain⟨x3,aQ⟩:=Zg (xs:=a) (i:=ia) (by omega)
     refine wpS_bind (Zl aQ ?_)
     refine wpS_bind (ZD hc fi (fun i=>match b[ib+1+i]? with |some y=>r y x3 |none=>false) (fun i hi=> ?_) (ma x3 (Zt aQ)) (fun i j cM hj hp=> ?_) (by omega) fun k1 lL dm cD=> ?_)
     ·obtain⟨y,hy⟩:=Zg (xs:=b) (i:=ib+1+i) (by omega)
      refine⟨y,hy,mb y (Zt hy),?_⟩
      try dsimp only
      rw[hy]
      rfl
     ·obtain⟨yj,bX⟩:=Zg (xs:=b) (i:=ib+1+j) (by omega)
      obtain⟨yi,bY⟩:=Zg (xs:=b) (i:=ib+1+i) (by omega)
      try dsimp only at hp ⊢
      rw[bX]at hp
      rw[bY]
      exact Jj C.o hp (Ym C.o C.sb (Zw bY) (Zw bX) (by omega))
     try dsimp only
     by_cases bF:k1>0
     ·rw[if_pos bF]
      have J3:=J2.jP C k1 (by omega) (fun i hi y x hy hx=>by
       rw[aQ]at hx
       cases hx
       have:=dm i hi
       try dsimp only at this
       rw[hy]at this
       exact C.o.bO _ _ this)
      by_cases aF:(ib+1+k1==b.size)=true
      ·rw[if_pos aF]
       exact wpS_pure ⟨au,.inl ⟨_,rfl,J3.done C (.inr (by have:=beq_iff_eq.mp aF;omega))⟩⟩
      rw[if_neg aF]
      have lQ:¬(ib+1+k1=b.size):=fun z=>aF (beq_iff_eq.mpr z)
      obtain⟨x4,av⟩:=Zg (xs:=a) (i:=ia) (by omega)
      refine wpS_bind (Zl av ?_)
      have J4:=J3.cJ C av (fun y hy=>by
       have:=cD k1 (Nat.le_refl _) (by omega)
       try dsimp only at this
       rw[hy]at this
       have e:x4=x3:=by rw[aQ]at av;exact(Option.some.inj av).symm
       rw[e]
       exact this)
      by_cases hz:(ia+1+1==a.size)=true
      ·rw[if_pos hz]
       exact wpS_pure ⟨au,.inl ⟨_,rfl,J4.last C (by have:=beq_iff_eq.mp hz;omega) hl⟩⟩
      ·rw[if_neg hz]
       have bj:¬(ia+1+1=a.size):=fun z=>hz (beq_iff_eq.mpr z)
       by_cases h7:(decide (0<7)&&decide (k1<7))=true
       ·rw[if_pos h7]
        exact wpS_pure ⟨au,.inr ⟨_,_,_,_,_,_,rfl,J4,by omega,by omega,by omega⟩⟩
       ·rw[if_neg h7]
        exact wpS_pure ⟨au,_,_,_,_,_,_,rfl,J4,by omega,by omega,by omega⟩
     ·rw[if_neg bF]
      obtain rfl:k1=0:=by omega
      obtain⟨x4,av⟩:=Zg (xs:=a) (i:=ia) (by omega)
      refine wpS_bind (Zl av ?_)
      have J4:=J2.cJ C av (fun y hy=>by
       have:=cD 0 (Nat.le_refl _) (by omega)
       try dsimp only at this
       rw[Nat.add_zero,hy]at this
       have e:x4=x3:=by rw[aQ]at av;exact(Option.some.inj av).symm
       rw[e]
       exact this)
      by_cases hz:(ia+1+1==a.size)=true
      ·rw[if_pos hz]
       exact wpS_pure ⟨au,.inl ⟨_,rfl,J4.last C (by have:=beq_iff_eq.mp hz;omega) hl⟩⟩
      ·rw[if_neg hz]
       have bj:¬(ia+1+1=a.size):=fun z=>hz (beq_iff_eq.mpr z)
       by_cases h7:(decide (0<7)&&decide (0<7))=true
       ·rw[if_pos h7]
        exact wpS_pure ⟨au,.inr ⟨_,_,_,_,_,_,rfl,J4,by omega,by omega,by omega⟩⟩
       ·rw[if_neg h7]
        exact wpS_pure ⟨au,_,_,_,_,_,_,rfl,J4,by omega,by omega,by omega⟩
  ·rintro c aj ⟨fV,out,ia,ib,g,ac,bc,rfl,J,i1,i2,i4⟩
   rw[Nat.max_eq_right (Nat.zero_le _)]at i4
   omega
  rintro c aj ⟨fV,⟨res,ec,gd⟩ |⟨out,BJ,BI,g,ac,bc,rfl,J2,k1,k2,k3⟩⟩
  ·rw[ec]
   exact wpS_pure ⟨fV,res,rfl,gd⟩
  dsimp only
  refine wpS_bind (YD (wpS_pure ⟨fV,_,_,_,_,rfl,J2,k1,k2,by omega⟩))
end
def Ij:Array Keyed→Array Keyed→StateT SortSt Sem (Array Keyed):=sortPriv%PySem.Builtin.mergeHi
structure JH (r:Keyed→Keyed→Bool) (a b out:Array Keyed) (na nb:Nat):Prop where
 la:na≤a.size
 lb:nb≤b.size
 perm:((a.toList.take na++b.toList.take nb)++out.toList.reverse).Perm (a.toList++b.toList)
 i8:Pw r out.toList.reverse
 gm:∀y∈a.toList.take na++b.toList.take nb,∀x∈out.toList,r x y=false
theorem W0 {α:Type}{l:List α}{i:Nat}{x:α}(h:l[i]? =some x):l.take (i+1)=l.take i++[x]:=by
 rw[List.take_add_one,h]
 rfl
theorem JK {r:Keyed→Keyed→Bool}{l:List Keyed}{i:Nat}{x:Keyed}(o:Ord r) (p:Pw r l) (h:l[i]? =some x):∀y∈l.take (i+1),r x y=false:=fun y hy=>by
 obtain⟨j,hj,e⟩:=List.getElem_of_mem hy
 rw[List.length_take]at hj
 rw[List.getElem_take]at e
 exact Ym (i:=j) o p (by rw[List.getElem?_eq_getElem (by omega),e]) h (by omega)
theorem ug (xs:Array Keyed) (j:Nat):(xs.extract 0 j).toList=xs.toList.take j:=by
 rw[Jx,List.drop_zero,Nat.sub_zero]
section
variable {r:Keyed→Keyed→Bool}{a b out:Array Keyed}{na nb:Nat}
theorem JH.cJ (C:eI r a b) (J:JH r a b out na nb) {x:Keyed}(h1:1≤na) (hx:a[na - 1]? =some x) (h:1≤nb→∀y,b[nb - 1]? =some y→r x y=false):JH r a b (out.push x) (na - 1) nb:=by
 have la:=J.la
 have lb:=J.lb
 have gZ:=Zw hx
 have ht:=W0 gZ
 rw[Nat.sub_add_cancel h1]at ht
 have mx:x∈a.toList.take na:=by rw[ht];simp
 have low:∀y∈a.toList.take (na - 1)++b.toList.take nb,r x y=false:=fun y hy=>by
  rcases List.mem_append.mp hy with hy |hy
  ·exact JK C.o C.sa gZ y (by rw[Nat.sub_add_cancel h1,ht];exact List.mem_append_left _ hy)
  ·have n1:1≤nb:=by
    rcases Nat.eq_zero_or_pos nb with z |z
    ·rw[z]at hy;cases hy
    ·exact z
   obtain⟨z,e⟩:=Zg (xs:=b) (i:=nb - 1) (by omega)
   have:=JK C.o C.sb (Zw e) y (by rw[Nat.sub_add_cancel n1];exact hy)
   exact C.o.cR y z x this (h n1 z e)
 refine⟨by omega,lb,?_,?_,fun y hy u hu=> ?_⟩
 ·rw[Array.toList_push,List.reverse_append]
  have P:=J.perm
  rw[ht]at P
  refine List.Perm.trans ?_ P
  show((a.toList.take (na - 1)++b.toList.take nb)++(x::out.toList.reverse)).Perm (((a.toList.take (na - 1)++[x])++b.toList.take nb)++out.toList.reverse)
  rw[List.append_assoc,List.append_assoc,List.append_assoc]
  refine List.Perm.append_left _ ?_
  show(b.toList.take nb++x::out.toList.reverse).Perm (x::(b.toList.take nb++out.toList.reverse))
  exact List.perm_middle
 ·rw[Array.toList_push,List.reverse_append]
  refine List.pairwise_cons.mpr ⟨fun u hu=> ?_,J.i8⟩
  exact J.gm x (List.mem_append_left _ mx) u (List.mem_reverse.mp hu)
 ·rw[Array.toList_push]at hu
  rcases List.mem_append.mp hu with hu |hu
  ·refine J.gm y ?_ u hu
   rcases List.mem_append.mp hy with hy |hy
   ·exact List.mem_append_left _ (by rw[ht];exact List.mem_append_left _ hy)
   ·exact List.mem_append_right _ hy
  ·rw[List.mem_singleton.mp hu]
   exact low y hy
theorem JH.fH (C:eI r a b) (J:JH r a b out na nb) {y:Keyed}(h1:1≤nb) (hy:b[nb - 1]? =some y) (h:1≤na→∀x,a[na - 1]? =some x→r y x=false):JH r a b (out.push y) na (nb - 1):=by
 have la:=J.la
 have lb:=J.lb
 have lT:=Zw hy
 have ht:=W0 lT
 rw[Nat.sub_add_cancel h1]at ht
 have my:y∈b.toList.take nb:=by rw[ht];simp
 have low:∀z∈a.toList.take na++b.toList.take (nb - 1),r y z=false:=fun z hz=>by
  rcases List.mem_append.mp hz with hz |hz
  ·have n1:1≤na:=by
    rcases Nat.eq_zero_or_pos na with q |q
    ·rw[q]at hz;cases hz
    ·exact q
   obtain⟨x,e⟩:=Zg (xs:=a) (i:=na - 1) (by omega)
   have:=JK C.o C.sa (Zw e) z (by rw[Nat.sub_add_cancel n1];exact hz)
   exact C.o.cR z x y this (h n1 x e)
  ·exact JK C.o C.sb lT z (by rw[Nat.sub_add_cancel h1,ht];exact List.mem_append_left _ hz)
 refine⟨la,by omega,?_,?_,fun z hz u hu=> ?_⟩
 ·rw[Array.toList_push,List.reverse_append]
  have P:=J.perm
  rw[ht]at P
  refine List.Perm.trans ?_ P
  show((a.toList.take na++b.toList.take (nb - 1))++(y::out.toList.reverse)).Perm ((a.toList.take na++(b.toList.take (nb - 1)++[y]))++out.toList.reverse)
  rw[List.append_assoc,List.append_assoc,List.append_assoc]
  exact .refl _
 ·rw[Array.toList_push,List.reverse_append]
  refine List.pairwise_cons.mpr ⟨fun u hu=> ?_,J.i8⟩
  exact J.gm y (List.mem_append_right _ my) u (List.mem_reverse.mp hu)
 ·rw[Array.toList_push]at hu
  rcases List.mem_append.mp hu with hu |hu
  ·refine J.gm z ?_ u hu
   rcases List.mem_append.mp hz with hz |hz
   ·exact List.mem_append_left _ hz
   ·exact List.mem_append_right _ (by rw[ht];exact List.mem_append_left _ hz)
  ·rw[List.mem_singleton.mp hu]
   exact low z hz
theorem Eu {xs:Array Keyed}{i n:Nat}{x:Keyed}(hx:xs[i]? =some x) (h:i<n) (hn:n≤xs.size):(xs.extract i n).reverse=(xs.extract (i+1) n).reverse.push x:=by
 apply Array.toList_inj.mp
 rw[Array.toList_reverse,Array.toList_push,Array.toList_reverse,Jx,Jx,Y5 (Zw hx),show n - i=(n - (i+1))+1 by omega,List.take_succ_cons,List.reverse_cons]
theorem JH.nI (C:eI r a b) (J:JH r a b out na nb):∀k,k≤na→(∀i,na - k≤i→i<na→∀x y,a[i]? =some x→b[nb - 1]? =some y→r x y=false)→JH r a b (out++(a.extract (na - k) na).reverse) (na - k) nb
 |0,_,_=>by
  have e:a.extract (na - 0) na= #[]:=by simp;omega
  rw[e]
  simpa using J
 |k+1,hk,h=>by
  have la:=J.la
  obtain⟨x,hx⟩:=Zg (xs:=a) (i:=na - (k+1)) (by omega)
  have ih:=JH.nI C J k (by omega) fun i h1 h2=>h i (by omega) h2
  have e1:na - k - 1=na - (k+1):=by omega
  have:=ih.cJ C (x:=x) (by omega) (by rw[e1];exact hx) fun _ y hy=>h (na - (k+1)) (Nat.le_refl _) (by omega) x y hx hy
  rw[e1]at this
  rw[Eu hx (by omega) la,show na - (k+1)+1=na - k by omega,Array.append_push]
  exact this
theorem JH.jP (C:eI r a b) (J:JH r a b out na nb):∀k,k≤nb→(∀i,nb - k≤i→i<nb→∀y x,b[i]? =some y→a[na - 1]? =some x→r y x=false)→JH r a b (out++(b.extract (nb - k) nb).reverse) na (nb - k)
 |0,_,_=>by
  have e:b.extract (nb - 0) nb= #[]:=by simp;omega
  rw[e]
  simpa using J
 |k+1,hk,h=>by
  have lb:=J.lb
  obtain⟨y,hy⟩:=Zg (xs:=b) (i:=nb - (k+1)) (by omega)
  have ih:=JH.jP C J k (by omega) fun i h1 h2=>h i (by omega) h2
  have e1:nb - k - 1=nb - (k+1):=by omega
  have:=ih.fH C (y:=y) (by omega) (by rw[e1];exact hy) fun _ x hx=>h (nb - (k+1)) (Nat.le_refl _) (by omega) y x hy hx
  rw[e1]at this
  rw[Eu hy (by omega) lb,show nb - (k+1)+1=nb - k by omega,Array.append_push]
  exact this
theorem JH.AW (C:eI r a b) (J:JH r a b out na nb) {m:Nat}(hm:m≤na) (h:∀i,m≤i→i<na→∀x y,a[i]? =some x→b[nb - 1]? =some y→r x y=false):JH r a b (out++(a.extract m na).reverse) m nb:=by
 have:=J.nI C (na - m) (by omega) (fun i h1 h2=>h i (by omega) h2)
 rw[show na - (na - m)=m by omega]at this
 exact this
theorem JH.r6 (C:eI r a b) (J:JH r a b out na nb) {m:Nat}(hm:m≤nb) (h:∀i,m≤i→i<nb→∀y x,b[i]? =some y→a[na - 1]? =some x→r y x=false):JH r a b (out++(b.extract m nb).reverse) na m:=by
 have:=J.jP C (nb - m) (by omega) (fun i h1 h2=>h i (by omega) h2)
 rw[show nb - (nb - m)=m by omega]at this
 exact this
theorem JH.done (C:eI r a b) (J:JH r a b out na nb) (h:na=0∨nb=0):Good r a b (a.extract 0 na++b.extract 0 nb++out.reverse):=by
 unfold Good
 rw[Array.toList_append,Array.toList_append,ug,ug,Array.toList_reverse]
 refine⟨J.perm,?_⟩
 have pa:Pw r (a.toList.take na):=List.Pairwise.sublist (List.take_sublist _ _) C.sa
 have pb:Pw r (b.toList.take nb):=List.Pairwise.sublist (List.take_sublist _ _) C.sb
 refine List.pairwise_append.mpr ⟨?_,J.i8,fun y hy x hx=>J.gm y hy x (List.mem_reverse.mp hx)⟩
 rcases h with h |h
 ·rw[h,List.take_zero,List.nil_append]
  exact pb
 ·rw[h,List.take_zero,List.append_nil]
  exact pa
theorem JH.first (C:eI r a b) (J:JH r a b out na nb) (h:nb=1) (h0:∀y,b[0]? =some y→∀x∈a.toList,r x y=false):Good r a b (b.extract 0 nb++a.extract 0 na++out.reverse):=by
 have lb:=J.lb
 subst h
 unfold Good
 obtain⟨y,hy⟩:=Zg (xs:=b) (i:=0) (by omega)
 have et:b.toList.take 1=[y]:=by rw[show(1:Nat)=0+1 from rfl,W0 (Zw hy)];rfl
 rw[Array.toList_append,Array.toList_append,ug,ug,Array.toList_reverse,et]
 have P:=J.perm
 have B:=J.gm
 rw[et]at P B
 have pa:Pw r (a.toList.take na):=List.Pairwise.sublist (List.take_sublist _ _) C.sa
 refine⟨List.Perm.trans (List.Perm.append_right _ List.perm_append_comm) P,?_⟩
 refine List.pairwise_append.mpr ⟨?_,J.i8,fun z hz x hx=>B z ?_ x (List.mem_reverse.mp hx)⟩
 ·refine List.pairwise_cons.mpr ⟨fun z hz=>h0 y hy z (List.mem_of_mem_take hz),pa⟩
 ·rcases List.mem_append.mp hz with hz |hz
  ·exact List.mem_append_right _ hz
  ·exact List.mem_append_left _ hz
end
section
variable {prog:Program}{w:World}{A:Around}{E:Value→Shared→Prop}{s:Shared}{κ:SortKind}{a₀:Array Keyed}{r:Keyed→Keyed→Bool}
theorem Ul {a b:Array Keyed}{Q:Array Keyed→SortSt→Prop}{st:SortSt}(hc:iz prog w A E s κ a₀ r) (hk:kindOf st=κ) (C:eI r a b) (ma:∀x∈a.toList,x∈a₀.toList) (mb:∀x∈b.toList,x∈a₀.toList) (HY:1≤a.size) (To:1≤b.size)
  (h0:∀y,b[0]? =some y→∀x∈a.toList,r x y=false) (hl:∀x,a[a.size - 1]? =some x→∀y∈b.toList,r x y=false)
  (h:∀res aa,SG st aa→Good r a b res→Q res aa):wpS (model prog w) A E s (Ij a b) Q st:=by
 show wpS (model prog w) A E s (_ >>=_) _ _
 dsimp only
 refine wpS_bind (wpS_lift (wpAny_rule ⟨rfl,?_⟩))
 obtain⟨x0,lU⟩:=Zg (xs:=a) (i:=a.size - 1) (by omega)
 refine wpS_bind (Zl lU ?_)
 have J0:JH r a b #[x0] (a.size - 1) b.size:=by
  have e:JH r a b #[] a.size b.size:=⟨Nat.le_refl _,Nat.le_refl _,by simp[←Array.length_toList],.nil,fun y hy x hx=>by cases hx⟩
  exact e.cJ C HY lU fun _ y hy=>hl x0 lU y (Zt hy)
 by_cases bu:(a.size - 1==0)=true
 ·rw[if_pos bu]
  exact wpS_pure (h _ _ (SG.refl _) (J0.done C (.inl (beq_iff_eq.mp bu))))
 rw[if_neg bu]
 by_cases cm:(b.size==1)=true
 ·rw[if_pos cm]
  exact wpS_pure (h _ _ (SG.refl _) (J0.first C (beq_iff_eq.mp cm) h0))
 rw[if_neg cm]
 have nQ:¬(a.size - 1=0):=fun z=>bu (beq_iff_eq.mpr z)
 have tf:¬(b.size=1):=fun z=>cm (beq_iff_eq.mpr z)
 refine wpS_bind (wpS_get ?_)
 refine wpS_bind (wpS_mono (wpS_forRange (I:=fun x c aw=>SG st aw∧∃na nb out g,c=(none,na,nb,out,g)∧JH r a b out na nb∧1≤na∧2≤nb∧na+nb+x+1≤a.size+b.size) (Q:=fun c aw=>SG st aw∧∃res,c.fst=some res∧Good r a b res) ?step ?fin ⟨SG.refl _,_,_,_,_,rfl,J0,by omega,by omega,by omega⟩) ?post)
 case post=>
  rintro c aw ⟨gK,res,ec,gd⟩
  rw[ec]
  exact wpS_pure (h res aw gK gd)
 case fin=>
  rintro c aw ⟨_,na,nb,out,g,_,_,i1,i2,i3⟩
  rw[Nat.max_eq_right (Nat.zero_le _)]at i3
  omega
 case step=>
  rintro x c aw _ hx ⟨gK,na,nb,out,g,rfl,J,i1,i2,i3⟩
  dsimp only
  have bF:kindOf aw=κ:=by rw[gK.1];exact hk
  refine wpS_bind (wpS_mono (wpS_forRange (I:=fun y c aj=>aj=aw∧∃dU dS dR ac bc,c=(none,dU,dS,dR,ac,bc)∧JH r a b dR dU dS∧1≤dU∧2≤dS∧dU+dS+y≤na+nb)
   (Q:=fun c aj=>aj=aw∧((∃res,c.fst=some res∧Good r a b res)∨∃dU dS dR ac bc,c=(none,dU,dS,dR,ac,bc)∧JH r a b dR dU dS∧1≤dU∧2≤dS∧dU+dS+1≤na+nb)) ?_ ?_ ⟨rfl,_,_,_,_,_,rfl,J,i1,i2,by omega⟩) ?_)
  ·rintro y c aj _ hy ⟨rfl,dU,dS,dR,ac,bc,rfl,J',j1,j2,j3⟩
   dsimp only
   have la:=J'.la
   have lb:=J'.lb
   obtain⟨yb,gX⟩:=Zg (xs:=b) (i:=dS - 1) (by omega)
   obtain⟨xa,gY⟩:=Zg (xs:=a) (i:=dU - 1) (by omega)
   refine wpS_bind (Zl gX (wpS_bind (Zl gY (wpS_bind (hc _ _ _ _ (mb _ (Zt gX)) (ma _ (Zt gY)) bF ?_)))))
   dsimp only
   cases hr:r yb xa with
   |true=>
    rw[if_pos rfl]
    refine wpS_bind (Zl gY ?_)
    have J2:=J'.cJ C j1 gY (fun _ y hy=>by rw[gX]at hy;cases hy;exact C.o.bO _ _ hr)
    by_cases hz:(dU - 1==0)=true
    ·rw[if_pos hz]
     exact wpS_pure ⟨rfl,.inl ⟨_,rfl,J2.done C (.inl (beq_iff_eq.mp hz))⟩⟩
    rw[if_neg hz]
    have bj:¬(dU - 1=0):=fun z=>hz (beq_iff_eq.mpr z)
    by_cases hg:ac+1≥g
    ·rw[if_pos hg]
     exact wpS_pure ⟨rfl,.inr ⟨_,_,_,_,_,rfl,J2,by omega,by omega,by omega⟩⟩
    ·rw[if_neg hg]
     exact wpS_pure ⟨rfl,_,_,_,_,_,rfl,J2,by omega,by omega,by omega⟩
   |false=>
    rw[if_neg Bool.false_ne_true]
    refine wpS_bind (Zl gX ?_)
    have J2:=J'.fH C (by omega) gX (fun _ x hx=>by rw[gY]at hx;cases hx;exact hr)
    by_cases hz:(dS - 1==1)=true
    ·rw[if_pos hz]
     exact wpS_pure ⟨rfl,.inl ⟨_,rfl,J2.first C (beq_iff_eq.mp hz) h0⟩⟩
    rw[if_neg hz]
    have bj:¬(dS - 1=1):=fun z=>hz (beq_iff_eq.mpr z)
    by_cases hg:bc+1≥g
    ·rw[if_pos hg]
     exact wpS_pure ⟨rfl,.inr ⟨_,_,_,_,_,rfl,J2,by omega,by omega,by omega⟩⟩
    ·rw[if_neg hg]
     exact wpS_pure ⟨rfl,_,_,_,_,_,rfl,J2,by omega,by omega,by omega⟩
  ·rintro c aj ⟨rfl,dU,dS,dR,ac,bc,rfl,J',j1,j2,j3⟩
   rw[Nat.max_eq_right (Nat.zero_le _)]at j3
   have la:=J.la
   have lb:=J.lb
   omega
  rintro c aj ⟨rfl,⟨res,ec,gd⟩ |⟨dU,dS,dR,ac,bc,rfl,J',j1,j2,j3⟩⟩
  ·rw[ec]
   exact wpS_pure ⟨gK,res,rfl,gd⟩
  dsimp only
  refine wpS_bind (wpS_lift (wpAny_rule ⟨rfl,?_⟩))
  refine wpS_bind (wpS_mono (wpS_forRange (I:=fun y c aj=>SG st aj∧∃na nb out g ac bc,c=(none,na,nb,out,g,ac,bc)∧JH r a b out na nb∧1≤na∧2≤nb∧na+nb+y≤dU+dS)
   (Q:=fun c aj=>SG st aj∧((∃res,c.fst=some res∧Good r a b res)∨∃na nb out g ac bc,c=(none,na,nb,out,g,ac,bc)∧JH r a b out na nb∧1≤na∧2≤nb∧na+nb≤dU+dS)) ?_ ?_ ⟨gK,_,_,_,_,_,_,rfl,J',j1,j2,by omega⟩) ?_)
  ·clear J i1 i2 bF
   rintro y c aj _ hy ⟨fV,Bw,Bv,out,g,ac,bc,rfl,J,i1,i2,i4⟩
   dsimp only
   revert J i1 i2 i4
   clear j3 i3
   generalize Bw=na
   generalize Bv=nb
   intro J i1 i2 i4
   have la:=J.la
   have lb:=J.lb
   by_cases qb:g>1
   ·rw[if_pos qb]
    refine wpS_bind (YD ?_)
    generalize mf:SortSt.mk' _ _ _ _ _=aK
    have au:SG st aK:=by rw[←mf];exact fV
    have fi:kindOf aK=κ:=by rw[au.1];exact hk
    obtain⟨y2,ba⟩:=Zg (xs:=b) (i:=nb - 1) (by omega)
    refine wpS_bind (Zl ba ?_)
    refine wpS_bind (ZD hc fi (fun i=>match a[0+i]? with |some x=> !r y2 x |none=>false) (fun i hi=> ?_) (mb y2 (Zt ba)) (fun i j cM hj hp=> ?_) (by omega) fun at_ kn dm cD=> ?_)
    ·obtain⟨x,hx⟩:=Zg (xs:=a) (i:=0+i) (by omega)
     refine⟨x,hx,ma x (Zt hx),?_⟩
     try dsimp only
     rw[hx]
     rfl
    ·obtain⟨xj,fK⟩:=Zg (xs:=a) (i:=0+j) (by omega)
     obtain⟨xi,fL⟩:=Zg (xs:=a) (i:=0+i) (by omega)
     try dsimp only at hp ⊢
     rw[fK]at hp
     rw[fL]
     rw[Bool.not_eq_true']at hp ⊢
     exact C.o.cR _ _ _ (Ym C.o C.sa (Zw fL) (Zw fK) (by omega)) hp
    try dsimp only
    by_cases hW:na - at_>0
    ·rw[if_pos hW]
     have J1:=J.AW C (m:=at_) (by omega) (fun i hX gf x y hx hy=>by
      rw[ba]at hy
      cases hy
      have:=cD i hX gf
      try dsimp only at this
      rw[Nat.zero_add,hx,Bool.not_eq_false']at this
      exact C.o.bO _ _ this)
     by_cases bu:(at_==0)=true
     ·rw[if_pos bu]
      exact wpS_pure ⟨au,.inl ⟨_,rfl,J1.done C (.inl (beq_iff_eq.mp bu))⟩⟩
     rw[if_neg bu]
     have nQ:¬(at_=0):=fun z=>bu (beq_iff_eq.mpr z)
     refine wpS_bind (Zl ba ?_)
     have J2:=J1.fH C (by omega) ba (fun _ x hx=>by
      have:=dm (at_ - 1) (by omega)
      try dsimp only at this
      rw[Nat.zero_add,hx,Bool.not_eq_true']at this
      exact this)
     by_cases hz:(nb - 1==1)=true
     ·rw[if_pos hz]
      exact wpS_pure ⟨au,.inl ⟨_,rfl,J2.first C (beq_iff_eq.mp hz) h0⟩⟩
     rw[if_neg hz]
     have bj:¬(nb - 1=1):=fun z=>hz (beq_iff_eq.mpr z)
     obtain⟨x3,aQ⟩:=Zg (xs:=a) (i:=at_ - 1) (by omega)
     refine wpS_bind (Zl aQ ?_)
     refine wpS_bind (ZD hc fi (fun i=>match b[0+i]? with |some y=>r y x3 |none=>false) (fun i hi=> ?_) (ma x3 (Zt aQ)) (fun i j cM hj hp=> ?_) (by omega) fun k1 lL gQ lK=> ?_)
     ·obtain⟨y,hy⟩:=Zg (xs:=b) (i:=0+i) (by omega)
      refine⟨y,hy,mb y (Zt hy),?_⟩
      try dsimp only
      rw[hy]
      rfl
     ·obtain⟨yj,bX⟩:=Zg (xs:=b) (i:=0+j) (by omega)
      obtain⟨yi,bY⟩:=Zg (xs:=b) (i:=0+i) (by omega)
      try dsimp only at hp ⊢
      rw[bX]at hp
      rw[bY]
      exact Jj C.o hp (Ym C.o C.sb (Zw bY) (Zw bX) (by omega))
     try dsimp only
     by_cases bF:nb - 1 - k1>0
     ·rw[if_pos bF]
      have J3:=J2.r6 C (m:=k1) (by omega) (fun i hX gf y x hy hx=>by
       rw[aQ]at hx
       cases hx
       have:=lK i hX gf
       try dsimp only at this
       rw[Nat.zero_add,hy]at this
       exact this)
      by_cases aF:(k1==1)=true
      ·rw[if_pos aF]
       exact wpS_pure ⟨au,.inl ⟨_,rfl,J3.first C (beq_iff_eq.mp aF) h0⟩⟩
      rw[if_neg aF]
      by_cases dq:(k1==0)=true
      ·rw[if_pos dq]
       exact wpS_pure ⟨au,.inl ⟨_,rfl,J3.done C (.inr (beq_iff_eq.mp dq))⟩⟩
      rw[if_neg dq]
      have lQ:¬(k1=1):=fun z=>aF (beq_iff_eq.mpr z)
      have wR:¬(k1=0):=fun z=>dq (beq_iff_eq.mpr z)
      obtain⟨x4,av⟩:=Zg (xs:=a) (i:=at_ - 1) (by omega)
      refine wpS_bind (Zl av ?_)
      have J4:=J3.cJ C (by omega) av (fun _ y hy=>by
       have:=gQ (k1 - 1) (by omega)
       try dsimp only at this
       rw[Nat.zero_add,hy]at this
       have e:x4=x3:=by rw[aQ]at av;exact(Option.some.inj av).symm
       rw[e]
       exact C.o.bO _ _ this)
      by_cases hz:(at_ - 1==0)=true
      ·rw[if_pos hz]
       exact wpS_pure ⟨au,.inl ⟨_,rfl,J4.done C (.inl (by have:=beq_iff_eq.mp hz;omega))⟩⟩
      ·rw[if_neg hz]
       have bj:¬(at_ - 1=0):=fun z=>hz (beq_iff_eq.mpr z)
       by_cases h7:(decide (na - at_<7)&&decide (nb - 1 - k1<7))=true
       ·rw[if_pos h7]
        exact wpS_pure ⟨au,.inr ⟨_,_,_,_,_,_,rfl,J4,by omega,by omega,by omega⟩⟩
       ·rw[if_neg h7]
        exact wpS_pure ⟨au,_,_,_,_,_,_,rfl,J4,by omega,by omega,by omega⟩
     ·rw[if_neg bF]
      obtain rfl:k1=nb - 1:=by omega
      obtain⟨x4,av⟩:=Zg (xs:=a) (i:=at_ - 1) (by omega)
      refine wpS_bind (Zl av ?_)
      have J4:=J2.cJ C (by omega) av (fun _ y hy=>by
       have:=gQ (nb - 1 - 1) (by omega)
       try dsimp only at this
       rw[Nat.zero_add,hy]at this
       have e:x4=x3:=by rw[aQ]at av;exact(Option.some.inj av).symm
       rw[e]
       exact C.o.bO _ _ this)
      by_cases hz:(at_ - 1==0)=true
      ·rw[if_pos hz]
       exact wpS_pure ⟨au,.inl ⟨_,rfl,J4.done C (.inl (by have:=beq_iff_eq.mp hz;omega))⟩⟩
      ·rw[if_neg hz]
       have bj:¬(at_ - 1=0):=fun z=>hz (beq_iff_eq.mpr z)
       by_cases h7:(decide (na - at_<7)&&decide (nb - 1 - (nb - 1)<7))=true
       ·rw[if_pos h7]
        exact wpS_pure ⟨au,.inr ⟨_,_,_,_,_,_,rfl,J4,by omega,by omega,by omega⟩⟩
       ·rw[if_neg h7]
        exact wpS_pure ⟨au,_,_,_,_,_,_,rfl,J4,by omega,by omega,by omega⟩
    ·rw[if_neg hW]
     obtain rfl:at_=na:=by omega
     refine wpS_bind (Zl ba ?_)
     have J2:=J.fH C (by omega) ba (fun _ x hx=>by
      have:=dm (at_ - 1) (by omega)
      try dsimp only at this
      rw[Nat.zero_add,hx,Bool.not_eq_true']at this
      exact this)
     by_cases hz:(nb - 1==1)=true
     ·rw[if_pos hz]
      exact wpS_pure ⟨au,.inl ⟨_,rfl,J2.first C (beq_iff_eq.mp hz) h0⟩⟩
     rw[if_neg hz]
     have bj:¬(nb - 1=1):=fun z=>hz (beq_iff_eq.mpr z)
     obtain⟨x3,aQ⟩:=Zg (xs:=a) (i:=at_ - 1) (by omega)
     refine wpS_bind (Zl aQ ?_)
     refine wpS_bind (ZD hc fi (fun i=>match b[0+i]? with |some y=>r y x3 |none=>false) (fun i hi=> ?_) (ma x3 (Zt aQ)) (fun i j cM hj hp=> ?_) (by omega) fun k1 lL gQ lK=> ?_)
     ·obtain⟨y,hy⟩:=Zg (xs:=b) (i:=0+i) (by omega)
      refine⟨y,hy,mb y (Zt hy),?_⟩
      try dsimp only
      rw[hy]
      rfl
     ·obtain⟨yj,bX⟩:=Zg (xs:=b) (i:=0+j) (by omega)
      obtain⟨yi,bY⟩:=Zg (xs:=b) (i:=0+i) (by omega)
      try dsimp only at hp ⊢
      rw[bX]at hp
      rw[bY]
      exact Jj C.o hp (Ym C.o C.sb (Zw bY) (Zw bX) (by omega))
     try dsimp only
     by_cases bF:nb - 1 - k1>0
     ·rw[if_pos bF]
      have J3:=J2.r6 C (m:=k1) (by omega) (fun i hX gf y x hy hx=>by
       rw[aQ]at hx
       cases hx
       have:=lK i hX gf
       try dsimp only at this
       rw[Nat.zero_add,hy]at this
       exact this)
      by_cases aF:(k1==1)=true
      ·rw[if_pos aF]
       exact wpS_pure ⟨au,.inl ⟨_,rfl,J3.first C (beq_iff_eq.mp aF) h0⟩⟩
      rw[if_neg aF]
      by_cases dq:(k1==0)=true
      ·rw[if_pos dq]
       exact wpS_pure ⟨au,.inl ⟨_,rfl,J3.done C (.inr (beq_iff_eq.mp dq))⟩⟩
      rw[if_neg dq]
      have lQ:¬(k1=1):=fun z=>aF (beq_iff_eq.mpr z)
      have wR:¬(k1=0):=fun z=>dq (beq_iff_eq.mpr z)
      obtain⟨x4,av⟩:=Zg (xs:=a) (i:=at_ - 1) (by omega)
      refine wpS_bind (Zl av ?_)
      have J4:=J3.cJ C (by omega) av (fun _ y hy=>by
       have:=gQ (k1 - 1) (by omega)
       try dsimp only at this
       rw[Nat.zero_add,hy]at this
       have e:x4=x3:=by rw[aQ]at av;exact(Option.some.inj av).symm
       rw[e]
       exact C.o.bO _ _ this)
      by_cases hz:(at_ - 1==0)=true
      ·rw[if_pos hz]
       exact wpS_pure ⟨au,.inl ⟨_,rfl,J4.done C (.inl (by have:=beq_iff_eq.mp hz;omega))⟩⟩
      ·rw[if_neg hz]
       have bj:¬(at_ - 1=0):=fun z=>hz (beq_iff_eq.mpr z)
       by_cases h7:(decide (at_ - at_<7)&&decide (nb - 1 - k1<7))=true
       ·rw[if_pos h7]
        exact wpS_pure ⟨au,.inr ⟨_,_,_,_,_,_,rfl,J4,by omega,by omega,by omega⟩⟩
       ·rw[if_neg h7]
        exact wpS_pure ⟨au,_,_,_,_,_,_,rfl,J4,by omega,by omega,by omega⟩
     ·rw[if_neg bF]
      obtain rfl:k1=nb - 1:=by omega
      obtain⟨x4,av⟩:=Zg (xs:=a) (i:=at_ - 1) (by omega)
      refine wpS_bind (Zl av ?_)
      have J4:=J2.cJ C (by omega) av (fun _ y hy=>by
       have:=gQ (nb - 1 - 1) (by omega)
       try dsimp only at this
       rw[Nat.zero_add,hy]at this
       have e:x4=x3:=by rw[aQ]at av;exact(Option.some.inj av).symm
       rw[e]
       exact C.o.bO _ _ this)
      by_cases hz:(at_ - 1==0)=true
      ·rw[if_pos hz]
       exact wpS_pure ⟨au,.inl ⟨_,rfl,J4.done C (.inl (by have:=beq_iff_eq.mp hz;omega))⟩⟩
      ·rw[if_neg hz]
       have bj:¬(at_ - 1=0):=fun z=>hz (beq_iff_eq.mpr z)
       by_cases h7:(decide (at_ - at_<7)&&decide (nb - 1 - (nb - 1)<7))=true
       ·rw[if_pos h7]
        exact wpS_pure ⟨au,.inr ⟨_,_,_,_,_,_,rfl,J4,by omega,by omega,by omega⟩⟩
       ·rw[if_neg h7]
        exact wpS_pure ⟨au,_,_,_,_,_,_,rfl,J4,by omega,by omega,by omega⟩
   ·rw[if_neg qb]
    refine wpS_bind (YD ?_)
    generalize mf:SortSt.mk' _ _ _ _ _=aK
    have au:SG st aK:=by rw[←mf];exact fV
    have fi:kindOf aK=κ:=by rw[au.1];exact hk
    obtain⟨y2,ba⟩:=Zg (xs:=b) (i:=nb - 1) (by omega)
    refine wpS_bind (Zl ba ?_)
    refine wpS_bind (ZD hc fi (fun i=>match a[0+i]? with |some x=> !r y2 x |none=>false) (fun i hi=> ?_) (mb y2 (Zt ba)) (fun i j cM hj hp=> ?_) (by omega) fun at_ kn dm cD=> ?_)
    ·obtain⟨x,hx⟩:=Zg (xs:=a) (i:=0+i) (by omega)
     refine⟨x,hx,ma x (Zt hx),?_⟩
     try dsimp only
     rw[hx]
     rfl
    ·obtain⟨xj,fK⟩:=Zg (xs:=a) (i:=0+j) (by omega)
     obtain⟨xi,fL⟩:=Zg (xs:=a) (i:=0+i) (by omega)
     try dsimp only at hp ⊢
     rw[fK]at hp
     rw[fL]
     rw[Bool.not_eq_true']at hp ⊢
     exact C.o.cR _ _ _ (Ym C.o C.sa (Zw fL) (Zw fK) (by omega)) hp
    try dsimp only
    by_cases hW:na - at_>0
    ·rw[if_pos hW]
     have J1:=J.AW C (m:=at_) (by omega) (fun i hX gf x y hx hy=>by
      rw[ba]at hy
      cases hy
      have:=cD i hX gf
      try dsimp only at this
      rw[Nat.zero_add,hx,Bool.not_eq_false']at this
      exact C.o.bO _ _ this)
     by_cases bu:(at_==0)=true
     ·rw[if_pos bu]
      exact wpS_pure ⟨au,.inl ⟨_,rfl,J1.done C (.inl (beq_iff_eq.mp bu))⟩⟩
     rw[if_neg bu]
     have nQ:¬(at_=0):=fun z=>bu (beq_iff_eq.mpr z)
     refine wpS_bind (Zl ba ?_)
     have J2:=J1.fH C (by omega) ba (fun _ x hx=>by
      have:=dm (at_ - 1) (by omega)
      try dsimp only at this
      rw[Nat.zero_add,hx,Bool.not_eq_true']at this
      exact this)
     by_cases hz:(nb - 1==1)=true
     ·rw[if_pos hz]
      exact wpS_pure ⟨au,.inl ⟨_,rfl,J2.first C (beq_iff_eq.mp hz) h0⟩⟩
     rw[if_neg hz]
     have bj:¬(nb - 1=1):=fun z=>hz (beq_iff_eq.mpr z)
     obtain⟨x3,aQ⟩:=Zg (xs:=a) (i:=at_ - 1) (by omega)
     refine wpS_bind (Zl aQ ?_)
     refine wpS_bind (ZD hc fi (fun i=>match b[0+i]? with |some y=>r y x3 |none=>false) (fun i hi=> ?_) (ma x3 (Zt aQ)) (fun i j cM hj hp=> ?_) (by omega) fun k1 lL gQ lK=> ?_)
     ·obtain⟨y,hy⟩:=Zg (xs:=b) (i:=0+i) (by omega)
      refine⟨y,hy,mb y (Zt hy),?_⟩
      try dsimp only
      rw[hy]
      rfl
     ·obtain⟨yj,bX⟩:=Zg (xs:=b) (i:=0+j) (by omega)
      obtain⟨yi,bY⟩:=Zg (xs:=b) (i:=0+i) (by omega)
      try dsimp only at hp ⊢
      rw[bX]at hp
      rw[bY]
      exact Jj C.o hp (Ym C.o C.sb (Zw bY) (Zw bX) (by omega))
     try dsimp only
     by_cases bF:nb - 1 - k1>0
     ·rw[if_pos bF]
      have J3:=J2.r6 C (m:=k1) (by omega) (fun i hX gf y x hy hx=>by
       rw[aQ]at hx
       cases hx
       have:=lK i hX gf
       try dsimp only at this
       rw[Nat.zero_add,hy]at this
       exact this)
      by_cases aF:(k1==1)=true
      ·rw[if_pos aF]
       exact wpS_pure ⟨au,.inl ⟨_,rfl,J3.first C (beq_iff_eq.mp aF) h0⟩⟩
      rw[if_neg aF]
      by_cases dq:(k1==0)=true
      ·rw[if_pos dq]
       exact wpS_pure ⟨au,.inl ⟨_,rfl,J3.done C (.inr (beq_iff_eq.mp dq))⟩⟩
      rw[if_neg dq]
      have lQ:¬(k1=1):=fun z=>aF (beq_iff_eq.mpr z)
      have wR:¬(k1=0):=fun z=>dq (beq_iff_eq.mpr z)
      obtain⟨x4,av⟩:=Zg (xs:=a) (i:=at_ - 1) (by omega)
      refine wpS_bind (Zl av ?_)
      have J4:=J3.cJ C (by omega) av (fun _ y hy=>by
       have:=gQ (k1 - 1) (by omega)
       try dsimp only at this
       rw[Nat.zero_add,hy]at this
       have e:x4=x3:=by rw[aQ]at av;exact(Option.some.inj av).symm
       rw[e]
       exact C.o.bO _ _ this)
      by_cases hz:(at_ - 1==0)=true
      ·rw[if_pos hz]
       exact wpS_pure ⟨au,.inl ⟨_,rfl,J4.done C (.inl (by have:=beq_iff_eq.mp hz;omega))⟩⟩
      ·rw[if_neg hz]
       have bj:¬(at_ - 1=0):=fun z=>hz (beq_iff_eq.mpr z)
       by_cases h7:(decide (na - at_<7)&&decide (nb - 1 - k1<7))=true
       ·rw[if_pos h7]
        exact wpS_pure ⟨au,.inr ⟨_,_,_,_,_,_,rfl,J4,by omega,by omega,by omega⟩⟩
       ·rw[if_neg h7]
        exact wpS_pure ⟨au,_,_,_,_,_,_,rfl,J4,by omega,by omega,by omega⟩
     ·rw[if_neg bF]
      obtain rfl:k1=nb - 1:=by omega
      obtain⟨x4,av⟩:=Zg (xs:=a) (i:=at_ - 1) (by omega)
      refine wpS_bind (Zl av ?_)
      have J4:=J2.cJ C (by omega) av (fun _ y hy=>by
       have:=gQ (nb - 1 - 1) (by omega)
       try dsimp only at this
       rw[Nat.zero_add,hy]at this
       have e:x4=x3:=by rw[aQ]at av;exact(Option.some.inj av).symm
       rw[e]
       exact C.o.bO _ _ this)
      by_cases hz:(at_ - 1==0)=true
      ·rw[if_pos hz]
       exact wpS_pure ⟨au,.inl ⟨_,rfl,J4.done C (.inl (by have:=beq_iff_eq.mp hz;omega))⟩⟩
      ·rw[if_neg hz]
       have bj:¬(at_ - 1=0):=fun z=>hz (beq_iff_eq.mpr z)
       by_cases h7:(decide (na - at_<7)&&decide (nb - 1 - (nb - 1)<7))=true
       ·rw[if_pos h7]
        exact wpS_pure ⟨au,.inr ⟨_,_,_,_,_,_,rfl,J4,by omega,by omega,by omega⟩⟩
       ·rw[if_neg h7]
        exact wpS_pure ⟨au,_,_,_,_,_,_,rfl,J4,by omega,by omega,by omega⟩
    ·rw[if_neg hW]
     obtain rfl:at_=na:=by omega
     refine wpS_bind (Zl ba ?_)
     have J2:=J.fH C (by omega) ba (fun _ x hx=>by
      have:=dm (at_ - 1) (by omega)
      try dsimp only at this
      rw[Nat.zero_add,hx,Bool.not_eq_true']at this
      exact this)
     by_cases hz:(nb - 1==1)=true
     ·rw[if_pos hz]
      exact wpS_pure ⟨au,.inl ⟨_,rfl,J2.first C (beq_iff_eq.mp hz) h0⟩⟩
     rw[if_neg hz]
     have bj:¬(nb - 1=1):=fun z=>hz (beq_iff_eq.mpr z)
     obtain⟨x3,aQ⟩:=Zg (xs:=a) (i:=at_ - 1) (by omega)
     refine wpS_bind (Zl aQ ?_)
     refine wpS_bind (ZD hc fi (fun i=>match b[0+i]? with |some y=>r y x3 |none=>false) (fun i hi=> ?_) (ma x3 (Zt aQ)) (fun i j cM hj hp=> ?_) (by omega) fun k1 lL gQ lK=> ?_)
     ·obtain⟨y,hy⟩:=Zg (xs:=b) (i:=0+i) (by omega)
      refine⟨y,hy,mb y (Zt hy),?_⟩
      try dsimp only
      rw[hy]
      rfl
     ·obtain⟨yj,bX⟩:=Zg (xs:=b) (i:=0+j) (by omega)
      obtain⟨yi,bY⟩:=Zg (xs:=b) (i:=0+i) (by omega)
      try dsimp only at hp ⊢
      rw[bX]at hp
      rw[bY]
      exact Jj C.o hp (Ym C.o C.sb (Zw bY) (Zw bX) (by omega))
     try dsimp only
     by_cases bF:nb - 1 - k1>0
     ·rw[if_pos bF]
      have J3:=J2.r6 C (m:=k1) (by omega) (fun i hX gf y x hy hx=>by
       rw[aQ]at hx
       cases hx
       have:=lK i hX gf
       try dsimp only at this
       rw[Nat.zero_add,hy]at this
       exact this)
      by_cases aF:(k1==1)=true
      ·rw[if_pos aF]
       exact wpS_pure ⟨au,.inl ⟨_,rfl,J3.first C (beq_iff_eq.mp aF) h0⟩⟩
      rw[if_neg aF]
      by_cases dq:(k1==0)=true
      ·rw[if_pos dq]
       exact wpS_pure ⟨au,.inl ⟨_,rfl,J3.done C (.inr (beq_iff_eq.mp dq))⟩⟩
      rw[if_neg dq]
      have lQ:¬(k1=1):=fun z=>aF (beq_iff_eq.mpr z)
      have wR:¬(k1=0):=fun z=>dq (beq_iff_eq.mpr z)
      obtain⟨x4,av⟩:=Zg (xs:=a) (i:=at_ - 1) (by omega)
      refine wpS_bind (Zl av ?_)
      have J4:=J3.cJ C (by omega) av (fun _ y hy=>by
       have:=gQ (k1 - 1) (by omega)
       try dsimp only at this
       rw[Nat.zero_add,hy]at this
       have e:x4=x3:=by rw[aQ]at av;exact(Option.some.inj av).symm
       rw[e]
       exact C.o.bO _ _ this)
      by_cases hz:(at_ - 1==0)=true
      ·rw[if_pos hz]
       exact wpS_pure ⟨au,.inl ⟨_,rfl,J4.done C (.inl (by have:=beq_iff_eq.mp hz;omega))⟩⟩
      ·rw[if_neg hz]
       have bj:¬(at_ - 1=0):=fun z=>hz (beq_iff_eq.mpr z)
       by_cases h7:(decide (at_ - at_<7)&&decide (nb - 1 - k1<7))=true
       ·rw[if_pos h7]
        exact wpS_pure ⟨au,.inr ⟨_,_,_,_,_,_,rfl,J4,by omega,by omega,by omega⟩⟩
       ·rw[if_neg h7]
        exact wpS_pure ⟨au,_,_,_,_,_,_,rfl,J4,by omega,by omega,by omega⟩
     ·rw[if_neg bF]
      obtain rfl:k1=nb - 1:=by omega
      obtain⟨x4,av⟩:=Zg (xs:=a) (i:=at_ - 1) (by omega)
      refine wpS_bind (Zl av ?_)
      have J4:=J2.cJ C (by omega) av (fun _ y hy=>by
       have:=gQ (nb - 1 - 1) (by omega)
       try dsimp only at this
       rw[Nat.zero_add,hy]at this
       have e:x4=x3:=by rw[aQ]at av;exact(Option.some.inj av).symm
       rw[e]
       exact C.o.bO _ _ this)
      by_cases hz:(at_ - 1==0)=true
      ·rw[if_pos hz]
       exact wpS_pure ⟨au,.inl ⟨_,rfl,J4.done C (.inl (by have:=beq_iff_eq.mp hz;omega))⟩⟩
      ·rw[if_neg hz]
       have bj:¬(at_ - 1=0):=fun z=>hz (beq_iff_eq.mpr z)
       by_cases h7:(decide (at_ - at_<7)&&decide (nb - 1 - (nb - 1)<7))=true
       ·rw[if_pos h7]
        exact wpS_pure ⟨au,.inr ⟨_,_,_,_,_,_,rfl,J4,by omega,by omega,by omega⟩⟩
       ·rw[if_neg h7]
        exact wpS_pure ⟨au,_,_,_,_,_,_,rfl,J4,by omega,by omega,by omega⟩
  ·rintro c aj ⟨fV,na,nb,out,g,ac,bc,rfl,J,i1,i2,i4⟩
   rw[Nat.max_eq_right (Nat.zero_le _)]at i4
   have la:=J'.la
   have lb:=J'.lb
   omega
  rintro c aj ⟨fV,⟨res,ec,gd⟩ |⟨Bw,Bv,out,g,ac,bc,rfl,J2,k1,k2,k3⟩⟩
  ·rw[ec]
   exact wpS_pure ⟨fV,res,rfl,gd⟩
  dsimp only
  refine wpS_bind (YD (wpS_pure ⟨fV,_,_,_,_,rfl,J2,k1,k2,by omega⟩))
end
def SI (r:Keyed→Keyed→Bool) (xs:Array Keyed) (lo hi:Nat):Prop:=∀i j x y,lo≤i→i≤j→j<hi→xs[i]? =some x→xs[j]? =some y→r y x=false
def NI (r:Keyed→Keyed→Bool) (xs:Array Keyed) (lo hi:Nat):Prop:=∀i j x y,lo≤i→i≤j→j<hi→xs[i]? =some x→xs[j]? =some y→r x y=false
def EQ (r:Keyed→Keyed→Bool) (xs:Array Keyed) (lo hi:Nat):Prop:=∀i j x y,lo≤i→i<hi→lo≤j→j<hi→xs[i]? =some x→xs[j]? =some y→r x y=false
section
variable {r:Keyed→Keyed→Bool}{xs:Array Keyed}{lo hi:Nat}
theorem SI.one (o:Ord r):SI r xs lo (lo+1):=fun i j x y h1 h2 h3 hx hy=>by
 obtain rfl:i=j:=by omega
 rw[hx]at hy;cases hy;exact o.jZ _
theorem NI.one (o:Ord r):NI r xs lo (lo+1):=fun i j x y h1 h2 h3 hx hy=>by
 obtain rfl:i=j:=by omega
 rw[hx]at hy;cases hy;exact o.jZ _
theorem EQ.one (o:Ord r):EQ r xs lo (lo+1):=fun i j x y h1 h2 h3 h4 hx hy=>by
 obtain rfl:i=j:=by omega
 rw[hx]at hy;cases hy;exact o.jZ _
theorem SI.snoc (o:Ord r) (h:SI r xs lo hi) {p q:Keyed}(hl:lo<hi) (hp:xs[hi - 1]? =some p) (hq:xs[hi]? =some q) (hr:r q p=false):SI r xs lo (hi+1):=fun i j x y h1 h2 h3 hx hy=>by
 by_cases hj:j<hi
 ·exact h i j x y h1 h2 hj hx hy
 ·obtain rfl:j=hi:=by omega
  rw[hq]at hy;cases hy
  by_cases bP:i=j
  ·subst bP
   rw[hq]at hx;cases hx;exact o.jZ _
  ·exact o.cR x p q (h i (j - 1) x p h1 (by omega) (by omega) hx hp) hr
theorem NI.snoc (o:Ord r) (h:NI r xs lo hi) {p q:Keyed}(hl:lo<hi) (hp:xs[hi - 1]? =some p) (hq:xs[hi]? =some q) (hr:r p q=false):NI r xs lo (hi+1):=fun i j x y h1 h2 h3 hx hy=>by
 by_cases hj:j<hi
 ·exact h i j x y h1 h2 hj hx hy
 ·obtain rfl:j=hi:=by omega
  rw[hq]at hy;cases hy
  by_cases bP:i=j
  ·subst bP
   rw[hq]at hx;cases hx;exact o.jZ _
  ·exact o.cR q p x hr (h i (j - 1) x p h1 (by omega) (by omega) hx hp)
theorem EQ.snoc (o:Ord r) (h:EQ r xs lo hi) {p q:Keyed}(hl:lo<hi) (hp:xs[hi - 1]? =some p) (hq:xs[hi]? =some q) (hr:r p q=false) (eQ:r q p=false):EQ r xs lo (hi+1):=fun i j x y h1 h2 h3 h4 hx hy=>by
 have one:∀i x,lo≤i→i<hi→xs[i]? =some x→r x q=false∧r q x=false:=fun i x h1 h2 hx=>
  ⟨o.cR q p x hr (h i (hi - 1) x p h1 h2 (by omega) (by omega) hx hp),o.cR x p q (h (hi - 1) i p x (by omega) (by omega) h1 h2 hp hx) eQ⟩
 by_cases hj:j<hi
 ·by_cases bP:i<hi
  ·exact h i j x y h1 bP h3 hj hx hy
  ·obtain rfl:i=hi:=by omega
   rw[hq]at hx;cases hx
   exact(one j y h3 hj hy).2
 ·obtain rfl:j=hi:=by omega
  rw[hq]at hy;cases hy
  by_cases bP:i<j
  ·exact(one i x h1 bP hx).1
  ·obtain rfl:i=j:=by omega
   rw[hq]at hx;cases hx
   exact o.jZ _
abbrev aX (xs:Array Keyed) (i j:Nat):Array Keyed:=mirror xs i j ((j - i)/2)
theorem Wc (hh:hi≤xs.size) (k:Nat):(aX xs lo hi)[k]? =if lo≤k∧k<hi then xs[lo+hi - 1 - k]? else xs[k]? :=getElem?_mirror_all hh k
theorem SI.aX (h:SI r xs lo hi) (hh:hi≤xs.size):NI r (aX xs lo hi) lo hi:=fun i j x y h1 h2 h3 hx hy=>by
 rw[Wc hh,if_pos ⟨by omega,by omega⟩]at hx hy
 exact h _ _ y x (by omega) (by omega) (by omega) hy hx
theorem NI.aX (h:NI r xs lo hi) (hh:hi≤xs.size):SI r (aX xs lo hi) lo hi:=fun i j x y h1 h2 h3 hx hy=>by
 rw[Wc hh,if_pos ⟨by omega,by omega⟩]at hx hy
 exact h _ _ y x (by omega) (by omega) (by omega) hy hx
theorem NI.sy {m:Nat}(h:NI r xs lo hi) (e:EQ r xs m hi) (hm:lo≤m) (hh:hi≤xs.size):NI r (PyProof.Rows.fP.aX xs m hi) lo hi:=fun i j x y h1 h2 h3 hx hy=>by
 rw[Wc hh]at hx hy
 by_cases hj:m≤j
 ·rw[if_pos ⟨hj,h3⟩]at hy
  by_cases bP:m≤i
  ·rw[if_pos ⟨bP,by omega⟩]at hx
   exact e _ _ x y (by omega) (by omega) (by omega) (by omega) hx hy
  ·rw[if_neg (by omega)]at hx
   exact h i _ x y h1 (by omega) (by omega) hx hy
 ·rw[if_neg (by omega)]at hx hy
  exact h i j x y h1 h2 h3 hx hy
theorem Wb {m:Nat}(hh:hi≤xs.size) (hm:m<hi) {p:Keyed}(hp:(aX xs m hi)[hi - 1]? =some p):xs[m]? =some p:=by
 rw[Wc hh,if_pos ⟨by omega,by omega⟩,show m+hi - 1 - (hi - 1)=m by omega]at hp
 exact hp
theorem JP (hh:hi≤xs.size) {k:Nat}(h:k<lo∨hi≤k):(aX xs lo hi)[k]? =xs[k]? :=by rw[Wc hh,if_neg (by omega)]
end
structure CB (a₀:Array Keyed) (κ:SortKind) (lo:Nat) (st aa:SortSt):Prop where
 kind:kindOf aa=κ
 pend:pendingOf aa=pendingOf st
 fail:failedOf aa=failedOf st
 perm:(arrOf aa).Perm a₀
 pre:∀k,k<lo→(arrOf aa)[k]? =(arrOf st)[k]?
theorem CB.size {a₀:Array Keyed}{κ:SortKind}{lo:Nat}{st aa:SortSt}(h:CB a₀ κ lo st aa):(arrOf aa).size=a₀.size:=h.perm.size_eq
theorem CB.mem {a₀:Array Keyed}{κ:SortKind}{lo:Nat}{st aa:SortSt}(h:CB a₀ κ lo st aa) {i:Nat}{x:Keyed}(hx:(arrOf aa)[i]? =some x):x∈a₀.toList:=(Array.perm_iff_toList_perm.mp h.perm).mem_iff.mp (Zt hx)
theorem CB.rev {a₀:Array Keyed}{κ:SortKind}{lo m hi:Nat}{st aa:SortSt}(h:CB a₀ κ lo st aa) (hm:lo≤m) (hh:hi≤a₀.size):CB a₀ κ lo st (setArr aa (aX (arrOf aa) m hi)):=
 ⟨h.kind,h.pend,h.fail,(mirror_perm _ _ _ _).trans h.perm,fun k hk=>by
  show(aX (arrOf aa) m hi)[k]? =_
  rw[JP (by rw[h.size];exact hh) (.inl (by omega))]
  exact h.pre k hk⟩
section
variable {prog:Program}{w:World}{A:Around}{E:Value→Shared→Prop}{s:Shared}{κ:SortKind}{a₀:Array Keyed}{r:Keyed→Keyed→Bool}
theorem Ye {st aa:SortSt}{lo i j:Nat}{x y:Keyed}{Q:Option Bool→SortSt→Prop}(hc:iz prog w A E s κ a₀ r) (B:CB a₀ κ lo st aa) (hx:(arrOf aa)[i]? =some x) (hy:(arrOf aa)[j]? =some y) (h:Q (some (r x y)) aa):wpS (model prog w) A E s (ltAt' i j) Q aa:=by
 rw[ltAt'_eq]
 exact wpS_bind (wpS_get (wpS_bind (Zl hx (wpS_bind (Zl hy (hc _ _ _ _ (B.mem hx) (B.mem hy) B.kind h))))))
theorem Yd {st:SortSt}{i j:Nat}{Q:Unit→SortSt→Prop}(h:Q () (setArr st (aX (arrOf st) i j))):wpS (model prog w) A E s (reverseSlice' i j) Q st:=by
 rw[reverseSlice'_eq]
 exact wpS_modify h
theorem EQ.nJ {xs:Array Keyed}{lo hi:Nat}(o:Ord r) (h:hi=lo+1):EQ r xs lo hi:=by subst h;exact EQ.one o
theorem Wq {st:SortSt}{lo bG:Nat}{Q:Option Nat→SortSt→Prop}(o:Ord r) (hc:iz prog w A E s κ a₀ r) (B0:CB a₀ κ lo st st) (h1:1≤bG) (hz:lo+bG≤a₀.size)
  (h:∀n aa,CB a₀ κ lo st aa→1≤n→n≤bG→SI r (arrOf aa) lo (lo+n)→Q (some n) aa):wpS (model prog w) A E s (countRun' lo bG) Q st:=by
 rw[countRun'_eq]
 dsimp only
 have z0:=B0.size
 refine wpS_bind (wpS_mono (wpS_forRange (I:=fun y c aa=>aa=st∧c=(none,y)∧SI r (arrOf st) lo (lo+y))
  (Q:=fun c aa=>aa=st∧∃n,c=(none,n)∧1≤n∧n≤bG∧SI r (arrOf st) lo (lo+n)∧(n=bG∨∃p q,(arrOf st)[lo+n - 1]? =some p∧(arrOf st)[lo+n]? =some q∧r q p=true)) ?_ ?_ ⟨rfl,rfl,SI.one o⟩) ?_)
 ·rintro y c aa iH ba ⟨rfl,rfl,S⟩
  dsimp only
  obtain⟨p,hp⟩:=Zg (xs:=arrOf aa) (i:=lo+y - 1) (by omega)
  obtain⟨q,hq⟩:=Zg (xs:=arrOf aa) (i:=lo+y) (by omega)
  refine wpS_bind (Ye hc B0 hq hp ?_)
  cases hr:r q p with
  |true=>exact wpS_pure ⟨rfl,y,rfl,iH,by omega,S,.inr ⟨p,q,hp,hq,hr⟩⟩
  |false=>exact wpS_pure ⟨rfl,rfl,S.snoc (hi:=lo+y) o (by omega) hp hq hr⟩
 ·rintro c aa ⟨rfl,rfl,S⟩
  have e9:max 1 bG=bG:=Nat.max_eq_right h1
  rw[e9]at S
  exact⟨rfl,bG,by rw[e9],h1,Nat.le_refl _,S,.inl rfl⟩
 rintro c aa ⟨rfl,n,rfl,n1,n2,S,hn⟩
 dsimp only
 by_cases nS:(n==bG)=true
 ·rw[if_pos nS]
  exact wpS_pure (h n aa B0 n1 n2 S)
 rw[if_neg nS]
 have K6:¬(n=bG):=fun z=>nS (beq_iff_eq.mpr z)
 rcases hn with hn |⟨p,q,hp,hq,hr⟩
 ·exact absurd hn K6
 by_cases Ci:n>1
 ·rw[if_pos Ci]
  obtain⟨f,hf⟩:=Zg (xs:=arrOf aa) (i:=lo) (by omega)
  refine wpS_bind (Ye hc B0 hf hp ?_)
  cases KR:r f p with
  |true=>exact wpS_pure (h n aa B0 n1 n2 S)
  |false=>
   dsimp only
   rw[if_neg Bool.false_ne_true]
   refine wpS_bind (Yd ?_)
   have B1:=B0.rev (m:=lo) (hi:=lo+n) (Nat.le_refl _) (by omega)
   have N1:NI r (aX (arrOf aa) lo (lo+n)) lo (lo+n):=S.aX (by omega)
   obtain⟨p1,l6⟩:=Zg (xs:=aX (arrOf aa) lo (lo+n)) (i:=lo+n - 1) (by rw[mirror_size];omega)
   have Ca:=Wb (by omega) (by omega) l6
   rw[hf]at Ca
   cases Ca
   have xc:(aX (arrOf aa) lo (lo+n))[lo+n]? =some q:=by rw[JP (by omega) (.inr (Nat.le_refl _))];exact hq
   have uo:NI r (arrOf (setArr aa (aX (arrOf aa) lo (lo+n)))) lo (lo+(n+1)):=N1.snoc (hi:=lo+n) o (by omega) l6 xc (o.cR q p f (o.bO _ _ hr) KR)
   generalize setArr aa (aX (arrOf aa) lo (lo+n))=aw at B1 uo
   refine wpS_bind (wpS_lift (wpAny_rule ⟨rfl,?_⟩))
   refine wpS_bind (wpS_mono (wpS_forRange (I:=fun y c stx=>CB a₀ κ lo aa stx∧∃aM,c=(none,y,aM)∧NI r (arrOf stx) lo (lo+y)∧aM+1≤y∧EQ r (arrOf stx) (lo+y - (aM+1)) (lo+y))
    (Q:=fun c stx=>CB a₀ κ lo aa stx∧∃m aM,c=(none,m,aM)∧n+1≤m∧m≤bG∧NI r (arrOf stx) lo (lo+m)∧aM+1≤m∧EQ r (arrOf stx) (lo+m - (aM+1)) (lo+m)) ?_ ?_ ⟨B1,0,rfl,uo,by omega,EQ.nJ o (by omega)⟩) ?_)
   ·rintro y c aj iH ba ⟨B2,aM,rfl,N2,g1,e2⟩
    dsimp only
    have z2:=B2.size
    obtain⟨p2,da⟩:=Zg (xs:=arrOf aj) (i:=lo+y - 1) (by omega)
    obtain⟨q2,cT⟩:=Zg (xs:=arrOf aj) (i:=lo+y) (by omega)
    refine wpS_bind (Ye hc B2 cT da ?_)
    cases eQ:r q2 p2 with
    |true=>
     dsimp only
     rw[if_pos rfl]
     by_cases g9:aM>0
     ·rw[if_pos g9]
      refine wpS_bind (Yd ?_)
      have B3:=B2.rev (m:=lo+y - (aM+1)) (hi:=lo+y) (by omega) (by omega)
      have N3:NI r (aX (arrOf aj) (lo+y - (aM+1)) (lo+y)) lo (lo+y):=N2.sy e2 (by omega) (by omega)
      obtain⟨p3,hJ⟩:=Zg (xs:=aX (arrOf aj) (lo+y - (aM+1)) (lo+y)) (i:=lo+y - 1) (by rw[mirror_size];omega)
      have xk:=Wb (by omega) (by omega) hJ
      have l5:(aX (arrOf aj) (lo+y - (aM+1)) (lo+y))[lo+y]? =some q2:=by rw[JP (by omega) (.inr (Nat.le_refl _))];exact cT
      have h3:r p3 q2=false:=o.cR q2 p2 p3 (o.bO _ _ eQ) (e2 _ _ p3 p2 (Nat.le_refl _) (by omega) (by omega) (by omega) xk da)
      exact wpS_pure ⟨B3,0,rfl,N3.snoc (hi:=lo+y) o (by omega) hJ l5 h3,by omega,EQ.nJ o (by omega)⟩
     ·rw[if_neg g9]
      exact wpS_pure ⟨B2,0,rfl,N2.snoc (hi:=lo+y) o (by omega) da cT (o.bO _ _ eQ),by omega,EQ.nJ o (by omega)⟩
    |false=>
     dsimp only
     rw[if_neg Bool.false_ne_true]
     refine wpS_bind (Ye hc B2 da cT ?_)
     cases pL:r p2 q2 with
     |true=>exact wpS_pure ⟨B2,y,aM,rfl,by omega,by omega,N2,g1,e2⟩
     |false=>
      refine wpS_pure ⟨B2,aM+1,rfl,N2.snoc (hi:=lo+y) o (by omega) da cT pL,by omega,?_⟩
      have:=e2.snoc (hi:=lo+y) o (by omega) da cT pL eQ
      rw[show lo+(y+1) - (aM+1+1)=lo+y - (aM+1) by omega]
      exact this
   ·rintro c aj ⟨B2,aM,rfl,N2,g1,e2⟩
    have e9:max (n+1) bG=bG:=Nat.max_eq_right (by omega)
    rw[e9]at N2 g1 e2
    exact⟨B2,bG,aM,by rw[e9],by omega,by omega,N2,g1,e2⟩
   rintro c aK ⟨B3,m,aM,rfl,m1,m2,N3,g3,e3⟩
   dsimp only
   have z3:=B3.size
   by_cases g9:aM>0
   ·rw[if_pos g9]
    refine wpS_bind (Yd ?_)
    have B4:=B3.rev (m:=lo+m - (aM+1)) (hi:=lo+m) (by omega) (by omega)
    have N4:NI r (arrOf (setArr aK (aX (arrOf aK) (lo+m - (aM+1)) (lo+m)))) lo (lo+m):=N3.sy e3 (by omega) (by omega)
    generalize setArr aK (aX (arrOf aK) (lo+m - (aM+1)) (lo+m))=cV at B4 N4
    refine wpS_bind (Yd ?_)
    have B9:=B4.rev (m:=lo) (hi:=lo+m) (Nat.le_refl _) (by omega)
    have S9:SI r (arrOf (setArr cV (aX (arrOf cV) lo (lo+m)))) lo (lo+m):=NI.aX N4 (by rw[B4.size];omega)
    generalize setArr cV (aX (arrOf cV) lo (lo+m))=cP at B9 S9
    have z9:=B9.size
    refine wpS_bind (wpS_forRange (I:=fun y c stx=>stx=cP∧c=(none,y)∧SI r (arrOf cP) lo (lo+y)) ?_ ?_ ⟨rfl,rfl,S9⟩)
    ·rintro y c stx iH ba ⟨rfl,rfl,S⟩
     dsimp only
     obtain⟨p9,hG⟩:=Zg (xs:=arrOf stx) (i:=lo+y - 1) (by omega)
     obtain⟨q9,g8⟩:=Zg (xs:=arrOf stx) (i:=lo+y) (by omega)
     refine wpS_bind (Ye hc B9 g8 hG ?_)
     cases l0:r q9 p9 with
     |true=>exact wpS_pure (wpS_pure (h y stx B9 (by omega) (by omega) S))
     |false=>exact wpS_pure ⟨rfl,rfl,S.snoc (hi:=lo+y) o (by omega) hG g8 l0⟩
    ·rintro c stx ⟨rfl,rfl,S⟩
     rw[Nat.max_eq_right (by omega)]at S
     have e9:max m bG=bG:=Nat.max_eq_right (by omega)
     dsimp only
     rw[e9]
     exact wpS_pure (h bG stx B9 (by omega) (by omega) S)
   ·rw[if_neg g9]
    refine wpS_bind (Yd ?_)
    have B9:=B3.rev (m:=lo) (hi:=lo+m) (Nat.le_refl _) (by omega)
    have S9:SI r (arrOf (setArr aK (aX (arrOf aK) lo (lo+m)))) lo (lo+m):=NI.aX N3 (by rw[B3.size];omega)
    generalize setArr aK (aX (arrOf aK) lo (lo+m))=cP at B9 S9
    have z9:=B9.size
    refine wpS_bind (wpS_forRange (I:=fun y c stx=>stx=cP∧c=(none,y)∧SI r (arrOf cP) lo (lo+y)) ?_ ?_ ⟨rfl,rfl,S9⟩)
    ·rintro y c stx iH ba ⟨rfl,rfl,S⟩
     dsimp only
     obtain⟨p9,hG⟩:=Zg (xs:=arrOf stx) (i:=lo+y - 1) (by omega)
     obtain⟨q9,g8⟩:=Zg (xs:=arrOf stx) (i:=lo+y) (by omega)
     refine wpS_bind (Ye hc B9 g8 hG ?_)
     cases l0:r q9 p9 with
     |true=>exact wpS_pure (wpS_pure (h y stx B9 (by omega) (by omega) S))
     |false=>exact wpS_pure ⟨rfl,rfl,S.snoc (hi:=lo+y) o (by omega) hG g8 l0⟩
    ·rintro c stx ⟨rfl,rfl,S⟩
     rw[Nat.max_eq_right (by omega)]at S
     have e9:max m bG=bG:=Nat.max_eq_right (by omega)
     dsimp only
     rw[e9]
     exact wpS_pure (h bG stx B9 (by omega) (by omega) S)
 ·rw[if_neg Ci]
  obtain rfl:n=1:=by omega
  have uo:NI r (arrOf aa) lo (lo+(1+1)):=(NI.one o).snoc (hi:=lo+1) o (by omega) hp hq (o.bO _ _ hr)
  refine wpS_bind (wpS_lift (wpAny_rule ⟨rfl,?_⟩))
  refine wpS_bind (wpS_mono (wpS_forRange (I:=fun y c stx=>CB a₀ κ lo aa stx∧∃aM,c=(none,y,aM)∧NI r (arrOf stx) lo (lo+y)∧aM+1≤y∧EQ r (arrOf stx) (lo+y - (aM+1)) (lo+y))
   (Q:=fun c stx=>CB a₀ κ lo aa stx∧∃m aM,c=(none,m,aM)∧1+1≤m∧m≤bG∧NI r (arrOf stx) lo (lo+m)∧aM+1≤m∧EQ r (arrOf stx) (lo+m - (aM+1)) (lo+m)) ?_ ?_ ⟨B0,0,rfl,uo,by omega,EQ.nJ o (by omega)⟩) ?_)
  ·rintro y c aj iH ba ⟨B2,aM,rfl,N2,g1,e2⟩
   dsimp only
   have z2:=B2.size
   obtain⟨p2,da⟩:=Zg (xs:=arrOf aj) (i:=lo+y - 1) (by omega)
   obtain⟨q2,cT⟩:=Zg (xs:=arrOf aj) (i:=lo+y) (by omega)
   refine wpS_bind (Ye hc B2 cT da ?_)
   cases eQ:r q2 p2 with
   |true=>
    dsimp only
    rw[if_pos rfl]
    by_cases g9:aM>0
    ·rw[if_pos g9]
     refine wpS_bind (Yd ?_)
     have B3:=B2.rev (m:=lo+y - (aM+1)) (hi:=lo+y) (by omega) (by omega)
     have N3:NI r (aX (arrOf aj) (lo+y - (aM+1)) (lo+y)) lo (lo+y):=N2.sy e2 (by omega) (by omega)
     obtain⟨p3,hJ⟩:=Zg (xs:=aX (arrOf aj) (lo+y - (aM+1)) (lo+y)) (i:=lo+y - 1) (by rw[mirror_size];omega)
     have xk:=Wb (by omega) (by omega) hJ
     have l5:(aX (arrOf aj) (lo+y - (aM+1)) (lo+y))[lo+y]? =some q2:=by rw[JP (by omega) (.inr (Nat.le_refl _))];exact cT
     have h3:r p3 q2=false:=o.cR q2 p2 p3 (o.bO _ _ eQ) (e2 _ _ p3 p2 (Nat.le_refl _) (by omega) (by omega) (by omega) xk da)
     exact wpS_pure ⟨B3,0,rfl,N3.snoc (hi:=lo+y) o (by omega) hJ l5 h3,by omega,EQ.nJ o (by omega)⟩
    ·rw[if_neg g9]
     exact wpS_pure ⟨B2,0,rfl,N2.snoc (hi:=lo+y) o (by omega) da cT (o.bO _ _ eQ),by omega,EQ.nJ o (by omega)⟩
   |false=>
    dsimp only
    rw[if_neg Bool.false_ne_true]
    refine wpS_bind (Ye hc B2 da cT ?_)
    cases pL:r p2 q2 with
    |true=>exact wpS_pure ⟨B2,y,aM,rfl,by omega,by omega,N2,g1,e2⟩
    |false=>
     refine wpS_pure ⟨B2,aM+1,rfl,N2.snoc (hi:=lo+y) o (by omega) da cT pL,by omega,?_⟩
     have:=e2.snoc (hi:=lo+y) o (by omega) da cT pL eQ
     rw[show lo+(y+1) - (aM+1+1)=lo+y - (aM+1) by omega]
     exact this
  ·rintro c aj ⟨B2,aM,rfl,N2,g1,e2⟩
   have e9:max (1+1) bG=bG:=Nat.max_eq_right (by omega)
   rw[e9]at N2 g1 e2
   exact⟨B2,bG,aM,by rw[e9],by omega,by omega,N2,g1,e2⟩
  rintro c aK ⟨B3,m,aM,rfl,m1,m2,N3,g3,e3⟩
  dsimp only
  have z3:=B3.size
  by_cases g9:aM>0
  ·rw[if_pos g9]
   refine wpS_bind (Yd ?_)
   have B4:=B3.rev (m:=lo+m - (aM+1)) (hi:=lo+m) (by omega) (by omega)
   have N4:NI r (arrOf (setArr aK (aX (arrOf aK) (lo+m - (aM+1)) (lo+m)))) lo (lo+m):=N3.sy e3 (by omega) (by omega)
   generalize setArr aK (aX (arrOf aK) (lo+m - (aM+1)) (lo+m))=cV at B4 N4
   refine wpS_bind (Yd ?_)
   have B9:=B4.rev (m:=lo) (hi:=lo+m) (Nat.le_refl _) (by omega)
   have S9:SI r (arrOf (setArr cV (aX (arrOf cV) lo (lo+m)))) lo (lo+m):=NI.aX N4 (by rw[B4.size];omega)
   generalize setArr cV (aX (arrOf cV) lo (lo+m))=cP at B9 S9
   have z9:=B9.size
   refine wpS_bind (wpS_forRange (I:=fun y c stx=>stx=cP∧c=(none,y)∧SI r (arrOf cP) lo (lo+y)) ?_ ?_ ⟨rfl,rfl,S9⟩)
   ·rintro y c stx iH ba ⟨rfl,rfl,S⟩
    dsimp only
    obtain⟨p9,hG⟩:=Zg (xs:=arrOf stx) (i:=lo+y - 1) (by omega)
    obtain⟨q9,g8⟩:=Zg (xs:=arrOf stx) (i:=lo+y) (by omega)
    refine wpS_bind (Ye hc B9 g8 hG ?_)
    cases l0:r q9 p9 with
    |true=>exact wpS_pure (wpS_pure (h y stx B9 (by omega) (by omega) S))
    |false=>exact wpS_pure ⟨rfl,rfl,S.snoc (hi:=lo+y) o (by omega) hG g8 l0⟩
   ·rintro c stx ⟨rfl,rfl,S⟩
    rw[Nat.max_eq_right (by omega)]at S
    have e9:max m bG=bG:=Nat.max_eq_right (by omega)
    dsimp only
    rw[e9]
    exact wpS_pure (h bG stx B9 (by omega) (by omega) S)
  ·rw[if_neg g9]
   refine wpS_bind (Yd ?_)
   have B9:=B3.rev (m:=lo) (hi:=lo+m) (Nat.le_refl _) (by omega)
   have S9:SI r (arrOf (setArr aK (aX (arrOf aK) lo (lo+m)))) lo (lo+m):=NI.aX N3 (by rw[B3.size];omega)
   generalize setArr aK (aX (arrOf aK) lo (lo+m))=cP at B9 S9
   have z9:=B9.size
   refine wpS_bind (wpS_forRange (I:=fun y c stx=>stx=cP∧c=(none,y)∧SI r (arrOf cP) lo (lo+y)) ?_ ?_ ⟨rfl,rfl,S9⟩)
   ·rintro y c stx iH ba ⟨rfl,rfl,S⟩
    dsimp only
    obtain⟨p9,hG⟩:=Zg (xs:=arrOf stx) (i:=lo+y - 1) (by omega)
    obtain⟨q9,g8⟩:=Zg (xs:=arrOf stx) (i:=lo+y) (by omega)
    refine wpS_bind (Ye hc B9 g8 hG ?_)
    cases l0:r q9 p9 with
    |true=>exact wpS_pure (wpS_pure (h y stx B9 (by omega) (by omega) S))
    |false=>exact wpS_pure ⟨rfl,rfl,S.snoc (hi:=lo+y) o (by omega) hG g8 l0⟩
   ·rintro c stx ⟨rfl,rfl,S⟩
    rw[Nat.max_eq_right (by omega)]at S
    have e9:max m bG=bG:=Nat.max_eq_right (by omega)
    dsimp only
    rw[e9]
    exact wpS_pure (h bG stx B9 (by omega) (by omega) S)
theorem OS {x y z:Keyed}(o:Ord r) (h:r z x=true) (h2:r y x=false):r z y=true:=by
 cases e:r z y with
 |true=>rfl
 |false=>
  have:=o.cR x y z h2 e
  rw[h]at this
  cases this
theorem RI {st:SortSt}{i j:Nat}{Q:Unit→SortSt→Prop}(h:Q () (setArr st (bubble (arrOf st) i (i - j)))):wpS (model prog w) A E s (moveDown' i j) Q st:=by
 rw[moveDown'_eq]
 exact wpS_modify h
theorem SI.put {xs:Array Keyed}{lo k l:Nat}{q:Keyed}(o:Ord r) (S:SI r xs lo (lo+k)) (hq:xs[lo+k]? =some q) (hl:l≤k) (h1:∀i x,i<l→xs[lo+i]? =some x→r q x=false) (h2:∀i x,l≤i→i<k→xs[lo+i]? =some x→r q x=true):SI r (bubble xs (lo+k) (lo+k - (lo+l))) lo (lo+(k+1)):=by
 have hs:lo+k<xs.size:=(Array.getElem?_eq_some_iff.mp hq).1
 intro i j x y g1 g2 g3 hx hy
 rw[getElem?_bubble hs _ (by omega)]at hx hy
 rw[show lo+k - (lo+k - (lo+l))=lo+l by omega]at hx hy
 by_cases ei:i=lo+l
 ·rw[if_pos ei,hq]at hx
  cases hx
  by_cases ej:j=lo+l
  ·rw[if_pos ej,hq]at hy
   cases hy
   exact o.jZ _
  ·rw[if_neg ej,if_pos (by omega)]at hy
   exact o.bO _ _ (h2 (j - 1 - lo) y (by omega) (by omega) (by rw[show lo+(j - 1 - lo)=j - 1 by omega];exact hy))
 ·rw[if_neg ei]at hx
  by_cases ej:j=lo+l
  ·rw[if_pos ej,hq]at hy
   cases hy
   rw[if_neg (by omega)]at hx
   exact h1 (i - lo) x (by omega) (by rw[show lo+(i - lo)=i by omega];exact hx)
  ·rw[if_neg ej]at hy
   by_cases gi:lo+l<i
   ·rw[if_pos (by omega)]at hx hy
    exact S (i - 1) (j - 1) x y (by omega) (by omega) (by omega) hx hy
   ·rw[if_neg (by omega)]at hx
    by_cases gj:lo+l<j
    ·rw[if_pos (by omega)]at hy
     exact S i (j - 1) x y (by omega) (by omega) (by omega) hx hy
    ·rw[if_neg (by omega)]at hy
     exact S i j x y (by omega) (by omega) (by omega) hx hy
theorem JF {st df:SortSt}{lo n ok:Nat}{Q:Bool→SortSt→Prop}(o:Ord r) (hc:iz prog w A E s κ a₀ r) (B0:CB a₀ κ lo df st) (h1:1≤ok) (hn:ok≤n) (hz:lo+n≤a₀.size) (S0:SI r (arrOf st) lo (lo+ok))
  (h:∀aa,CB a₀ κ lo df aa→SI r (arrOf aa) lo (lo+n)→Q true aa):wpS (model prog w) A E s (binarySort' lo n ok) Q st:=by
 rw[binarySort'_eq]
 dsimp only
 rw[Nat.max_eq_left h1]
 refine wpS_bind (wpS_forRange (I:=fun k c aa=>c=(none,())∧CB a₀ κ lo df aa∧SI r (arrOf aa) lo (lo+k)) ?_ ?_ ⟨rfl,B0,S0⟩)
 ·rintro k c aw bF f9 ⟨rfl,B1,S1⟩
  try dsimp only
  have z1:=B1.size
  obtain⟨q,hq⟩:=Zg (xs:=arrOf aw) (i:=lo+k) (by omega)
  refine wpS_bind (wpS_mono (wpS_forRange (I:=fun y c aa=>aa=aw∧∃l u,c=(none,l,u)∧l≤u∧u≤k∧(∀i x,i<l→(arrOf aw)[lo+i]? =some x→r q x=false)∧(∀i x,u≤i→i<k→(arrOf aw)[lo+i]? =some x→r q x=true)∧u - l≤k - y)
   (Q:=fun c aa=>aa=aw∧∃l u,c=(none,l,u)∧l≤k∧(∀i x,i<l→(arrOf aw)[lo+i]? =some x→r q x=false)∧(∀i x,l≤i→i<k→(arrOf aw)[lo+i]? =some x→r q x=true)) ?_ ?_ ⟨rfl,0,k,rfl,by omega,by omega,fun i x hi=>absurd hi (by omega),fun i x g1 g2=>absurd g2 (by omega),by omega⟩) ?_)
  ·rintro y c aa _ hy ⟨rfl,l,u,rfl,g1,g2,g3,g4,g5⟩
   dsimp only
   by_cases bq:l≥u
   ·rw[if_pos bq]
    exact wpS_pure ⟨rfl,l,u,rfl,by omega,g3,fun i x g6=>g4 i x (by omega)⟩
   ·rw[if_neg bq]
    have hm:(l+u)/2<u:=by omega
    have dY:l≤(l+u)/2:=by omega
    generalize (l+u)/2=m at hm dY
    obtain⟨p,hp⟩:=Zg (xs:=arrOf aa) (i:=lo+m) (by omega)
    refine wpS_bind (Ye hc B1 hq hp ?_)
    cases hr:r q p with
    |true=>
     refine wpS_pure ⟨rfl,l,m,rfl,dY,by omega,g3,fun i x g6 g7 hx=> ?_,by omega⟩
     exact OS o hr (S1 (lo+m) (lo+i) p x (by omega) (by omega) (by omega) hp hx)
    |false=>
     refine wpS_pure ⟨rfl,m+1,u,rfl,by omega,g2,fun i x g6 hx=> ?_,g4,by omega⟩
     exact o.cR x p q (S1 (lo+i) (lo+m) x p (by omega) (by omega) (by omega) hx hp) hr
  ·rintro c aa ⟨rfl,l,u,rfl,g1,g2,g3,g4,g5⟩
   rw[Nat.max_eq_right (Nat.zero_le _)]at g5
   exact⟨rfl,l,u,rfl,by omega,g3,fun i x g6=>g4 i x (by omega)⟩
  rintro c aa ⟨rfl,l,u,rfl,g1,g3,g4⟩
  dsimp only
  refine wpS_bind (RI (wpS_pure ⟨rfl,⟨B1.kind,B1.pend,B1.fail,(bubble_perm _ _ _).trans B1.perm,fun i hi=> ?_⟩,S1.put o hq g1 g3 g4⟩))
  show(bubble (arrOf aa) (lo+k) (lo+k - (lo+l)))[i]? =_
  rw[getElem?_bubble (by omega) _ (by omega),if_neg (by omega),if_neg (by omega)]
  exact B1.pre i hi
 ·rintro c aw ⟨rfl,B1,S1⟩
  rw[Nat.max_eq_right hn]at S1
  exact wpS_pure (h aw B1 S1)
end
def seg (L:List Keyed) (s n:Nat):List Keyed:=(L.drop s).take n
theorem YR {L:List Keyed}{s n i:Nat}(h:i<n):(seg L s n)[i]? =L[s+i]? :=by
 unfold seg
 rw[List.getElem?_take_of_lt h,List.getElem?_drop]
theorem Ei {L:List Keyed}{s n:Nat}(h:s+n≤L.length):(seg L s n).length=n:=by
 unfold seg
 rw[List.length_take,List.length_drop];omega
theorem SI.pw {r:Keyed→Keyed→Bool}{xs:Array Keyed}{lo n:Nat}(h:SI r xs lo (lo+n)):Pw r (seg xs.toList lo n):=by
 unfold Pw
 rw[List.pairwise_iff_getElem]
 intro i j hi hj cM
 have hn:j<n:=by unfold seg at hj;rw[List.length_take]at hj;omega
 have e1:(seg xs.toList lo n)[i]? =some (seg xs.toList lo n)[i]:=List.getElem?_eq_getElem hi
 have e2:(seg xs.toList lo n)[j]? =some (seg xs.toList lo n)[j]:=List.getElem?_eq_getElem hj
 rw[YR (by omega),Array.getElem?_toList]at e1
 rw[YR hn,Array.getElem?_toList]at e2
 exact h (lo+i) (lo+j) _ _ (by omega) (by omega) (by omega) e1 e2
def Runs (r:Keyed→Keyed→Bool) (L:List Keyed):List (Nat×Nat×Nat)→Nat→Nat→Prop
 | [],p,q=>p=q
 |x::rest,p,q=>x.1=p∧1≤x.2.1∧Pw r (seg L x.1 x.2.1)∧Runs r L rest (p+x.2.1) q
section
variable {r:Keyed→Keyed→Bool}{L L':List Keyed}
theorem Runs.le:∀{ps:List (Nat×Nat×Nat)}{p q:Nat},Runs r L ps p q→p+ps.length≤q
 | [],_,_,h=>by cases h;exact Nat.le_refl _
 |x::ps,p,q,h=>by
  have:=Runs.le h.2.2.2
  have:=h.2.1
  rw[List.length_cons]
  omega
theorem Runs.app:∀{l1 l2:List (Nat×Nat×Nat)}{p q:Nat},Runs r L (l1++l2) p q↔∃m,Runs r L l1 p m∧Runs r L l2 m q
 | [],l2,p,q=> ⟨fun h=> ⟨p,rfl,h⟩,fun⟨m,h1,h2⟩=>by cases h1;exact h2⟩
 |x::l1,l2,p,q=>by
  constructor
  ·rintro⟨h1,h2,h3,h4⟩
   obtain⟨m,g1,g2⟩:=Runs.app.mp h4
   exact⟨m,⟨h1,h2,h3,g1⟩,g2⟩
  ·rintro⟨m,⟨h1,h2,h3,g1⟩,g2⟩
   exact⟨h1,h2,h3,Runs.app.mpr ⟨m,g1,g2⟩⟩
theorem Runs.congr:∀{ps:List (Nat×Nat×Nat)}{p q:Nat},Runs r L ps p q→(∀s n,p≤s→s+n≤q→seg L s n=seg L' s n)→Runs r L' ps p q
 | [],_,_,h,_=>h
 |x::ps,p,q,⟨h1,h2,h3,h4⟩,e=>by
  have:=Runs.le h4
  refine⟨h1,h2,?_,Runs.congr h4 fun s n g1 g2=>e s n (by omega) g2⟩
  rw[←e x.1 x.2.1 (by omega) (by omega)]
  exact h3
theorem Ej {m s n:Nat}(h:L.take m=L'.take m) (hs:s+n≤m):seg L s n=seg L' s n:=by
 have key:∀M:List Keyed,seg M s n=seg (M.take m) s n:=fun M=>by
  unfold seg
  rw[List.drop_take,List.take_take,Nat.min_eq_left (by omega)]
 rw[key L,key L',h]
theorem JX {m s n:Nat}(h:L.drop m=L'.drop m) (hs:m≤s):seg L s n=seg L' s n:=by
 have key:∀M:List Keyed,seg M s n=((M.drop m).drop (s - m)).take n:=fun M=>by
  unfold seg
  rw[List.drop_drop,show m+(s - m)=s by omega]
 rw[key L,key L',h]
theorem QR {A B M:List Keyed}{k n:Nat}(o:Ord r) (sA:Pw r A) (sB:Pw r B) (hM:M.Perm (A.drop k++B.take n)) (sM:Pw r M) (h1:∀x∈A.take k,∀y∈B,r y x=false) (h2:∀z∈A,∀w∈B.drop n,r w z=false):Pw r (A.take k++(M++B.drop n)):=by
 have pa:Pw r (A.take k):=List.Pairwise.sublist (List.take_sublist _ _) sA
 have pb:Pw r (B.drop n):=List.Pairwise.sublist (List.drop_sublist _ _) sB
 have GU:Pw r (A.take k++A.drop k):=by rw[List.take_append_drop];exact sA
 have GS:Pw r (B.take n++B.drop n):=by rw[List.take_append_drop];exact sB
 refine List.pairwise_append.mpr ⟨pa,List.pairwise_append.mpr ⟨sM,pb,fun z hz w hw=> ?_⟩,fun x hx z hz=> ?_⟩
 ·rcases List.mem_append.mp (hM.mem_iff.mp hz) with hz |hz
  ·exact h2 z (List.mem_of_mem_drop hz) w hw
  ·exact(List.pairwise_append.mp GS).2.2 z hz w hw
 ·rcases List.mem_append.mp hz with hz |hz
  ·rcases List.mem_append.mp (hM.mem_iff.mp hz) with hz |hz
   ·exact(List.pairwise_append.mp GU).2.2 x hx z hz
   ·exact h1 x hx z (List.mem_of_mem_take hz)
  ·exact h1 x hx z (List.mem_of_mem_drop hz)
theorem Eg (off:Nat):∀(M:List Keyed) (j:Nat) (xs:Array Keyed),off+j+M.length≤xs.size→((M.zipIdx j).foldl (fun a x=>a.setIfInBounds (off+x.snd) x.fst) xs).toList=xs.toList.take (off+j)++(M++xs.toList.drop (off+j+M.length))
 | [],j,xs,_=>by
  show xs.toList=_
  rw[List.nil_append,List.length_nil,Nat.add_zero,List.take_append_drop]
 |m::M,j,xs,h=>by
  rw[List.length_cons]at h
  rw[List.zipIdx_cons,List.foldl_cons,Eg off M (j+1) _ (by rw[Array.size_setIfInBounds];omega),Array.toList_setIfInBounds]
  have hl:off+j<xs.toList.length:=by rw[Array.length_toList];omega
  rw[List.drop_set_of_lt (by omega),←Nat.add_assoc,List.take_add_one,List.take_set_of_le (Nat.le_refl _),List.getElem?_set_self hl]
  rw[List.append_assoc,List.length_cons,show off+j+1+M.length=off+j+(M.length+1) by omega]
  rfl
end
section
variable {prog:Program}{w:World}{A:Around}{E:Value→Shared→Prop}{s:Shared}{κ:SortKind}{a₀:Array Keyed}{r:Keyed→Keyed→Bool}
theorem Qj {st aa:SortSt}{Q:PUnit→SortSt→Prop}(h:Q ⟨⟩ aa):wpS (model prog w) A E s (set aa:StateT SortSt Sem PUnit) Q st:=by
 unfold wpS
 exact wpAny_pure ⟨rfl,h⟩
theorem Qi {α:Type}{m:StateT SortSt Sem α}{Q:α→SortSt→Prop}{st:SortSt}(P:SortSt→Prop) (hp:P st) (h:∀df,P df→wpS (model prog w) A E s m Q df):wpS (model prog w) A E s m Q st:=h st hp
theorem Um {st:SortSt}{i:Nat}{Q:Bool→SortSt→Prop}(o:Ord r) (hc:iz prog w A E s κ a₀ r) (hk:kindOf st=κ) (hP:(arrOf st).Perm a₀) (hF:failedOf st=none) {pre post:List (Nat×Nat×Nat)}{sa na pw sb nb r8:Nat}
  (hp:(pendingOf st).toList=pre++(sa,na,pw)::(sb,nb,r8)::post) (hi:pre.length=i) (GO:sb=sa+na) (n1:1≤na) (n2:1≤nb) (hz:sb+nb≤a₀.size) (SA:Pw r (seg (arrOf st).toList sa na)) (SB:Pw r (seg (arrOf st).toList sb nb))
  (h:∀aa,kindOf aa=κ→(arrOf aa).Perm a₀→failedOf aa=none→(pendingOf aa).toList=pre++(sa,na+nb,pw)::post→(arrOf aa).toList.take sa=(arrOf st).toList.take sa→(arrOf aa).toList.drop (sb+nb)=(arrOf st).toList.drop (sb+nb)→Pw r (seg (arrOf aa).toList sa (na+nb))→Q true aa):
  wpS (model prog w) A E s (mergeAt' i) Q st:=by
 have hsz:(arrOf st).size=a₀.size:=hP.size_eq
 have e1:(pendingOf st)[i]? =some (sa,na,pw):=by
  rw[←Array.getElem?_toList,hp,←hi]
  simp
 have e2:(pendingOf st)[i+1]? =some (sb,nb,r8):=by
  rw[←Array.getElem?_toList,hp,←hi,List.getElem?_append_right (by omega),show pre.length+1 - pre.length=1 by omega]
  rfl
 have B6:(((pendingOf st).setIfInBounds i (sa,na+nb,pw)).eraseIdxIfInBounds (i+1)).toList=pre++(sa,na+nb,pw)::post:=by
  rw[Array.toList_eraseIdxIfInBounds,Array.toList_setIfInBounds,hp,←hi,List.set_append_right _ _ (Nat.le_refl _),Nat.sub_self,List.set_cons_zero,List.eraseIdx_append_of_length_le (by omega),show pre.length+1 - pre.length=1 by omega]
  rfl
 show wpS (model prog w) A E s (_ >>=_) _ _
 obtain⟨kd,xs,pd,ga,fl⟩:=st
 refine wpS_bind (wpS_get ?_)
 replace e1:pd[i]? =some (sa,na,pw):=e1
 replace e2:pd[i+1]? =some (sb,nb,r8):=e2
 dsimp only
 rw[e1,e2]
 dsimp only
 refine wpS_bind (Qj ?_)
 refine Qi (fun df=>kindOf df=κ∧arrOf df=xs∧(pendingOf df).toList=pre++(sa,na+nb,pw)::post∧failedOf df=none) ⟨hk,rfl,B6,hF⟩ ?_
 rintro df ⟨g1,g2,g3,g4⟩
 clear B6 e1 e2
 replace hP:xs.Perm a₀:=hP
 replace hsz:xs.size=a₀.size:=hsz
 replace SA:Pw r (seg xs.toList sa na):=SA
 replace SB:Pw r (seg xs.toList sb nb):=SB
 have mm:∀{j:Nat}{x:Keyed},xs[j]? =some x→x∈a₀.toList:=fun hx=> (Array.perm_iff_toList_perm.mp hP).mem_iff.mp (Zt hx)
 have lA:(seg xs.toList sa na).length=na:=Ei (by rw[Array.length_toList];omega)
 have lB:(seg xs.toList sb nb).length=nb:=Ei (by rw[Array.length_toList];omega)
 have yJ:∀{j:Nat}{x:Keyed},j<na→xs[sa+j]? =some x→(seg xs.toList sa na)[j]? =some x:=fun hj hx=>by rw[YR hj,Array.getElem?_toList];exact hx
 have yI:∀{j:Nat}{x:Keyed},j<nb→xs[sb+j]? =some x→(seg xs.toList sb nb)[j]? =some x:=fun hj hx=>by rw[YR hj,Array.getElem?_toList];exact hx
 have ub:∀{j:Nat}{x:Keyed},(seg xs.toList sa na)[j]? =some x→j<na∧xs[sa+j]? =some x:=fun {j x} hx=>by
  have hj:j<na:=by have:=(List.getElem?_eq_some_iff.mp hx).1;omega
  exact⟨hj,by rw[YR hj,Array.getElem?_toList]at hx;exact hx⟩
 have yH:∀{j:Nat}{x:Keyed},(seg xs.toList sb nb)[j]? =some x→j<nb∧xs[sb+j]? =some x:=fun {j x} hx=>by
  have hj:j<nb:=by have:=(List.getElem?_eq_some_iff.mp hx).1;omega
  exact⟨hj,by rw[YR hj,Array.getElem?_toList]at hx;exact hx⟩
 have fin:∀(k n:Nat) (M:List Keyed) (aa:SortSt),k≤na→n≤nb→kindOf aa=κ→failedOf aa=none→(pendingOf aa).toList=pre++(sa,na+nb,pw)::post→M.Perm ((seg xs.toList sa na).drop k++(seg xs.toList sb nb).take n)→Pw r M→
   (∀x∈(seg xs.toList sa na).take k,∀y∈seg xs.toList sb nb,r y x=false)→(∀z∈seg xs.toList sa na,∀w∈(seg xs.toList sb nb).drop n,r w z=false)→
   (arrOf aa).toList=xs.toList.take (sa+k)++(M++xs.toList.drop (sa+k+M.length))→Q true aa:=fun k n M aa Lq nS f1 f2 f3 f4 f5 f6 f7 f8=>by
  have lM:M.length=(na - k)+n:=by
   rw[f4.length_eq,List.length_append,List.length_drop,List.length_take,lA,lB,Nat.min_eq_left nS]
  have hL:xs.toList.length=a₀.size:=by rw[Array.length_toList];exact hsz
  have eA:xs.toList.take (sa+k)=xs.toList.take sa++(seg xs.toList sa na).take k:=by
   rw[List.take_add]
   unfold seg
   rw[List.take_take,Nat.min_eq_left Lq]
  have eB:xs.toList.drop (sa+k+M.length)=(seg xs.toList sb nb).drop n++xs.toList.drop (sb+nb):=by
   rw[lM,show sa+k+(na - k+n)=sb+n by omega,←List.drop_drop]
   have:xs.toList.drop sb=seg xs.toList sb nb++xs.toList.drop (sb+nb):=by
    unfold seg
    rw[←List.drop_drop,List.take_append_drop]
   rw[this,List.drop_append_of_le_length (by rw[lB];exact nS)]
  have M9:xs.toList=xs.toList.take sa++((seg xs.toList sa na++seg xs.toList sb nb)++xs.toList.drop (sb+nb)):=by
   have a1:xs.toList.drop sa=seg xs.toList sa na++xs.toList.drop sb:=by
    unfold seg
    rw[GO,←List.drop_drop,List.take_append_drop]
   have a2:xs.toList.drop sb=seg xs.toList sb nb++xs.toList.drop (sb+nb):=by
    unfold seg
    rw[←List.drop_drop,List.take_append_drop]
   rw[List.append_assoc,←a2,←a1,List.take_append_drop]
  have eN:(arrOf aa).toList=xs.toList.take sa++(((seg xs.toList sa na).take k++(M++(seg xs.toList sb nb).drop n))++xs.toList.drop (sb+nb)):=by
   rw[f8,eA,eB]
   simp only[List.append_assoc]
  have lX:(xs.toList.take sa).length=sa:=by rw[List.length_take];omega
  have lY:((seg xs.toList sa na).take k++(M++(seg xs.toList sb nb).drop n)).length=na+nb:=by
   rw[List.length_append,List.length_append,List.length_take,List.length_drop,lA,lB,lM];omega
  have pY:((seg xs.toList sa na).take k++(M++(seg xs.toList sb nb).drop n)).Perm (seg xs.toList sa na++seg xs.toList sb nb):=by
   refine List.Perm.trans (List.Perm.append_left _ (List.Perm.append_right _ f4)) ?_
   rw[List.append_assoc,List.take_append_drop,←List.append_assoc,List.take_append_drop]
  refine h aa f1 ?_ f2 f3 ?_ ?_ ?_
  ·refine Array.perm_iff_toList_perm.mpr (List.Perm.trans ?_ (Array.perm_iff_toList_perm.mp hP))
   rw[eN]
   refine List.Perm.trans (List.Perm.append_left _ (List.Perm.append_right _ pY)) ?_
   rw[←M9]
  ·rw[eN,List.take_left' lX]
  ·rw[eN,←List.append_assoc,List.drop_left' (by rw[List.length_append,lX,lY];omega)]
  ·have:seg (arrOf aa).toList sa (na+nb)=(seg xs.toList sa na).take k++(M++(seg xs.toList sb nb).drop n):=by
    rw[eN]
    show List.take (na+nb) (List.drop sa (xs.toList.take sa++(((seg xs.toList sa na).take k++(M++(seg xs.toList sb nb).drop n))++xs.toList.drop (sb+nb))))=_
    rw[List.drop_left' lX,List.take_left' lY]
   rw[this]
   exact QR o SA SB f4 f5 f6 f7
 obtain⟨y0,j4⟩:=Zg (xs:=xs) (i:=sb) (by omega)
 refine wpS_bind (Zl j4 ?_)
 have Mz:∀y∈seg xs.toList sb nb,r y y0=false:=fun y hy=>by
  obtain⟨j,hj⟩:=List.getElem?_of_mem hy
  exact Ym o SB (yI (j:=0) (by omega) j4) hj (Nat.zero_le _)
 refine wpS_bind (ZD hc g1 (fun i=>match xs[sa+i]? with |some x=> !r y0 x |none=>false) (fun i hi=> ?_) (mm j4) (fun i j cM hj hp=> ?_) (by omega) fun k kn dm cD=> ?_)
 ·obtain⟨x,hx⟩:=Zg (xs:=xs) (i:=sa+i) (by omega)
  refine⟨x,hx,mm hx,?_⟩
  try dsimp only
  rw[hx]
  rfl
 ·obtain⟨xj,fK⟩:=Zg (xs:=xs) (i:=sa+j) (by omega)
  obtain⟨xi,fL⟩:=Zg (xs:=xs) (i:=sa+i) (by omega)
  try dsimp only at hp ⊢
  rw[fK]at hp
  rw[fL]
  rw[Bool.not_eq_true']at hp ⊢
  exact o.cR _ _ _ (Ym o SA (yJ (by omega) fL) (yJ (by omega) fK) cM) hp
 dsimp only
 have low:∀x∈(seg xs.toList sa na).take k,∀y∈seg xs.toList sb nb,r y x=false:=fun x hx y hy=>by
  obtain⟨j,hj⟩:=List.getElem?_of_mem hx
  have xu:j<k:=by have:=(List.getElem?_eq_some_iff.mp hj).1;rw[List.length_take]at this;omega
  rw[List.getElem?_take_of_lt xu]at hj
  obtain⟨pZ,me⟩:=ub hj
  have:=dm j xu
  try dsimp only at this
  rw[me,Bool.not_eq_true']at this
  exact o.cR x y0 y this (Mz y hy)
 by_cases bu:(na - k==0)=true
 ·rw[if_pos bu]
  have ek:k=na:=by have:=beq_iff_eq.mp bu;omega
  subst ek
  refine wpS_pure (fin k 0 [] df (Nat.le_refl _) (Nat.zero_le _) g1 g4 g3 (by rw[List.drop_eq_nil_of_le (by omega)];exact .refl _) .nil low (fun z hz w hw=> ?_) ?_)
  ·exact low z (by rw[List.take_of_length_le (by omega)];exact hz) w (List.mem_of_mem_drop hw)
  ·rw[g2,List.nil_append,List.length_nil,Nat.add_zero,List.take_append_drop]
 rw[if_neg bu]
 have nQ:¬(na - k=0):=fun z=>bu (beq_iff_eq.mpr z)
 obtain⟨x0,lU⟩:=Zg (xs:=xs) (i:=sa+k+(na - k) - 1) (by omega)
 refine wpS_bind (Zl lU ?_)
 have BO:xs[sa+(na - 1)]? =some x0:=by rw[←lU];congr 1;omega
 have MC:∀x∈seg xs.toList sa na,r x0 x=false:=fun x hx=>by
  obtain⟨j,hj⟩:=List.getElem?_of_mem hx
  exact Ym o SA hj (yJ (j:=na - 1) (by omega) BO) (by have:=(ub hj).1;omega)
 refine wpS_bind (ZD hc g1 (fun i=>match xs[sb+i]? with |some y=>r y x0 |none=>false) (fun i hi=> ?_) (mm lU) (fun i j cM hj hp=> ?_) (by omega) fun n nn HR HV=> ?_)
 ·obtain⟨y,hy⟩:=Zg (xs:=xs) (i:=sb+i) (by omega)
  refine⟨y,hy,mm hy,?_⟩
  try dsimp only
  rw[hy]
  rfl
 ·obtain⟨yj,bX⟩:=Zg (xs:=xs) (i:=sb+j) (by omega)
  obtain⟨yi,bY⟩:=Zg (xs:=xs) (i:=sb+i) (by omega)
  try dsimp only at hp ⊢
  rw[bX]at hp
  rw[bY]
  exact Jj o hp (Ym o SB (yI (by omega) bY) (yI (by omega) bX) cM)
 dsimp only
 have high:∀z∈seg xs.toList sa na,∀w∈(seg xs.toList sb nb).drop n,r w z=false:=fun z hz w hw=>by
  obtain⟨j,hj⟩:=List.getElem?_of_mem hw
  rw[List.getElem?_drop]at hj
  obtain⟨pZ,me⟩:=yH hj
  have:=HV (n+j) (by omega) pZ
  try dsimp only at this
  rw[me]at this
  exact o.cR z x0 w (MC z hz) this
 by_cases cm:(n==0)=true
 ·rw[if_pos cm]
  have en:n=0:=beq_iff_eq.mp cm
  subst en
  refine wpS_pure (fin na 0 [] df (Nat.le_refl _) (Nat.zero_le _) g1 g4 g3 (by rw[List.drop_eq_nil_of_le (by omega)];exact .refl _) .nil (fun x hx y hy=> ?_) high ?_)
  ·exact high x (List.mem_of_mem_take hx) y (by rw[List.drop_zero];exact hy)
  ·rw[g2,List.nil_append,List.length_nil,Nat.add_zero,List.take_append_drop]
 rw[if_neg cm]
 have tf:¬(n=0):=fun z=>cm (beq_iff_eq.mpr z)
 have xA:(xs.extract (sa+k) sb).toList=(seg xs.toList sa na).drop k:=by
  rw[Jx]
  unfold seg
  rw[List.drop_take,List.drop_drop,show sb - (sa+k)=na - k by omega]
 have xB:(xs.extract sb (sb+n)).toList=(seg xs.toList sb nb).take n:=by
  rw[Jx,show sb+n - sb=n by omega]
  unfold seg
  rw[List.take_take,Nat.min_eq_left nn]
 have Gx:(xs.extract (sa+k) sb).size=na - k:=by rw[←Array.length_toList,xA,List.length_drop,lA]
 have S6:(xs.extract sb (sb+n)).size=n:=by rw[←Array.length_toList,xB,List.length_take,lB];omega
 have C:eI r (xs.extract (sa+k) sb) (xs.extract sb (sb+n)):=⟨o,by rw[xA];exact List.Pairwise.sublist (List.drop_sublist _ _) SA,by rw[xB];exact List.Pairwise.sublist (List.take_sublist _ _) SB⟩
 have mA:∀x∈(xs.extract (sa+k) sb).toList,x∈a₀.toList:=fun x hx=>by
  rw[xA]at hx
  obtain⟨j,hj⟩:=List.getElem?_of_mem (List.mem_of_mem_drop hx)
  exact mm (ub hj).2
 have mB:∀x∈(xs.extract sb (sb+n)).toList,x∈a₀.toList:=fun x hx=>by
  rw[xB]at hx
  obtain⟨j,hj⟩:=List.getElem?_of_mem (List.mem_of_mem_take hx)
  exact mm (yH hj).2
 have m0:∀y,(xs.extract sb (sb+n))[0]? =some y→∀x∈(xs.extract (sa+k) sb).toList,r x y=false:=fun y hy x hx=>by
  have iH:=Zw hy
  rw[xB,List.getElem?_take_of_lt (by omega),YR (by omega),Nat.add_zero,Array.getElem?_toList,j4]at iH
  cases iH
  rw[xA]at hx
  obtain⟨j,hj⟩:=List.getElem?_of_mem hx
  rw[List.getElem?_drop]at hj
  obtain⟨pZ,me⟩:=ub hj
  have:=cD (k+j) (by omega) pZ
  try dsimp only at this
  rw[me,Bool.not_eq_false']at this
  exact o.bO _ _ this
 have ml:∀x,(xs.extract (sa+k) sb)[(xs.extract (sa+k) sb).size - 1]? =some x→∀y∈(xs.extract sb (sb+n)).toList,r x y=false:=fun x hx y hy=>by
  have wV:=Zw hx
  rw[Gx,xA,List.getElem?_drop,YR (by omega),Array.getElem?_toList,show sa+(k+(na - k - 1))=sa+(na - 1) by omega,BO]at wV
  cases wV
  rw[xB]at hy
  obtain⟨j,hj⟩:=List.getElem?_of_mem hy
  have Cw:j<n:=by have:=(List.getElem?_eq_some_iff.mp hj).1;rw[List.length_take]at this;omega
  rw[List.getElem?_take_of_lt Cw]at hj
  obtain⟨pZ,me⟩:=yH hj
  have:=HR j Cw
  try dsimp only at this
  rw[me]at this
  exact o.bO _ _ this
 have done:∀(res:Array Keyed) (aw:SortSt),SG df aw→Good r (xs.extract (sa+k) sb) (xs.extract sb (sb+n)) res→Q true (setArr aw (List.foldl (fun a x=>a.setIfInBounds (sa+k+x.snd) x.fst) (arrOf aw) res.toList.zipIdx)):=fun res aw sg gd=>by
  have p1:=gd.1
  rw[xA,xB]at p1
  have lR:res.toList.length=na - k+n:=by rw[p1.length_eq,List.length_append,List.length_drop,List.length_take,lA,lB];omega
  refine fin k n res.toList _ kn nn (by show kindOf aw=κ;rw[sg.1];exact g1) (by show failedOf aw=none;rw[sg.2.2.2];exact g4) (by show(pendingOf aw).toList=_;rw[sg.2.2.1];exact g3) p1 gd.2 low high ?_
  show(List.foldl (fun a x=>a.setIfInBounds (sa+k+x.snd) x.fst) (arrOf aw) res.toList.zipIdx).toList=_
  rw[sg.2.1,g2]
  exact Eg (sa+k) res.toList 0 xs (by rw[lR];omega)
 by_cases hle:na - k≤n
 ·rw[if_pos hle]
  refine wpS_bind (Uk hc g1 C mA mB (by omega) (by omega) m0 ml fun res aw sg gd=> ?_)
  refine wpS_bind (wpS_modify (wpS_bind (wpS_get ?_)))
  have ef:(failedOf (setArr aw (List.foldl (fun a x=>a.setIfInBounds (sa+k+x.snd) x.fst) (arrOf aw) res.toList.zipIdx))).isNone=true:=by
   show(failedOf aw).isNone=true
   rw[sg.2.2.2,g4]
   rfl
  rw[ef]
  exact wpS_pure (done res aw sg gd)
 ·rw[if_neg hle]
  refine wpS_bind (Ul hc g1 C mA mB (by omega) (by omega) m0 ml fun res aw sg gd=> ?_)
  refine wpS_bind (wpS_modify (wpS_bind (wpS_get ?_)))
  have ef:(failedOf (setArr aw (List.foldl (fun a x=>a.setIfInBounds (sa+k+x.snd) x.fst) (arrOf aw) res.toList.zipIdx))).isNone=true:=by
   show(failedOf aw).isNone=true
   rw[sg.2.2.2,g4]
   rfl
  rw[ef]
  exact wpS_pure (done res aw sg gd)
structure RS (a₀:Array Keyed) (κ:SortKind) (r:Keyed→Keyed→Bool) (st:SortSt) (lo:Nat):Prop where
 kind:kindOf st=κ
 perm:(arrOf st).Perm a₀
 fail:failedOf st=none
 runs:Runs r (arrOf st).toList (pendingOf st).toList 0 lo
 le:lo≤a₀.size
theorem Nv {α:Type}{l:List α}{i:Nat}(h:i+1<l.length):∃pre a b post,l=pre++a::b::post∧pre.length=i:=by
 refine⟨l.take i,l[i],l[i+1],l.drop (i+2),?_,by rw[List.length_take];omega⟩
 rw[←List.drop_eq_getElem_cons h,←List.drop_eq_getElem_cons (by omega),List.take_append_drop]
theorem RS.merge {st:SortSt}{lo i:Nat}{Q:Bool→SortSt→Prop}(o:Ord r) (hc:iz prog w A E s κ a₀ r) (R:RS a₀ κ r st lo) (hi:i+1< (pendingOf st).size)
  (h:∀aa,RS a₀ κ r aa lo→(pendingOf aa).size+1=(pendingOf st).size→(arrOf aa).toList.drop lo=(arrOf st).toList.drop lo→Q true aa):wpS (model prog w) A E s (mergeAt' i) Q st:=by
 obtain⟨pre,⟨sa,na,pw⟩,⟨sb,nb,r8⟩,post,hp,hl⟩:=Nv (l:=(pendingOf st).toList) (i:=i) (by rw[Array.length_toList];exact hi)
 have hr:=R.runs
 rw[hp]at hr
 obtain⟨m,h1,h2⟩:=Runs.app.mp hr
 obtain⟨a1,a2,a3,h3⟩:=h2
 obtain⟨b1,b2,b3,h4⟩:=h3
 dsimp only at a1 a2 a3 b1 b2 b3 h4
 subst a1
 have l4:=h4.le
 have l1:=h1.le
 have le:=R.le
 refine Um o hc R.kind R.perm R.fail hp hl b1 a2 b2 (by omega) a3 b3 fun aa g1 g2 g3 g4 g5 g6 g7=> ?_
 refine h aa ⟨g1,g2,g3,?_,le⟩ ?_ ?_
 ·rw[g4]
  refine Runs.app.mpr ⟨sa,h1.congr fun s n q1 q2=>Ej g5.symm q2,rfl,(show 1≤na+nb by omega),g7,?_⟩
  show Runs r (arrOf aa).toList post (sa+(na+nb)) lo
  rw[←Nat.add_assoc]
  exact h4.congr fun s n q1 q2=>JX (m:=sb+nb) g6.symm (by omega)
 ·rw[←Array.length_toList,←Array.length_toList,g4,hp]
  simp only[List.length_append,List.length_cons]
  omega
 ·have key:∀M:List Keyed,M.drop lo=(M.drop (sb+nb)).drop (lo - (sb+nb)):=fun M=>by
   rw[List.drop_drop]
   congr 1
   omega
  rw[key,key (arrOf st).toList,g6]
theorem RS.push {st:SortSt}{lo n:Nat}(R:RS a₀ κ r st lo) (n1:1≤n) (hz:lo+n≤a₀.size) (S:Pw r (seg (arrOf st).toList lo n)):RS a₀ κ r (setPending st ((pendingOf st).push (lo,n,0))) (lo+n):=by
 refine⟨R.kind,R.perm,R.fail,?_,hz⟩
 show Runs r (arrOf st).toList ((pendingOf st).push (lo,n,0)).toList 0 (lo+n)
 rw[Array.toList_push]
 exact Runs.app.mpr ⟨lo,R.runs,rfl,n1,S,rfl⟩
theorem Ut {L:List Keyed}{pw:Nat} :∀{ps:List (Nat×Nat×Nat)}{i p q:Nat},Runs r L ps p q→Runs r L (ps.modify i fun x=> (x.fst,x.2.fst,pw)) p q
 | [],i,p,q,h=>by rw[List.modify_nil];exact h
 |x::ps,0,p,q,h=>by
  rw[List.modify_zero_cons]
  exact h
 |x::ps,i+1,p,q,⟨h1,h2,h3,h4⟩=>by
  rw[List.modify_succ_cons]
  exact⟨h1,h2,h3,Ut h4⟩
theorem RS.pow {st:SortSt}{lo i pw:Nat}(R:RS a₀ κ r st lo):RS a₀ κ r (setPending st ((pendingOf st).modify i fun x=> (x.fst,x.2.fst,pw))) lo:=by
 refine⟨R.kind,R.perm,R.fail,?_,R.le⟩
 show Runs r (arrOf st).toList ((pendingOf st).modify i fun x=> (x.fst,x.2.fst,pw)).toList 0 lo
 rw[Array.toList_modify]
 exact Ut R.runs
theorem Rb {xs ys:Array Keyed}{lo:Nat}(h:∀k,k<lo→xs[k]? =ys[k]?):xs.toList.take lo=ys.toList.take lo:=by
 refine List.ext_getElem? fun k=> ?_
 by_cases hk:k<lo
 ·rw[List.getElem?_take_of_lt hk,List.getElem?_take_of_lt hk,Array.getElem?_toList,Array.getElem?_toList]
  exact h k hk
 ·rw[List.getElem?_eq_none (by rw[List.length_take];omega),List.getElem?_eq_none (by rw[List.length_take];omega)]
theorem CB.rs {st aa:SortSt}{lo:Nat}(R:RS a₀ κ r st lo) (B:CB a₀ κ lo st aa):RS a₀ κ r aa lo:=by
 refine⟨B.kind,B.perm,B.fail.trans R.fail,?_,R.le⟩
 rw[B.pend]
 exact R.runs.congr fun s n q1 q2=>Ej (Rb fun k hk=> (B.pre k hk).symm) q2
theorem Wp {st:SortSt}{Q:Unit→SortSt→Prop}(o:Ord r) (hc:iz prog w A E s κ a₀ r) (h2:2≤a₀.size) (k0:kindOf st=κ) (p0:(arrOf st).Perm a₀) (f0:failedOf st=none) (e0:pendingOf st= #[])
  (h:∀aa,(arrOf aa).Perm a₀→failedOf aa=none→Pw r (arrOf aa).toList→Q () aa):wpS (model prog w) A E s sortRuns' Q st:=by
 rw[sortRuns'_eq]
 dsimp only
 refine wpS_bind (wpS_get ?_)
 have z0:(arrOf st).size=a₀.size:=p0.size_eq
 rw[z0]
 generalize minRun' a₀.size a₀.size 0=mr
 refine wpS_bind (wpS_mono (wpS_forRange (I:=fun x c aw=> ∃lo,c=(none,lo)∧RS a₀ κ r aw lo∧x≤lo) (Q:=fun c aw=>c=(none,a₀.size)∧RS a₀ κ r aw a₀.size) ?step ?fin ⟨0,rfl,⟨k0,p0,f0,by rw[e0];exact rfl,Nat.zero_le _⟩,Nat.le_refl _⟩) ?post)
 case fin=>
  rintro c aw ⟨lo,rfl,R,hx⟩
  rw[Nat.max_eq_right (Nat.zero_le _)]at hx
  have:=R.le
  obtain rfl:lo=a₀.size:=by omega
  exact⟨rfl,R⟩
 case step=>
  rintro x c aw _ hx ⟨lo,rfl,R1,Tv⟩
  dsimp only
  by_cases bq:lo≥a₀.size
  ·rw[if_pos bq]
   have:=R1.le
   obtain rfl:lo=a₀.size:=by omega
   exact wpS_pure ⟨rfl,R1⟩
  rw[if_neg bq]
  refine wpS_bind (Wq o hc (st:=aw) ⟨R1.kind,rfl,rfl,R1.perm,fun _ _=>rfl⟩ (by omega) (by omega) fun found aj B2 f1 f2 S=> ?_)
  dsimp only
  by_cases aA:found<mr
  ·rw[if_pos aA]
   refine wpS_bind (wpS_lift (wpAny_rule ⟨rfl,?_⟩))
   have fN:found≤min (a₀.size - lo) mr:=by omega
   have LD:min (a₀.size - lo) mr≤a₀.size - lo:=by omega
   generalize min (a₀.size - lo) mr=n at fN LD
   refine wpS_bind (JF o hc B2 f1 fN (by omega) S fun aK B3 S3=> ?_)
   rw[if_neg (by decide)]
   have R2:=CB.rs R1 B3
   have S2:=S3.pw
   have n1:1≤n:=by omega
   clear S3 B3 B2 S
   clear aj
   revert R2 S2
   generalize aK=aj
   intro R2 S2
   refine wpS_bind (wpS_get ?_)
   cases hb:(pendingOf aj).back? with
   |none=>
    try dsimp only
    exact wpS_bind (wpS_modify (wpS_pure ⟨_,rfl,R2.push n1 (by omega) S2,by omega⟩))
   |some z=>
    obtain⟨s1,m1,p1⟩:=z
    try dsimp only
    refine wpS_bind (wpS_mono (wpS_forRange (I:=fun _ c aa=>c=(none,())∧RS a₀ κ r aa lo∧(arrOf aa).toList.drop lo=(arrOf aj).toList.drop lo) (Q:=fun c aa=>c=(none,())∧RS a₀ κ r aa lo∧(arrOf aa).toList.drop lo=(arrOf aj).toList.drop lo) ?_ (fun c aa hh=>hh) ⟨rfl,R2,rfl⟩) ?_)
    ·rintro y c aa _ _ ⟨rfl,R,hd⟩
     refine wpS_bind (wpS_get ?_)
     by_cases hs:(pendingOf aa).size>1
     ·rw[if_pos hs]
      cases hq:(pendingOf aa)[(pendingOf aa).size - 2]? with
      |none=>exact wpS_pure ⟨rfl,R,hd⟩
      |some z=>
       obtain⟨z1,z2,HC⟩:=z
       dsimp only
       split
       ·exact wpS_pure ⟨rfl,R,hd⟩
       ·refine wpS_bind (R.merge o hc (by omega) fun kU qL _ xG=> ?_)
        rw[if_neg (by decide)]
        exact wpS_pure ⟨rfl,qL,xG.trans hd⟩
     ·rw[if_neg hs]
      exact wpS_pure ⟨rfl,R,hd⟩
    rintro c aa ⟨rfl,R,hd⟩
    dsimp only
    refine wpS_bind (wpS_modify (wpS_bind (wpS_modify (wpS_pure ⟨_,rfl,R.pow.push n1 (by omega) ?_,by omega⟩))))
    show Pw r (seg (arrOf aa).toList lo _)
    rw[JX (L':=(arrOf aj).toList) hd (Nat.le_refl _)]
    exact S2
  ·rw[if_neg aA]
   have R2:=CB.rs R1 B2
   have S2:=S.pw
   have n1:=f1
   clear S B2
   clear R1
   refine wpS_bind (wpS_get ?_)
   cases hb:(pendingOf aj).back? with
   |none=>
    try dsimp only
    exact wpS_bind (wpS_modify (wpS_pure ⟨_,rfl,R2.push n1 (by omega) S2,by omega⟩))
   |some z=>
    obtain⟨s1,m1,p1⟩:=z
    try dsimp only
    refine wpS_bind (wpS_mono (wpS_forRange (I:=fun _ c aa=>c=(none,())∧RS a₀ κ r aa lo∧(arrOf aa).toList.drop lo=(arrOf aj).toList.drop lo) (Q:=fun c aa=>c=(none,())∧RS a₀ κ r aa lo∧(arrOf aa).toList.drop lo=(arrOf aj).toList.drop lo) ?_ (fun c aa hh=>hh) ⟨rfl,R2,rfl⟩) ?_)
    ·rintro y c aa _ _ ⟨rfl,R,hd⟩
     refine wpS_bind (wpS_get ?_)
     by_cases hs:(pendingOf aa).size>1
     ·rw[if_pos hs]
      cases hq:(pendingOf aa)[(pendingOf aa).size - 2]? with
      |none=>exact wpS_pure ⟨rfl,R,hd⟩
      |some z=>
       obtain⟨z1,z2,HC⟩:=z
       dsimp only
       split
       ·exact wpS_pure ⟨rfl,R,hd⟩
       ·refine wpS_bind (R.merge o hc (by omega) fun kU qL _ xG=> ?_)
        rw[if_neg (by decide)]
        exact wpS_pure ⟨rfl,qL,xG.trans hd⟩
     ·rw[if_neg hs]
      exact wpS_pure ⟨rfl,R,hd⟩
    rintro c aa ⟨rfl,R,hd⟩
    dsimp only
    refine wpS_bind (wpS_modify (wpS_bind (wpS_modify (wpS_pure ⟨_,rfl,R.pow.push n1 (by omega) ?_,by omega⟩))))
    show Pw r (seg (arrOf aa).toList lo _)
    rw[JX (L':=(arrOf aj).toList) hd (Nat.le_refl _)]
    exact S2
 case post=>
  rintro c aw ⟨rfl,R1⟩
  dsimp only
  refine wpS_bind (wpS_mono (wpS_forRange (I:=fun x c aa=>c=(none,())∧RS a₀ κ r aa a₀.size∧(pendingOf aa).size+x≤a₀.size) (Q:=fun c aa=>c=(none,())∧RS a₀ κ r aa a₀.size∧(pendingOf aa).size≤1) ?_ ?_ ⟨rfl,R1,by have:=R1.runs.le;rw[Array.length_toList]at this;omega⟩) ?_)
  ·rintro x c aa _ _ ⟨rfl,R,hx⟩
   refine wpS_bind (wpS_get ?_)
   by_cases hs:(pendingOf aa).size≤1
   ·rw[if_pos hs]
    exact wpS_pure ⟨rfl,R,hs⟩
   rw[if_neg hs]
   have idx:∀c:Prop,∀_:Decidable c,(if c then (pendingOf aa).size - 2 - 1 else (pendingOf aa).size - 2)+1< (pendingOf aa).size:=fun c _=>by split<;>omega
   refine wpS_bind (R.merge o hc (idx _ _) fun kU qL SU _=> ?_)
   rw[if_neg (by decide)]
   exact wpS_pure ⟨rfl,qL,by omega⟩
  ·rintro c aa ⟨rfl,R,hx⟩
   rw[Nat.max_eq_right (Nat.zero_le _)]at hx
   exact⟨rfl,R,by omega⟩
  rintro c aa ⟨rfl,R,hs⟩
  refine wpS_pure (h aa R.perm R.fail ?_)
  have hr:=R.runs
  have hl:(pendingOf aa).toList.length≤1:=by rw[Array.length_toList];exact hs
  match hp:(pendingOf aa).toList,hl with
  | [],_=>
   rw[hp]at hr
   have:0=a₀.size:=hr
   omega
  | [x],_=>
   rw[hp]at hr
   obtain⟨q1,q2,q3,q4⟩:=hr
   have Ti:0+x.2.1=a₀.size:=q4
   rw[q1]at q3
   have:seg (arrOf aa).toList 0 x.2.1=(arrOf aa).toList:=by
    unfold seg
    rw[List.drop_zero,List.take_of_length_le (by rw[Array.length_toList,R.perm.size_eq];omega)]
   rw[this]at q3
   exact q3
  |_::_::_,h=>simp at h
end
end PyProof.Rows.fP
namespace PyProof.Rows.fP
open PySem PySem.W
section
variable {prog:Program}{w:World}{A:Around}{E:Value→Shared→Prop}{s:Shared}{κ:SortKind}{r:Keyed→Keyed→Bool}
def zq (prog:Program) (w:World) (A:Around) (E:Value→Shared→Prop) (κ:SortKind) (r:Keyed→Keyed→Bool) (a:Addr) (h:Heap) (vs:List Value):Prop:=
 ∀s6:Shared,(∀b o,b≠a→h.get? b=some o→s6.heap.get? b=some o)→(2≤vs.length→∀Q:SortKind→Shared→Prop,Q κ s6→wpAny (model prog w) A (keyKind' vs.toArray) Q E s6)∧iz prog w A E s6 κ (pairsOf vs) r
theorem UH (o:Ord r) {a:Addr}{vs:List Value}{n:Nat}{P:PySem.Fin→Shared→Prop}(ho:s.heap.get? a=some (seqObj "list" vs.toArray n)) (hc:zq prog w A E κ r a s.heap vs) (hz:vs.length≤1000)
  (h:∀xs:Array Keyed,xs.Perm (pairsOf vs)→Pw r xs.toList→P (.done (.ret .none)) {s with heap:=sortedHeap s.heap a vs (xs.map (·.2))}):
  wpAny (model prog w) A (Builtin.«list.sort» ⟨[.ref a],[]⟩) P E s:=by
 rw[list_sort_plain]
 have ha:a<s.heap.objs.size:=Heap.lt_size ho
 have pJ:vs.toArray.size≤sizeLine:=by rw[List.size_toArray,sizeLine_eq];omega
 refine wpAny_bind (listItems_at ho rfl ?_)
 refine wpAny_bind (listUpdate_at ho rfl ?_ pJ)
 obtain⟨e1,Ce⟩:∃e1,(s.heap.update a (Obj.mapSeq fun _=> #[])).get? a=some (seqObj "list" #[] e1):=⟨_,get?_update_seq ho (fun _=> #[])⟩
 refine wpAny_bind (seqEpoch_at Ce rfl ?_)
 refine wpAny_bind (wpAny_newTuple ?_ (by simpa using pJ))
 refine wpAny_bind (wpAny_newList ?_)
 refine wpAny_holding ?_
 have tE:(((s.heap.update a (Obj.mapSeq fun _=> #[])).push (seqObj "tuple" vs.toArray 0)).push (seqObj "list" #[] 0)).get? a=some (seqObj "list" #[] e1):=by
  rw[Heap.get?_push_ne _ _ _ (by rw[size_push',Heap.size_update];exact Nat.ne_of_lt (Nat.lt_succ_of_lt ha)),Heap.get?_push_ne _ _ _ (by rw[Heap.size_update];exact Nat.ne_of_lt ha)]
  exact Ce
 show wpAny (model prog w) A _ P E {s with heap:=((s.heap.update a (Obj.mapSeq fun _=> #[])).push (seqObj "tuple" vs.toArray 0)).push (seqObj "list" #[] 0)}
 dsimp only
 have keep:∀b o,b≠a→s.heap.get? b=some o→((((s.heap.update a (Obj.mapSeq fun _=> #[])).push (seqObj "tuple" vs.toArray 0)).push (seqObj "list" #[] 0))).get? b=some o:=fun b ob hb e=>
  Heap.get?_push_of_some _ (Heap.get?_push_of_some _ (by rw[Heap.get?_update_ne _ _ _ _ hb];exact e))
 obtain⟨hk,CG⟩:=hc {s with heap:=((s.heap.update a (Obj.mapSeq fun _=> #[])).push (seqObj "tuple" vs.toArray 0)).push (seqObj "list" #[] 0)} keep
 have hsz:vs.toArray.size=vs.length:=by simp
 by_cases h2:vs.toArray.size<2
 ·rw[if_pos h2,if_pos h2]
  refine wpAny_bind (wpAny_pure ?_)
  rw[StateT.run_pure]
  refine wpAny_bind (wpAny_pure ?_)
  dsimp only
  refine wpAny_bind (seqEpoch_at tE rfl ?_)
  refine wpAny_bind (listUpdate_at tE rfl ?_ (hsz2:=by rw[Array.size_map];show(pairsOf vs).size≤_;rw[pairsOf_size,sizeLine_eq];omega))
  simp only[bne_self_eq_false,Bool.false_eq_true,if_false]
  refine wpAny_pure (h (pairsOf vs) (Array.Perm.refl _) ?_)
  have hl:(pairsOf vs).toList.length<2:=by rw[Array.length_toList,pairsOf_size];omega
  match (pairsOf vs).toList,hl with
  | [],_=>exact .nil
  | [x],_=>exact List.pairwise_singleton _ _
  |_::_::_,h=>exact absurd h (by simp)
 ·rw[if_neg h2,if_neg h2]
  refine wpAny_bind (hk (by omega) _ ?_)
  refine wpAny_bind (wpAny_mono (Wp (κ:=κ) (r:=r) (a₀:=pairsOf vs) (st:=SortSt.mk' κ (vs.toArray.zip vs.toArray) #[] 7 none)
   (Q:=fun _ aa=> (arrOf aa).Perm (pairsOf vs)∧failedOf aa=none∧Pw r (arrOf aa).toList) o CG (by rw[pairsOf_size];omega) rfl (Array.Perm.refl _) rfl rfl fun aa a1 a2 a3=> ⟨a1,a2,a3⟩) ?_ fun _ _ e=>e)
  rintro⟨⟨⟩,aa⟩ s' ⟨rfl,hp,hf,hs⟩
  dsimp only
  refine wpAny_bind (seqEpoch_at tE rfl ?_)
  refine wpAny_bind (listUpdate_at tE rfl ?_ (hsz2:=by refine Nat.le_trans (Nat.le_of_eq ((Array.size_map ..).trans (hp.size_eq.trans (pairsOf_size _)))) ?_;rw[sizeLine_eq];omega))
  rw[hf]
  simp only[bne_self_eq_false,Bool.false_eq_true,if_false]
  exact wpAny_pure (h _ hp hs)
theorem Ra (o:Ord r) {l:Addr}{vs:List Value}{Q:Value→Shared→Prop}(hl:s.heap.IsList l vs.toArray) (hc:∀h' a,(∀b ob,s.heap.get? b=some ob→h'.get? b=some ob)→(∀b ob,s.heap.get? b=some ob→b≠a)→zq prog w A.in1.in1 (fun _ _=>False) κ r a h' vs) (hz:vs.length≤1000)
  (h:∀xs:Array Keyed,xs.Perm (pairsOf vs)→Pw r xs.toList→Q (.ref (s.heap.objs.size+1)) {s with heap:=sortedAll s.heap vs (xs.map (·.2))}):
  wpAny (model prog w) A (call (.builtin "sorted") [.ref l]) Q E s:=by
 have pJ:vs.length≤sizeLine:=by rw[sizeLine_eq];omega
 refine Calls.call_function_entry kind_sorted plain_sorted entry_sorted (args_sorted1 _) ?_
 unfold Builtin.«sorted»
 refine wpAny_bind (m:=checkCount "sorted" 1 1 _) (wpAny_pure ?_)
 refine wpAny_bind (collect_list hl ?_ pJ)
 refine wpAny_bind (wpAny_newList ?_ pJ)
 have hsz:((s.heap.push (seqObj "list" #[] 0)).update s.heap.objs.size (Obj.mapSeq (· ++vs.toArray))).objs.size=s.heap.objs.size+1:=by
  rw[Heap.size_update,size_push']
 have hoL:(((s.heap.push (seqObj "list" #[] 0)).update s.heap.objs.size (Obj.mapSeq (· ++vs.toArray))).push (seqObj "list" vs.toArray 0)).get? (s.heap.objs.size+1)=some (seqObj "list" vs.toArray 0):=by
  rw[←hsz];exact Heap.get?_push_size _ rfl
 show wpAny _ _ _ _ _ {s with heap:=((s.heap.push (seqObj "list" #[] 0)).update s.heap.objs.size (Obj.mapSeq (· ++vs.toArray))).push (seqObj "list" vs.toArray 0)}
 rw[hsz]
 have asks:=hc (((s.heap.push (seqObj "list" #[] 0)).update s.heap.objs.size (Obj.mapSeq (· ++vs.toArray))).push (seqObj "list" vs.toArray 0)) (s.heap.objs.size+1)
  (fun b ob e=>Heap.get?_push_of_some _ (by rw[Heap.get?_update_ne _ _ _ _ (Nat.ne_of_lt (Heap.lt_size e))];exact Heap.get?_push_of_some _ e)) (fun b ob e=>Nat.ne_of_lt (Nat.lt_succ_of_lt (Heap.lt_size e)))
 have NS:zq prog w A.in1.in1 E κ r (s.heap.objs.size+1) (((s.heap.push (seqObj "list" #[] 0)).update s.heap.objs.size (Obj.mapSeq (· ++vs.toArray))).push (seqObj "list" vs.toArray 0)) vs:=fun s6 h6=>by
  obtain⟨q1,q2⟩:=asks s6 h6
  refine⟨fun g Q hq=>wpAny_mono (q1 g Q hq) (fun _ _ x=>x) fun _ _ x=>x.elim,fun x y st Q m1 m2 hk hq=> ?_⟩
  exact wpAny_mono (q2 x y st Q m1 m2 hk hq) (fun _ _ x=>x) fun _ _ x=>x.elim
 refine wpAny_bind (wpAny_holding (wpAny_call_entry slot_list_sort ⟨_,hoL,rfl⟩ entry_list_sort (UH o hoL NS hz fun xs a1 a2=> ⟨_,rfl,?_⟩) (args_list_sort _)))
 exact wpAny_pure ⟨_,rfl,h xs a1 a2⟩
end
def cC:List Int→List Int→Bool
 | [],[]=>false
 | [],_::_=>true
 |_::_,[]=>false
 |a::l,b::m=>if a=b then cC l m else decide (a<b)
theorem Jk:∀x y,cC x y=true→cC y x=false
 | [],[],h=>by cases h
 | [],_::_,_=>rfl
 |_::_,[],h=>by cases h
 |a::l,b::m,h=>by
  unfold cC at h ⊢
  by_cases e:a=b
  ·rw[if_pos e]at h
   rw[if_pos e.symm]
   exact Jk l m h
  ·rw[if_neg e]at h
   rw[if_neg (Ne.symm e)]
   have:=of_decide_eq_true h
   exact decide_eq_false (by omega)
theorem UI:∀x y z,cC y x=false→cC z y=false→cC z x=false
 | [],[],[],_,_=>rfl
 | [],[],_::_,_,_=>rfl
 | [],_::_,[],_,h=>by cases h
 | [],_::_,_::_,_,_=>rfl
 |_::_,[],_,h,_=>by cases h
 |_::_,_::_,[],_,h=>by cases h
 |a::l,b::m,c::n,h1,h2=>by
  unfold cC at h1 h2 ⊢
  by_cases e1:b=a
  ·rw[if_pos e1]at h1
   by_cases e2:c=b
   ·rw[if_pos e2]at h2
    rw[if_pos (e2.trans e1)]
    exact UI l m n h1 h2
   ·rw[if_neg e2]at h2
    have:=of_decide_eq_false h2
    rw[if_neg (by omega)]
    exact decide_eq_false (by omega)
  ·rw[if_neg e1]at h1
   have q1:=of_decide_eq_false h1
   by_cases e2:c=b
   ·rw[if_neg (by omega)]
    exact decide_eq_false (by omega)
   ·rw[if_neg e2]at h2
    have q2:=of_decide_eq_false h2
    rw[if_neg (by omega)]
    exact decide_eq_false (by omega)
theorem Ez:∀x y,cC x y=false→cC y x=false→x=y
 | [],[],_,_=>rfl
 | [],_::_,h,_=>by cases h
 |_::_,[],_,h=>by cases h
 |a::l,b::m,h1,h2=>by
  unfold cC at h1 h2
  by_cases e:a=b
  ·rw[if_pos e]at h1
   rw[if_pos e.symm]at h2
   rw[e,Ez l m h1 h2]
  ·rw[if_neg e]at h1
   rw[if_neg (Ne.symm e)]at h2
   have q1:=of_decide_eq_false h1
   have q2:=of_decide_eq_false h2
   omega
theorem P8 (key:Value→List Int):Ord fun x y:Keyed=>cC (key x.1) (key y.1):=⟨fun _ _=>Jk _ _,fun _ _ _=>UI _ _ _⟩
section
variable {prog:Program}{w:World}{A:Around}{s:Shared}{b:Bool}{Q:Bool→Shared→Prop}
theorem P4 {c:Bool}{x y:Int}{t u:Tok}(h:Q (decide (x<y)) s):wpAny (model prog w) A (oneLt' c (.int x t) (.int y u)) Q (fun _ _=>False) s:=by
 cases c with
 |true=>exact oneLt_int h
 |false=>exact kat_one _ _ (lt_int (Q:=PySem.W.BoolBack Q) h)
theorem UJ {fin:Bool} :∀{us vs:List Value}{xs ys:List Int}{i:Nat},IntsAre us xs→IntsAre vs ys→fin=decide (xs.length<ys.length)→Q (cC xs ys) s→KatLex prog w A b fin Q (us.zip vs) i s
 |_,_,_,_,i,.nil,.nil,hf,h=>by
  subst hf
  exact h
 |_,_,_,_,i,.nil,.cons _ _ _,hf,h=>by
  subst hf
  exact h
 |_,_,_,_,i,.cons _ _ _,.nil,hf,h=>by
  subst hf
  exact h
 |_,_,_,_,i,.cons x t ix,.cons y u iy,hf,h=>by
  rw[List.zip_cons_cons]
  refine kat_cons (SeqAt.EqAt.int_int (A:=A) (s:=s) x t y u _ _ _ _ ?_)
  unfold cC at h
  by_cases e:x=y
  ·rw[if_pos e]at h
   rw[beq_iff_eq.mpr e]
   exact kat_yes (UJ ix iy (by rw[hf];exact decide_eq_decide.mpr (by simp only[List.length_cons];omega)) h)
  ·rw[if_neg e]at h
   rw[beq_eq_false_iff_ne.mpr e]
   exact kat_no (P4 h)
end
end PyProof.Rows.fP
namespace L2
open PySem PySem.Spec PyProof.Rows PyProof.Rows.fP
def eX (H:Hp) (v:V) (k:List Int):Prop:=∃t:Addr,v=.ref t∧H t=some (.tup (k.map V.int))
def gR (h:Heap):Value→List Int
 | .ref t=>match h.get? t with
  |some o=>match o.data with
   | .seq its _=>its.toList.map numOf
   |_=> []
  |none=> []
 |_=> []
theorem Jo {h:Heap}{t:Addr}{o:Obj}{its:Array Value}{n:Nat}{k:List Int}(e:h.get? t=some o) (d:o.data=.seq its n) (i:IntsAre its.toList k):gR h (.ref t)=k:=by
 unfold gR
 dsimp only
 rw[e]
 dsimp only
 rw[d]
 dsimp only
 clear d e
 generalize its.toList=us at i
 induction i with
 |nil=>rfl
 |cons x t _ ih=>rw[List.map_cons,ih];rfl
def toV:Value→V
 | .ref t=> .ref t
 |_=> .af
def mK (h:Heap) (u:Value) (k:List Int):Prop:=∃(t:Addr) (o:Obj) (its:Array Value) (n:Nat),u=.ref t∧h.get? t=some o∧o.cls=.type "tuple" ∧o.data=.seq its n∧IntsAre its.toList k
theorem mK.keep {h h':Heap}{u:Value}{k:List Int}{a:Addr}(x:mK h u k) (kp:∀b o,b≠a→h.get? b=some o→h'.get? b=some o) (na:∀b o,h.get? b=some o→b≠a):mK h' u k:=by
 obtain⟨t,o,its,n,e,g,c,d,i⟩:=x
 exact⟨t,o,its,n,e,kp t o (na t o g) g,c,d,i⟩
theorem WE {h:Heap} :∀{us:List Value}{ks:List (List Int)},Paired (mK h) us ks→(∀k∈ks,k≠[])→∃fs,PySem.W.KatTups h us fs∧fs.length=us.length∧∀f∈fs,∃n t,f=.int n t
 |_,_,.nil,_=> ⟨[],.nil,rfl,fun f hf=>by cases hf⟩
 |_,_,.cons (a:=u) (b:=k) ⟨t,o,its,n,e,g,c,d,i⟩ r,hk=>by
  obtain⟨fs,h1,h2,h3⟩:=WE r fun k aY=>hk k (List.mem_cons_of_mem _ aY)
  subst e
  cases k with
  |nil=>exact absurd rfl (hk _ List.mem_cons_self)
  |cons x xs=>
   have:∃tk us,its.toList=.int x tk::us:=by
    cases hh:its.toList with
    |nil=>rw[hh]at i;cases i
    |cons a b=>rw[hh]at i;cases i with |cons x t r=>exact⟨_,_,rfl⟩
   obtain⟨tk,us,eq⟩:=this
   refine⟨.int x tk::fs,.cons g c d (by rw[←Array.getElem?_toList,eq];rfl) h1,by rw[List.length_cons,List.length_cons,h2],fun f hf=> ?_⟩
   rcases List.mem_cons.mp hf with rfl |hf
   ·exact⟨_,_,rfl⟩
   ·exact h3 f hf
theorem Yw {α β:Type}{R:α→β→Prop} :∀{xs:List α}{ys:List β}{x:α},Paired R xs ys→x∈xs→∃y∈ys,R x y
 |_,_,_,.cons h r,m=>by
  rcases List.mem_cons.mp m with rfl |m
  ·exact⟨_,List.mem_cons_self,h⟩
  ·obtain⟨y,hy,q⟩:=Yw r m
   exact⟨y,List.mem_cons_of_mem _ hy,q⟩
theorem Y8 {α β:Type}{R:α→β→Prop}{f:α→β} :∀{xs:List α}{ys:List β},Paired R xs ys→(∀x y,R x y→f x=y)→xs.map f=ys
 |_,_,.nil,_=>rfl
 |_,_,.cons h r,e=>by rw[List.map_cons,e _ _ h,Y8 r e]
theorem Jv {vs:List Value}{p:Keyed}(h:p∈(pairsOf vs).toList):p.1∈vs∧p.2=p.1:=by
 unfold pairsOf at h
 rw[Array.toList_zip,List.toList_toArray]at h
 have:∀(l:List Value),p∈l.zip l→p.1∈l∧p.2=p.1:=fun l=>by
  induction l with
  |nil=>intro h;cases h
  |cons a l ih=>
   intro h
   rw[List.zip_cons_cons]at h
   rcases List.mem_cons.mp h with rfl |h
   ·exact⟨List.mem_cons_self,rfl⟩
   ·exact⟨List.mem_cons_of_mem _ (ih h).1,(ih h).2⟩
 exact this vs h
section
variable {X:Cx}
theorem Uh:cU X (.builtin "sorted") (fun xs H Q=> ∃(p:Addr) (vs:List V) (ks:List (List Int)),xs=[.ref p]∧ah X.K H p vs∧Paired (eX H) vs ks∧(∀k∈ks,k≠[])∧vs.length≤1000∧
  ∀(q:Addr) (kQ:List V) (sP:List (List Int)),H q=none→sP.Perm ks→sP.Pairwise (fun a b=>cC b a=false)→Paired (eX H) kQ sP→Q (.ref q) (upd H q (.lst kQ))):=by
 intro pins s σ H xs us Q I r h
 obtain⟨p,vs,ks,rfl,hp,pr,bZ,hz,q⟩:=h
 obtain⟨u,rfl,ru⟩:=vals1 r
 cases ru
 obtain⟨its,rv,pl,_⟩:=I.list hp
 have hl:=rv.length
 have key:∀{vs:List V}{ks:List (List Int)}{its:List Value},Paired (eX H) vs ks→Vals vs its→Paired (fun u k=>mK s.heap u k∧eX H (toV u) k) its ks:=by
  intro vs ks its pr
  induction pr generalizing its with
  |nil=>intro rv;cases rv;exact .nil
  |cons hh _ ih=>
   intro rv
   cases rv with
   |cons r1 r2=>
    refine .cons ?_ (ih r2)
    obtain⟨t,rfl,ht⟩:=hh
    cases r1
    obtain⟨items,ri,⟨o,go,oc,n,od⟩,_⟩:=I.tuple (ao.of ht)
    exact⟨⟨t,o,_,n,rfl,go,oc,od,by simpa using YO ri⟩,t,rfl,ht⟩
 have tp:=key pr rv
 have tu:Paired (mK s.heap) its ks:=Paired.dj tp fun _ _ h=>h.1
 have ek:its.map (gR s.heap)=ks:=Y8 tu fun u k ⟨t,o,it,n,e,g,_,d,i⟩=>by rw[e];exact Jo g d i
 refine Ra (κ:=tuples' true) (r:=fun x y=>cC (gR s.heap x.1) (gR s.heap y.1)) (P8 _) pl.isList (fun h' a kp na s6 h6=> ?_) (by omega) fun xs BM Kk=> ?_
 ·have Fn:Paired (mK s6.heap) its ks:=Paired.dj tu fun u k x=>x.keep (a:=a) (fun b o hb e=>h6 b o hb (kp b o e)) na
  refine⟨fun h2 Q' hq=> ?_,fun x y st Q' mx my hk hq=> ?_⟩
  ·obtain⟨fs,kt,kl,kf⟩:=WE Fn bZ
   refine PySem.W.kat_kind (T:=.type "int") kt (by omega) (fun v hv=> ?_) (by rfl) hq
   obtain⟨n,t,rfl⟩:=kf v hv
   exact PySem.W.Looks.of_pure rfl
  ·rw[lt'_eq]
   refine wpS_bind (wpS_get ?_)
   rw[hk]
   obtain⟨Ih,_⟩:=Jv mx
   obtain⟨Ig,_⟩:=Jv my
   obtain⟨kx,_,tx,ox,ix,nx,ex,gx,cx,dx,jx⟩:=Yw tu Ih
   obtain⟨ky,_,ty,oy,iy,ny,ey,gy,cy,dy,jy⟩:=Yw tu Ig
   have e1:gR s.heap x.1=kx:=by rw[ex];exact Jo gx dx jx
   have e2:gR s.heap y.1=ky:=by rw[ey];exact Jo gy dy jy
   dsimp only at hq
   rw[e1,e2]at hq
   rw[ex,ey]
   refine wpS_bind (wpS_lift (wpAny_attempt (PySem.W.kat_lt (h6 _ _ (na _ _ gx) (kp _ _ gx)) dx (h6 _ _ (na _ _ gy) (kp _ _ gy)) dy (UJ jx jy ?_ ⟨rfl,?_⟩))))
   ·have l1:=jx.length
    have l2:=jy.length
    rw[Array.length_toList]at l1 l2
    rw[l1,l2]
   ·exact wpS_pure hq
 ·have nU:∀pq∈xs.toList,pq.1∈its∧pq.2=pq.1:=fun pq xg=>Jv ((Array.perm_iff_toList_perm.mp BM).mem_iff.mp xg)
  have eo:(xs.map (·.2)).toList=xs.toList.map (·.1):=by
   rw[Array.toList_map]
   exact List.map_congr_left fun pq xg=> (nU pq xg).2
  have po:(xs.toList.map (·.1)).Perm its:=by
   refine List.Perm.trans ((Array.perm_iff_toList_perm.mp BM).map _) ?_
   unfold pairsOf
   rw[Array.toList_zip,List.toList_toArray]
   have:∀l:List Value,(l.zip l).map (·.1)=l:=fun l=>by
    induction l with
    |nil=>rfl
    |cons a l ih=>rw[List.zip_cons_cons,List.map_cons,ih]
   rw[this]
  generalize TH:xs.map (·.2)=out at eo
  have rel:∀u∈out.toList,∃k,eX H (toV u) k∧gR s.heap u=k∧RelV (toV u) u:=fun u hu=>by
   rw[eo]at hu
   obtain⟨k,_,⟨t,o,it,n,e,g,_,d,i⟩,hT⟩:=Yw tp (po.mem_iff.mp hu)
   subst e
   exact⟨k,hT,Jo g d i,rfl⟩
  have vals:∀l:List Value,(∀u∈l,∃k,eX H (toV u) k∧gR s.heap u=k∧RelV (toV u) u)→Vals (l.map toV) l∧Paired (eX H) (l.map toV) (l.map (gR s.heap)):=fun l=>by
   induction l with
   |nil=>intro _;exact⟨.nil,.nil⟩
   |cons u l ih=>
    intro hl
    obtain⟨i1,i2⟩:=ih fun v hv=>hl v (List.mem_cons_of_mem _ hv)
    obtain⟨k,a1,a2,a3⟩:=hl u List.mem_cons_self
    exact⟨.cons a3 i1,.cons (by rw[a2];exact a1) i2⟩
  obtain⟨v1,v2⟩:=vals out.toList rel
  obtain⟨e,he⟩:=sortedAll_at s.heap its out
  have lo:out.toList.length=its.length:=by rw[eo];exact po.length_eq
  have hlen:(out.toList.map toV).length≤sizeLine:=by rw[List.length_map,lo,sizeLine_eq];omega
  refine⟨.ref (s.heap.objs.size+1),_,I.laid (t':=s.toks) (a:=s.heap.objs.size+1) (o:=.lst (out.toList.map toV)) (fun b o=>sortedAll_old) (Nat.le_succ _) ⟨hlen,out.toList,e,v1,by simpa using he⟩,rfl,q _ _ (out.toList.map (gR s.heap)) (I.ag.fresh (Nat.le_succ _)) ?_ ?_ v2⟩
  ·rw[←ek,eo]
   exact po.map _
  ·rw[eo,List.map_map,List.pairwise_map]
   exact Kk
end
abbrev I4:=Int×Int×Int×Int
end L2
namespace PyProof.Rows.fP
open PySem
def iQ (lt:Value→Value→Bool):Value→List Value→Value
 |b,[]=>b
 |b,v::r=>iQ lt (if lt v b=true then v else b) r
section
variable {prog:Program}{w:World}{A:Around}{R:Result→Shared→Prop}{lt:Value→Value→Bool}{vs:List Value}{h0:Heap}{kw:List (Str×Value)}
def Kp (h0 h:Heap):Prop:=∀b o,h0.get? b=some o→h.get? b=some o
end
theorem JD {lt:Value→Value→Bool} :∀{r:List Value}{b:Value},iQ lt b r∈b::r
 | [],b=>List.mem_cons_self
 |v::r,b=>by
  unfold iQ
  rcases List.mem_cons.mp (JD (lt:=lt) (r:=r) (b:=if lt v b=true then v else b)) with h |h
  ·rw[h]
   by_cases e:lt v b=true
   ·rw[if_pos e];exact List.mem_cons_of_mem _ List.mem_cons_self
   ·rw[if_neg e];exact List.mem_cons_self
  ·exact List.mem_cons_of_mem _ (List.mem_cons_of_mem _ h)
end PyProof.Rows.fP
namespace L2
open PySem PySem.Spec PyProof.Rows PyProof.Rows.fP
end L2
namespace L2
open PySem PySem.Spec PyProof.Rows
mutual
inductive Sh (H:Hp):V→PyData→Prop
 |af:Sh H .af .none
 |bl (b:Bool):Sh H (.bl b) (.bool b)
 |int (i:Int):Sh H (.int i) (.int i)
 |str (x:Str):Sh H (.str x) (.str x)
 |tup {a:Addr}{xs:List V}{ds:List PyData} :H a=some (.tup xs)→oz H xs ds→Sh H (.ref a) (.tuple ds)
 |lst {a:Addr}{xs:List V}{ds:List PyData} :H a=some (.lst xs)→oz H xs ds→Sh H (.ref a) (.list ds)
 |dZ {a:Addr} :H a=some (.dK [])→Sh H (.ref a) (.dict [])
inductive oz (H:Hp):List V→List PyData→Prop
 |nil:oz H [] []
 |cons {v:V}{vs:List V}{d:PyData}{ds:List PyData} :Sh H v d→oz H vs ds→oz H (v::vs) (d::ds)
end
section
variable {X:Cx}{pins:List (Addr×Obj)}{σ:St}{H:Hp}{s:Shared}
mutual
theorem Q7 (I:Inv X pins σ H s):∀{v:V}{d:PyData}{u:Value},Sh H v d→RelV v u→∃as,Reads s.heap u d as∧((∃a,v=.ref a∧H a=some (.dK []))→sysModules∉as)
 |_,_,u,.af,r=>by
  have e:u=.none:=r
  subst e
  exact⟨[],.none,fun _ h=>nomatch h⟩
 |_,_,u,.bl b,r=>by
  have e:u=.bool b:=r
  subst e
  exact⟨[],.bool b,fun _ h=>nomatch h⟩
 |_,_,u,.int i,r=>by
  obtain⟨t,rfl⟩:=r
  exact⟨[],.int i t,fun _ h=>nomatch h⟩
 |_,_,u,.str x,r=>by
  obtain⟨t,rfl⟩:=r
  exact⟨[],.str x t,fun _ h=>nomatch h⟩
 |_,_,u,.tup (a:=a) h rs,r=>by
  have e:u=.ref a:=r
  subst e
  obtain⟨its,rv,⟨o,ho,hc,n,hd⟩,_⟩:=I.tuple (ao.of h)
  obtain⟨as,q⟩:=we I rs rv
  exact⟨as,.tuple ho hc hd (by simpa using q),fun⟨b,e,hb⟩=>by cases e;rw[h]at hb;cases hb⟩
 |_,_,u,.lst (a:=a) h rs,r=>by
  have e:u=.ref a:=r
  subst e
  obtain⟨_,its,n,rv,ho⟩:=(show aO X.prog X.w H s.heap a (.lst _) from I.ag a _ h)
  obtain⟨as,q⟩:=we I rs rv
  exact⟨a::as,.list ho rfl rfl (by simpa using q),fun⟨b,e,hb⟩=>by cases e;rw[h]at hb;cases hb⟩
 |_,_,u,.dZ (a:=a) h,r=>by
  have e:u=.ref a:=r
  subst e
  obtain⟨_,hs,vs,kv,hm⟩:=(show aO X.prog X.w H s.heap a (.dK []) from I.ag a _ h)
  cases kv
  obtain⟨o,es,ep,ho,hc,hd,hk,hp,hn⟩:=hm
  have hz:es.toList=[]:=by
   have:=hp.length
   simp at this
   simpa using this
  refine⟨a::[]++[],.dict (kvs:=[]) ho hc.1 hd (by rw[hz];exact .nil) (by rw[hz];exact .nil),fun _ hm=> ?_⟩
  simp only[List.append_nil,List.mem_singleton]at hm
  rw[hm]at hs
  simp at hs
theorem we (I:Inv X pins σ H s):∀{vs:List V}{ds:List PyData}{us:List Value},oz H vs ds→Vals vs us→∃as,ReadsAll s.heap us ds as
 |_,_,_,.nil,.nil=> ⟨[],.nil⟩
 |_,_,_,.cons h t,.cons r rs=>by
  obtain⟨as,q,_⟩:=Q7 I h r
  obtain⟨bs,qs⟩:=we I t rs
  exact⟨as++bs,.cons q qs⟩
end
end
end L2
namespace L2
open PySem PySem.Spec PyProof.Rows
end L2
namespace L2
open PySem PySem.Spec PyProof.Rows SeqAt
section
variable {X:Cx}
def nK:V→Bool
 | .af=>true
 | .int _=>true
 |_=>false
theorem N7 {A:Around}{s:Shared}{x y:V}{u v:Value}(hx:nK x=true) (hy:nK y=true) (ru:RelV x u) (rv:RelV y v):EqAt A s u v (decide (x=y)):=by
 cases x with
 |af=>
  cases ru
  cases y with
  |af=>cases rv;exact EqAt.same _
  |int j=>obtain⟨t,rfl⟩:=rv;exact EqAt.none_int j t
  |_=>cases hy
 |int i=>
  obtain⟨t,rfl⟩:=ru
  cases y with
  |af=>cases rv;exact EqAt.int_none i t
  |int j=>
   obtain⟨t',rfl⟩:=rv
   rw[Es]
   exact EqAt.int_int i t j t'
  |_=>cases hy
 |_=>cases hx
theorem OT {A:Around}{s:Shared}{xs ys:List V}{us vs:List Value}(hx:xs.all nK=true) (hy:ys.all nK=true) (r1:Vals xs us) (r2:Vals ys vs):
  ∀j (h1:j<us.toArray.size) (h2:j<vs.toArray.size),EqAt A s us.toArray[j] vs.toArray[j] (decide (xs.getD j .af=ys.getD j .af)):=fun j h1 h2=>by
 have l1:=r1.length
 have l2:=r2.length
 have k1:j<xs.length:=by simp at h1;omega
 have k2:j<ys.length:=by simp at h2;omega
 obtain⟨u,hu,ru⟩:=r1.get (List.getElem?_eq_getElem k1)
 obtain⟨v,hv,rv⟩:=r2.get (List.getElem?_eq_getElem k2)
 have e1:us.toArray[j]=u:=by simpa using (List.getElem?_eq_some_iff.mp hu).2
 have e2:vs.toArray[j]=v:=by simpa using (List.getElem?_eq_some_iff.mp hv).2
 rw[e1,e2,List.getD_eq_getElem?_getD,List.getD_eq_getElem?_getD,List.getElem?_eq_getElem k1,List.getElem?_eq_getElem k2]
 exact N7 (List.all_eq_true.mp hx _ (List.getElem_mem k1)) (List.all_eq_true.mp hy _ (List.getElem_mem k2)) ru rv
theorem N8 {xs ys:List V}{us vs:List Value}(r1:Vals xs us) (r2:Vals ys vs):((List.range (min us.toArray.size vs.toArray.size)).all (fun j=>decide (xs.getD j .af=ys.getD j .af))&&us.toArray.size==vs.toArray.size)=decide (xs=ys):=by
 have l1:=r1.length
 have l2:=r2.length
 rw[Bool.eq_iff_iff,Bool.and_eq_true,List.all_eq_true,decide_eq_true_eq,beq_iff_eq,List.size_toArray,List.size_toArray]
 constructor
 ·rintro⟨h,hl⟩
  refine List.ext_getElem (by omega) fun i h1 h2=> ?_
  have:=h i (by rw[List.mem_range];omega)
  simpa[h1,h2] using this
 ·rintro rfl
  exact⟨fun j _=>by simp,by omega⟩
def AY (K:PySem.W.Frag) (r:Bool):R2:=fun x y H Q=> ∃(a b:Addr) (xs ys:List V),x=.ref a∧y=.ref b∧H a=some (.tup xs)∧H b=some (.tup ys)∧xs.all nK=true∧ys.all nK=true∧Q (.bl (xor r (decide (xs=ys)))) H
theorem P6 (hu:X.A.units<cLine):bg X (compareOp .Eq) (AY X.K false):=by
 intro pins s σ H x y u v Q I rx ry h
 obtain⟨a,b,xs,ys,rfl,rfl,ha,hb,hx,hy,q⟩:=h
 cases rx
 cases ry
 obtain⟨us,r1,p1,_⟩:=I.tuple (ao.of ha)
 obtain⟨vs,r2,p2,_⟩:=I.tuple (ao.of hb)
 refine eq_tupleAt p1 p2 hu (OT hx hy r1 r2) ?_
 rw[N8 r1 r2]
 exact⟨.bl _,H,I,rfl,by rw[Bool.false_xor]at q;exact q⟩
end
end L2
namespace U
open PySem L2 PyProof.Rows
def fo (K:PySem.W.Frag) (H:Hp) (a:Addr) (ns:List Int):Prop:=(∃o,H a=some (.aW o (.lst (ns.map V.int))))∨∃(o:Obj) (its:Array Value) (n:Nat),K.lookup a=some o∧o.cls=.type "list" ∧o.dict=none∧o.data=.seq its n∧its.size≤sizeLine∧Vals (ns.map V.int) its.toList
theorem fo.sq {K:PySem.W.Frag}{H:Hp}{a:Addr}{ns:List Int}(h:fo K H a ns):ah K H a (ns.map V.int):=by
 rcases h with ⟨o,h⟩ |h
 ·exact .inl (.inr ⟨o,h⟩)
 ·exact .inr h
theorem fo.same {K:PySem.W.Frag}{H H':Hp}{a:Addr}{ns:List Int}(h:fo K H a ns) (s:ae H H'):fo K H' a ns:=by
 rcases h with ⟨o,h⟩ |h
 ·exact .inl ⟨o,s _ _ h⟩
 ·exact .inr h
theorem fo.x {K:PySem.W.Frag}{H H':Hp}{a p:Addr}{ns:List Int}{o:HO}(h:fo K H a ns) (s:aq p H H') (hp:H p=some o) (hn:∀ob u,o≠.aW ob u):fo K H' a ns:=by
 rcases h with ⟨ob,h⟩ |h
 ·exact .inl ⟨ob,s _ _ h fun z=>by rw[z,hp]at h;cases h;exact hn _ _ rfl⟩
 ·exact .inr h
end U
namespace U
open PySem L2 PyProof.Rows PySem.Spec
def qR (mg:Str→Option Value) (h:Heap):Prop:=∃bm ob,mg "__builtins__" =some (.ref bm)∧bm≠builtinsNs∧h.get? bm=some ob∧ob.cls=.type "module" ∧ob.dict=some builtinsNs∧ob.data=.plain
theorem Rx {P:Program}{w:World}{K:PySem.W.Frag}{mg mb:Str→Option Value}{k:Nat}{fa a:Addr}{Pts:List Addr}{fd:FuncData}{x:Str}{sp:Sp}{aP:Shared}{vs:List Value}{ns:List Int}
  (KX:K.In aP.heap) (pQ:aP.heap.Ns mainGlobals mg) (hb:aP.heap.Ns builtinsNs mb) (cH:∀x:Str,x≠ "__name__" →mb x=bootBuiltins x) (Lk:aP.heap.NoLimit) (hg:aP.gens= #[])
  (ha:aP.heap.get? a=some {cls:=.type "list",data:=.seq vs.toArray}) (hi:IntsAre vs ns) (hl:ns.length≤sizeLine) (hr:bR k callerA)
  (mq:∀Pt∈Pts,aP.heap.get? Pt=some (PySem.W.tabObj #[])) (Mx:∀Pt∈Pts,∃c,PySem.W.CodeHd aP.heap c Pt) (Mq:∀Pt∈Pts,K.lookup Pt=none) (xK:qR mg aP.heap)
  (F:∀base:Heap,K.In base→base.Ns mainGlobals mg→qR mg base→aE P w K mg base aH k fa fd [x] sp) (Mb:∀(s:Shared) (u:Value),BindsTo s fd ⟨[u],[]⟩ [(x,u)])
  (dw:∀H:Hp,fo K H a ns→(∀Pt∈Pts,H Pt=some (.cg #[]))→sp [.ref a] H (fun v _=>v=.bl true) fun _ _ _=>False):
  codeAny (model P w) callerA (.call (.ref fa) ⟨[.ref a],[]⟩) (fun r s'=>r=.ok (.ret (.bool true))∧OldK aP.heap s'.heap∧s'.os=aP.os∧AllBare s'.gens) aP:=by
 have rv:=WC hi
 have IB:=hi.length
 have qt:∀{Pt:Addr},Pt∈Pts→aP.heap.get? Pt=some {cls:=.none,data:=.fields #[]} :=fun h=>mq _ h
 have CS:a∉Pts:=fun z=>by have h:=qt z;rw[ha]at h;cases h
 have core:∀H:Hp,(∀b,b∉Pts→H b=none∨∃o xs,H b=some (.aW o (.lst xs)))→fo K H a ns→(∀Pt∈Pts,H Pt=some (.cg #[]))→bo P w H aP.heap→(∀b,H b≠none→b=a∨b∈Pts)→(H a≠none→K.lookup a=none)→
   codeAny (model P w) callerA (.call (.ref fa) ⟨[.ref a],[]⟩) (fun r s'=>r=.ok (.ret (.bool true))∧OldK aP.heap s'.heap∧s'.os=aP.os∧AllBare s'.gens) aP:=by
  intro H hO hS hP ag hA hK
  have yF:∀{b:Addr}{o:Obj},aP.heap.get? b=some o→H b=none→(gA aP.heap H).get? b=some o:=fun e n=>UO e n
  have bH:∀{b:Addr}{o:Obj},aP.heap.get? b=some o→(∀vs n,o.data≠.seq vs n)→(∀ps,o.data≠.fields ps)→H b=none:=fun {b o} e d1 d2=>by
   cases q:H b with
   |none=>rfl
   |some u=>
    rcases hA b (by rw[q];simp) with e' |e'
    ·subst e'
     rw[ha]at e;cases e
     exact absurd rfl (d1 _ _)
    ·rw[qt e']at e;cases e
     exact absurd rfl (d2 _)
  have sf:∀{b:Addr}{m:Str→Option Value},aP.heap.Ns b m→(gA aP.heap H).Ns b m:=fun {b m} ⟨o,es,ep,e,d,r⟩=> ⟨o,es,ep,yF e (bH e (fun _ _ z=>by rw[d]at z;cases z) fun _ z=>by rw[d]at z;cases z),d,r⟩
  have CV:K.In (gA aP.heap H):=fun b o e=>yF (KX b o e) (by
   cases q:H b with
   |none=>rfl
   |some u=>
    rcases hA b (by rw[q];simp) with e' |e'
    ·subst e'
     rw[hK (by rw[q];simp)]at e;cases e
    ·rw[Mq _ e']at e;cases e)
  have hM:Mod K mg (gA aP.heap H):=⟨CV,sf pQ,⟨mb,sf hb,cH⟩,let ⟨mc,h1,h2⟩:=Lk;⟨mc,sf h1,h2⟩⟩
  have Ma:qR mg (gA aP.heap H):=let ⟨bm,ob,b1,b2,b3,b4,b5,b6⟩:=xK;⟨bm,ob,b1,b2,yF b3 (bH b3 (fun _ _ z=>by rw[b6]at z;cases z) fun _ z=>by rw[b6]at z;cases z),b4,b5,b6⟩
  have e0:qQ P w K mg (gA aP.heap H) callerA [] aP H:=⟨rfl,hM,fun b o e=>ED e,Nat.le_of_eq (WR _ _),trivial,fun b hb=>absurd (show b∈([]:List Addr) from hb) (by simp),ag,.of_eq hg⟩
  refine codeAny_mono ((F _ CV (sf pQ) Ma).run callerA [] aP H ⟨[.ref a],[]⟩ [.ref a] [.ref a] _ _ hr e0 (Mb aP (.ref a)) (.cons rfl .nil) (dw H hS hP)) fun r s' h=> ?_
  cases r with
  |error e=>exact False.elim h
  |ok fl=>
   cases fl with
   |next=>exact False.elim h
   |brk=>exact False.elim h
   |cont=>exact False.elim h
   |ret u=>
    obtain⟨v,H',os,bare,un,Cc,r',q⟩:=h
    have q':v=.bl true:=q
    subst q'
    obtain rfl:u=Value.bool true:=r'
    have old:∀b o,aP.heap.get? b=some o→asItWas aP.heap s'.heap b o:=fun b o e=>by
     cases q:H b with
     |none=>exact .inl (un.keep b o e q (by intro z;exact absurd (show b∈([]:List Addr) from z) (by simp)) (by simp))
     |some u=>
      by_cases mj:b∈Pts
      ·obtain⟨more,z⟩:=un.fc b _ (hP b mj)
       have e2:s'.heap.get? b=some {cls:=.none,data:=.fields (#[]++more)} :=Cc b _ z
       rw[qt mj]at e
       cases e
       obtain⟨c,hC⟩:=Mx b mj
       exact .inr (.inl ⟨(hC.tab (mq b mj)).isCodeTable,rfl, #[],more,rfl,e2⟩)
      ·rcases hO b mj with z |⟨ob,xs,z⟩
       ·rw[q]at z;cases z
       ·have z2:=un.fk b ob _ z
        obtain⟨e1,_⟩:=ag b _ z
        obtain⟨e2,_⟩:=Cc b _ z2
        rw[e]at e1;cases e1
        exact .inl e2
    exact⟨rfl,⟨old,fun b o e=>un.there b o e (by simp)⟩,os,bare⟩
 cases hk:K.lookup a with
 |some o=>
  have e:=KX a o hk
  rw[ha]at e
  cases e
  refine core (fun b=>if b∈Pts then some (.cg #[]) else none) (fun b n=> .inl (if_neg n)) (.inr ⟨_,vs.toArray,_,hk,rfl,rfl,rfl,by rw[List.size_toArray,IB];exact hl,by simpa using rv⟩) (fun Pt h=>if_pos h) (fun b u z=> ?_) (fun b z=> ?_) fun z=>absurd (if_neg CS) z
  ·by_cases hb:b∈Pts
   ·have z':=(if_pos hb).symm.trans z
    cases z'
    exact qt hb
   ·have z':=(if_neg hb).symm.trans z
    cases z'
  ·by_cases hb:b∈Pts
   ·exact .inr hb
   ·exact absurd (if_neg hb) z
 |none=>
  refine core (fun b=>if b∈Pts then some (.cg #[]) else if b=a then some (.aW {cls:=.type "list",data:=.seq vs.toArray} (.lst (ns.map V.int))) else none) (fun b n=> ?_) (.inl ⟨{cls:=.type "list",data:=.seq vs.toArray},(if_neg CS).trans (if_pos rfl)⟩) (fun Pt h=>if_pos h) (fun b u z=> ?_) (fun b z=> ?_) fun _=>hk
  ·by_cases hb:b=a
   ·exact .inr ⟨_,_,(if_neg n).trans (if_pos hb)⟩
   ·exact .inl ((if_neg n).trans (if_neg hb))
  ·by_cases hP:b∈Pts
   ·have z':=(if_pos hP).symm.trans z
    cases z'
    exact qt hP
   ·by_cases hb:b=a
    ·have z':=((if_neg hP).trans (if_pos hb)).symm.trans z
     cases z'
     subst hb
     exact⟨ha,by rw[List.length_map];exact hl,vs,_,rv,ha⟩
    ·have z':=((if_neg hP).trans (if_neg hb)).symm.trans z
     cases z'
  ·by_cases hP:b∈Pts
   ·exact .inr hP
   ·by_cases hb:b=a
    ·exact .inl hb
    ·exact absurd ((if_neg hP).trans (if_neg hb)) z
theorem Fe {l:PySem.W.OpenLaw}{n k:Nat}{q:Program}{loose:List Str}{XP:(Str→Option Value)→Heap→Prop}{YP:World→Heap→Prop}{d:DefRec}{K:Params→PySem.W.Frag}{sp:PySem.W.Frag→Sp}{x:Str}{Pts:List Addr}
    (hn:l.most=some n) (nT:n≤sizeLine) (xF:d.params.defaults=[]) (hr:bR k callerA)
    (hY:∀(w:World) (h:Heap),YP w h→(K w.params).In h) (Mi:∀(w:World) (h:Heap),YP w h→∀Pt∈Pts,h.get? Pt=some (PySem.W.tabObj #[]))
    (hC:∀(w:World) (h:Heap),(K w.params).In h→∀Pt∈Pts,∃c,PySem.W.CodeHd h c Pt) (Mr:∀w:World,∀Pt∈Pts,(K w.params).lookup Pt=none)
    (F:∀(w:World) (mg:Str→Option Value) (fa:Addr) (h:Heap),(K w.params).In h→h.Ns mainGlobals mg→mg d.name=some (.ref fa)→
      ∃fd:FuncData,(∀(s:Shared) (u:Value),BindsTo s fd ⟨[u],[]⟩ [(x,u)])∧
       ∀base:Heap,(K w.params).In base→base.Ns mainGlobals mg→qR mg base→aE l.prog w (K w.params) mg base aH k fa fd [x] (sp (K w.params)))
    (dw:∀(K:PySem.W.Frag) (H:Hp) (a:Addr) (ns:List Int),ns.length≤n→fo K H a ns→(∀Pt∈Pts,H Pt=some (.cg #[]))→sp K [.ref a] H (fun v _=>v=.bl true) fun _ _ _=>False):
    PySem.W.WalkO q loose XP YP l.row.toRowW d [] (fun f vs=>PySem.call f vs):=by
  refine EW.NQ hn xF fun w bT aP mg mb fa o pm cd doc a vs ns G Y ho hd cG hmg xm hints hlen hg=> ?_
  have KX:=hY w _ Y
  obtain⟨fd,hb,hF⟩:=F w mg fa _ KX G.T.g hmg
  exact Rx KX G.T.g G.T.b G.T.builtins G.T.nolimit hg xm hints (Nat.le_trans hlen nT) hr (Mi w _ Y) (hC w _ KX) (Mr w) G.T.bmain hF hb (fun H hS hP=>dw (K w.params) H a ns hlen hS hP)
def bt (K:PySem.W.Frag) (x:Str) (st:Stmt):Prop:=∃f fd,PySem.W.nsIn K mainGlobals x=some (some (.ref f))∧aJ K x x st f fd
theorem bN {K:PySem.W.Frag}{x:Str}{st:Stmt}{f:Addr}{oc:Value}{od an:Option Addr}{fg:Array (Option Value)}{kV doc pm ak ct:Value}(e1:PySem.W.nsIn K mainGlobals x=some (some (.ref f)))
  (e2:K.lookup f=some ⟨oc,od,.func (PySem.W.fnOf x x (eV st) (bM st) (ay st) .none kV doc pm an ak ct),fg⟩) (e3:PySem.W.codeIn K ak x=true) (e4:PySem.W.keepIn K (.ref f)=true):bt K x st:=⟨f,_,e1,Pl e2 e3 e4⟩
section
variable {P:Program}{w:World}{K:PySem.W.Frag}{mg:Str→Option Value}{base:Heap}
abbrev kO (x:Str) (st:Stmt) (ps:List Str):Prop:=∀(kV doc pm:Value) (an:Option Addr) (ak ct:Value) (us:List Value),us.length=ps.length→bindArgs (PySem.W.fnOf x x (eV st) (bM st) (ay st) .none kV doc pm an ak ct) ⟨us,[]⟩=pure (ps.zip us)
theorem bt.to {h:Heap}{x:Str}{st:Stmt}{ps:List Str}{k:Nat}{sp:Sp}(d:bt K x st) (KX:K.In h) (G:h.Ns mainGlobals mg) (hb:kO x st ps) (ok:∀f fd,aJ K x x st f fd→aE P w K mg base aH k f fd ps sp):Def P w K mg base k x ps sp:=by
 obtain⟨f,fd,e,F⟩:=d
 exact⟨f,fd,ok f fd F,PySem.W.mg_of KX G e,F.kp,F.binds hb⟩
theorem bt.iA {h:Heap}{x:Str}{st:Stmt}{ps:List Str}{k:Nat}{sp:Sp}(d:bt K x st) (KX:K.In h) (G:h.Ns mainGlobals mg) (hb:kO x st ps) (ok:∀f fd,aJ K x x st f fd→aE P w K mg base (bE P w) k f fd ps sp):bA P w K mg base k x ps sp:=by
 obtain⟨f,fd,e,F⟩:=d
 exact⟨f,fd,ok f fd F,PySem.W.mg_of KX G e,F.kp,F.binds hb⟩
def sk (K:PySem.W.Frag) (x:Str):Bool:=match PySem.W.nsIn K mainGlobals x with |some none=>true |_=>false
theorem RK {h:Heap}{x:Str}(KX:K.In h) (G:h.Ns mainGlobals mg) (e:sk K x=true):mg x=none:=by
 unfold sk at e
 split at e
 ·rename_i q
  exact PySem.W.mg_none_of KX G q
 ·cases e
end
end U
namespace HS
open PySem PySem.SetTable
abbrev RX (l:List Nat):Prop:=l.Pairwise (· < ·)
abbrev tb (m:Nat):SetTable:= {mask:=m,place:= #[],dummies:= #[],finger:=0,led:=false,moves:=0,plain:=false}
def NU (m:Nat) (p:Probe):Probe:=(tb m).advance p
def it (m:Nat) (p:Probe):Nat→Probe
 |0=>p
 |k+1=>NU m (it m p k)
abbrev fr (m i pt:Nat):Probe:= {j:=i,more:=runEnd m i - i,i,perturb:=pt,dummy:=none}
abbrev st (m:Nat) (h:Int):Probe:=fr m (bits h%(m+1)) (bits h)
def lp (m:Nat) (x:Nat×Nat):Nat×Nat:=leap m x.1 x.2
def nx (m i:Nat):Nat:=(i*5+1)%(m+1)
def EL (m:Nat) (HD:Nat→Prop) (p:Probe) (j:Nat):Prop:=∃n,(it m p n).j=j∧∀k<n,HD (it m p k).j
structure T0 (t:SetTable) (es:Array (Int×Value)):Prop where
 sz:t.place.size=es.size
 Ta:RX t.place.toList
 T4:t.dummies= #[]
 le:∀j∈t.place.toList,j<t.mask+1
 ld:∀z∈t.place.toList.zip es.toList,EL t.mask (·∈t.place.toList) (st t.mask z.2.1) z.1
def RW (m n:Nat):Prop:=(m=7∧n≤4)∨(m=31∧n≤18)∨(m=127∧n≤76)∨(m=511∧n≤306)
structure T7 (m:Nat) (hs:List Int) (owner:Array (Option Nat)):Prop where
 sz:owner.size=m+1
 lt:∀(j k:Nat),owner[j]? =some (some k)→k<hs.length
 at_:∀(k:Nat) (h:Int),hs[k]? =some h→∃j:Nat,owner[j]? =some (some k)∧EL m (fun x=> ∃k,owner[x]? =some (some k)) (st m h) j
 inj:∀(j j' k:Nat),owner[j]? =some (some k)→owner[j']? =some (some k)→j=j'
def live (m:Nat) (owner:Array (Option Nat)):List (Nat×Nat):=(List.range (m+1)).filterMap fun j=> (owner.getD j none).map (j, ·)
section
variable {prog:Program}{w:World}{K:Type} [DecidableEq K]
structure HK (knd:HeapKind prog w K):Prop where
 T5:∀{A:Around}{E:Value→Shared→Prop}{s:Shared}{k:K}{a:Addr}{Q:Bool→Shared→Prop},knd.is s.heap k a→(∀b,Q b s)→wpAny (model prog w) A (hashByValue 8 (.ref a)) Q E s
 notCls:∀{A:Around}{E:Value→Shared→Prop}{s:Shared}{k:K}{a:Addr}{Q:Bool→Shared→Prop},knd.is s.heap k a→Q false s→wpAny (model prog w) A (ofAClassStatement 8 (.ref a)) Q E s
 Tt:∀{h h':Heap}{k:K}{a d:Addr}{o:Obj}{es ep t},knd.is h k a→h.get? d=some o→o.data=.set es ep t→Heap.SameBut d h h'→knd.is h' k a
variable {knd:HeapKind prog w K}{A:Around}{E:Value→Shared→Prop}{s:Shared}
def EU (knd:HeapKind prog w K) (h:Heap) (k:K) (e:Int×Value):Prop:=∃a,e.2=.ref a∧knd.is h k a∧e.1=knd.hash k
end
section
variable {prog:Program}{w:World}{K:Type} [DecidableEq K] {knd:HeapKind prog w K}{A:Around}{E:Value→Shared→Prop}{s:Shared}
structure T6 (knd:HeapKind prog w K) (h:Heap) (S:Addr) (ks:List K) (o:Obj) (es:Array (Int×Value)) (ep:Nat) (t:SetTable):Prop where
 ho:h.get? S=some o
 ex:o.ExactSet
 hd:o.data=.set es ep t
 T:T0 t es
 room:RW t.mask es.size
 el:∀e∈es.toList,∃k∈ks,EU knd h k e
 all:∀k∈ks,∃e∈es.toList,EU knd h k e
 sz:es.size=ks.length
end
end HS
namespace HS
open PySem PySem.SetTable PySem.Spec
section
variable {K:Type} [DecidableEq K]
def met (val:Nat→K):Nat→List K
 |0=> []
 |n+1=>if val n∈met val n then met val n else met val n++[val n]
variable {prog:Program}{w:World}{kk:KeyKind prog w K}{A:Around}{E:Value→Shared→Prop}{s:Shared}{R:Result→Shared→Prop}{I:Addr}{fp wr:List Addr}{G:Array GenState→Array GenState→Prop}{n:Nat}{P:Nat→Value→Prop}{St:Nat→Shared→Prop}
end
end HS
namespace L2
open PySem PySem.Spec PyProof.Rows
end L2
namespace L2
open PySem PySem.Spec PyProof.Rows SeqAt
section
variable {X:Cx}
theorem Wk (hc:X.calm=true:=by rfl):cU X (.builtin "sum") (fun xs H Q=> ∃(p:Addr) (ns:List Int),xs=[.ref p]∧ah X.K H p (ns.map V.int)∧Q (.int ns.sum) H):=by
 intro pins s σ H xs us Q I r h
 obtain⟨p,ns,rfl,hp,q⟩:=h
 obtain⟨u,rfl,ru⟩:=vals1 r
 cases ru
 obtain⟨its,rv,pl,_⟩:=I.list hp
 have hi:=YO rv
 obtain⟨xs,hx⟩:=hi.allInts.items
 have xq:s.heap.IsList p (intItems xs):=hx▸pl.isList
 refine sum_intListG (I.ok.hd hc) xq fun h' tk t' hk=> ?_
 have e1:ns=xs.toList.map (·.1):=by
  rw[←nums_intItems,←hx]
  exact(show numsOf its.toArray.toList=ns from hi.numsOf).symm
 have e2:preSum (numAt xs) xs.size=ns.sum:=by rw[preSum_eq,List.take_of_length_le (by simp),e1]
 rw[e2]
 exact⟨.int ns.sum,H,I.kept hk,⟨_,rfl⟩,q⟩
end
end L2
namespace L2
open PySem PySem.Spec PyProof.Rows
section
variable {X:Cx}
def Hc (K:PySem.W.Frag):List V→Hp→VK→Prop:=fun xs H Q=> ∃(p:Addr) (ns:List Int),xs=[.ref p]∧ah K H p (ns.map V.int)∧ns≠[]∧∀M,M∈ns→(∀a∈ns,a≤M)→Q (.int M) H
theorem QC (hc:X.calm=true:=by rfl):cU X (.builtin "max") (Hc X.K):=by
 intro pins s σ H xs us Q I r h
 obtain⟨p,ns,rfl,hp,bZ,q⟩:=h
 obtain⟨u,rfl,ru⟩:=vals1 r
 cases ru
 obtain⟨its,rv,pl,_⟩:=I.list hp
 have hi:=YO rv
 obtain⟨xs,hx⟩:=hi.allInts.items
 have xq:s.heap.IsList p (intItems xs):=hx▸pl.isList
 have e1:ns=xs.toList.map (·.1):=by
  rw[←nums_intItems,←hx]
  exact(show numsOf its.toArray.toList=ns from hi.numsOf).symm
 have hsz:0<xs.size:=by
  rcases Nat.eq_zero_or_pos xs.size with z |z
  ·exact absurd (by rw[e1];simp[Array.size_eq_zero_iff.mp z]) bZ
  ·exact z
 refine max_intList (I.ok.hd hc) xq hsz fun v h' tk hv hk=> ?_
 obtain⟨b1,b2⟩:=argBest_gt (numAt xs) (xs.size - 1)
 generalize argBest (fun i j=>decide (numAt xs i>numAt xs j)) (xs.size - 1)=j at *
 have hj:j<xs.size:=by omega
 have ev:=intItems_at hv
 have num:∀i,(hi:i<xs.size)→numAt xs i∈ns:=fun i hi=>by
  rw[e1]
  unfold numAt
  simp only[Array.getD_eq_getD_getElem?,Array.getElem?_eq_getElem hi]
  exact List.mem_map.mpr ⟨xs[i],by simp,rfl⟩
 have of:∀a∈ns,∃i,i<xs.size∧a=numAt xs i:=fun a ha=>by
  rw[e1]at ha
  obtain⟨y,hy,rfl⟩:=List.mem_map.mp ha
  obtain⟨i,hi,rfl⟩:=List.getElem_of_mem hy
  refine⟨i,by simpa using hi,?_⟩
  have bP:i<xs.size:=by simpa using hi
  unfold numAt
  simp[Array.getElem?_eq_getElem bP]
 obtain⟨Fo,rfl⟩:=ev
 refine⟨.int (numAt xs j),H,I.kept hk,⟨_,rfl⟩,q _ (num j hj) fun a ha=> ?_⟩
 obtain⟨i,hi,rfl⟩:=of a ha
 exact b2 i (by omega)
end
end L2
namespace L2
open PySem PySem.Spec PyProof.Rows SeqAt
section
variable {X:Cx}
theorem WA {a b:String} :cU X (.builtin "isinstance") (fun xs H Q=> ∃(x:V) (t:Addr) (T:Value) (r:Bool),xs=[x,.ref t]∧ao X.K H t [.ty a,.ty b]∧((∃i,x=.int i∧T=.type "int")∨(∃k,x=.bl k∧T=.type "bool")∨(x=.af∧T=.type "NoneType")∨(∃l ys,x=.ref l∧H l=some (.lst ys)∧T=.type "list")∨∃l ys,x=.ref l∧H l=some (.tup ys)∧T=.type "tuple")∧
  PySem.W.kitAny X.K T [.type a,.type b]=some r∧Q (.bl r) H):=by
 intro pins s σ H xs us Q I rv h
 obtain⟨x,t,T,r,rfl,hq,hx,hk,q⟩:=h
 obtain⟨u,v,rfl,ru,rv⟩:=vals2 rv
 cases rv
 obtain⟨its,rt,pl,hz⟩:=I.tuple hq
 cases rt with
 |cons r1 r2=>
  cases r2 with
  |cons r3 r4=>
   cases r4
   cases r1
   cases r3
   obtain⟨o,ho,hc,n,hd⟩:=id pl
   obtain⟨cls,dd,dt,sl⟩:=o
   replace hc:cls=.type "tuple" :=hc
   replace hd:dt=.seq [Value.type a,Value.type b].toArray n:=hd
   subst hc hd
   rcases hx with ⟨i,rfl,rfl⟩ |⟨k,rfl,rfl⟩ |⟨rfl,rfl⟩ |⟨l,ys,rfl,hl,rfl⟩ |⟨l,ys,rfl,hl,rfl⟩
   ·obtain⟨tk,rfl⟩:=ru
    exact PySem.W.kia_tup PySem.W.kitx_int I.bW True.intro ho hk (fun z=>nomatch z) fun tk=> ⟨.bl r,H,I.tok _,rfl,q⟩
   ·cases ru
    exact PySem.W.kia_tup PySem.W.kitx_bool I.bW True.intro ho hk (fun z=>nomatch z) fun tk=> ⟨.bl r,H,I.tok _,rfl,q⟩
   ·cases ru
    exact PySem.W.kia_tup PySem.W.kitx_none I.bW True.intro ho hk (fun z=>nomatch z) fun tk=> ⟨.bl r,H,I.tok _,rfl,q⟩
   ·cases ru
    obtain⟨_,_,n,_,h1⟩:=(show aO X.prog X.w H s.heap l (.lst ys) from I.ag l _ hl)
    exact PySem.W.kia_tup PySem.W.kitx_list I.bW ⟨_,h1,rfl⟩ ho hk (fun z=>nomatch z) fun tk=> ⟨.bl r,H,I.tok _,rfl,q⟩
   ·cases ru
    obtain⟨_,_,_,p,_⟩:=(show aO X.prog X.w H s.heap l (.tup ys) from I.ag l _ hl)
    obtain⟨o,h1,h2,_⟩:=p
    exact PySem.W.kia_tup PySem.W.kitx_tuple I.bW ⟨o,h1,h2⟩ ho hk (fun z=>nomatch z) fun tk=> ⟨.bl r,H,I.tok _,rfl,q⟩
end
end L2
namespace L2
open PySem PySem.Spec PyProof.Rows
section
variable {prog:Program}{w:World}{A:Around}{E:Value→Shared→Prop}{s:Shared}{it d:Addr}{i n ep:Nat}{ok ov:Value}{od:Obj}{es:Array DictEntry}
theorem Ri {en:DictEntry}{Q:Option Value→Shared→Prop}(gi:IsItemIter s.heap it d i n ep ok ov) (go:s.heap.get? d=some od) (gd:od.data=.dict es ep) (gn:es.size=n) (gx:es[i]? =some en)
    (q:∀h',IsItemIterOut h' it d (i+1) n ep en.key en.val s.heap.objs.size→h'.get? s.heap.objs.size=some {cls:=.type "tuple",data:=.seq #[en.key,en.val]}→h'.objs.size=s.heap.objs.size+1→
      (∀b o,b≠it→s.heap.get? b=some o→h'.get? b=some o)→Q (some (.ref s.heap.objs.size)) {s with heap:=h'}):wpAny (model prog w) A (pyNext (.ref it)) Q E s:=by
  obtain⟨hp,g,dr,tk,os⟩:=s
  have ty:Shared.TypeIs ⟨hp,g,dr,tk,os⟩ (.ref it) "dict_itemiterator" :=⟨_,gi,rfl⟩
  unfold pyNext
  refine wpAny_bind (wpAny_attempt (wpAny_callSpecial?_slot (name:=Str.ofString "__next__") ty F.slot_dict_itemiterator_next (wpAny_call_entry F.slot_dict_itemiterator_next ty F.entry_dict_itemiterator_next ?_ (F.args_dict_itemiterator_next_1 _))))
  refine wpAny_bind (wpAny_pure (wpAny_bind (wpAny_bind ?_)))
  first |refine wpAny_bind (wpAny_typeNameOfWhole_itemiter ty (wpAny_pure ?_)) |refine wpAny_bind (wpAny_typeNameOf_itemiter ty (wpAny_pure ?_))
  refine wpAny_bind (wpAny_fieldsOf gi rfl ?_)
  have own:Builtin.Dict_items.ownsTuple "dict_itemiterator" =true:=by decide
  simp only[own,if_true]
  show wpAny _ _ (if (Value.ref d==Value.none)=true then _ else _) _ _ _
  rw[if_neg (show ¬((Value.ref d==Value.none)=true) from Bool.false_ne_true)]
  refine wpAny_bind (wpAny_pure (wpAny_bind (wpAny_dictEntries go gd ?_)))
  rw[if_neg (by rw[gn];simp)]
  refine wpAny_bind (wpAny_pure (wpAny_bind (wpAny_dictEpoch go gd ?_)))
  rw[if_neg (by simp)]
  refine wpAny_pure ?_
  simp only[show ¬((i:Int)<0) from by omega,if_false,Int.toNat_natCast,gx]
  refine wpAny_bind ?_
  first |refine wpAny_bind (wpAny_typeNameOfWhole_itemiter ty (wpAny_pure ?_)) |refine wpAny_bind (wpAny_typeNameOf_itemiter ty (wpAny_pure ?_))
  refine wpAny_bind (wpAny_isOneOf_itemiter ty ?_)
  show wpAny _ _ (setField (.ref it) 3 (rawInt ((i:Int)+1)) >>=_) _ _ ⟨hp,g,dr,tk,os⟩
  refine wpAny_bind (wpAny_setField_rec gi (by simp) fun h1 g1 c1=> ?_)
  have c1:Heap.SameBut it hp h1:=c1
  have g1:IsItemIter h1 it d (i+1) n ep ok ov:=by
    have e:((i+1:Nat):Int)=(i:Int)+1:=by omega
    unfold IsItemIter;rw[e];simpa[rawInt] using g1
  have zX:Shared.TypeIs ⟨h1,g,dr,tk,os⟩ (.ref it) "dict_itemiterator" :=⟨_,g1,rfl⟩
  refine wpAny_bind (wpAny_holding (wpAny_bind (wpAny_isOneOf_itemiter zX (wpAny_bind (wpAny_isOneOf_itemiter zX ?_)))))
  show wpAny _ _ (Builtin.Dict_items.pairFromOwner (.ref it) 6 en.key en.val) _ _ ⟨h1,g,dr,tk,os⟩
  unfold Builtin.Dict_items.pairFromOwner
  refine wpAny_bind (wpAny_newTuple ?_)
  have z1:h1.objs.size=hp.objs.size:=c1.1
  have lt:it<hp.objs.size:=Heap.lt_size gi
  have g2:IsItemIter (h1.push {cls:=.type "tuple",data:=.seq #[en.key,en.val]}) it d (i+1) n ep ok ov:=Heap.get?_push_of_some _ g1
  have t2:(h1.push {cls:=.type "tuple",data:=.seq #[en.key,en.val]}).get? hp.objs.size=some {cls:=.type "tuple",data:=.seq #[en.key,en.val]} :=by rw[←z1];exact Heap.get?_push_size _ rfl
  have z2:(h1.push {cls:=.type "tuple",data:=.seq #[en.key,en.val]}).objs.size=hp.objs.size+1:=by rw[Heap.size_push,z1]
  have k2:∀b o,b≠it→hp.get? b=some o→(h1.push {cls:=.type "tuple",data:=.seq #[en.key,en.val]}).get? b=some o:=fun b o hb e=>Heap.get?_push_of_some _ (c1.extBut b o hb e)
  show wpAny _ _ (Builtin.Dict_items.ownedTupleIsFree (.ref it) >>=_) _ _ ⟨h1.push {cls:=.type "tuple",data:=.seq #[en.key,en.val]},g,dr,tk,os⟩
  rw[z1]
  generalize h1.push {cls:=.type "tuple",data:=.seq #[en.key,en.val]} =h2 at g2 t2 z2 k2
  refine wpAny_bind ?_
  unfold Builtin.Dict_items.ownedTupleIsFree
  refine wpAny_bind (wpAny_field g2 rfl (x:=.none) rfl (wpAny_pure ?_))
  simp only[if_true]
  refine wpAny_bind (wpAny_field g2 rfl (x:=ok) rfl (wpAny_bind (wpAny_field g2 rfl (x:=ov) rfl ?_)))
  refine wpAny_bind (wpAny_setField_rec g2 (by simp) fun h3 g3 c3=> ?_)
  have c3:Heap.SameBut it h2 h3:=c3
  have g3:IsItemIter h3 it d (i+1) n ep en.key ov:=g3
  refine wpAny_bind (wpAny_setField_rec g3 (by simp) fun h4 g4 c4=> ?_)
  have c4:Heap.SameBut it h3 h4:=c4
  have g4:IsItemIter h4 it d (i+1) n ep en.key en.val:=g4
  refine wpAny_bind (wpAny_setField_rec g4 (by simp) fun h5 g5 c5=> ?_)
  have c5:Heap.SameBut it h4 h5:=c5
  have g5:IsItemIterOut h5 it d (i+1) n ep en.key en.val hp.objs.size:=g5
  refine wpAny_bind (wpAny_setField_rec g5 (by simp) fun h6 g6 c6=> ?_)
  have c6:Heap.SameBut it h5 h6:=c6
  have g6:IsItemIterOut h6 it d (i+1) n ep en.key en.val hp.objs.size:=g6
  have c:=c3.trans (c4.trans (c5.trans c6))
  exact wpAny_bind (wpAny_letGo (wpAny_pure (wpAny_pure ⟨_,rfl,wpAny_pure (q h6 g6 (c.extBut _ _ (Nat.ne_of_gt lt) t2) (c.1.trans z2) fun b o hb e=>c.extBut b o hb (k2 b o hb e))⟩)))
theorem QV {Q:Option Value→Shared→Prop}(hh:A.handled=none) (gi:IsItemIter s.heap it d i n ep ok ov) (go:s.heap.get? d=some od) (gd:od.data=.dict es ep) (gn:es.size=n) (ge:n≤i)
  (q:∀h',Heap.ExtBut it s.heap h'→Q none {s with heap:=h'}):wpAny (model prog w) A (pyNext (.ref it)) Q E s:=by
 have ty:s.TypeIs (.ref it) "dict_itemiterator" :=⟨_,gi,rfl⟩
 unfold pyNext
 refine wpAny_bind (wpAny_attempt (wpAny_callSpecial?_slot (name:=Str.ofString "__next__") ty F.slot_dict_itemiterator_next (wpAny_call_entry F.slot_dict_itemiterator_next ty F.entry_dict_itemiterator_next ?_ (F.args_dict_itemiterator_next_1 _))))
 refine wpAny_bind (wpAny_pure (wpAny_bind (wpAny_bind ?_)))
 first |refine wpAny_bind (wpAny_typeNameOfWhole_itemiter ty (wpAny_pure ?_)) |refine wpAny_bind (wpAny_typeNameOf_itemiter ty (wpAny_pure ?_))
 refine wpAny_bind (wpAny_fieldsOf gi rfl ?_)
 have own:Builtin.Dict_items.ownsTuple "dict_itemiterator" =true:=by decide
 simp only[own,if_true]
 show wpAny _ _ (if (Value.ref d==Value.none)=true then _ else _) _ _ s
 rw[if_neg (show ¬((Value.ref d==Value.none)=true) from Bool.false_ne_true)]
 refine wpAny_bind (wpAny_pure (wpAny_bind (wpAny_dictEntries go gd ?_)))
 rw[if_neg (by rw[gn];simp)]
 refine wpAny_bind (wpAny_pure (wpAny_bind (wpAny_dictEpoch go gd ?_)))
 rw[if_neg (by simp)]
 refine wpAny_pure ?_
 simp only[show ¬((i:Int)<0) from by omega,if_false,Int.toNat_natCast,Array.getElem?_eq_none (show es.size≤i by omega)]
 refine wpAny_bind ?_
 first |refine wpAny_bind (wpAny_typeNameOfWhole_itemiter ty (wpAny_pure ?_)) |refine wpAny_bind (wpAny_typeNameOf_itemiter ty (wpAny_pure ?_))
 show wpAny _ _ (setField (.ref it) 2 .none >>=_) _ _ s
 refine wpAny_bind (wpAny_setField gi rfl (by simp) ?_)
 show wpAny _ _ (newExc (.type "StopIteration") [] >>=_) _ _ _
 refine wpAny_bind ?_
 simp only[newExc,newTuple]
 refine wpAny_bind (wpAny_newObj_type ?_ (by size_fits))
 refine wpAny_bind (m:=firstArgMember _ _) (wpAny_of_eq (a:=Value.none) (by first |rfl |(simp only[firstArgMember];rfl)) ?_)
 refine wpAny_newObj_type ?_ (by size_fits)
 simp only[raiseNew]
 refine wpAny_bind (wpAny_handled ?_)
 rw[show A.in1.handled=none from hh]
 refine wpAny_bind (wpAny_pure (wpAny_throw ?_))
 exact wpAny_bind (wpAny_isInstance (T:= "StopIteration") (b:=true) ⟨_,Heap.get?_push_size _ rfl,rfl⟩ isSubtype_stop (wpAny_pure (q _ (((Heap.SameBut.update ..).extBut.push _).push _))))
end
section
variable {X:Cx}{pins:List (Addr×Obj)}{σ:St}{H:Hp}{s:Shared}{d:Addr}{kvs:List (List Key×V)}{o:Obj}
theorem Inv.freeze (I:Inv X pins σ H s) (e:H d=some (.dT kvs)) (g:s.heap.get? d=some o):Inv X pins σ (upd H d (.aW o (.dT kvs))) s:=by
 have ne:∀b u,H b=some u→(∀k,u≠.dT k)→b≠d:=fun b u q n z=>by rw[z,e]at q;cases q;exact n _ rfl
 have nn:∀b,H b=none→b≠d:=fun b q z=>by rw[z,e]at q;cases q
 have J:=I.call (g':=s.gens) (d':=s.drawn) (t':=s.toks) (h':=s.heap) (ch:=[]) (H':=upd H d (.aW o (.dT kvs)))
  ⟨fun b o q _ _ _=>q,fun b o q _ _ _=> ⟨o.slots,q⟩,fun b o q n _=>by rw[Zh (nn b n)];exact n,fun b o q _=> ⟨o,q⟩,fun b xs q=>by rw[Zh (ne b _ q fun k z=>by cases z)];exact q,
   fun b o u q=>by rw[Zh (ne b _ q fun k z=>by cases z)];exact q,fun b ps q=> ⟨#[],by rw[Zh (ne b _ q fun k z=>by cases z),q];simp⟩⟩ (fun b u q=> ?_) I.bare (fun b hb=>absurd hb (by simp))
 ·exact J
 ·have st:∀{b u},aO X.prog X.w H s.heap b u→aO X.prog X.w (upd H d (.aW o (.dT kvs))) s.heap b u:=fun x=>x.dP (fun _ _ _ q=>q) (fun b q=>by rw[Zh (ne b _ q fun k z=>by cases z)];exact q) fun b xs q=>by rw[Zh (ne b _ q fun k z=>by cases z)];exact q
  by_cases hb:b=d
  ·subst hb
   rw[Zc]at q
   cases q
   exact⟨g,st (I.ag b _ e)⟩
  ·rw[Zh hb]at q
   exact st (I.ag b u q)
end
theorem PB:entryFor table "dict_itemiterator.__iter__" =some Builtin.«dict_keyiterator.__iter__» :=entryFor_alias (id':= "dict_keyiterator.__iter__") (by kernel_rfl) (by decide+kernel) (by decide+kernel) (by kernel_rfl)
theorem OJ {prog:Program}{w:World}{A:Around}{E:Value→Shared→Prop}{s:Shared}{it d:Addr}{i n ep:Nat}{ok ov:Value}{Q:Value→Shared→Prop}(g:IsItemIter s.heap it d i n ep ok ov) (h:Q (.ref it) s):wpAny (model prog w) A (pyIter (.ref it)) Q E s:=by
 have ty:s.TypeIs (.ref it) "dict_itemiterator" :=⟨_,g,rfl⟩
 refine wpAny_pyIter_slot ty F.slot_dict_itemiterator_iter (wpAny_call_entry F.slot_dict_itemiterator_iter ty PB ?_ (F.args_dict_itemiterator_iter_1 _))
 show wpAny _ _ (ret (.ref it)) _ _ s
 exact wpAny_pure ⟨_,rfl, "dict_itemiterator",_,ty,F.slot_dict_itemiterator_next.lookup,h⟩
def za (o:Obj) (d:Addr) (kvs:List (List Key×V)):It:=
 ⟨fun i H=>H d=some (.aW o (.dT kvs))∧i<kvs.length,
  fun i H v H'=> ∃(T a:Addr) (k:List Key) (y:V),v=.ref T∧H T=none∧kvs[i]? =some (k,y)∧H a=some (.tup (k.map kV))∧H'=upd H T (.par [.ref a,y]),
  fun i H=>H d=some (.aW o (.dT kvs))∧kvs.length≤i⟩
theorem U5 {P:Program}{w:World}{K:PySem.W.Frag}{elts:List Expr}{kk:Nat}{pos:Pos}{o:Obj}{es:Array DictEntry}{ep:Nat}(it d:Addr) (kvs:List (List Key×V)) (gd:o.data=.dict es ep) (gn:es.size=kvs.length) (nd:it≠d):
  Turn P w K (.Tuple elts kk pos) (za o d kvs) [it] it (fun i h=> ∃ok ov,IsItemIter h it d i kvs.length ep ok ov) where
 mem:=by simp
 obj:=fun i h ⟨ok,ov,st⟩ b hb=>by
  have e:b=it:=by simpa using hb
  subst e
  exact⟨_,st,fun v z=>by cases z⟩
 keep:=fun i h h' ⟨ok,ov,st⟩ k=> ⟨ok,ov,k it (by simp) _ st⟩
 item:=by
  intro X hP hw hK hc i pins s σ H E I hf st hg
  subst hP hw hK
  obtain⟨ok,ov,st⟩:=st
  obtain⟨hd,hi⟩:=hg
  obtain⟨gh,z,sm,xs,pr,o',tV,tY,g1,g2,g3,g4,g5⟩:=(show aO X.prog X.w H s.heap d (.aW o (.dT kvs)) from I.ag d _ hd)
  rw[gh]at g1
  cases g1
  rw[gd]at g3
  cases g3
  have gz:=List.getElem?_eq_getElem hi
  have hx:i<xs.length:=by rw[←Paired.length pr];exact hi
  have LO:es[i]? =some (entryOfKey (tupleKind (dW X.prog X.w)) xs[i]):=by rw[←Array.getElem?_toList,g4,List.getElem?_map,List.getElem?_eq_getElem hx];rfl
  obtain⟨q',jm,p1,p2,p3⟩:=Y7 pr gz
  rw[List.getElem?_eq_getElem hx]at jm
  cases jm
  refine Ri st gh gd gn LO fun h' b1 b2 b3 b4=> ⟨_,rfl,?_⟩
  refine wpAny_letOwnedTupleGo_items b1 fun fj c1 c2=> ?_
  have qr:H s.heap.objs.size=none:=I.ag.fresh (Nat.le_refl _)
  have Bz:=Heap.lt_size st
  have both:∀b u,b≠it→s.heap.get? b=some u→fj.get? b=some u:=fun b u hb q=> (c2.2 b hb).trans (b4 b u hb q)
  have neT:∀b u,s.heap.get? b=some u→b≠s.heap.objs.size:=fun b u q=>Nat.ne_of_lt (Heap.lt_size q)
  have gP:∀b u,H b=some u→b≠s.heap.objs.size:=fun b u q=>Zd q qr
  have eJ:∀b u,H b=some u→b≠it:=fun b u q z=>by
   have:=(hf it (by simp)).1
   rw[z,this]at q;cases q
  have tT:fj.get? s.heap.objs.size=some {cls:=.type "tuple",data:=.seq #[Value.ref (xs[i]).2.1,(xs[i]).2.2]} :=(c2.2 _ (Nat.ne_of_gt Bz)).trans b2
  refine⟨.ref s.heap.objs.size,upd H s.heap.objs.size (.par [.ref (xs[i]).2.1,(kvs[i]).2]),?_,rfl,⟨_,(xs[i]).2.1,(kvs[i]).1,(kvs[i]).2,rfl,qr,gz,p2,rfl⟩,⟨_,_,c1⟩,fun b hb=> ?_⟩
  ·refine(show Inv X pins σ _ {s with heap:=fj} from ?_)
   refine I.call (g':=s.gens) (d':=s.drawn) (t':=s.toks) (h':=fj) (ch:=[it]) ⟨fun b u q _ _ hx=>both b u (by simpa using hx) q,fun b u q _ _ hx=> ⟨u.slots,both b u (by simpa using hx) q⟩,fun b u q n hx=>by rw[Zh (neT b u q)];exact n,fun b u q hx=> ⟨u,both b u (by simpa using hx) q⟩,
    fun b ys q=>by rw[Zh (gP b _ q)];exact q,fun b u v q=>by rw[Zh (gP b _ q)];exact q,fun b ps q=> ⟨#[],by rw[Zh (gP b _ q),q];simp⟩⟩ (fun b u q=> ?_) I.bare fun b hb=> ?_
   ·by_cases hb:b=s.heap.objs.size
    ·subst hb
     rw[Zc]at q
     cases q
     exact⟨by show 2≤sizeLine;decide,[.ref (xs[i]).2.1,(xs[i]).2.2],.cons rfl (.cons p3 .nil),⟨_,tT,rfl,0,rfl⟩⟩
    ·rw[Zh hb]at q
     refine(I.ag b u q).dP (fun c ob aV q'=>both c ob ?_ q') (fun c q'=>by rw[Zh (gP c _ q')];exact q') fun c ys q'=>by rw[Zh (gP c _ q')];exact q'
     rcases aV with z' |z'
     ·rw[z'];exact eJ b u q
     ·exact eJ c _ z'
   ·have e:b=it:=by simpa using hb
    subst e
    obtain⟨f0,f1,f2,f3,f4,f5⟩:=hf b (by simp)
    exact⟨f3,f1,f4,f5⟩
  ·have e:b=it:=by simpa using hb
   subst e
   rw[Zh (Nat.ne_of_lt Bz)]
   exact(hf b (by simp)).1
 done:=by
  intro X hP hw hK hc i pins s σ H E I hf st hg
  subst hP hw hK
  obtain⟨ok,ov,st⟩:=st
  obtain⟨hd,hi⟩:=hg
  have gh:=(show aO X.prog X.w H s.heap d (.aW o (.dT kvs)) from I.ag d _ hd).1
  refine QV (I.ok.hd hc) st gh gd gn hi fun h' k=> ⟨rfl,?_⟩
  have eJ:∀b u,H b=some u→b≠it:=fun b u q z=>by
   have:=(hf it (by simp)).1
   rw[z,this]at q;cases q
  refine I.call (g':=s.gens) (d':=s.drawn) (t':=s.toks) (h':=h') (ch:=[it]) ⟨fun b u q _ _ hx=>k b u (by simpa using hx) q,fun b u q _ _ hx=> ⟨u.slots,k b u (by simpa using hx) q⟩,fun b u q n hx=>n,fun b u q hx=> ⟨u,k b u (by simpa using hx) q⟩,fun b ys q=>q,fun b u v q=>q,fun b ps q=> ⟨#[],by rw[q];simp⟩⟩ (fun b u q=> ?_) I.bare fun b hb=> ?_
  ·refine(I.ag b u q).dP (fun c ob aV q'=>k c ob ?_ q') (fun _ q'=>q') fun _ _ q'=>q'
   rcases aV with z' |z'
   ·rw[z'];exact eJ b u q
   ·exact eJ c _ z'
  ·have e:b=it:=by simpa using hb
   subst e
   obtain⟨f0,f1,f2,f3,f4,f5⟩:=hf b (by simp)
   exact⟨f3,f1,f4,f5⟩
 self:=fun A i s Q E ⟨ok,ov,st⟩ h=>OJ st h
section
variable {X:Cx}{elts:List Expr}{kk:Nat}{tp:Pos}
theorem Rv {A:Around}{E:Value→Shared→Prop}{s:Shared}{d:Addr}{Q:Value→Shared→Prop}(ty:s.TypeIs (.ref d) "dict") (sm:(d==sysModules)=false) (q:Q (.ref s.heap.objs.size) {s with heap:=s.heap.push {cls:=.type "dict_items",data:=.fields #[.ref d]} }):wpAny (model X.prog X.w) A (call (.builtin "dict.items") [.ref d]) Q E s:=by
 refine wpAny_call_entry F.slot_dict_items ty F.entry_dict_items ?_ (F.args_dict_items_1 _)
 unfold Builtin.«dict.items» Builtin.Dict.noArgs
 refine wpAny_bind (wpAny_bind (wpAny_notOrdered_dict ty ?_))
 show wpAny _ _ (pure d) _ _ s
 refine wpAny_pure ?_
 show wpAny _ _ (Builtin.Dict.showsAll d >>=_) _ _ s
 unfold Builtin.Dict.showsAll
 rw[if_neg (by rw[sm];exact Bool.false_ne_true)]
 exact wpAny_bind (wpAny_pure (wpAny_bind (wpAny_newObj_type (wpAny_pure ⟨_,rfl,q⟩))))
theorem QL {A:Around}{E:Value→Shared→Prop}{s:Shared}{v d:Addr}{o:Obj}{es:Array DictEntry}{ep:Nat}{Q:Value→Shared→Prop}(gv:s.heap.IsItemsView v d) (g:s.heap.get? d=some o) (gd:o.data=.dict es ep) (hs:es.size≤sizeLine)
  (q:Q (.ref s.heap.objs.size) {s with heap:=s.heap.push {cls:=.type "dict_itemiterator",data:=.fields #[.none,.bool false,.ref d,.int 0 0,.int es.size 0,.int ep 0,.none,.none]} }):wpAny (model X.prog X.w) A (pyIter (.ref v)) Q E s:=by
 obtain⟨ov,xl,LZ,xE⟩:=id gv
 refine wpAny_pyIter_slot gv.typeIs F.slot_dict_items_iter (wpAny_call_entry F.slot_dict_items_iter gv.typeIs F.entry_dict_items_iter ?_ (F.args_dict_items_iter_1 _))
 unfold Builtin.«dict_items.__iter__»
 refine wpAny_bind (wpAny_pure (wpAny_bind ?_))
 unfold Builtin.Dict_items.dictOf
 refine wpAny_bind (wpAny_field xl xE (x:=.ref d) rfl (wpAny_pure (wpAny_bind ?_)))
 unfold Builtin.Dict_items.newIterator
 refine wpAny_bind (wpAny_dictEntries g gd (wpAny_bind (wpAny_dictEpoch g gd ?_)))
 have own:Builtin.Dict_items.ownsTuple "dict_itemiterator" =true:=by decide
 simp only[own,if_true]
 refine wpAny_newObj_type (wpAny_pure ⟨_,rfl, "dict_itemiterator",_,⟨_,Heap.get?_push_size _ rfl,rfl⟩,F.slot_dict_itemiterator_next.lookup,?_⟩)
  (by simp only[sizeOk,Builtin.Dict_items.ownedTupleFields,List.size_toArray,List.length_append,List.length_cons,List.length_nil,sizeLine_eq];omega)
 simpa[rawInt,Builtin.Dict_items.ownedTupleFields] using q
def Kh (to:TE):TI:=fun σ H R=>to σ H fun x H1=> ∃(d:Addr) (kvs:List (List Key×V)),x=.ref d∧H1 d=some (.dT kvs)∧∀o,R (za o d kvs) (upd H1 d (.aW o (.dT kvs)))
theorem Q3 {o:Expr}{to:TE}{apos bw:Pos}(ho:PE X o to) (qk:attributeBase o "items" X.env (eval o X.env)=eval o X.env:=by rfl) (pV:(apos.endLine==bw.line)=true:=by rfl):
  PI X (.Tuple elts kk tp) (.Call (.Attribute o "items" apos) [] [] bw) (Kh to):=by
 intro pins s σ H R I h
 refine wpAny_Call_method0_late qk pV (ar (ho pins s σ H _ I h) fun v s1 ⟨x,H1,I1,r1,d,kvs,ex,hd,q⟩=> ?_)
 subst ex
 cases r1
 obtain⟨z,sm,xs,pr,od,es,ep,g1,g2,g3,g4,g5⟩:=(show aO X.prog X.w H1 s1.heap d (.dT kvs) from I1.ag d _ hd)
 have ty:s1.TypeIs (.ref d) "dict" :=⟨_,g1,g2.1⟩
 refine⟨"dict", "dict.items",PySem.F.plainAttrs_dict,PySem.F.slot_dict_items,PySem.F.type_dict_items,ty,fun a e=>by cases e;exact⟨_,g1,g2.2.1⟩,Calls.callWith_builtin rfl (PySem.evalArgs_none ?_)⟩
 refine Rv ty sm ?_
 have gn:es.size=kvs.length:=by rw[Paired.length pr,←Array.length_toList,g4,List.length_map]
 have I2:Inv X pins σ H1 {s1 with heap:=s1.heap.push {cls:=.type "dict_items",data:=.fields #[.ref d]} } :=I1.kept (t':=s1.toks) fun b o q=>Heap.get?_push_of_some _ q
 have gv:(s1.heap.push {cls:=.type "dict_items",data:=.fields #[.ref d]}).IsItemsView s1.heap.objs.size d:=⟨_,Heap.get?_push_size _ rfl,rfl,rfl⟩
 have oj:(s1.heap.push {cls:=.type "dict_items",data:=.fields #[.ref d]}).get? d=some od:=Heap.get?_push_of_some _ g1
 generalize s1.heap.push {cls:=.type "dict_items",data:=.fields #[.ref d]} =h2 at I2 gv oj
 refine QL (s:= {s1 with heap:=h2}) gv oj g3 (by omega) ?_
 have I3:Inv X pins σ H1 {s1 with heap:=h2.push {cls:=.type "dict_itemiterator",data:=.fields #[.none,.bool false,.ref d,.int 0 0,.int es.size 0,.int ep 0,.none,.none]} } :=I2.kept (t':=s1.toks) fun b o q=>Heap.get?_push_of_some _ q
 have tR:(h2.push {cls:=.type "dict_itemiterator",data:=.fields #[.none,.bool false,.ref d,.int 0 0,.int es.size 0,.int ep 0,.none,.none]}).get? d=some od:=Heap.get?_push_of_some _ oj
 have nd:h2.objs.size≠d:=Nat.ne_of_gt (Heap.lt_size oj)
 refine⟨h2.objs.size,[h2.objs.size],_,_,_,rfl,I3.freeze hd tR,U5 h2.objs.size d kvs g3 gn nd,⟨.none,.none,?_⟩,fun b hb=> ?_,q od⟩
 ·show(h2.push _).get? h2.objs.size=_
  rw[gn]
  exact Heap.get?_push_size _ rfl
 ·have e:b=h2.objs.size:=by simpa using hb
  subst e
  have nn:H1 h2.objs.size=none:=I2.ag.fresh (Nat.le_refl _)
  exact I2.om (Nat.le_refl _) (by rw[Zh nd];exact nn)
end
theorem Rz {o:Obj}{d:Addr}{kvs:List (List Key×V)}{g:TG}{tt:TT}{ti:TC}{ys:List V}{σ:St}{H:Hp}{Q:List V→St→Hp→Prop}(Pv:Nat→List V→St→Hp→Prop) (h0:Pv 0 ys σ H)
  (hl:∀i ys σ H,Pv i ys σ H→H d=some (.aW o (.dT kvs)))
  (hs:∀i k y (T a:Addr) ys σ H,kvs[i]? =some (k,y)→H T=none→H a=some (.tup (k.map kV))→Pv i ys σ H→g (.ref T) σ (upd H T (.par [.ref a,y])) fun bC H2=>tt bC H2 fun b H3=>if b=true then ti ys bC H3 (Pv (i+1)) else Pv (i+1) ys bC H3)
  (hd:∀ys σ H,Pv kvs.length ys σ H→Q ys σ H):iB g tt ti (za o d kvs) ys σ H Q:=by
 refine⟨fun i m ys σ H=>m=kvs.length - i∧i≤kvs.length∧Pv i ys σ H,⟨kvs.length,by simp,Nat.zero_le _,h0⟩,?_⟩
 rintro i m ys σ H ⟨rfl,hi,p⟩
 have e:=hl i ys σ H p
 by_cases aA:i<kvs.length
 ·refine .inr ⟨⟨e,aA⟩,Pv (i+1),fun bJ ai H' p'=> ⟨kvs.length - (i+1),by omega,rfl,aA,p'⟩,fun x H' y=> ?_⟩
  obtain⟨T,a,k,v,e1,e2,e3,e4,e5⟩:=y
  subst e1 e5
  exact hs i k v T a ys σ H e3 e2 e4 p
 ·have e':i=kvs.length:=by omega
  subst e'
  exact .inl ⟨⟨e,Nat.le_refl _⟩,hd ys σ H p⟩
end L2
namespace PyProof.Rows.fP
open PySem
section
variable {prog:Program}{w:World}{A:Around}{R:Result→Shared→Prop}{lt:Value→Value→Bool}{vs:List Value}{h0:Heap}{kw:List (Str×Value)}
theorem QQ (hh:A.in1.handled=none) {I l S:Addr}(tF:l≠I) (mw:S≠I) (tP:S≠l) (zI:h0.get? I=none) (zS:h0.get? S=none)
  (xH:∀(s':Shared) u v (Q:Value→Shared→Prop) (E:Value→Shared→Prop),Kp h0 s'.heap→u∈vs→v∈vs→Q (.bool (lt u v)) s'→wpAny (model prog w) A.in1 (richCompare .Gt u v) Q E s'):
  ∀(k j:Nat) (s:Shared) (vb:Value) (c:Nat),vs.length - j=k→j≤vs.length→s.heap.IsListIter I l j→s.heap.IsList l vs.toArray→vb∈vs→Kp h0 s.heap→
  s.heap.get? S=some {cls:=.type "list",dict:=none,data:=.seq #[vb,vb] c,slots:= #[]}→
  (∀h' tk,Kp h0 h'→R (.ok (.ret (iQ lt vb (vs.drop j)))) {s with heap:=h',toks:=tk})→
  codeAny (model prog w) A (.builtin "max.loop" ⟨[.ref I,.none,.ref S],kw⟩) R s:=by
 have pR:(toString "max" ++toString ".loop" :String)= "max.loop" :=by decide
 have W:=Walks.list (prog:=prog) (w:=w) (A:=A.in1) hh I l tF vs.toArray
 have hsz:vs.toArray.size=vs.length:=List.size_toArray ..
 have ne:∀b o,h0.get? b=some o→b∉[I]∧b≠S:=fun b o e=> ⟨fun m=> (by rw[List.mem_singleton.mp m,zI]at e;cases e),fun m=> (by rw[m,zS]at e;cases e)⟩
 intro k
 induction k with
 |zero=>
  intro j s vb c hk hj hit xo hb xr hS hR
  have nX:j=vs.toArray.size:=by omega
  refine codeAny_builtin F.entry_max_loop ?_
  rw[Around.under_plainId F.plain_max_loop _]
  show wpAny _ A.in1 (seqItems? (.ref S) >>=_) _ _ s
  refine wpAny_bind (wpAny_seqItems hS rfl ?_)
  show wpAny _ A.in1 (tryCatch (pyNext (.ref I)) _ >>=_) _ _ s
  refine wpAny_bind (wpAny_tryCatch (W.done s _ _ (nX▸⟨hit,xo⟩) fun h' tk aY=> ?_))
  have qu:=aY S _ (by simpa using mw) hS
  show wpAny _ A.in1 (updateSeq S (fun _=> #[]) >>=_) _ _ _
  refine wpAny_bind ?_
  refine wpAny_updateSeq qu rfl (wpAny_bind (wpAny_letGo (wpAny_pure ?_)))
  have e:vs.drop j=[]:=List.drop_eq_nil_of_le (by omega)
  rw[e]at hR
  exact hR _ tk fun b o q=> (Heap.get?_update_other _ _ (Ne.symm (ne b o q).2)).trans (aY b o (ne b o q).1 (xr b o q))
 |succ k ih=>
  intro j s vb c hk hj hit xo hb xr hS hR
  have aA:j<vs.length:=by omega
  refine codeAny_builtin F.entry_max_loop ?_
  rw[Around.under_plainId F.plain_max_loop _]
  show wpAny _ A.in1 (seqItems? (.ref S) >>=_) _ _ s
  refine wpAny_bind (wpAny_seqItems hS rfl ?_)
  show wpAny _ A.in1 (tryCatch (pyNext (.ref I)) _ >>=_) _ _ s
  refine wpAny_bind (wpAny_tryCatch (W.item j s _ _ (by omega) ⟨hit,xo⟩ fun v h' tk hP pK aY=> ?_))
  have hv:vs[j]? =some v:=by simpa using hP
  have BP:v∈vs:=List.mem_of_getElem? hv
  have qu:=aY S _ (by simpa using mw) hS
  have pH:Kp h0 h':=fun b o q=>aY b o (ne b o q).1 (xr b o q)
  have ed:vs.drop j=v::vs.drop (j+1):=by
   have e2:vs[j]=v:=(List.getElem?_eq_some_iff.mp hv).2
   rw[List.drop_eq_getElem_cons aA,e2]
  rw[ed]at hR
  show wpAny _ A.in1 (tryCatch (holding [v,v] (richCompare .Gt v vb >>=_)) _ >>=_) _ _ _
  refine wpAny_bind (wpAny_tryCatch (wpAny_holding (wpAny_bind (xH _ v vb _ _ pH BP hb ?_))))
  refine wpAny_bind (wpAny_holding (wpAny_truthy_bool ?_))
  refine wpAny_bind (wpAny_letGo (wpAny_pure ?_))
  cases gk:lt v vb with
  |true=>
   simp only[if_true]
   refine wpAny_bind ?_
   refine wpAny_updateSeq qu rfl (wpAny_bind (wpAny_letGo ?_))
   rw[pR]
   have fr:=W.frame (j+1) _ (h'.update S (Obj.mapSeq fun _=> #[v,v])) pK fun b qj o e=> (Heap.get?_update_other _ _ (fun h:S=b=>by
    simp only[List.mem_cons,List.not_mem_nil,or_false]at qj
    rcases qj with q |q
    ·exact mw (h.trans q)
    ·exact tP (h.trans q))).trans e
   refine wpAny_pure ⟨plainId_quiet F.plain_max_loop _,ih (j+1) _ v _ (by omega) aA fr.1 fr.2 BP (fun b o q=> (Heap.get?_update_other _ _ (Ne.symm (ne b o q).2)).trans (pH b o q)) (Heap.get?_update_self _ qu rfl) fun fj oQ ke=> ?_⟩
   have z:=hR fj oQ ke
   unfold iQ at z
   rw[if_pos gk]at z
   exact z
  |false=>
   simp only[Bool.false_eq_true,if_false]
   refine wpAny_bind (wpAny_letGo ?_)
   rw[pR]
   refine wpAny_pure ⟨plainId_quiet F.plain_max_loop _,ih (j+1) _ vb c (by omega) aA pK.1 pK.2 hb pH qu fun fj oQ ke=> ?_⟩
   have z:=hR fj oQ ke
   unfold iQ at z
   rw[if_neg (by rw[gk];exact Bool.false_ne_true)]at z
   exact z
theorem JB (a v:Value):argsOk "max" ⟨[a],[(Str.ofString "default",v)]⟩:=by unfold argsOk;kernel_rfl
theorem QB {dv:Value}{E:Value→Shared→Prop}{s:Shared}{Q:Value→Shared→Prop}{l:Addr}(hh:A.in1.handled=none) (nV:s.heap.IsList l vs.toArray)
  (xH:∀(s':Shared) u v (Q:Value→Shared→Prop) (E:Value→Shared→Prop),Kp s.heap s'.heap→u∈vs→v∈vs→Q (.bool (lt u v)) s'→wpAny (model prog w) A.in1 (richCompare .Gt u v) Q E s')
  (h1:∀h' tk,vs=[]→Kp s.heap h'→Q dv {s with heap:=h',toks:=tk}) (h2:∀v r h' tk,vs=v::r→Kp s.heap h'→Q (iQ lt v r) {s with heap:=h',toks:=tk}):
  wpAny (model prog w) A (call (.builtin "max") [.ref l] [(Str.ofString "default",dv)]) Q E s:=by
 have pR:(toString "max" ++toString ".loop" :String)= "max.loop" :=by decide
 obtain⟨ol,K2,_⟩:=id nV
 have Ct:l<s.heap.objs.size:=Heap.lt_size K2
 refine kmk_tree PySem.F.kind_max PySem.F.plain_max PySem.F.entry_max (JB _ _) ?_
 show wpAny _ A.in1 (Builtin.Builtins.bindParams "max" ["key", "default"] 0 ⟨[],[(Str.ofString "default",dv)]⟩ >>=_) _ _ s
 refine wpAny_bind (wpAny_of_eq (show Builtin.Builtins.bindParams "max" ["key", "default"] 0 ⟨[],[(Str.ofString "default",dv)]⟩=pure [none,some dv] from rfl) ?_)
 refine wpAny_bind (wpAny_pure ?_)
 refine wpAny_bind (wpAny_pyIter_list nV ?_)
 refine wpAny_bind (wpAny_newList ?_ (Nat.zero_le _))
 rw[pR]
 have hS:(s.heap.push {cls:=.type "list_iterator",data:=.fields #[.ref l,.int 0 0]}).objs.size=s.heap.objs.size+1:=size_push' ..
 have tF:l≠s.heap.objs.size:=Nat.ne_of_lt Ct
 have mw:(s.heap.push {cls:=.type "list_iterator",data:=.fields #[.ref l,.int 0 0]}).objs.size≠s.heap.objs.size:=by rw[hS];exact Nat.ne_of_gt (Nat.lt_succ_self _)
 have tP:(s.heap.push {cls:=.type "list_iterator",data:=.fields #[.ref l,.int 0 0]}).objs.size≠l:=by rw[hS];exact Nat.ne_of_gt (Nat.lt_succ_of_lt Ct)
 have zI:s.heap.get? s.heap.objs.size=none:=Heap.get?_none_of_le (Nat.le_refl _)
 have zS:s.heap.get? (s.heap.push {cls:=.type "list_iterator",data:=.fields #[.ref l,.int 0 0]}).objs.size=none:=Heap.get?_none_of_le (by rw[hS];exact Nat.le_succ _)
 refine wpAny_pure ⟨plainId_quiet PySem.F.plain_max_loop _,?_⟩
 have wK:Kp s.heap ((s.heap.push {cls:=.type "list_iterator",data:=.fields #[.ref l,.int 0 0]}).push (seqObj "list" #[] 0)):=fun b o e=>Heap.get?_push_of_some _ (Heap.get?_push_of_some _ e)
 have gI:((s.heap.push {cls:=.type "list_iterator",data:=.fields #[.ref l,.int 0 0]}).push (seqObj "list" #[] 0)).get? s.heap.objs.size=some {cls:=.type "list_iterator",data:=.fields #[.ref l,.int 0 0]} :=
  Heap.get?_push_of_some _ (Heap.get?_push_size _ rfl)
 have gS:((s.heap.push {cls:=.type "list_iterator",data:=.fields #[.ref l,.int 0 0]}).push (seqObj "list" #[] 0)).get? (s.heap.push {cls:=.type "list_iterator",data:=.fields #[.ref l,.int 0 0]}).objs.size=some (seqObj "list" #[] 0):=Heap.get?_push_size _ rfl
 have lH:((s.heap.push {cls:=.type "list_iterator",data:=.fields #[.ref l,.int 0 0]}).push (seqObj "list" #[] 0)).IsList l vs.toArray:=nV.at fun o e=>wK _ _ e
 have W:=Walks.list (prog:=prog) (w:=w) (A:=A.in1) hh s.heap.objs.size l tF vs.toArray
 have hsz:vs.toArray.size=vs.length:=List.size_toArray ..
 have ne:∀b o,s.heap.get? b=some o→b∉[s.heap.objs.size]∧b≠(s.heap.push {cls:=.type "list_iterator",data:=.fields #[.ref l,.int 0 0]}).objs.size:=fun b o e=> ⟨fun m=> (by rw[List.mem_singleton.mp m,zI]at e;cases e),fun m=> (by rw[m,zS]at e;cases e)⟩
 refine codeAny_builtin PySem.F.entry_max_loop ?_
 rw[Around.under_plainId PySem.F.plain_max_loop _]
 show wpAny _ A.in1 (seqItems? (.ref _) >>=_) _ _ _
 refine wpAny_bind (wpAny_seqItems gS rfl ?_)
 show wpAny _ A.in1 (tryCatch (pyNext (.ref s.heap.objs.size)) _ >>=_) _ _ _
 cases j6:vs with
 |nil=>
  refine wpAny_bind (wpAny_tryCatch (W.done _ _ _ ⟨⟨_,gI,rfl,by rw[hsz,j6];rfl⟩,lH⟩ fun h' tk aY=> ?_))
  refine wpAny_bind (wpAny_rule ?_)
  exact wpAny_pure (h1 h' tk j6 fun b o q=>aY b o (ne b o q).1 (wK b o q))
 |cons v0 r0=>
  refine wpAny_bind (wpAny_tryCatch (W.item 0 _ _ _ (by rw[hsz,j6];exact Nat.succ_pos _) ⟨⟨_,gI,rfl,rfl⟩,lH⟩ fun v h' Fo hP pK aY=> ?_))
  have hv:v0=v:=by
   rw[j6]at hP
   simpa using hP
  subst hv
  have C4:=aY _ _ (by simpa using mw) gS
  have pH:Kp s.heap h':=fun b o q=>aY b o (ne b o q).1 (wK b o q)
  show wpAny _ A.in1 (updateSeq (s.heap.push {cls:=.type "list_iterator",data:=.fields #[.ref l,.int 0 0]}).objs.size (fun _=> #[v0,v0]) >>=_) _ _ _
  refine wpAny_bind ?_
  refine wpAny_updateSeq C4 rfl ?_
  rw[pR]
  have fr:=W.frame (0+1) _ (h'.update (s.heap.push {cls:=.type "list_iterator",data:=.fields #[.ref l,.int 0 0]}).objs.size (Obj.mapSeq fun _=> #[v0,v0])) pK fun b qj o e=> (Heap.get?_update_other _ _ (fun h=>by
    simp only[List.mem_cons,List.not_mem_nil,or_false]at qj
    rcases qj with q |q
    ·exact mw (h.trans q)
    ·exact tP (h.trans q))).trans e
  refine wpAny_pure ⟨plainId_quiet PySem.F.plain_max_loop _,QQ (lt:=lt) (vs:=vs) (h0:=s.heap) hh tF mw tP zI zS xH _ 1 _ v0 _ rfl (by rw[j6];exact Nat.succ_le_succ (Nat.zero_le _)) fr.1 fr.2 (by rw[j6];exact List.mem_cons_self) (fun b o q=> (Heap.get?_update_other _ _ (Ne.symm (ne b o q).2)).trans (pH b o q)) (Heap.get?_update_self _ C4 rfl) fun fj oQ ke=> ?_⟩
  have z:=h2 v0 r0 fj oQ j6 ke
  rw[j6]
  exact z
end
end PyProof.Rows.fP
namespace L2
open PySem PySem.Spec PyProof.Rows PyProof.Rows.fP
section
variable {prog:Program}{w:World}{A:Around}{E:Value→Shared→Prop}{s:Shared}{it d:Addr}{i n ep:Nat}{od:Obj}{es:Array DictEntry}
theorem RJ {en:DictEntry}{Q:Option Value→Shared→Prop}(hit:s.heap.IsValIter it d i n ep) (go:s.heap.get? d=some od) (gd:od.data=.dict es ep) (gn:es.size=n) (gx:es[i]? =some en)
  (hQ:∀h',h'.IsValIter it d (i+1) n ep→Heap.SameBut it s.heap h'→Q (some en.val) {s with heap:=h'}):wpAny (model prog w) A (pyNext (.ref it)) Q E s:=by
 obtain⟨o,ho,hc,hd⟩:=id hit
 unfold pyNext
 refine wpAny_bind (wpAny_attempt (wpAny_callSpecial?_slot (name:=Str.ofString "__next__") hit.typeIs F.slot_dict_valueiterator_next (wpAny_call_entry F.slot_dict_valueiterator_next hit.typeIs F.entry_dict_valueiterator_next ?_ (F.args_dict_valueiterator_next_1 _))))
 refine wpAny_bind (wpAny_pure (wpAny_bind (wpAny_bind ?_)))
 first |refine wpAny_bind (wpAny_typeNameOfWhole_valiter hit.typeIs (wpAny_pure ?_)) |refine wpAny_bind (wpAny_typeNameOf_valiter hit.typeIs (wpAny_pure ?_))
 refine wpAny_bind (wpAny_fieldsOf ho hd ?_)
 have pO:Builtin.Dict_items.ownsTuple "dict_valueiterator" =false:=by decide
 simp only[pO,Bool.false_eq_true,if_false]
 show wpAny _ _ (if (Value.ref d==Value.none)=true then _ else _) _ _ s
 rw[if_neg (show ¬((Value.ref d==Value.none)=true) from Bool.false_ne_true)]
 refine wpAny_bind (wpAny_pure (wpAny_bind (wpAny_dictEntries go gd ?_)))
 rw[if_neg (by rw[gn];simp)]
 refine wpAny_bind (wpAny_pure (wpAny_bind (wpAny_dictEpoch go gd ?_)))
 rw[if_neg (by simp)]
 refine wpAny_pure ?_
 simp only[show ¬((i:Int)<0) from by omega,if_false,Int.toNat_natCast,gx]
 refine wpAny_bind ?_
 first |refine wpAny_bind (wpAny_typeNameOfWhole_valiter hit.typeIs (wpAny_pure ?_)) |refine wpAny_bind (wpAny_typeNameOf_valiter hit.typeIs (wpAny_pure ?_))
 refine wpAny_bind (wpAny_isOneOf_valiter hit.typeIs ?_)
 show wpAny _ _ (setField (.ref it) 1 (rawInt ((i:Int)+1)) >>=_) _ _ s
 refine wpAny_bind (wpAny_setField ho hd (by simp) ?_)
 have p8:(s.heap.update it (Obj.mapFields (·.setIfInBounds 1 (rawInt ((i:Int)+1))))).IsValIter it d (i+1) n ep:=
  ⟨_,Heap.get?_update_self _ ho (Obj.isFreed_of_fields (Obj.data_mapFields hd _)),(Obj.cls_mapFields ..).trans hc,by rw[Obj.data_mapFields hd];simp[rawInt]⟩
 refine wpAny_bind (wpAny_holding ?_)
 refine wpAny_bind (wpAny_isOneOf_valiter (s:= {s with heap:=s.heap.update it (Obj.mapFields (·.setIfInBounds 1 (rawInt ((i:Int)+1))))}) p8.typeIs ?_)
 refine wpAny_bind (wpAny_isOneOf_valiter (s:= {s with heap:=s.heap.update it (Obj.mapFields (·.setIfInBounds 1 (rawInt ((i:Int)+1))))}) p8.typeIs ?_)
 show wpAny _ _ (pure en.val) _ _ _
 exact wpAny_pure (wpAny_pure ⟨_,rfl,wpAny_pure (hQ _ p8 (Heap.SameBut.update ..))⟩)
theorem RB {Q:Option Value→Shared→Prop}(hh:A.handled=none) (hit:s.heap.IsValIter it d i n ep) (go:s.heap.get? d=some od) (gd:od.data=.dict es ep) (gn:es.size=n) (bq:n≤i)
  (hQ:∀h',Heap.ExtBut it s.heap h'→Q none {s with heap:=h'}):wpAny (model prog w) A (pyNext (.ref it)) Q E s:=by
 obtain⟨o,ho,hc,hd⟩:=id hit
 unfold pyNext
 refine wpAny_bind (wpAny_attempt (wpAny_callSpecial?_slot (name:=Str.ofString "__next__") hit.typeIs F.slot_dict_valueiterator_next (wpAny_call_entry F.slot_dict_valueiterator_next hit.typeIs F.entry_dict_valueiterator_next ?_ (F.args_dict_valueiterator_next_1 _))))
 refine wpAny_bind (wpAny_pure (wpAny_bind (wpAny_bind ?_)))
 first |refine wpAny_bind (wpAny_typeNameOfWhole_valiter hit.typeIs (wpAny_pure ?_)) |refine wpAny_bind (wpAny_typeNameOf_valiter hit.typeIs (wpAny_pure ?_))
 refine wpAny_bind (wpAny_fieldsOf ho hd ?_)
 have pO:Builtin.Dict_items.ownsTuple "dict_valueiterator" =false:=by decide
 simp only[pO,Bool.false_eq_true,if_false]
 show wpAny _ _ (if (Value.ref d==Value.none)=true then _ else _) _ _ s
 rw[if_neg (show ¬((Value.ref d==Value.none)=true) from Bool.false_ne_true)]
 refine wpAny_bind (wpAny_pure (wpAny_bind (wpAny_dictEntries go gd ?_)))
 rw[if_neg (by rw[gn];simp)]
 refine wpAny_bind (wpAny_pure (wpAny_bind (wpAny_dictEpoch go gd ?_)))
 rw[if_neg (by simp)]
 refine wpAny_pure ?_
 simp only[show ¬((i:Int)<0) from by omega,if_false,Int.toNat_natCast,Array.getElem?_eq_none (show es.size≤i by omega)]
 refine wpAny_bind ?_
 first |refine wpAny_bind (wpAny_typeNameOfWhole_valiter hit.typeIs (wpAny_pure ?_)) |refine wpAny_bind (wpAny_typeNameOf_valiter hit.typeIs (wpAny_pure ?_))
 show wpAny _ _ (setField (.ref it) 0 .none >>=_) _ _ s
 refine wpAny_bind (wpAny_setField ho hd (by simp) ?_)
 show wpAny _ _ (newExc (.type "StopIteration") [] >>=_) _ _ _
 refine wpAny_bind ?_
 simp only[newExc,newTuple]
 refine wpAny_bind (wpAny_newObj_type ?_ (by size_fits))
 refine wpAny_bind (m:=firstArgMember _ _) (wpAny_of_eq (a:=Value.none) (by first |rfl |(simp only[firstArgMember];rfl)) ?_)
 refine wpAny_newObj_type ?_ (by size_fits)
 simp only[raiseNew]
 refine wpAny_bind (wpAny_handled ?_)
 rw[show A.in1.handled=none from hh]
 refine wpAny_bind (wpAny_pure (wpAny_throw ?_))
 refine wpAny_bind (wpAny_isInstance (T:= "StopIteration") (b:=true) ⟨_,Heap.get?_push_size _ rfl,rfl⟩ isSubtype_stop ?_)
 exact wpAny_pure (hQ _ (((Heap.SameBut.update ..).extBut.push _).push _))
theorem Rw {v:Addr}{Q:Value→Shared→Prop}(gv:s.heap.IsValuesView v d) (g:s.heap.get? d=some od) (gd:od.data=.dict es ep)
  (q:Q (.ref s.heap.objs.size) {s with heap:=s.heap.push {cls:=.type "dict_valueiterator",data:=.fields #[.ref d,.int 0 0,.int es.size 0,.int ep 0]} }):wpAny (model prog w) A (pyIter (.ref v)) Q E s:=by
 obtain⟨ov,xl,LZ,xE⟩:=id gv
 refine wpAny_pyIter_slot gv.typeIs F.slot_dict_values_iter (wpAny_call_entry F.slot_dict_values_iter gv.typeIs F.entry_dict_values_iter ?_ (F.args_dict_values_iter_1 _))
 unfold Builtin.«dict_values.__iter__»
 refine wpAny_bind (wpAny_pure (wpAny_bind ?_))
 unfold Builtin.Dict_items.dictOf
 refine wpAny_bind (wpAny_field xl xE (x:=.ref d) rfl (wpAny_pure (wpAny_bind ?_)))
 unfold Builtin.Dict_items.newIterator
 refine wpAny_bind (wpAny_dictEntries g gd (wpAny_bind (wpAny_dictEpoch g gd ?_)))
 have pO:Builtin.Dict_items.ownsTuple "dict_valueiterator" =false:=by decide
 simp only[pO,Bool.false_eq_true,if_false]
 refine wpAny_newObj_type (wpAny_pure ⟨_,rfl, "dict_valueiterator",_,⟨_,Heap.get?_push_size _ rfl,rfl⟩,F.slot_dict_valueiterator_next.lookup,?_⟩)
 simpa[rawInt] using q
theorem U2 (hh:A.handled=none) (I d:Addr) (bZ:d≠I) (gd:od.data=.dict es ep):
  Walks prog w A I [I,d] [I] es.size (fun i v=> ∃en,es[i]? =some en∧en.val=v) (fun i h=>h.IsValIter I d i es.size ep∧h.get? d=some od) where
 sub:=fun b hb=>by simp at hb;simp[hb]
 frame:=fun _ _ _ st hk=> ⟨st.1.at fun o e=>hk I (by simp) o e,hk d (by simp) _ st.2⟩
 item:=fun i s Q E hi st hQ=>by
  refine RJ st.1 st.2 gd rfl (Array.getElem?_eq_getElem hi) fun h' p8 BY=> ?_
  exact hQ _ h' s.toks ⟨_,Array.getElem?_eq_getElem hi,rfl⟩ ⟨p8,BY.extBut d _ bZ st.2⟩ fun b o hb e=>BY.extBut b o (fun h=>hb (by simp[h])) e
 done:=fun s Q E st hQ=>RB hh st.1 st.2 gd rfl (Nat.le_refl _) fun h' xD=>hQ h' s.toks fun b o hb e=>xD b o (fun h=>hb (by simp[h])) e
 self:=fun _ _ _ _ st hQ=>wpAny_pyIter_valiter st.1 hQ
theorem Qw {r:Addr}(gd:od.data=.dict es ep):PySem.W.KdlSrc prog w "dict_values" r d es.size (fun i v=> ∃en,es[i]? =some en∧en.val=v) (fun h=>h.IsValuesView r d∧h.get? d=some od) where
 type:=fun _ hm=>hm.1.typeIs
 there:=fun _ hm=> ⟨let ⟨_,ho,_⟩:=hm.1;Heap.lt_size ho,Heap.lt_size hm.2⟩
 keep:=fun _ _ hm hk=> ⟨let ⟨o,ho,x⟩:=hm.1;⟨o,hk r (.inl rfl) o ho,x⟩,hk d (.inr rfl) _ hm.2⟩
 notList:=by decide
 notTuple:=by decide
 hint:=fun _ _ _ _ hm hq=>PySem.W.kdl_hint_values hm.1.typeIs hq
 iter:=fun _ _ hh hm=> ⟨_,_,(fun _ _ hq=>Rw hm.1 hm.2 gd hq),U2 hh _ d (Nat.ne_of_lt (Heap.lt_size hm.2)) gd,⟨⟨_,Heap.get?_push_size _ rfl,rfl,rfl⟩,Heap.get?_push_of_some _ hm.2⟩⟩
theorem Uo {Q:Value→Shared→Prop}(ty:s.TypeIs (.ref d) "dict") (sm:(d==sysModules)=false) (q:Q (.ref s.heap.objs.size) {s with heap:=s.heap.push {cls:=.type "dict_values",data:=.fields #[.ref d]} }):wpAny (model prog w) A (call (.builtin "dict.values") [.ref d]) Q E s:=by
 refine wpAny_call_entry F.slot_dict_values ty F.entry_dict_values ?_ (F.args_dict_values_1 _)
 refine wpAny_bind ?_
 unfold Builtin.Dict.noArgs
 refine wpAny_bind (wpAny_notOrdered_dict ty ?_)
 show wpAny _ _ (pure d) _ _ s
 refine wpAny_pure ?_
 show wpAny _ _ (Builtin.Dict.showsAll d >>=_) _ _ s
 unfold Builtin.Dict.showsAll
 rw[if_neg (by rw[sm];exact Bool.false_ne_true)]
 exact wpAny_bind (wpAny_pure (wpAny_bind (wpAny_newObj_type (wpAny_pure ⟨_,rfl,q⟩))))
end
theorem J8 {α β:Type}{R:α→β→Prop} :∀{xs:List α}{ys:List β},xs.length=ys.length→(∀(j:Nat) x y,xs[j]? =some x→ys[j]? =some y→R x y)→Paired R xs ys
 | [],[],_,_=> .nil
 |x::xs,y::ys,hl,h=> .cons (h 0 x y rfl rfl) (J8 (by simpa using hl) fun j a b ha hb=>h (j+1) a b ha hb)
section
variable {X:Cx}
def jF (v d:Addr):HO:=.ext fun h=>h.IsValuesView v d
def FN (to:TE):TE:=fun σ H Q=>to σ H fun x H1=> ∃(d:Addr) (kvs:List (List Key×V)),x=.ref d∧H1 d=some (.dT kvs)∧∀v,H1 v=none→Q (.ref v) (upd H1 v (jF v d))
theorem WK {o:Expr}{to:TE}{apos bw:Pos}(ho:PE X o to) (qk:attributeBase o "values" X.env (eval o X.env)=eval o X.env:=by rfl) (pV:(apos.endLine==bw.line)=true:=by rfl):
  PE X (.Call (.Attribute o "values" apos) [] [] bw) (FN to):=by
 intro pins s σ H Q I h
 refine wpAny_Call_method0_late qk pV (ar (ho pins s σ H _ I h) fun v s1 ⟨x,H1,I1,r1,d,kvs,ex,hd,q⟩=> ?_)
 subst ex
 cases r1
 obtain⟨z,sm,xs,pr,od,es,ep,g1,g2,g3,g4,g5⟩:=(show aO X.prog X.w H1 s1.heap d (.dT kvs) from I1.ag d _ hd)
 have ty:s1.TypeIs (.ref d) "dict" :=⟨_,g1,g2.1⟩
 refine⟨"dict", "dict.values",PySem.F.plainAttrs_dict,PySem.F.slot_dict_values,PySem.F.type_dict_values,ty,fun a e=>by cases e;exact⟨_,g1,g2.2.1⟩,Calls.callWith_builtin rfl (PySem.evalArgs_none ?_)⟩
 refine Uo ty sm ?_
 have gv:(s1.heap.push {cls:=.type "dict_values",data:=.fields #[.ref d]}).IsValuesView s1.heap.objs.size d:=⟨_,Heap.get?_push_size _ rfl,rfl,rfl⟩
 refine⟨.ref s1.heap.objs.size,_,I1.laid (t':=s1.toks) (fun b o q=>Heap.get?_push_of_some _ q) (Nat.le_refl _) (show aO X.prog X.w _ _ _ (jF s1.heap.objs.size d) from ⟨gv,⟨_,Heap.get?_push_size _ rfl⟩,fun h1 h2 a k=> ?_⟩),rfl,q _ (I1.ag.fresh (Nat.le_refl _))⟩
 obtain⟨o,e1,e2⟩:=a
 exact⟨o,k o e1,e2⟩
theorem YY (hc:X.calm=true:=by rfl):cU X (.type "list") (fun xs H Q=> ∃(v d:Addr) (kvs:List (List Key×V)),xs=[.ref v]∧H v=some (jF v d)∧H d=some (.dT kvs)∧∀l,H l=none→Q (.ref l) (upd H l (.lst (kvs.map (·.2))))):=by
 intro pins s σ H xs us Q I r h
 obtain⟨v,d,kvs,rfl,hv,hd,q⟩:=h
 obtain⟨u,rfl,rx⟩:=vals1 r
 cases rx
 obtain⟨z,sm,xs,pr,od,es,ep,g1,g2,g3,g4,g5⟩:=(show aO X.prog X.w H s.heap d (.dT kvs) from I.ag d _ hd)
 obtain⟨gv,_,_⟩:=(show aO X.prog X.w H s.heap v (jF v d) from I.ag v _ hv)
 have gn:es.size=kvs.length:=by rw[Paired.length pr,←Array.length_toList,g4,List.length_map]
 refine PySem.W.kdl_call (Qw g3) (I.ok.hd hc) ⟨gv,g1⟩ (by omega) fun h' tk uc c' kp e it=> ?_
 have vals:Vals (kvs.map (·.2)) uc.toList:=by
  refine J8 ?_ ?_
  ·have z1:=it.1
   have z2:uc.toList.length=uc.size:=Array.length_toList
   rw[List.length_map];omega
  ·intro j x y hx hy
   rw[List.getElem?_map]at hx
   obtain⟨kv,gz,rfl⟩:=Option.map_eq_some_iff.mp hx
   obtain⟨q',jm,p1,p2,p3⟩:=Y7 pr gz
   obtain⟨en,he,ev⟩:=it.2 j y (by rw[←Array.getElem?_toList];exact hy)
   have xD:es[j]? =some (entryOfKey (tupleKind (dW X.prog X.w)) q'):=by rw[←Array.getElem?_toList,g4,List.getElem?_map,jm];rfl
   rw[xD]at he
   cases he
   rw[←ev]
   exact p3
 exact⟨.ref s.heap.objs.size,_,I.laid (t':=tk) kp (Nat.le_refl _) (show aO X.prog X.w _ h' _ (.lst (kvs.map (·.2))) from ⟨by rw[List.length_map];exact z,uc.toList,c',vals,by simpa using e⟩),rfl,q _ (I.ag.fresh (Nat.le_refl _))⟩
def cE:Value→Int
 | .int a _=>a
 |_=>0
theorem Wh:∀{r:List Value}{b:Value},∀v∈b::r,cE v≤cE (iQ (fun u v=>decide (cE v<cE u)) b r)
 | [],b,v,h=>by rw[List.mem_singleton.mp h];exact Int.le_refl _
 |x::r,b,v,h=>by
  unfold iQ
  have ih:=fun w hw=>Wh (r:=r) (b:=if (fun u v=>decide (cE v<cE u)) x b=true then x else b) w hw
  have h0:=ih _ List.mem_cons_self
  have le:cE b≤cE (if (fun u v=>decide (cE v<cE u)) x b=true then x else b)∧cE x≤cE (if (fun u v=>decide (cE v<cE u)) x b=true then x else b):=by
   by_cases z:cE b<cE x
   ·rw[if_pos (by simpa using z)];omega
   ·rw[if_neg (by simpa using z)];omega
  rcases List.mem_cons.mp h with rfl |h
  ·exact Int.le_trans le.1 h0
  ·rcases List.mem_cons.mp h with rfl |h
   ·exact Int.le_trans le.2 h0
   ·exact ih v (List.mem_cons_of_mem _ h)
theorem WB:∀{ns:List Int}{its:List Value},Vals (ns.map V.int) its→(∀u∈its,∃a t,u=.int a t∧a∈ns)∧its.map cE=ns
 | [],its,r=>by cases r;exact⟨(fun u hu=>by cases hu),rfl⟩
 |n::ns,its,r=>by
  cases r with
  |cons r1 r2=>
   obtain⟨t,rfl⟩:=r1
   obtain⟨h1,h2⟩:=WB r2
   refine⟨fun u hu=> ?_,by rw[List.map_cons,h2];rfl⟩
   rcases List.mem_cons.mp hu with rfl |hu
   ·exact⟨n,t,rfl,List.mem_cons_self⟩
   ·obtain⟨a,t',e,m⟩:=h1 u hu
    exact⟨a,t',e,List.mem_cons_of_mem _ m⟩
def F3 (K:PySem.W.Frag) (d:Int) (te:TE):TE:=fun σ H Q=>te σ H fun v H1=> ∃(a:Addr) (ns:List Int),v=.ref a∧ah K H1 a (ns.map V.int)∧(ns=[]→Q (.int d) H1)∧∀M,M∈ns→(∀a∈ns,a≤M)→Q (.int M) H1
theorem EE {ef:Expr}{yq:List Expr}{yn:List Keyword}{yp:Pos}{te:TE}{d:Int}{p kp pG pos:Pos}(hc:X.calm=true) (hg:Gl X "max") (hm:X.mg "max" =none) (he:PE X (.Call ef yq yn yp) te)
  (mn:(backToKw pos (keywordEach [⟨some "default",.Constant (.int d) 0 kp,pG⟩] X.env)).filterMap (·.1)=[Str.ofString "default"]:=by rfl):
  PE X (.Call (.Name "max" p) [.Call ef yq yn yp] [⟨some "default",.Constant (.int d) 0 kp,pG⟩] pos) (F3 X.K d te):=by
 intro pins s σ H Q I h
 refine wpAny_Call_Name_kw (Jb I hg hm PyProof.Rows.Boot.«max» ?_ (by decide) (by decide))
 have pa:PA X [.Call ef yq yn yp] (i7 te jJ):=Za he Zb
 have pk:PK X [⟨some "default",.Constant (.int d) 0 kp,pG⟩] (i7 (tC (.int d)) jJ):=Qc Zi Pd
 refine PyProof.Rows.callWith_kw (ar (pa pos pins s σ H (fun us H1=>match us with
  | [v]=> ∃(a:Addr) (ns:List Int),v=.ref a∧ah X.K H1 a (ns.map V.int)∧(ns=[]→Q (.int d) H1)∧∀M,M∈ns→(∀a∈ns,a≤M)→Q (.int M) H1
  |_=>False) I h) fun us s1 ⟨cA,H1,I1,r1,q1⟩=> ?_)
 match cA,q1 with
 | [v],q1=>
  obtain⟨a,ns,rfl,hq,q1,q2⟩:=q1
  refine ar (pk pos pins s1 σ H1 (fun zs H2=>zs=[.int d]∧H2=H1) I1 ⟨rfl,rfl⟩) fun ws s2 ⟨zs,H2,I2,rz,e1,e2⟩=> ?_
  subst e1 e2
  obtain⟨u,rfl,ru⟩:=vals1 r1
  obtain⟨z,rfl,GW⟩:=vals1 rz
  cases ru
  rw[mn]
  show wpAny _ _ (call (.builtin "max") [.ref a] [(Str.ofString "default",z)]) _ _ _
  obtain⟨its,rv,pl,_⟩:=I2.list hq
  obtain⟨hi,Cm⟩:=WB rv
  refine QB (lt:=fun u v=>decide (cE v<cE u)) (I2.ok.hd hc) pl.isList (fun s' u v Q' E' kp tj Ks jm=> ?_) (fun h' tk e kp=> ?_) (fun v0 r h' tk e kp=> ?_)
  ·obtain⟨x,t,rfl,_⟩:=hi u tj
   obtain⟨y,t',rfl,_⟩:=hi v Ks
   exact(show wpAny _ _ (compareOp .Gt (.int x t) (.int y t')) Q' E' s' from gt_int jm)
  ·subst e
   cases ns with
   |nil=>exact⟨.int d,H2,I2.kept kp,GW,q1 rfl⟩
   |cons n ns=>cases Cm
  ·have cw:=JD (lt:=fun u v=>decide (cE v<cE u)) (r:=r) (b:=v0)
   have hle:=fun w hw=>Wh (r:=r) (b:=v0) w hw
   rw[←e]at cw hle
   generalize iQ (fun u v=>decide (cE v<cE u)) v0 r=M at cw hle
   obtain⟨x,t,rfl,hx⟩:=hi _ cw
   refine⟨.int x,H2,I2.kept kp,⟨t,rfl⟩,q2 x hx fun y hy=> ?_⟩
   rw[←Cm]at hy
   obtain⟨w,hw,rfl⟩:=List.mem_map.mp hy
   exact hle w hw
end
end L2
namespace L2
open PySem PySem.Spec PyProof.Rows
theorem jU {zc x:Str}{a c:Addr}{cl:List (Str×Addr)}(e:((zc,a)::cl).lookup x=some c):(x=zc∧c=a)∨(x≠zc∧cl.lookup x=some c):=by
 rw[List.lookup_cons]at e
 cases hx:x==zc with
 |true=>rw[hx]at e;exact .inl ⟨by simpa using hx,(Option.some.inj e).symm⟩
 |false=>rw[hx]at e;exact .inr ⟨by simpa using hx,e⟩
theorem EC:∀(ns:List (Str×NameKind)) (n:Nat) (acc:List (Str×Addr)) (h:Heap),(ns.filter fun y=>y.2==.cell)=[]→cellsFrom n ns acc=acc∧pushCells h ns=h
 | [],_,_,_,_=> ⟨rfl,rfl⟩
 |(x,k)::r,n,acc,h,e=>by
  rw[List.filter_cons]at e
  cases hk:k==NameKind.cell with
  |true=>simp[hk]at e
  |false=>
   simp only[hk,Bool.false_eq_true,if_false]at e
   unfold cellsFrom pushCells
   simp only[hk,Bool.false_eq_true,if_false]
   exact EC r n acc h e
theorem UA {zc:Str} :∀(ns:List (Str×NameKind)) (n:Nat) (acc:List (Str×Addr)) (h:Heap),(ns.filter fun y=>y.2==.cell)=[(zc,.cell)]→cellsFrom n ns acc=(zc,n)::acc∧pushCells h ns=h.push {cls:=.type "cell",data:=.cell none}
 | [],_,_,_,e=>by cases e
 |(x,k)::r,n,acc,h,e=>by
  rw[List.filter_cons]at e
  cases hk:k==NameKind.cell with
  |true=>
   simp only[hk,if_true,List.cons.injEq,Prod.mk.injEq]at e
   obtain⟨⟨rfl,_⟩,e⟩:=e
   unfold cellsFrom pushCells
   simp only[hk,if_true]
   obtain⟨a,b⟩:=EC r (n+1) ((x,n)::acc) (h.push {cls:=.type "cell",data:=.cell none}) e
   exact⟨a,b⟩
  |false=>
   simp only[hk,Bool.false_eq_true,if_false]at e
   unfold cellsFrom pushCells
   simp only[hk,Bool.false_eq_true,if_false]
   exact UA r n acc h e
theorem Qo {M:Model}{A:Around}{E:Value→Shared→Prop}{s:Shared}{scope:Scope}{globals:Addr}{cl:List (Str×Addr)}{qual:Str}{env:Env}{zc:Str}{Q:Env→Shared→Prop}(hz:(scope.names.filter fun y=>y.2==.cell)=[(zc,.cell)]) (hk:scope.kind=.function)
  (hQ:∀h',h'.Ns s.heap.objs.size (fun _=>none)→h'.IsCell (s.heap.objs.size+1) none→(∀b o,s.heap.get? b=some o→h'.get? b=some o)→Q (newEnv scope s.heap.objs.size globals ((zc,s.heap.objs.size+1)::cl) qual none .none (some env) builtinsNs) {s with heap:=h'}):
  wpAny M A (newFunctionEnv scope globals cl [] qual none .none (some env)) Q E s:=by
 simp only[newFunctionEnv,Option.isSome_some,if_true]
 refine wpAny_bind (wpAny_alloc ?_)
 refine wpAny_bind (wpAny_layCells _ (fun name kind cells=>by cases Lu:kind==NameKind.cell<;>simp[Lu]) _ _ _ _ ?_)
 have z1:(s.heap.push {cls:=.type "dict",data:=.dict #[]}).objs.size=s.heap.objs.size+1:=Heap.size_push ..
 obtain⟨a,b⟩:=UA (zc:=zc) scope.names (s.heap.push {cls:=.type "dict",data:=.dict #[]}).objs.size cl (s.heap.push {cls:=.type "dict",data:=.dict #[]}) hz
 dsimp only
 rw[a,b,z1]
 refine wpAny_bind (wpAny_pure (wpAny_pure ?_))
 refine hQ _ ((Heap.Ns.new s.heap (.type "dict")).keeps fun b o e=>Heap.get?_push_of_some _ e) ?_ (fun b o e=>Heap.get?_push_of_some _ (Heap.get?_push_of_some _ e))
 rw[←z1]
 exact⟨_,Heap.get?_push_size _ rfl,rfl⟩
theorem Wt {zc:Str}{scope:Scope}{env:Env}{x:Str}(hc:(scope.names.filter fun y=>y.2==.cell)=[(zc,.cell)]) (h:(relabel scope env).names.lookup x=some .cell∨(relabel scope env).names.lookup x=some .free):x=zc∨(x,NameKind.free)∈scope.names:=by
 have aV:∀y∈scope.names,y.2=.cell→y.1=zc:=fun y hy e=>by
  have m:y∈scope.names.filter fun y=>y.2==.cell:=List.mem_filter.mpr ⟨hy,by simp[e]⟩
  rw[hc]at m
  rw[List.mem_singleton.mp m]
 rw[YB]at h
 have key:∀(l:List (Str×NameKind)),(∀y∈l,y.2=.cell→y.1=zc)→(∃k,(k=NameKind.cell∨k=.free)∧(l.map (rl env)).lookup x=some k)→x=zc∨(x,NameKind.free)∈l:=by
  intro l
  induction l with
  |nil=>rintro _ ⟨k,_,h⟩;simp at h
  |cons y l ih=>
   rintro hl ⟨k',aY,h⟩
   obtain⟨n,k⟩:=y
   have e1:(rl env (n,k))=(n,(rl env (n,k)).2):=Prod.ext (U9 env _) rfl
   rw[List.map_cons,e1,List.lookup_cons]at h
   cases hx:x==n with
   |true=>
    have e:x=n:=by simpa using hx
    subst e
    by_cases hk:k=.free
    ·subst hk;exact .inr List.mem_cons_self
    ·rw[hx]at h
     rw[Ee (env:=env) (y:=(x,k)) hk]at h
     have e:k=k':=Option.some.inj h
     subst e
     rcases aY with z |z
     ·exact .inl (hl _ List.mem_cons_self z)
     ·exact absurd z hk
   |false=>
    rw[hx]at h
    rcases ih (fun y hy=>hl y (List.mem_cons_of_mem _ hy)) ⟨k',aY,h⟩ with z |z
    ·exact .inl z
    ·exact .inr (List.mem_cons_of_mem _ z)
 refine key _ aV ?_
 rcases h with h |h
 ·exact⟨_,.inl rfl,h⟩
 ·exact⟨_,.inr rfl,h⟩
def dJ (X:Cx) (N':List Str) (scope:Scope) (zc:Str) (C:Addr) (s2:Shared) (H2:Hp) (fp:List Addr):Cx:=
 {X with N:=N',bT:=s2,iY:=H2,env:=compEnvC scope ((zc,C+1)::bQ scope X.env) C X.env,outer:=X.stack,stack:=X.stack,ex:=fp,fn:=fun x=>x==zc,pn:=[],xe:=fun _ _=>False}
def yw (zc:Str) (so si:Scope) (N N':List Str) (ts:Nat) (aC:List Nat):Bool:=
 decide (si.kind=.function)&&decide ((si.names.filter fun y=>y.2==.cell)=[(zc,.cell)])&&(si.names.lookup zc==some .cell)&&si.names.all (fun y=>y.2 !=.local||si.names.lookup y.1==some .local)
 &&si.names.all (fun y=>y.2 !=.free||so.names.lookup y.1==some .cell||so.names.lookup y.1==some .free)
 &&decide N'.Nodup&&decide (N'.length=ts+aC.length)
 &&(List.range aC.length).all (fun k=> (N'[ts+k]? ==(aC[k]?.bind fun j=>N[j]?))&&(N'[ts+k]?.isSome)&&(N'[ts+k]?.all fun x=>so.names.lookup x !=some .local&&si.names.lookup x==some .free))
structure zi (X:Cx) (N':List Str) (ts:Nat) (aC:List Nat) (scope:Scope) (zc:Str):Prop where
 kind:scope.kind=.function
 one:(scope.names.filter fun y=>y.2==.cell)=[(zc,.cell)]
 own:scope.names.lookup zc=some .cell
 names:∀y∈scope.names,y.2=.local→scope.names.lookup y.1=some .local
 free:∀y∈scope.names,y.2=.free→X.env.kindOf y.1=some .cell∨X.env.kindOf y.1=some .free
 nd:N'.Nodup
 len:N'.length=ts+aC.length
 yy:∀k j,aC[k]? =some j→∃x,N'[ts+k]? =some x∧X.N[j]? =some x∧X.env.kindOf x≠some .local∧scope.names.lookup x=some .free
theorem QE {X:Cx}{N':List Str}{ts:Nat}{aC:List Nat}{scope:Scope}{zc:Str}(h:yw zc X.env.scope scope X.N N' ts aC=true):zi X N' ts aC scope zc:=by
 unfold yw at h
 simp only[Bool.and_eq_true]at h
 obtain⟨⟨⟨⟨⟨⟨⟨h1,h2⟩,MD⟩,h3⟩,h4⟩,h5⟩,h6⟩,h7⟩:=h
 refine⟨of_decide_eq_true h1,of_decide_eq_true h2,by simpa using MD,fun y hy z=> ?_,fun y hy z=> ?_,of_decide_eq_true h5,of_decide_eq_true h6,fun k j hk=> ?_⟩
 ·have q:=List.all_eq_true.mp h3 y hy
  rw[z]at q
  simpa using q
 ·have q:=List.all_eq_true.mp h4 y hy
  rw[z]at q
  simpa[Env.kindOf] using q
 ·have aA:k<aC.length:=(List.getElem?_eq_some_iff.mp hk).1
  have q:=List.all_eq_true.mp h7 k (List.mem_range.mpr aA)
  simp only[Bool.and_eq_true]at q
  obtain⟨⟨q1,q2⟩,q3⟩:=q
  obtain⟨x,hx⟩:=Option.isSome_iff_exists.mp q2
  rw[hx]at q1 q3
  rw[hk]at q1
  have e1:some x=X.N[j]? :=by simpa using q1
  have lj:(X.env.scope.names.lookup x !=some .local&&scope.names.lookup x==some .free)=true:=q3
  simp only[Bool.and_eq_true]at lj
  refine⟨x,hx,e1.symm,?_,by simpa using lj.2⟩
  have z:=lj.1
  intro e
  have e':X.env.scope.names.lookup x=some .local:=e
  rw[e']at z
  exact absurd z (by decide)
section
variable {X:Cx}{pins:List (Addr×Obj)}{σ:St}{H H':Hp}{s s':Shared}
theorem PM {N':List Str}{ts:Nat}{aC:List Nat}{scope:Scope}{zc:Str}{fp:List Addr}{h':Heap}{t':Nat}{m:Str→Option Value}{C:Addr}(S:zi X N' ts aC scope zc) (I:Inv X pins σ H s) (hf:∀b∈fp,bI X pins H b)
  (ho:∀b∈fp,∃o,s.heap.get? b=some o) (hC:s.heap.objs.size≤C) (hn:h'.Ns C m) (k:∀b o,s.heap.get? b=some o→h'.get? b=some o) (hz:h'.IsCell (C+1) none):
  Inv (dJ X N' scope zc C s H fp) [] (eW ts aC σ) H {s with heap:=h',toks:=t'} :=by
 have sub:∀x c,(bQ scope X.env).lookup x=some c→X.env.cells.lookup x=some c:=fun x c e=>by
  obtain⟨e1,e2⟩:=Yh e
  obtain⟨c',aV⟩:=I.ok.has x (S.free _ e2 rfl)
  rw[aV]at e1
  rw[aV,e1];rfl
 have old:∀x c,(bQ scope X.env).lookup x=some c→c<s.heap.objs.size:=fun x c e=>by
  obtain⟨v,o,e',_⟩:=I.cell x c (sub x c e)
  exact Heap.lt_size e'
 have di:∀b o,s.heap.get? b=some o→b≠C:=fun b o e=>Nat.ne_of_lt (Nat.lt_of_lt_of_le (Heap.lt_size e) hC)
 refine⟨⟨I.ok.mod,?_,I.ok.glob,I.ok.blt,hC,fun x y c e1 e2=> ?_,fun x hx=> ?_,fun x c hx e=> ?_,I.ok.hd,I.ok.frames,.inl rfl,fun b hb=> ?_,fun b o e=>I.bs b o e,Nat.le_trans I.ok.ip I.sz,fun b o e hb=> ?_,fun b hb=> ?_,I.stack,I.mZ⟩,
  rfl,I.bare,Un.kept k,⟨m,hn,fun i x v e1 e2 e3=> ?_⟩,fun x c e=> ?_,I.ag.fresh hC,fun x c e=> ?_,fun p hp=>absurd (show p∈([]:List (Addr×Obj)) from hp) (by simp),I.ag.kept k,?_⟩
 ·show(relabel scope X.env).kind=.function
  exact S.kind
 ·rcases jU e1 with ⟨rfl,rfl⟩ |⟨_,f1⟩
  ·rcases jU e2 with ⟨rfl,_⟩ |⟨_,f2⟩
   ·rfl
   ·exact absurd (Nat.lt_of_lt_of_le (old _ _ f2) hC) (Nat.not_lt.mpr (Nat.le_succ C))
  ·rcases jU e2 with ⟨rfl,rfl⟩ |⟨_,f2⟩
   ·exact absurd (Nat.lt_of_lt_of_le (old _ _ f1) hC) (Nat.not_lt.mpr (Nat.le_succ C))
   ·exact I.ok.inj x y c (sub x c f1) (sub y c f2)
 ·show ∃c,((zc,C+1)::bQ scope X.env).lookup x=some c
  rcases Wt S.one hx with rfl |h
  ·exact⟨C+1,by rw[List.lookup_cons];simp⟩
  ·obtain⟨c,hc⟩:=YX (env:=X.env) h
   rw[List.lookup_cons]
   cases x==zc with
   |true=>exact⟨_,rfl⟩
   |false=>exact⟨c,hc⟩
 ·have gZ:(x==zc)=true:=hx
  rcases jU e with ⟨_,rfl⟩ |⟨n,_⟩
  ·show s.heap.objs.size≤C+1
   omega
  ·exact absurd (by simpa using gZ) n
 ·obtain⟨o,e⟩:=ho b hb
  refine⟨di b o e,fun x c ec=> ?_⟩
  rcases jU ec with ⟨_,rfl⟩ |⟨_,ec⟩
  ·exact fun q=>absurd (Nat.lt_of_lt_of_le (Heap.lt_size e) hC) (by rw[←q];exact Nat.not_lt.mpr (Nat.le_succ C))
  ·exact(hf b hb).2.2.2.2.1 x c (sub x c ec)
 ·obtain⟨e1,e2⟩:=I.bs b o e
  obtain⟨f0,f1,f2,f3,f4,f5⟩:=hf b hb
  rcases f3 with z |z
  ·exact I.ok.jV b o e z
  ·exact absurd (Nat.lt_of_lt_of_le (Heap.lt_size (I.ok.bs b o e).1) z) (Nat.lt_irrefl _)
 ·intro z
  obtain⟨f0,f1,f2,f3,f4,f5⟩:=hf b hb
  rcases List.mem_cons.mp (I.oT b z) with q |q
  ·exact f1 q
  ·exact f2 q
 ·-- the HX values
  have hlen:¬i<ts:=fun aA=>by
   unfold eW at e2
   rw[List.getElem?_append_left (by simpa using aA),List.getElem?_replicate]at e2
   split at e2<;>cases e2
  have ik:(aC.map fun j=> (σ[j]?).join)[i - ts]? =some (some v):=by
   unfold eW at e2
   rw[List.getElem?_append_right (by simpa using hlen),List.length_replicate]at e2
   exact e2
  rw[List.getElem?_map]at ik
  cases hc:aC[i - ts]? with
  |none=>rw[hc]at ik;cases ik
  |some j=>
   rw[hc]at ik
   have jt:(σ[j]?).join=some v:=Option.some.inj ik
   have e4:σ[j]? =some (some v):=by
    cases q:σ[j]? with
    |none=>rw[q]at jt;cases jt
    |some o=>rw[q]at jt;exact congrArg some jt
   obtain⟨x',n1,n2,n3,n4⟩:=S.yy _ _ hc
   have ei:ts+(i - ts)=i:=by omega
   rw[ei]at n1
   have ex:x=x':=by
    have iS:N'[i]? =some x:=e1
    rw[n1]at iS;exact(Option.some.inj iS).symm
   subst ex
   obtain⟨mX,Lb,hl⟩:=I.loc
   have uG:ow X.env.scope x:=by
    rcases S.free _ (Yz n4) rfl with z |z
    ·exact .inr (.inl z)
    ·exact .inr (.inr z)
   obtain⟨u,ru,lk⟩:=hl j x v n2 e4 uG
   refine⟨u,ru,?_⟩
   rcases lk with ⟨z,_⟩ |⟨z,c,ec,iM⟩
   ·exact absurd z n3
   ·obtain⟨c',aV⟩:=YX (env:=X.env) (Yz n4)
    have:=sub x c' aV
    rw[ec]at this
    cases this
    refine .inr ⟨?_,c,?_,iM.keeps k⟩
    rotate_left
    ·show((zc,C+1)::bQ scope X.env).lookup x=some c
     have nz:(x==zc)=false:=by
      cases q:x==zc with
      |false=>rfl
      |true=>
       have:x=zc:=by simpa using q
       rw[this,S.own]at n4
       cases n4
     rw[List.lookup_cons,nz]
     exact aV
    exact Yo n4
 ·rcases jU e with ⟨_,rfl⟩ |⟨_,e⟩
  ·exact⟨none,hz⟩
  ·obtain⟨v,z⟩:=I.cell x c (sub x c e)
   exact⟨v,z.keeps k⟩
 ·rcases jU e with ⟨_,rfl⟩ |⟨_,e⟩
  ·exact I.ag.fresh (by omega)
  ·exact I.fm x c (sub x c e)
 ·show(eW ts aC σ).length=N'.length
  unfold eW
  rw[List.length_append,List.length_replicate,List.length_map,S.len]
theorem Qz {N':List Str}{scope:Scope}{zc:Str}{C D:Addr}{fp:List Addr}{ai:St}{ys:List V}{pl:List (Addr×Obj)}{h':Heap}(I:Inv X pins σ H s) (hf:∀b∈fp,bI X pins H b) (hC:s.heap.objs.size≤C) (hD:s.heap.objs.size≤D) (eR:D≠C)
  (J:Inv (dJ X N' scope zc C s H fp) pl ai H' s') (n:H' D=none) (a:AccAt s'.heap D ys) (sb:Heap.SameBut C s'.heap h'):Inv X pins σ (upd H' D (.lst ys)) {s' with heap:=h'} :=by
 have di:∀b o,s.heap.get? b=some o→b≠C:=fun b o e=>Nat.ne_of_lt (Nat.lt_of_lt_of_le (Heap.lt_size e) hC)
 have wF:∀b o,s.heap.get? b=some o→b≠D:=fun b o e=>Nat.ne_of_lt (Nat.lt_of_lt_of_le (Heap.lt_size e) hD)
 have lJ:∀b o,H b=some o→b≠D:=fun b o e=>Nat.ne_of_lt (Nat.lt_of_lt_of_le (I.ag.lt e) hD)
 have fC:H' C=none:=J.free
 have u:Un (aS X.stack) fp H H' s.heap s'.heap:=J.base
 refine I.yz (s':= {s' with heap:=h'}) (ch:=fp) J.os ⟨fun b o e nb hb hx=> (sb.2 b (di b o e)).trans (u.keep b o e nb hb hx),fun b o e nb hb hx=> ?_,fun b o e nb hx=>by rw[Zh (wF b o e)];exact u.free b o e nb hx,fun b o e hx=> ?_,
  fun b xs e=>by rw[Zh (lJ b _ e)];exact u.fA b xs e,fun b o xs e=>by rw[Zh (lJ b _ e)];exact u.fk b o xs e,fun b ps e=>by rw[Zh (lJ b _ e)];exact u.fc b ps e⟩ (fun b v e=> ?_) J.bare fun b hb=> ?_
 ·obtain⟨sl,q⟩:=u.slot b o e nb hb hx
  exact⟨sl,(sb.2 b (di b o e)).trans q⟩
 ·obtain⟨o',q⟩:=u.there b o e hx
  exact⟨o',(sb.2 b (di b o e)).trans q⟩
 ·by_cases hb:b=D
  ·subst hb
   rw[Zc]at e
   cases e
   obtain⟨z,its,k,r,q⟩:=a
   exact⟨z,its,k,r,(sb.2 b eR).trans q⟩
  ·rw[Zh hb]at e
   refine(J.ag b v e).dP (fun c w hc q=> (sb.2 c ?_).trans q) (fun c q=>by rw[Zh (Zd q n)];exact q) fun c xs q=>by rw[Zh (Zd q n)];exact q
   rcases hc with z |z
   ·rw[z];exact Zd e fC
   ·exact Zd z fC
 ·obtain⟨f0,f1,f2,f3,f4,f5⟩:=hf b hb
  exact⟨f3,f1,f4,f5⟩
theorem UU {elt tg iter:Expr}{ifs:List Expr}{rest:List Comprehension}{scope:Scope}{zc:Str}{pos:Pos}{N':List Str}{ts:Nat}{aC:List Nat}{it:Addr}{fp:List Addr}{tn:Nat→Heap→Prop}{J:It}{g:TG}{tt:TT}{ti:TC}{Q:List V→Hp→Prop}{E:Value→Shared→Prop}{RR:Value→Addr→Result→Shared→Prop}
  (S:zi X N' ts aC scope zc) (hc:X.calm=true) (I:Inv X pins σ H s) (T:Turn X.prog X.w X.K tg J fp it tn) (st:tn 0 s.heap) (hf:∀b∈fp,bI X pins H b)
  (h2:∀g',(Comprehension.mk tg iter ifs 0::rest)[0+1]? =some g'→g'.is_async=0)
  (pg:∀C,PG (dJ X N' scope zc C s H fp) tg g) (pt:∀C,jz (dJ X N' scope zc C s H fp) ifs tt)
  (pi:∀C D,kH (dJ X N' scope zc C s H fp) D (inner elt (⟨tg,iter,ifs,0⟩::rest) scope pos 0 (.ref D) (dJ X N' scope zc C s H fp).env) ti)
  (h:iB g tt ti J [] (eW ts aC σ) H fun ys _ H2=>Q ys H2)
  (xR:∀C D s' ai H' ys fl,s.heap.objs.size≤C→s.heap.objs.size≤D→D≠C→Inv (dJ X N' scope zc C s H fp) [] ai H' s'→H' D=none→AccAt s'.heap D ys→Q ys H'→RR (.ref D) C (.ok fl) s'):
  wpAny (model X.prog X.w) X.A (newList []) (fun acc uO=>wpAny (model X.prog X.w) X.A (newFunctionEnv scope X.env.globals (bQ scope X.env) [] X.env.qual none .none (some X.env)) (fun qH uN=>
   codeAny (model X.prog X.w) X.A (.compStart (.ListComp elt (⟨tg,iter,ifs,0⟩::rest) scope pos) 0 (.ref it) acc {qH with scope:=relabel scope X.env}) (RR acc qH.locals) uN) E uO) E s:=by
 refine wpAny_newObj_type (Qo S.one S.kind (fun gW l8 wQ jl=> ?_))
 dsimp only at l8 wQ jl ⊢
 generalize mC:s.heap.push {cls:=.type "list",dict:=none,data:=.seq ([]:List Value).toArray} =h0 at l8 wQ jl ⊢
 have hC:h0.objs.size=s.heap.objs.size+1:=by rw[←mC,Heap.size_push]
 have eR:s.heap.objs.size≠h0.objs.size:=by rw[hC];exact Nat.ne_of_lt (Nat.lt_succ_self _)
 have mD:s.heap.objs.size≤h0.objs.size:=by rw[hC];exact Nat.le_succ _
 have di:∀b o,s.heap.get? b=some o→b≠h0.objs.size:=fun b o e=>Nat.ne_of_lt (Nat.lt_of_lt_of_le (Heap.lt_size e) mD)
 have old:∀b o,s.heap.get? b=some o→gW.get? b=some o:=fun b o e=>jl b o (mC▸Heap.get?_push_of_some _ e)
 have qo:gW.get? s.heap.objs.size=some {cls:=.type "list",data:=.seq ([]:List Value).toArray 0} :=jl _ _ (mC▸Heap.get?_push_size _ rfl)
 have ho:∀b∈fp,∃o,s.heap.get? b=some o:=fun b hb=>let ⟨o,e,_⟩:=T.obj _ _ st b hb;⟨o,e⟩
 have I1:Inv (dJ X N' scope zc h0.objs.size s H fp) [] (eW ts aC σ) H {s with heap:=gW,toks:=s.toks} :=PM S I hf ho mD l8 old wQ
 have fresh:=I.ag.fresh (a:=s.heap.objs.size) (Nat.le_refl _)
 have ye:∀b∈fp,bI (dJ X N' scope zc h0.objs.size s H fp) [] H b:=fun b hb=>by
  obtain⟨f0,f1,f2,f3,f4,f5⟩:=hf b hb
  refine⟨f0,(I1.ok.kA b hb).1,I1.ok.kr b hb,.inl hb,(I1.ok.kA b hb).2,fun p hp=>absurd (show p∈([]:List (Addr×Obj)) from hp) (by simp)⟩
 have fD:bI (dJ X N' scope zc h0.objs.size s H fp) [] H s.heap.objs.size:=by
  refine⟨fresh,eR,fun z=> ?_,.inr (Nat.le_refl _),fun x c e z=> ?_,fun p hp=>absurd (show p∈([]:List (Addr×Obj)) from hp) (by simp)⟩
  ·obtain⟨_,o,cu,_⟩:=I.stack.mem z
   exact absurd (Heap.lt_size cu) (Nat.lt_irrefl _)
  ·rcases jU e with ⟨_,rfl⟩ |⟨_,e⟩
   ·exact absurd (show h0.objs.size+1=s.heap.objs.size from z) (by rw[hC];omega)
   obtain⟨e1,e2⟩:=Yh e
   obtain⟨c',aV⟩:=I.ok.has x (S.free _ e2 rfl)
   obtain⟨v,q⟩:=I.cell x c' aV
   rw[aV]at e1
   have e3:c=c':=e1
   have l:=q.lt
   rw[←e3,z]at l
   exact absurd l (Nat.lt_irrefl _)
 have aD:AccAt gW s.heap.objs.size []:=⟨Nat.zero_le _,[],0,.nil,qo⟩
 have xZ:s.heap.objs.size∉fp:=fun z=>by obtain⟨o,e⟩:=ho _ z;exact absurd (Heap.lt_size e) (Nat.lt_irrefl _)
 have aw:tn 0 gW:=T.keep _ _ _ st fun b _ o e=>old b o e
 have run:=Wi (elt:=elt) (gens:=⟨tg,iter,ifs,0⟩::rest) (scope:=scope) (pos:=pos) (d:=0) rfl T aw
  (WU (Y:=dJ X N' scope zc h0.objs.size s H fp) (D:=s.heap.objs.size) (Q:=fun ys _ H2=>Q ys H2) (elt:=elt) (gens:=⟨tg,iter,ifs,0⟩::rest) (scope:=scope) (pos:=pos) (d:=0) rfl hc rfl T ye aw xZ h2 (pg _) (pt _) (pi _ _) I1 fD aD h)
 refine codeAny_mono run fun r s' hr=> ?_
 cases r with
 |error e=>exact hr.elim
 |ok fl=>
  obtain⟨bJ,ai,H',q1,q2,q3,q4⟩:=hr
  exact xR _ _ s' ai H' bJ fl mD (Nat.le_refl _) eR q1 q2.1 q3 q4
end
section
variable {X:Cx}{elt tg iter:Expr}{ifs:List Expr}{rest:List Comprehension}{scope:Scope}{pos:Pos}{wi:TI}{g:TG}{tt:TT}{ti:TC}
theorem QZ (zc:Str) (N':List Str) (ts:Nat) (aC:List Nat) (hi:PI X tg iter wi) (pg:∀C s H fp,PG (dJ X N' scope zc C s H fp) tg g) (pt:∀C s H fp,jz (dJ X N' scope zc C s H fp) ifs tt)
  (pi:∀C s H fp D,kH (dJ X N' scope zc C s H fp) D (inner elt (⟨tg,iter,ifs,0⟩::rest) scope pos 0 (.ref D) (dJ X N' scope zc C s H fp).env) ti)
  (ok:yw zc X.env.scope scope X.N N' ts aC=true:=by rfl) (hc:X.calm=true:=by rfl) (h2:∀g',(Comprehension.mk tg iter ifs 0::rest)[0+1]? =some g'→g'.is_async=0:=by(intro g' h;cases h<;>rfl))
  (hs:∀x,foldedSetIterable iter X.env x=pure x:=by intro _;rfl):
  PE X (.ListComp elt (⟨tg,iter,ifs,0⟩::rest) scope pos) (uL wi ts aC g tt ti):=by
 intro pins s σ H Q I h
 have S:=QE ok
 rw[eval_ListComp]
 refine wpAny_comprehension_free (use:=none) rfl hs (Z5 fun y hy e=>I.ok.has _ (S.free y hy e)) S.kind S.names (ar (hi pins s σ H _ I h) fun v s1 h1=>ar h1 fun jY s2 km=> ?_)
 obtain⟨it,fp,tn,J,H2,e,I2,T,aj,f2,q2⟩:=km
 subst e
 refine UU (RR:=fun acc C=>compPost (model X.prog X.w) X.A X.xe none _ acc C) S hc I2 T aj f2 h2 (fun C=>pg C _ _ _) (fun C=>pt C _ _ _) (fun C D=>pi C _ _ _ D) q2 ?_
 intro C D s' ai H' ys fl hC hD eR J' n a q
 obtain⟨m,hn,_⟩:=J'.loc
 exact⟨m,hn,fun h' sb=> ⟨.ref D,_,Qz I2 f2 hC hD eR J' n a sb,rfl,q D n⟩⟩
end
end L2
namespace U
open PySem L2 PyProof.Rows
def top (i:Nat):Stmt:=PySem.Challenge.pw_unlikesteps_k12_hits_of_two_lays.main.body.getD i (.Pass ⟨0,0,0,0⟩)
structure Gs (mg:Str→Option Value):Prop where
 isinstance:mg "isinstance" =none
 int:mg "int" =none
 bool:mg "bool" =none
 tuple:mg "tuple" =none
 list:mg "list" =none
 len:mg "len" =none
 all:mg "all" =none
 set:mg "set" =none
 range:mg "range" =none
 max:mg "max" =none
 min:mg "min" =none
 enumerate:mg "enumerate" =none
 zip:mg "zip" =none
 sorted:mg "sorted" =none
 sum:mg "sum" =none
 longest:∃t,mg "LONGEST_SIDE" =some (.int 12 t)
section
variable {P:Program}{w:World}{K:PySem.W.Frag}{mg:Str→Option Value}{base:Heap}
abbrev vA:Stmt:=top 19
def oU (K:PySem.W.Frag):Sp:=fun vs H Q _=> ∃x,vs=[x]∧cj K H x∧Q (.bl (whole x)) H
theorem GH:br ["thing"] ["thing"] (ay vA):=⟨rfl,rfl,rfl,by decide+kernel,rfl,by decide+kernel,by decide+kernel⟩
theorem QW {f:Addr}{fd:FuncData}(F:aJ K "is_whole" "is_whole" vA f fd) (G:Gs mg):aE P w K mg base aH 1 f fd ["thing"] (oU K):=by
 refine F.ok GH (fun vs H Q E h=> ?_) (fun ak A outer s H vs Q E hr h=> ?_)
 ·obtain⟨x,rfl,_⟩:=h
  rfl
 ·obtain⟨x,rfl,⟨T,t⟩,q⟩:=h
  refine⟨_,Zk (Zz (YT (Zm (Yn (c:= "int")) rfl G.isinstance boot_isinstance (Za (pv 0) (Za (YA (v:=.ty "int") rfl G.int boot_int rfl) Zb)))
   (YS (Pc (Zm (Yn (c:= "bool")) rfl G.isinstance boot_isinstance (Za (pv 0) (Za (YA (v:=.ty "bool") rfl G.bool boot_bool rfl) Zb))))))),?_⟩
  refine⟨x,rfl,x,_,_,rfl,t,OK t,_,rfl,?_⟩
  rw[UK]at q
  cases e:wN x with
  |false=>rw[e]at q;exact aR q
  |true=>rw[e]at q;exact bh ⟨x,rfl,x,_,_,rfl,t,PN t,_,rfl,q⟩
abbrev vw:Stmt:=top 20
def rq (K:PySem.W.Frag):Sp:=fun vs H Q _=> ∃x a b,vs=[x,.int a,.int b]∧cj K H x∧Q (.bl (bS x a b)) H
theorem GG:br ["thing", "least", "most"] ["thing", "least", "most"] (ay vw):=⟨rfl,rfl,rfl,by decide+kernel,rfl,by decide+kernel,by decide+kernel⟩
theorem RN {f:Addr}{fd:FuncData}(F:aJ K "is_whole_within" "is_whole_within" vw f fd) (D1:Def P w K mg base 1 "is_whole" ["thing"] (oU K)):aE P w K mg base aH 2 f fd ["thing", "least", "most"] (rq K):=by
 refine F.ok GG (fun vs H Q E h=> ?_) (fun ak A outer s H vs Q E hr h=> ?_)
 ·obtain⟨x,a,b,rfl,_⟩:=h
  rfl
 ·obtain⟨x,a,b,rfl,t,q⟩:=h
  refine⟨_,Zk (Zz (YT (Zj D1 hr (Za (pv 0) Zb)) (YS (QY yP yP (pv 1) (pv 0) (pv 2))))),?_⟩
  refine⟨x,rfl,x,rfl,t,_,rfl,?_⟩
  cases x with
  |int i=>
   refine bh ⟨_,rfl,_,rfl,_,_,rfl,rfl,_,rfl,?_⟩
   have e:bS (.int i) a b=(decide (a≤i)&&decide (i≤b)):=rfl
   rw[e]at q
   cases e1:decide (a≤i) with
   |false=>rw[e1]at q;exact aR q
   |true=>rw[e1]at q;exact bh ⟨_,rfl,_,_,rfl,rfl,q⟩
  |_=>exact aR q
abbrev vB:Stmt:=top 22
def rA (K:PySem.W.Frag):Sp:=fun vs H Q _=> ∃x n,vs=[x,.int n]∧cj K H x∧Q (.bl (match aZ H x with |some xs=>decide ((xs.length:Int)=n) |none=>false)) H
theorem GI:br ["thing", "many"] ["thing", "many"] (ay vB):=⟨rfl,rfl,rfl,by decide+kernel,rfl,by decide+kernel,by decide+kernel⟩
theorem Rr {f:Addr}{fd:FuncData}(F:aJ K "is_tuple_of" "is_tuple_of" vB f fd) (G:Gs mg):aE P w K mg base aH 1 f fd ["thing", "many"] (rA K):=by
 refine F.ok GI (fun vs H Q E h=> ?_) (fun ak A outer s H vs Q E hr h=> ?_)
 ·obtain⟨x,n,rfl,_⟩:=h
  rfl
 ·obtain⟨x,n,rfl,⟨T,t⟩,q⟩:=h
  refine⟨_,Zk (Zz (YT (Zm (Yn (c:= "tuple")) rfl G.isinstance boot_isinstance (Za (pv 0) (Za (YA (v:=.ty "tuple") rfl G.tuple boot_tuple rfl) Zb)))
   (YS (YJ JC (Zm Zv rfl G.len boot_len (Za (pv 0) Zb)) (pv 1) (cY _))))),?_⟩
  refine⟨x,rfl,x,_,_,rfl,t,QO t,_,rfl,?_⟩
  cases e:aZ H x with
  |none=>rw[e]at q;exact aR q
  |some xs=>
   rw[e]at q
   obtain⟨a,rfl,ha⟩:=ZI e
   refine bh ⟨_,rfl,a,xs,rfl,.inr (ao.of ha),_,rfl,rfl,?_⟩
   have z:decide (V.int (xs.length:Int)=V.int n)=decide ((xs.length:Int)=n):=by simp
   rw[z]
   exact q
abbrev vX:Stmt:=top 23
def lO:Option (List V)→Bool
 |some [a,b]=>bS a 1 12&&bS b 1 12
 |_=>false
def fq (K:PySem.W.Frag) (H:Hp) (x:V):Prop:=cj K H x∧∀xs,aZ H x=some xs→∀y∈xs,cj K H y
def rH (K:PySem.W.Frag):Sp:=fun vs H Q _=> ∃x,vs=[x]∧fq K H x∧∀H',ae H H'→Q (.bl (lO (aZ H x))) H'
theorem GN:br ["thing"] ["thing"] (ay vX):=⟨rfl,rfl,rfl,by decide+kernel,rfl,by decide+kernel,by decide+kernel⟩
theorem Rk {f:Addr}{fd:FuncData}(F:aJ K "is_board" "is_board" vX f fd) (G:Gs mg) (D1:Def P w K mg base 1 "is_tuple_of" ["thing", "many"] (rA K)) (D2:Def P w K mg base 2 "is_whole_within" ["thing", "least", "most"] (rq K)):
  aE P w K mg base aH 3 f fd ["thing"] (rH K):=by
 obtain⟨tk,hL⟩:=G.longest
 refine F.ok GN (fun vs H Q E h=> ?_) (fun ak A outer s H vs Q E hr h=> ?_)
 ·obtain⟨x,rfl,_⟩:=h
  rfl
 ·obtain⟨x,rfl,⟨t,hi⟩,q⟩:=h
  refine⟨_,Zk (Zz (YT (Zj D1 (hr.mono (by decide)) (Za (pv 0) (Za Zi Zb)))
   (YS (Zm UY rfl G.all boot_all (Za (Yk ["side"] 1 [] (yV (pv 0)) (fun C s H fp=>pb 0) (fun C s H fp=>YH)
    (fun C s H fp D=>ZK rfl (Zj D2 (hr.mono (by decide)) (Za (pv 0) (Za Zi (Za (ZP (v:=.int 12) rfl hL ⟨_,rfl⟩) Zb)))))) Zb))))),?_⟩
  refine⟨x,rfl,x,2,rfl,t,_,rfl,?_⟩
  cases e:aZ H x with
  |none=>rw[e]at q;exact aR (q H (ae.refl H))
  |some xs=>
   rw[e]at q
   obtain⟨a,rfl,ha⟩:=ZI e
   show if decide ((xs.length:Int)=2)=true then _ else _
   by_cases h2:xs.length=2
   ·rw[decide_eq_true (show(xs.length:Int)=2 by omega)]
    refine bh ⟨_,rfl,a,rfl,⟨xs,ao.of ha⟩,?_⟩
    refine Wa (xs:=xs) (fun i ys σ H2=>ys=(xs.take i).map (fun y=>V.bl (bS y 1 12))∧H2=H∧∃v,σ=[v]) ⟨rfl,rfl,none,rfl⟩ (fun i ys σ H2 _ ⟨_,e2,_⟩=>by rw[e2];exact ao.of ha) ?_ ?_
    ·rintro i y ys σ H2 hy ⟨rfl,rfl,v,rfl⟩
     have my:y∈xs:=List.mem_of_getElem? hy
     refine⟨y,rfl,y,1,12,rfl,hi xs e y my,?_,?_⟩
     ·rw[List.length_map,sizeLine_eq,List.length_take];omega
     ·refine⟨?_,rfl,_,rfl⟩
      rw[List.take_add_one,hy,List.map_append]
      rfl
    ·rintro ys σ H2 ⟨rfl,rfl,v,rfl⟩ p hp
     rw[List.take_length]
     refine⟨p,xs.map (fun y=>bS y 1 12),rfl,?_,?_⟩
     ·rw[List.map_map];exact ah.of Zc
     ·have e3:lO (some xs)=(xs.map (fun y=>bS y 1 12)).all id:=by
       match xs,h2 with
       | [a,b],_=>simp[lO]
      rw[←e3]
      exact q _ fun b o hb=>by rw[Zh (Zd hb hp)];exact hb
   ·rw[decide_eq_false (show ¬(xs.length:Int)=2 by omega)]
    have e3:lO (some xs)=false:=by
     match xs,h2 with
     | [],_=>rfl
     | [a],_=>rfl
     | [a,b],h=>exact absurd rfl h
     |a::b::c::r,_=>rfl
    rw[e3]at q
    exact aR (q H (ae.refl H))
end
section
theorem YW (val:Nat→Int):∀n,((PyProof.Rows.firstMet val n).length=n↔((List.range n).map val).Nodup)
 |0=>by simp[PyProof.Rows.firstMet_zero]
 |n+1=>by
  have ih:=YW val n
  have le:=PyProof.Rows.firstMet_length_le val n
  rw[PyProof.Rows.firstMet_succ,PyProof.Rows.step_length,PyProof.Rows.firstMet_any,List.range_succ,List.map_append]
  have e:(((List.range n).map val).any (· ==val n))=true↔val n∈(List.range n).map val:=by
   rw[List.any_eq_true]
   constructor
   ·rintro⟨x,hx,q⟩
    have:x=val n:=by simpa using q
    rw[←this];exact hx
   ·intro h;exact⟨_,h,by simp⟩
  have nd:((List.range n).map val++List.map val [n]).Nodup↔((List.range n).map val).Nodup∧¬val n∈(List.range n).map val:=by
   rw[List.nodup_append]
   constructor
   ·rintro⟨h1,_,h3⟩
    exact⟨h1,fun m=>h3 _ m (val n) (by simp) rfl⟩
   ·rintro⟨h1,h2⟩
    refine⟨h1,by simp,fun a ha b hb q=>h2 ?_⟩
    have gk:b=val n:=by simpa using hb
    rw[←gk,←q];exact ha
  rw[nd,←ih]
  by_cases m:val n∈(List.range n).map val
  ·rw[if_pos (e.mpr m)]
   constructor
   ·intro h;omega
   ·rintro⟨_,h⟩;exact absurd m h
  ·rw[if_neg (fun z=>m (e.mp z))]
   constructor
   ·intro h;exact⟨by omega,m⟩
   ·rintro⟨h,_⟩;omega
theorem U7 (ns:List Int):nD ns=ns.length↔ns.Nodup:=by
 unfold nD
 rw[YW]
 have e:(List.range ns.length).map (fun i=>ns.getD i 0)=ns:=by
  refine List.ext_getElem (by simp) fun i h1 h2=> ?_
  rw[List.getElem_map,List.getElem_range,List.getD_eq_getElem?_getD,List.getElem?_eq_getElem h2,Option.getD_some]
 rw[e]
def rowsOf (xs:List V):List V:=xs.filter fun x=> !decide (x=.af)
def gU (wd hg:Int):Option (List V)→Bool
 |some xs=>decide ((xs.length:Int)=wd)&&((rowsOf xs).all fun r=>bS r 0 (hg - 1))&&decide (rowsOf xs).Nodup
 |none=>false
def fb (H:Hp) (x:V) (wd hg:Int):Prop:=aZ H x=some [.int wd,.int hg]∧1≤wd∧wd≤12∧1≤hg∧hg≤12
theorem fb.same {H H':Hp}{x:V}{wd hg:Int}(b:fb H x wd hg) (s:ae H H'):fb H' x wd hg:=⟨s.aZ b.1,b.2⟩
theorem fb.is {H:Hp}{x:V}{wd hg:Int}(b:fb H x wd hg):lO (aZ H x)=true:=by
 obtain⟨h,h1,h2,h3,h4⟩:=b
 rw[h]
 show(decide (1≤wd)&&decide (wd≤12)&&(decide (1≤hg)&&decide (hg≤12)))=true
 simp[h1,h2,h3,h4]
theorem fb.pl {K:PySem.W.Frag}{H:Hp}{x:V}{wd hg:Int}(b:fb H x wd hg):fq K H x:=by
 obtain⟨a,rfl,ha⟩:=ZI b.1
 refine⟨⟨_,.tup ha⟩,fun xs e y hy=> ?_⟩
 rw[b.1]at e
 cases e
 rcases List.mem_cons.mp hy with z |hy
 ·rw[z];exact⟨_,.int wd⟩
 ·rw[List.mem_singleton.mp hy];exact⟨_,.int hg⟩
theorem UL {xs:List V}{lo hi:Int}(h:(xs.all fun r=>bS r lo hi)=true):∃ns:List Int,xs=ns.map V.int:=by
 induction xs with
 |nil=>exact⟨[],rfl⟩
 |cons x xs ih=>
  rw[List.all_cons,Bool.and_eq_true]at h
  obtain⟨ns,e⟩:=ih h.2
  cases x with
  |int i=>exact⟨i::ns,by rw[e];rfl⟩
  |_=>cases h.1
theorem WM (ns:List Int):(ns.map V.int).Nodup↔ns.Nodup:=by
 induction ns with
 |nil=>simp
 |cons n ns ih=>rw[List.map_cons,List.nodup_cons,List.nodup_cons,ih];simp
end
section
variable {P:Program}{w:World}{K:PySem.W.Frag}{mg:Str→Option Value}{base:Heap}
abbrev rQ:Stmt:=top 24
def uX (K:PySem.W.Frag):Sp:=fun vs H Q _=> ∃x wd hg,vs=[x]∧fb H x wd hg∧∀H',ae H H'→Q .af H'
theorem Ay:br ["board"] ["board"] (ay rQ):=⟨rfl,rfl,rfl,by decide+kernel,rfl,by decide+kernel,by decide+kernel⟩
theorem W9 {f:Addr}{fd:FuncData}(F:aJ K "need_board" "need_board" rQ f fd) (D1:Def P w K mg base 3 "is_board" ["thing"] (rH K)):aE P w K mg base aH 4 f fd ["board"] (uX K):=by
 refine F.ok Ay (fun vs H Q E h=> ?_) (fun ak A outer s H vs Q E hr h=> ?_)
 ·obtain⟨x,wd,hg,rfl,_⟩:=h
  rfl
 ·obtain⟨x,wd,hg,rfl,b,q⟩:=h
  refine⟨_,Zk (Z2 (Yi (Z3 (Zj D1 hr (Za (pv 0) Zb)))) ZC ZH),?_⟩
  refine⟨x,rfl,x,rfl,b.pl,fun H' sm=> ⟨_,rfl,?_⟩⟩
  rw[b.is]
  exact aR (q H' sm)
abbrev rT:Stmt:=top 25
def rD (K:PySem.W.Frag):Sp:=fun vs H Q _=> ∃x y wd hg,vs=[x,y]∧fb H x wd hg∧fq K H y∧∀H',ae H H'→Q (.bl (gU wd hg (aZ H y))) H'
theorem o7:br ["board", "thing", "wide", "high", "rows"] ["board", "thing"] (ay rT):=⟨rfl,rfl,rfl,by decide+kernel,rfl,by decide+kernel,by decide+kernel⟩
theorem O0 {f:Addr}{fd:FuncData}(F:aJ K "is_lay" "is_lay" rT f fd) (G:Gs mg) (D1:Def P w K mg base 4 "need_board" ["board"] (uX K)) (D2:Def P w K mg base 1 "is_tuple_of" ["thing", "many"] (rA K))
  (D3:Def P w K mg base 2 "is_whole_within" ["thing", "least", "most"] (rq K)):aE P w K mg base aH 5 f fd ["board", "thing"] (rD K):=by
 refine F.ok o7 (fun vs H Q E h=> ?_) (fun ak A outer s H vs Q E hr h=> ?_)
 ·obtain⟨x,y,wd,hg,rfl,_⟩:=h
  rfl
 ·obtain⟨x,y,wd,hg,rfl,b,⟨ty,hy⟩,q⟩:=h
  refine⟨_,Ze (ZG (Zj D1 hr (Za (pv 0) Zb)))
   (Ze (Ju (pv 0) (Z7 rfl (Zo (Zy (i:=2) o7.nd rfl (Or.inl rfl)) (Zo (Zy (i:=3) o7.nd rfl (Or.inr rfl)) ZT))))
   (Ze (Z2 (Yi (Z3 (Zj D2 (hr.mono (by decide)) (Za (pv 1) (Za (pv 2) Zb))))) (Zk (Zz WL)) ZH)
   (Ze (JN ["row"] 1 [] (i:=4) o7.nd rfl (Or.inl rfl) (yV (pv 1)) (fun C s H fp=>pb 0) (fun C s H fp=>Yp (Ja (YK (pv 0)))) (fun C s H fp D=>ZK rfl (pv 0)))
   (Zk (Zz (YT (Zm UY rfl G.all boot_all (Za (Yk ["row", "high"] 1 [3] (Z6 (pv 4)) (fun C s H fp=>pb 0) (fun C s H fp=>YH)
     (fun C s H fp D=>ZK rfl (Zj D3 (hr.mono (by decide)) (Za (pv 0) (Za Zi (Za (Zn Z0 (pv 1) Zi) Zb)))))) Zb))
    (YS (YJ JC (Zm Wz rfl G.len boot_len (Za (Ya Wx rfl G.set boot_set (Za (pv 4) Zb)) Zb)) (Zm Zv rfl G.len boot_len (Za (pv 4) Zb)) (cY _))))))))),?_⟩
  refine⟨x,rfl,x,wd,hg,rfl,b,fun H1 s1=> ?_⟩
  have b1:=b.same s1
  obtain⟨a,rfl,ha⟩:=ZI b1.1
  refine⟨_,rfl,a,_,rfl,ao.of ha,rfl,_,_,rfl,_,_,rfl,rfl,?_⟩
  refine⟨y,rfl,_,rfl,y,wd,rfl,s1.gO ty,_,rfl,?_⟩
  cases e:aZ H y with
  |none=>
   have e1:aZ H1 y=none:=by
    obtain⟨T,t⟩:=ty
    cases t with
    |tup e2=>rw[Zr e2]at e;cases e
    |lst e2=>rw[Zx,s1 _ _ e2];rfl
    |aW e2=>rw[Zx,s1 _ _ e2];rfl
    |dK e2=>rw[Zx,s1 _ _ e2];rfl
    |dT e2=>rw[Zx,s1 _ _ e2];rfl
    |_=>rfl
   rw[e1]
   rw[e]at q
   exact bh (q H1 s1)
  |some xs=>
   have e1:=s1.aZ e
   rw[e1]
   rw[e]at q
   obtain⟨l,rfl,hl⟩:=ZI e1
   by_cases hw:(xs.length:Int)=wd
   ·refine(show if (!decide ((xs.length:Int)=wd))=true then _ else _ from ?_)
    rw[decide_eq_true hw]
    refine aR ?_
    have Tw:=b.2.2.1
    have hlen:xs.length≤12:=by omega
    refine⟨_,rfl,l,rfl,⟨xs,ao.of hl⟩,?_⟩
    refine Wa (xs:=xs) (fun i ys σ H2=>ys=rowsOf (xs.take i)∧H2=H1∧∃v,σ=[v]) ⟨rfl,rfl,none,rfl⟩ (fun i ys σ H2 _ ⟨_,e2,_⟩=>by rw[e2];exact ao.of hl) ?_ ?_
    ·rintro i r ys σ H2 cq ⟨rfl,rfl,v,rfl⟩
     have et:rowsOf (xs.take (i+1))=rowsOf (xs.take i)++(if (!decide (r=V.af))=true then [r] else []):=by
      unfold rowsOf
      rw[List.take_add_one,cq,List.filter_append]
      cases hh:(!decide (r=V.af)) with
      |true=>simp[hh]
      |false=>simp[hh]
     refine⟨r,rfl,_,rfl,?_⟩
     cases hh:(!decide (r=V.af)) with
     |true=>
      rw[hh]at et
      refine bh ?_
      refine⟨r,rfl,?_,?_⟩
      ·have:=List.length_filter_le (fun x=> !decide (x=V.af)) (xs.take i)
       unfold rowsOf
       rw[sizeLine_eq]
       rw[List.length_take]at this
       omega
      ·exact⟨by rw[et,if_pos rfl],rfl,_,rfl⟩
     |false=>
      rw[hh]at et
      exact aR ⟨by rw[et,if_neg Bool.false_ne_true,List.append_nil],rfl,_,rfl⟩
    ·rintro ys σ H2 ⟨rfl,rfl,v,rfl⟩ p hp
     rw[List.take_length]
     have TB:(rowsOf xs).length≤12:=Nat.le_trans (List.length_filter_le _ _) hlen
     have s2:ae H2 (upd H2 p (.lst (rowsOf xs))):=fun b o hb=>by rw[Zh (Zd hb hp)];exact hb
     refine⟨_,rfl,p,rfl,⟨rowsOf xs,ah.of Zc⟩,?_⟩
     generalize C2:upd H2 p (HO.lst (rowsOf xs))=H3 at s2
     have hJ:H3 p=some (.lst (rowsOf xs)):=by rw[←C2];exact Zc
     refine Yt (xs:=rowsOf xs) (fun i ys σ H4=>ys=((rowsOf xs).take i).map (fun r=>V.bl (bS r 0 (hg - 1)))∧H4=H3∧∃v,σ=[v,some (.int hg)]) ⟨rfl,rfl,none,rfl⟩ (fun i ys σ H4 _ ⟨_,e2,_⟩=>by rw[e2];exact ah.of hJ) ?_ ?_
     ·rintro i r ys σ H4 cq ⟨rfl,rfl,v,rfl⟩
      have mr:r∈xs:=(List.mem_filter.mp (List.mem_of_getElem? cq)).1
      refine⟨r,rfl,_,rfl,_,_,rfl,rfl,r,0,hg - 1,rfl,(s1.trans s2).gO (hy xs e r mr),?_,?_⟩
      ·rw[List.length_map,sizeLine_eq,List.length_take];omega
      ·refine⟨?_,rfl,_,rfl⟩
       rw[List.take_add_one,cq,List.map_append]
       rfl
     ·rintro ys σ H4 ⟨rfl,rfl,v,rfl⟩ p' K1
      rw[List.take_length]
      have s3:∀o,ae H4 (upd H4 p' o):=fun o b u hb=>by rw[Zh (Zd hb K1)];exact hb
      refine⟨p',(rowsOf xs).map (fun r=>bS r 0 (hg - 1)),rfl,?_,?_⟩
      ·rw[List.map_map];exact ah.of Zc
      ·have M7:((rowsOf xs).map (fun r=>bS r 0 (hg - 1))).all id=(rowsOf xs).all fun r=>bS r 0 (hg - 1):=by rw[List.all_map];rfl
       rw[M7]
       have M5:gU wd hg (some xs)=(((rowsOf xs).all fun r=>bS r 0 (hg - 1))&&decide (rowsOf xs).Nodup):=by
        show(decide ((xs.length:Int)=wd)&&_&&_)=_
        rw[decide_eq_true hw,Bool.true_and]
       rw[M5]at q
       refine⟨_,rfl,?_⟩
       cases mn:((rowsOf xs).all fun r=>bS r 0 (hg - 1)) with
       |false=>
        rw[mn]at q
        exact aR (q _ (s1.trans (s2.trans (s3 _))))
       |true=>
        rw[mn,Bool.true_and]at q
        obtain⟨ns,en⟩:=UL mn
        have dA:(upd H4 p' (.lst (((rowsOf xs).map (fun r=>V.bl (bS r 0 (hg - 1))))))) p=some (.lst (rowsOf xs)):=s3 _ _ _ hJ
        refine bh ?_
        have TK:ns.length=(rowsOf xs).length:=by rw[en,List.length_map]
        refine⟨_,rfl,p,ns,rfl,by rw[←en];exact ah.of dA,by omega,fun q2 S cT=> ⟨q2,S,nD ns,rfl,Zc,_,rfl,p,rowsOf xs,rfl,.inl (ah.of ?_),rfl,?_⟩⟩
        ·rw[Zh (Zd dA cT)];exact dA
        ·have ed:decide (V.int (nD ns:Int)=V.int ((rowsOf xs).length:Int))=decide (rowsOf xs).Nodup:=by
          rw[decide_eq_decide]
          rw[en,WM,←U7,List.length_map]
          constructor
          ·intro h;injection h with h;omega
          ·intro h;rw[h]
         rw[ed]
         exact q _ (s1.trans (s2.trans ((s3 _).trans fun b o hb=>by rw[Zh (Zd hb cT)];exact hb)))
   ·refine(show if (!decide ((xs.length:Int)=wd))=true then _ else _ from ?_)
    rw[decide_eq_false hw]
    have e3:gU wd hg (some xs)=false:=by
     show(decide ((xs.length:Int)=wd)&&_&&_)=false
     rw[decide_eq_false hw,Bool.false_and,Bool.false_and]
    rw[e3]at q
    exact bh (q H1 s1)
abbrev vW:Stmt:=top 35
def vp (K:PySem.W.Frag):Sp:=fun vs H Q _=> ∃(a:Addr) (ns:List Int) (k:Nat),vs=[.ref a,.int k]∧ah K H a (ns.map V.int)∧∀n:Int,Q (.int n) H
theorem GL:br ["_law_script", "_law_k"] ["_law_script", "_law_k"] (ay vW):=⟨rfl,rfl,rfl,by decide+kernel,rfl,by decide+kernel,by decide+kernel⟩
theorem P0 {f:Addr}{fd:FuncData}(F:aJ K "_law_cell_at" "_law_cell_at" vW f fd) (G:Gs mg):aE P w K mg base aH 1 f fd ["_law_script", "_law_k"] (vp K):=by
 refine F.ok GL (fun vs H Q E h=> ?_) (fun ak A outer s H vs Q E hr h=> ?_)
 ·obtain⟨a,ns,k,rfl,_⟩:=h
  rfl
 ·obtain⟨a,ns,k,rfl,hs,q⟩:=h
  refine⟨_,Ze (Z2 (ZX DP (pv 1) (Zm Zv rfl G.len boot_len (Za (pv 0) Zb)) (cY _)) (Zk (Zz (ZL ZM (pv 0) (pv 1) (fun _ _=>rfl)))) ZH) (Zk (Zz Zi)),?_⟩
  refine⟨_,rfl,_,rfl,a,ns.map V.int,rfl,.inl hs,_,_,rfl,rfl,_,rfl,?_⟩
  by_cases hk:k<ns.length
  ·rw[decide_eq_true (by rw[List.length_map];omega)]
   refine bh ⟨_,rfl,_,rfl,a,ns.map V.int,k,V.int ns[k],rfl,rfl,hs,ZS ?_,q _⟩
   rw[List.getElem?_map,List.getElem?_eq_getElem hk]
   rfl
  ·rw[decide_eq_false (by rw[List.length_map];omega)]
   exact aR (q 0)
def bz (H:Hp) (p:Addr):Prop:=∃u v:Int,H p=some (.lst [.int u,.int v])∧0≤u∧0≤v∧v<2147483647
abbrev vD:Stmt:=top 36
def uQ (K:PySem.W.Frag):Sp:=fun vs H Q _=> ∃(a:Addr) (ns:List Int) (k:Nat),vs=[.ref a,.int k]∧ah K H a (ns.map V.int)∧∀p H',H p=none→ae H H'→bz H' p→Q (.ref p) H'
theorem Au:br ["_law_script", "_law_k", "_law_cell"] ["_law_script", "_law_k"] (ay vD):=⟨rfl,rfl,rfl,by decide+kernel,rfl,by decide+kernel,by decide+kernel⟩
theorem Rq {f:Addr}{fd:FuncData}(F:aJ K "_law_state" "_law_state" vD f fd) (G:Gs mg) (D1:Def P w K mg base 1 "_law_cell_at" ["_law_script", "_law_k"] (vp K)):aE P w K mg base aH 2 f fd ["_law_script", "_law_k"] (uQ K):=by
 refine F.ok Au (fun vs H Q E h=> ?_) (fun ak A outer s H vs Q E hr h=> ?_)
 ·obtain⟨a,ns,k,rfl,_⟩:=h
  rfl
 ·obtain⟨a,ns,k,rfl,hs,q⟩:=h
  refine⟨_,Ze (Zp (i:=2) Au.nd rfl (Or.inl rfl) (Zj D1 hr (Za (pv 0) (Za (pv 1) Zb))))
   (Zk (Zz (ZB (Za (Zm (WV rfl) rfl G.max boot_max (Za Zi (Za (Zn Z0 (pv 2) (Zn W7 Zi Zi)) Zb))) (Za (Zn Yx (pv 2) Zi) Zb))))),?_⟩
  refine⟨_,rfl,_,rfl,a,ns,k,rfl,hs,fun n=> ?_⟩
  refine⟨_,rfl,_,_,rfl,rfl,⟨by decide,by decide,by decide⟩,_,_,rfl,rfl,_,_,rfl,?_⟩
  refine⟨_,rfl,_,_,rfl,rfl,(by show(0:Int)<2147483647;decide),(by show 2≤sizeLine;decide),fun p hp=>q p _ hp (fun b o hb=>by rw[Zh (Zd hb hp)];exact hb) ?_⟩
  refine⟨_,_,Zc,?_,Int.emod_nonneg _ (by decide),Int.emod_lt_of_pos _ (by decide)⟩
  split<;>omega
abbrev vC:Stmt:=top 37
def i9:Sp:=fun vs H Q _=> ∃(p:Addr) (m:Int),vs=[.ref p,.int m]∧bz H p∧0<m∧m<1073741824∧∀r o,0≤r→r<m→bz (upd H p o) p→Q (.int r) (upd H p o)
theorem rJ:br ["_law_state_here", "_law_many", "_law_found", "_law_stirred"] ["_law_state_here", "_law_many"] (ay vC):=⟨rfl,rfl,rfl,by decide+kernel,rfl,by decide+kernel,by decide+kernel⟩
theorem ou {x y:V} :eE [x,y] 0=some x:=rfl
theorem cb {x y:V} :eE [x,y] 1=some y:=rfl
theorem P2 {f:Addr}{fd:FuncData}(F:aJ K "_law_take" "_law_take" vC f fd):aE P w K mg base aH 1 f fd ["_law_state_here", "_law_many"] i9:=by
 refine F.ok rJ (fun vs H Q E h=> ?_) (fun ak A outer s H vs Q E hr h=> ?_)
 ·obtain⟨p,m,rfl,_⟩:=h
  rfl
 ·obtain⟨p,m,rfl,⟨u,v,hp,hu,hv,Kr⟩,hm,dY,q⟩:=h
  refine⟨_,Ze (Z2 (ZX ui (ZL ZM (pv 0) Zi (fun _ _=>rfl)) Zi (cY _))
    (Ze (Zp (i:=2) rJ.nd rfl (Or.inl rfl) (Zn Yx (ZL ZM (pv 0) Zi (fun _ _=>rfl)) (pv 1)))
    (Ze (Ju (Zn JO (ZL ZM (pv 0) Zi (fun _ _=>rfl)) (pv 1)) (Eb (pv 0) Zi Us)) (Zk (Zz (pv 2))))) ZH)
   (Ze (Ju (Zn Yx (Zn ZU (Zn YL (ZL ZM (pv 0) Zi (fun _ _=>rfl)) Zi) Zi) Zi) (Eb (pv 0) Zi Us))
   (Ze (Zp (i:=3) rJ.nd rfl (Or.inl rfl) (Zn Yx (Zn ZU (Zn ZU (Zn YL (ZL ZM (pv 0) Zi (fun _ _=>rfl)) (ZL ZM (pv 0) Zi (fun _ _=>rfl))) (Zn YL Zi (ZL ZM (pv 0) Zi (fun _ _=>rfl)))) Zi) Zi))
   (Ze (Zp (i:=3) rJ.nd rfl (Or.inl rfl) (Zn Yx (Zn ZU (Zn YL (pv 3) (pv 3)) (Zn YL Zi (pv 3))) Zi))
   (Zk (Zz (Zn Yx (Zn JO (pv 3) Zi) (pv 1))))))),?_⟩
  have s0:=ah.of (K:=K) hp
  refine⟨_,rfl,p,_,_,_,rfl,rfl,s0,ou,_,_,rfl,rfl,_,rfl,?_⟩
  by_cases h0:0<u
  ·rw[decide_eq_true h0]
   refine bh ?_
   refine⟨_,rfl,p,_,_,_,rfl,rfl,s0,ou,_,rfl,_,_,rfl,rfl,hm,?_⟩
   refine⟨_,rfl,p,_,_,_,rfl,rfl,s0,ou,_,rfl,_,_,rfl,rfl,⟨hm,by omega⟩,?_⟩
   refine⟨_,rfl,p,_,0,0,rfl,rfl,hp,rfl,?_⟩
   refine⟨_,rfl,q _ _ (Int.emod_nonneg _ (by omega)) (Int.emod_lt_of_pos _ hm) ?_⟩
   exact⟨u/m,v,Zc,Int.ediv_nonneg hu (by omega),hv,Kr⟩
  ·rw[decide_eq_false h0]
   refine aR ?_
   refine⟨_,rfl,p,_,_,_,rfl,rfl,s0,cb,_,_,rfl,rfl,.inr ⟨by decide,by decide⟩,_,_,rfl,rfl,_,_,rfl,rfl,(by show(0:Int)<2147483647;decide),?_⟩
   refine⟨_,rfl,p,_,1,1,rfl,rfl,hp,rfl,?_⟩
   have b1:0≤((v*48271+29)%2147483647):=Int.emod_nonneg _ (by decide)
   have b2:((v*48271+29)%2147483647)<2147483647:=Int.emod_lt_of_pos _ (by decide)
   have s1:ah K (upd H p (.lst (([V.int u,V.int v]:List V).set 1 (V.int ((v*48271+29)%2147483647))))) p [.int u,.int ((v*48271+29)%2147483647)]:=ah.of Zc
   have lo:∀{t:Int},0≤t→ -(2^64)<t:=fun h=>Int.lt_of_lt_of_le (by decide) h
   have hi:∀{t:Int},t<2147483647→t<2^64:=fun h=>Int.lt_trans h (by decide)
   refine⟨_,rfl,p,_,_,_,rfl,rfl,s1,cb,_,rfl,p,_,_,_,rfl,rfl,s1,cb,_,_,rfl,rfl,.inl ⟨lo b1,hi b2⟩,?_⟩
   refine⟨_,rfl,p,_,_,_,rfl,rfl,s1,cb,_,_,rfl,rfl,.inl ⟨by decide,by decide⟩,_,_,rfl,rfl,_,_,rfl,rfl,_,_,rfl,rfl,(by show(0:Int)<2147483629;decide),?_⟩
   have c1:0≤((((v*48271+29)%2147483647)*((v*48271+29)%2147483647)+39373*((v*48271+29)%2147483647)+7)%2147483629):=Int.emod_nonneg _ (by decide)
   have c2:((((v*48271+29)%2147483647)*((v*48271+29)%2147483647)+39373*((v*48271+29)%2147483647)+7)%2147483629)<2147483647:=Int.lt_trans (Int.emod_lt_of_pos _ (by decide)) (by decide)
   refine⟨_,rfl,_,rfl,_,_,rfl,rfl,.inl ⟨lo c1,hi c2⟩,_,rfl,_,_,rfl,rfl,.inl ⟨by decide,by decide⟩,_,_,rfl,rfl,_,_,rfl,rfl,(by show(0:Int)<2147483587;decide),?_⟩
   refine⟨_,rfl,_,_,rfl,rfl,⟨by decide,by decide⟩,_,rfl,_,_,rfl,rfl,hm,?_⟩
   refine q _ _ (Int.emod_nonneg _ (by omega)) (Int.emod_lt_of_pos _ hm) ?_
   exact⟨u,_,Zc,hu,b1,b2⟩
abbrev vV:Stmt:=top 39
def vm:Sp:=fun vs H Q _=> ∃(p:Addr) (m:Int),vs=[.ref p,.int m]∧bz H p∧0<m∧m<1073741824∧
 ∀(b:Addr) (H':Hp) (wd hg:Int),1≤wd→wd≤m→1≤hg→hg≤m→aq p H H'→bz H' p→H' b=some (.tup [.int wd,.int hg])→b≠p→Q (.ref b) H'
theorem AE:br ["_law_state_here", "_law_upto", "_law_way", "_law_wide", "_law_high"] ["_law_state_here", "_law_upto"] (ay vV):=⟨rfl,rfl,rfl,by decide+kernel,rfl,by decide+kernel,by decide+kernel⟩
theorem Rm {f:Addr}{fd:FuncData}(F:aJ K "_law_board" "_law_board" vV f fd) (D1:Def P w K mg base 1 "_law_take" ["_law_state_here", "_law_many"] i9):aE P w K mg base aH 2 f fd ["_law_state_here", "_law_upto"] vm:=by
 refine F.ok AE (fun vs H Q E h=> ?_) (fun ak A outer s H vs Q E hr h=> ?_)
 ·obtain⟨p,m,rfl,_⟩:=h
  rfl
 ·obtain⟨p,m,rfl,st,hm,dY,q⟩:=h
  refine⟨_,Ze (W6 (i:=2) (j:=3) (k:=4) rfl AE.nd rfl rfl rfl rfl rfl rfl
    (Za (Zj D1 hr (Za (pv 0) (Za Zi Zb))) (Za (Zn ZU Zi (Zj D1 hr (Za (pv 0) (Za (pv 1) Zb)))) (Za (Zn ZU Zi (Zj D1 hr (Za (pv 0) (Za (pv 1) Zb)))) Zb))))
   (Zk (Zz (Q1 (ZX JC (pv 2) Zi (cY _)) (ZA (Za (pv 3) (Za (pv 3) Zb))) (ZA (Za (pv 3) (Za (pv 4) Zb)))))),?_⟩
  refine⟨_,rfl,p,3,rfl,st,by decide,by decide,fun r1 o1 h1 qC aw=> ?_⟩
  refine⟨_,rfl,_,rfl,p,m,rfl,aw,hm,dY,fun r2 o2 h2 km aj=> ⟨_,_,rfl,rfl,?_⟩⟩
  refine⟨_,rfl,_,rfl,p,m,rfl,aj,hm,dY,fun r3 o3 h3 ya aK=> ⟨_,_,rfl,rfl,_,_,_,rfl,?_⟩⟩
  have sx:aq p H (upd (upd (upd H p o1) p o2) p o3):=(aq.upd.trans aq.upd).trans aq.upd
  have fin:∀wd hg:Int,1≤wd→wd≤m→1≤hg→hg≤m→∀b,upd (upd (upd H p o1) p o2) p o3 b=none→Q (.ref b) (upd (upd (upd (upd H p o1) p o2) p o3) b (.tup [.int wd,.int hg])):=fun wd hg a1 a2 a3 a4 b hb=>by
   obtain⟨u,v,e,x1,x2,x3⟩:=aK
   have B7:p≠b:=Zd e hb
   exact q b _ wd hg a1 a2 a3 a4 (fun c o hc hn=>by rw[Zh (Zd (sx c o hc hn) hb)];exact sx c o hc hn) ⟨u,v,by rw[Zh B7];exact e,x1,x2,x3⟩ Zc B7.symm
  refine⟨_,rfl,rfl,_,rfl,?_⟩
  refine sY (fun _=> ?_) (fun _=> ?_)
  ·exact⟨_,rfl,_,rfl,(by show 2≤sizeLine;decide),fun b hb=>fin (1+r2) (1+r2) (by omega) (by omega) (by omega) (by omega) b hb⟩
  ·exact⟨_,rfl,_,rfl,(by show 2≤sizeLine;decide),fun b hb=>fin (1+r2) (1+r3) (by omega) (by omega) (by omega) (by omega) b hb⟩
structure cI (wd hg:Int) (xs:List V):Prop where
 len:(xs.length:Int)=wd
 row:∀r∈rowsOf xs,bS r 0 (hg - 1)=true
 nd:(rowsOf xs).Nodup
theorem cI.is {wd hg:Int}{xs:List V}(h:cI wd hg xs):gU wd hg (some xs)=true:=by
 show(decide ((xs.length:Int)=wd)&&((rowsOf xs).all fun r=>bS r 0 (hg - 1))&&decide (rowsOf xs).Nodup)=true
 rw[decide_eq_true h.len,decide_eq_true h.nd,List.all_eq_true.mpr h.row]
 rfl
abbrev vU:Stmt:=top 41
def vk (K:PySem.W.Frag):Sp:=fun vs H Q _=> ∃(p b:Addr) (wd hg:Int),vs=[.ref p,.ref b]∧bz H p∧fb H (.ref b) wd hg∧
 ∀(l:Addr) (H':Hp) (xs:List V),aq p H H'→bz H' p→H' l=some (.tup xs)→l≠p→cI wd hg xs→Q (.ref l) H'
theorem rM:br ["_law_state_here", "_law_board_here", "_law_way", "_law_left", "_law_found", "_law_line", "_law_share", "_law_spot"] ["_law_state_here", "_law_board_here"] (ay vU):=⟨rfl,rfl,rfl,by decide+kernel,rfl,by decide+kernel,by decide+kernel⟩
theorem MP {v:Int}(h:0≤v) (h':v<5):∃c:Int,eE ([V.int 4,.int 4,.int 3,.int 1,.int 0]:List V) v=some (.int c):=by
 have:v=0∨v=1∨v=2∨v=3∨v=4:=by omega
 rcases this with rfl |rfl |rfl |rfl |rfl<;>exact⟨_,rfl⟩
theorem NZ {n:Nat}{i:Int}(h:0≤i) (h':i<n):seqIndex? i n=some i.toNat:=by
 have e:jk n i=some i.toNat:=by unfold jk;rw[if_pos h,if_pos h']
 exact(Uf e).1
theorem Z9 (xs:List V) (y:V):rowsOf (xs++[y])=rowsOf xs++(if (!decide (y=V.af))=true then [y] else []):=by
 unfold rowsOf
 rw[List.filter_append]
 cases hh:(!decide (y=V.af))<;>simp[hh]
theorem J6:∀(l:List V) (k:Nat) (h:k<l.length),(l[k]::l.eraseIdx k).Perm l
 |x::l,0,_=> .refl _
 |x::l,k+1,h=>by
  have h':k<l.length:=by simpa using h
  show(l[k]::x::l.eraseIdx k).Perm (x::l)
  exact(List.Perm.swap x l[k] _).trans (List.Perm.cons x (J6 l k h'))
theorem Rn {f:Addr}{fd:FuncData}(F:aJ K "_law_lay" "_law_lay" vU f fd) (G:Gs mg) (D1:Def P w K mg base 1 "_law_take" ["_law_state_here", "_law_many"] i9):aE P w K mg base aH 2 f fd ["_law_state_here", "_law_board_here"] (vk K):=by
 refine F.ok rM (fun vs H Q E h=> ?_) (fun ak A outer s H vs Q E hr h=> ?_)
 ·obtain⟨p,b,wd,hg,rfl,_⟩:=h
  rfl
 ·obtain⟨p,b,wd,hg,rfl,st,bd,q⟩:=h
  refine⟨_,Ze (W6 (i:=2) (j:=3) (k:=4) rfl rM.nd rfl rfl rfl rfl rfl rfl
    (Za (Zj D1 hr (Za (pv 0) (Za Zi Zb))) (Za (Ya Wy rfl G.list boot_list (Za (Ya UX rfl G.range boot_range (Za (ZL Yg (pv 1) Zi (fun _ _=>rfl)) Zb)) Zb)) (Za (ZB Zb) Zb))))
   (Ze (Yj PassesOwn.never rfl (ZW rfl G.range (Za (ZL Yg (pv 1) Zi (fun _ _=>rfl)) Zb)) (Zy (i:=5) rM.nd rfl (Or.inl rfl))
    (Ze (Ec (i:=6) (j:=7) rfl rM.nd rfl rfl (by decide) rfl rfl (Za (Zj D1 hr (Za (pv 0) (Za Zi Zb))) (Za (Zj D1 hr (Za (pv 0) (Za Zi Zb))) Zb)) rfl)
    (Zk (Z2 (PW.pt (DR (ZX (O8 hr.uH) (pv 3) (ZB Zb) (cY _)) (Ed (ZX DO (pv 6) (ZL ZM (ZB (Za Zi (Za Zi (Za Zi (Za Zi (Za Zi Zb)))))) (pv 2) (fun _ _=>rfl)) (cY _)))))
     (Zk (ZG (Yv PySem.F.plainAttrs_list PySem.F.slot_list_append PySem.F.type_list_append ZO (pv 4) (Za YI Zb))))
     (Zk (ZG (Yv PySem.F.plainAttrs_list PySem.F.slot_list_append PySem.F.type_list_append ZO (pv 4)
      (Za (Yv PySem.F.plainAttrs_list PySem.F.slot_list_pop PySem.F.type_list_pop Rh (pv 3) (Za (Zn Yx (pv 7) (Zm Zv rfl G.len boot_len (Za (pv 3) Zb))) Zb)) Zb))))))))
   (Zk (Zz (Ya Ww rfl G.tuple boot_tuple (Za (pv 4) Zb))))),?_⟩
  obtain⟨a,e,hb⟩:=ZI bd.1
  cases e
  obtain⟨_,w1,w2,g1,g2⟩:=id bd
  obtain⟨u0,v0,e0,_⟩:=id st
  have ki:b≠p:=Z4 hb e0 (by intro z;cases z)
  refine⟨_,rfl,p,5,rfl,st,by decide,by decide,fun way o1 h1 qC aw=> ?_⟩
  have x1:aq p H (upd H p o1):=aq.upd
  have ql:=x1 _ _ hb ki
  refine⟨_,rfl,b,_,_,_,rfl,rfl,ao.of ql,cb,hg,rfl,fun q1 xc=> ⟨q1,hg,rfl,Zc,by omega,by omega,fun L hL=> ⟨Nat.zero_le _,fun M hM=> ⟨_,_,_,rfl,?_⟩⟩⟩⟩
  generalize xY:upd (upd (upd (upd H p o1) q1 (.fY 0 hg)) L (.lst (L2.upTo hg.toNat))) M (.lst [])=H0
  have sA:ae (upd H p o1) (upd (upd H p o1) q1 (.fY 0 hg)):=fun c o hc=>by rw[Zh (Zd hc xc)];exact hc
  have sB:ae (upd (upd H p o1) q1 (.fY 0 hg)) (upd (upd (upd H p o1) q1 (.fY 0 hg)) L (.lst (L2.upTo hg.toNat))):=fun c o hc=>by rw[Zh (Zd hc hL)];exact hc
  have sC:ae (upd (upd (upd H p o1) q1 (.fY 0 hg)) L (.lst (L2.upTo hg.toNat))) H0:=fun c o hc=>by rw[←xY,Zh (Zd hc hM)];exact hc
  have s0:ae (upd H p o1) H0:=sA.trans (sB.trans sC)
  have Mn:H0 M=some (.lst []):=by rw[←xY];exact Zc
  have Mo:H0 L=some (.lst (L2.upTo hg.toNat)):=sC _ _ Zc
  obtain⟨u1,v1,e1,y1,y2,y3⟩:=id aw
  have df:bz H0 p:=⟨u1,v1,s0 _ _ e1,y1,y2,y3⟩
  have iS:=s0 _ _ e1
  have xT:L≠M:=Zd (by exact Zc) hM
  have B8:p≠L:=Zd (sA _ _ e1) hL
  have xh:p≠M:=Zd (sB _ _ (sA _ _ e1)) hM
  have og:H0 b=some (.tup [.int wd,.int hg]):=s0 _ _ ql
  have xt:∀H2,(∀c o,H0 c=some o→c≠p→c≠L→c≠M→H2 c=some o)→aq p H H2:=fun H2 k c o hc hn=>by
   have c1:=x1 c o hc hn
   exact k c o (s0 _ _ c1) hn (Zd (sA _ _ c1) hL) (Zd (sB _ _ (sA _ _ c1)) hM)
  refine⟨_,rfl,b,_,_,_,rfl,rfl,ao.of og,ou,wd,rfl,by omega,by omega,?_⟩
  refine Yc (n:=wd.toNat) (fun i σ H2=> ∃(ls fs:List V) (x5 x6 x7:Option V),σ=[some (.ref p),some (.ref b),some (.int way),some (.ref L),some (.ref M),x5,x6,x7]∧
    (∀c o,H0 c=some o→c≠p→c≠L→c≠M→H2 c=some o)∧bz H2 p∧H2 L=some (.lst ls)∧H2 M=some (.lst fs)∧fs.length=i∧(∀r∈rowsOf fs++ls,bS r 0 (hg - 1)=true)∧(rowsOf fs++ls).Nodup)
   ⟨L2.upTo hg.toNat,[],none,none,none,rfl,fun c o hc _ _ _=>hc,df,Mo,Mn,rfl,?_,?_⟩ ?_ ?_
  ·intro r cq
   have eQ:r∈L2.upTo hg.toNat:=cq
   unfold L2.upTo at eQ
   obtain⟨j,hj,rfl⟩:=List.mem_map.mp eQ
   have:=List.mem_range.mp hj
   show(decide ((0:Int)≤(j:Int))&&decide ((j:Int)≤hg - 1))=true
   rw[decide_eq_true (by omega),decide_eq_true (by omega)]
   rfl
  ·show(L2.upTo hg.toNat).Nodup
   unfold L2.upTo
   have e:((List.range hg.toNat).map fun(i:Nat)=>V.int (i:Int))=(((List.range hg.toNat).map fun(i:Nat)=> (i:Int))).map V.int:=by rw[List.map_map];rfl
   rw[e,WM]
   exact List.Pairwise.map _ (fun x y h z=>h (by omega)) List.nodup_range
  ·rintro i σ H2 hi ⟨ls,fs,x5,x6,x7,rfl,k2,aj,iK,dY,xy,eP,dF⟩
   refine⟨_,rfl,p,4,rfl,aj,by decide,by decide,fun sh o3 _ _ aK=> ?_⟩
   refine⟨_,rfl,p,12,rfl,aK,by decide,by decide,fun sp o4 BX tw cV=> ⟨_,_,rfl,?_⟩⟩
   generalize oi:upd (upd H2 p o3) p o4=H4 at cV
   have x4:aq p H2 H4:=by rw[←oi];exact aq.upd.trans aq.upd
   have tG:=x4 _ _ iK B8.symm
   have l9:=x4 _ _ dY xh.symm
   have k4:∀c o,H0 c=some o→c≠p→c≠L→c≠M→H4 c=some o:=fun c o hc a1 a2 a3=>x4 c o (k2 c o hc a1 a2 a3) a1
   have hlen:fs.length<sizeLine:=by rw[sizeLine_eq];omega
   refine⟨_,rfl,Nat.zero_le _,fun q2 cT=> ⟨L,q2,ls,rfl,rfl,?_,ah.of Zc,_,rfl,?_⟩⟩
   ·exact ah.of (by rw[Zh (Zd tG cT)];exact tG)
   have sD:ae H4 (upd H4 q2 (.lst [])):=fun c o hc=>by rw[Zh (Zd hc cT)];exact hc
   generalize qA:upd H4 q2 (HO.lst [])=H5 at sD
   obtain⟨u4,v4,e4,z1,z2,z3⟩:=id cV
   have keep:∀H6,ae H4 H6→(∀c o,H0 c=some o→c≠p→c≠L→c≠M→H6 c=some o)∧bz H6 p:=fun H6 s6=> ⟨fun c o hc a1 a2 a3=>s6 _ _ (k4 c o hc a1 a2 a3),u4,v4,s6 _ _ e4,z1,z2,z3⟩
   have DK:∀H6,ae H4 H6→Ah K "list" A4 (jH 4) (i7 (tC .af) jJ) [some (.ref p),some (.ref b),some (.int way),some (.ref L),some (.ref M),some (.int (0+(i:Int))),some (.int sh),some (.int sp)] H6 (fun _ H7=> ∃(ls fs:List V) (x5 x6 x7:Option V),([some (.ref p),some (.ref b),some (.int way),some (.ref L),some (.ref M),some (.int (0+(i:Int))),some (.int sh),some (.int sp)]:L2.St)=[some (.ref p),some (.ref b),some (.int way),some (.ref L),some (.ref M),x5,x6,x7]∧
     (∀c o,H0 c=some o→c≠p→c≠L→c≠M→H7 c=some o)∧bz H7 p∧H7 L=some (.lst ls)∧H7 M=some (.lst fs)∧fs.length=i+1∧(∀r∈rowsOf fs++ls,bS r 0 (hg - 1)=true)∧(rowsOf fs++ls).Nodup):=fun H6 s6=>by
    obtain⟨k6,t6⟩:=keep H6 s6
    have pS:=s6 _ _ l9
    have fM:=s6 _ _ tG
    refine⟨_,rfl,.inl ⟨rfl,_,ah.of pS⟩,M,fs,.af,rfl,rfl,pS,hlen,ls,fs++[.af],_,_,_,rfl,fun c o hc a1 a2 a3=>by rw[Zh a3];exact k6 c o hc a1 a2 a3,?_,by rw[Zh xT];exact fM,Zc,by rw[List.length_append,xy];rfl,?_,?_⟩
    ·obtain⟨u,v,e,r⟩:=t6
     exact⟨u,v,by rw[Zh xh];exact e,r⟩
    ·rw[Z9];simpa using eP
    ·rw[Z9];simpa using dF
   cases qd:ls.isEmpty with
   |true=>exact bh (bh (DK H5 sD))
   |false=>
    refine aR ?_
    have bZ:ls≠[]:=fun z=>by rw[z]at qd;cases qd
    have KW:0<ls.length:=List.length_pos_iff.mpr bZ
    refine⟨_,rfl,(by show 5≤sizeLine;decide),fun q3 l5=> ?_⟩
    obtain⟨c5,L7⟩:=MP h1 qC
    have sE:ae H5 (upd H5 q3 (.lst [.int 4,.int 4,.int 3,.int 1,.int 0])):=fun c o hc=>by rw[Zh (Zd hc l5)];exact hc
    refine⟨_,rfl,q3,_,_,_,rfl,rfl,ah.of Zc,L7,_,_,rfl,rfl,_,rfl,?_⟩
    generalize C1:upd H5 q3 (HO.lst [V.int 4,.int 4,.int 3,.int 1,.int 0])=H6 at sE
    have s6:=sD.trans sE
    refine sY (fun _=>DK H6 s6) (fun _=> ?_)
    obtain⟨k6,t6⟩:=keep H6 s6
    have pS:=s6 _ _ l9
    have fM:=s6 _ _ tG
    have m1:0≤sp%(ls.length:Int):=Int.emod_nonneg _ (by omega)
    have m2:sp%(ls.length:Int)<ls.length:=Int.emod_lt_of_pos _ (by omega)
    have m3:(sp%(ls.length:Int)).toNat<ls.length:=by omega
    have m4:sp%(ls.length:Int)<2^63:=by
     by_cases hh:sp< (ls.length:Int)
     ·rw[Int.emod_eq_of_lt BX hh];omega
     ·omega
    refine⟨_,rfl,.inl ⟨rfl,_,ah.of pS⟩,_,rfl,.inl ⟨rfl,_,ah.of fM⟩,_,rfl,_,rfl,L,ls,rfl,.inl (ah.of fM),_,_,rfl,rfl,(by show(0:Int)< (ls.length:Int);omega),L,ls,_,_,_,rfl,rfl,fM,by omega,m4,NZ m1 m2,List.getElem?_eq_getElem m3,?_⟩
    generalize hk:(sp%(ls.length:Int)).toNat=k at m3
    have Co:upd H6 L (.lst (ls.eraseIdx k)) M=some (.lst fs):=by rw[Zh xT.symm];exact pS
    have my:ls[k]∈ls:=List.getElem_mem m3
    have wy:bS ls[k] 0 (hg - 1)=true:=eP _ (List.mem_append_right _ my)
    have ny:(!decide (ls[k]=V.af))=true:=by
     cases e:ls[k] with
     |af=>rw[e]at wy;cases wy
     |_=>rfl
    have pm:(rowsOf fs++[ls[k]]++ls.eraseIdx k).Perm (rowsOf fs++ls):=by
     rw[List.append_assoc]
     exact List.Perm.append_left _ (J6 ls k m3)
    refine⟨M,fs,_,rfl,rfl,Co,hlen,ls.eraseIdx k,fs++[ls[k]],_,_,_,rfl,fun c o hc a1 a2 a3=>by rw[Zh a3,Zh a2];exact k6 c o hc a1 a2 a3,?_,by rw[Zh xT,Zc],Zc,by rw[List.length_append,xy];rfl,?_,?_⟩
    ·obtain⟨u,v,e,r⟩:=t6
     exact⟨u,v,by rw[Zh xh,Zh B8];exact e,r⟩
    ·rw[Z9,if_pos ny]
     intro r cq
     exact eP r (pm.mem_iff.mp cq)
    ·rw[Z9,if_pos ny]
     exact pm.nodup_iff.mpr dF
  ·rintro σ H2 ⟨ls,fs,x5,x6,x7,rfl,k2,aj,iK,dY,xy,eP,dF⟩
   refine⟨_,rfl,M,fs,rfl,.inl ⟨ah.of dY,fun l hl=> ?_⟩⟩
   obtain⟨u,v,e,r⟩:=id aj
   have dA:p≠l:=Zd e hl
   refine q l _ fs (fun c o hc hn=> ?_) ⟨u,v,by rw[Zh dA];exact e,r⟩ Zc dA.symm ⟨by omega,fun r cq=>eP r (List.mem_append_left _ cq),(List.nodup_append.mp dF).1⟩
   have:=xt H2 k2 c o hc hn
   rw[Zh (Zd this hl)]
   exact this
end
section
def lh:V→Option Int
 | .int r=>some r
 |_=>none
def rowAt (xs:List V) (i:Nat):Option Int:=xs[i]?.bind lh
abbrev iW:=Int×Int×Int×Int
def eO (xs:List V) (o l:Nat):Option iW:=(rowAt xs l).bind fun a=> (rowAt xs o).map fun b=> ((o:Int) - l,b - a,(l:Int),(o:Int))
def eK (xs:List V) (o j:Nat):List iW:=(List.range j).filterMap (eO xs o)
def ck (xs:List V) (n:Nat):List iW:=(List.range n).flatMap fun o=>eK xs o o
theorem YG (xs:List V) (o j:Nat):eK xs o (j+1)=eK xs o j++(eO xs o j).toList:=by
 unfold eK
 rw[List.range_succ,List.filterMap_append]
 cases h:eO xs o j<;>simp[h]
theorem ZN (xs:List V) (n:Nat):ck xs (n+1)=ck xs n++eK xs n n:=by
 unfold ck
 rw[List.range_succ,List.flatMap_append]
 simp
def mO (H:Hp) (v:V) (q:iW):Prop:=∃t t':Addr,v=.ref t∧H t=some (.tup [.ref t',.int q.2.2.1,.int q.2.2.2])∧H t'=some (.tup [.int q.1,.int q.2.1])
theorem mO.x {M:Addr}{H H':Hp}{v:V}{q:iW}(h:mO H v q) {ms:List V}(hM:H M=some (.lst ms)) (s:aq M H H'):mO H' v q:=by
 obtain⟨t,t',e,h1,h2⟩:=h
 exact⟨t,t',e,s _ _ h1 (Z4 h1 hM (by intro z;cases z)),s _ _ h2 (Z4 h2 hM (by intro z;cases z))⟩
def mP (xs:List V):Prop:=∀x∈xs,x=.af∨∃i,x=.int i
theorem cI.ok {wd hg:Int}{xs:List V}(h:cI wd hg xs):mP xs:=fun x hx=>by
 by_cases e:x=.af
 ·exact .inl e
 ·have m:x∈rowsOf xs:=List.mem_filter.mpr ⟨hx,by simp[e]⟩
  have q:=h.row x m
  cases x with
  |int i=>exact .inr ⟨i,rfl⟩
  |_=>cases q
end
section
variable {P:Program}{w:World}{K:PySem.W.Frag}{mg:Str→Option Value}{base:Heap}
abbrev vI:Stmt:=top 42
def rE (K:PySem.W.Frag):Sp:=fun vs H Q _=> ∃(a:Addr) (xs:List V),vs=[.ref a]∧ao K H a xs∧H a=some (.tup xs)∧mP xs∧xs.length≤12∧
 ∀(l:Addr) (H':Hp) (rs:List V),ae H H'→H l=none→H' l=some (.lst rs)→Paired (mO H') rs (ck xs xs.length)→Q (.ref l) H'
theorem rK:br ["_law_lay_here", "_law_found", "_law_other", "_law_line"] ["_law_lay_here"] (ay vI):=⟨rfl,rfl,rfl,by decide+kernel,rfl,by decide+kernel,by decide+kernel⟩
theorem RL {f:Addr}{fd:FuncData}(F:aJ K "_law_steps" "_law_steps" vI f fd) (G:Gs mg):aE P w K mg base aH 1 f fd ["_law_lay_here"] (rE K):=by
 refine F.ok rK (fun vs H Q E h=> ?_) (fun ak A outer s H vs Q E hr h=> ?_)
 ·obtain⟨a,xs,rfl,_⟩:=h
  rfl
 ·obtain⟨a,xs,rfl,_,ha,eP,hlen,q⟩:=h
  refine⟨_,Ze (Zp (i:=1) rK.nd rfl (Or.inl rfl) (ZB Zb))
   (Ze (Yj PassesOwn.never rfl (ZW rfl G.range (Za (Zm Zv rfl G.len boot_len (Za (pv 0) Zb)) Zb)) (Zy (i:=2) rK.nd rfl (Or.inl rfl))
    (Zk (Yj PassesOwn.never rfl (ZW rfl G.range (Za (pv 2) Zb)) (Zy (i:=3) rK.nd rfl (Or.inl rfl))
     (Zk (Z2 (PW.pt (W4 (Ja (YK (ZL Yg (pv 0) (pv 3) (fun _ _=>rfl)))) (JL (Ja (YK (ZL Yg (pv 0) (pv 2) (fun _ _=>rfl)))))))
      (Zk (ZG (Yv PySem.F.plainAttrs_list PySem.F.slot_list_append PySem.F.type_list_append ZO (pv 1)
       (Za (ZA (Za (ZA (Za (Zn Z0 (pv 2) (pv 3)) (Za (Zn Z0 (ZL Yg (pv 0) (pv 2) (fun _ _=>rfl)) (ZL Yg (pv 0) (pv 3) (fun _ _=>rfl))) Zb))) (Za (pv 3) (Za (pv 2) Zb)))) Zb)))) ZH)))))
   (Zk (Zz (pv 1)))),?_⟩
  refine⟨Nat.zero_le _,fun M hM=> ?_⟩
  have s0:ae H (upd H M (.lst [])):=fun c o hc=>by rw[Zh (Zd hc hM)];exact hc
  refine⟨_,rfl,a,xs,rfl,.inr (ao.of (s0 _ _ ha)),(xs.length:Int),rfl,by omega,by omega,?_⟩
  refine Yc (n:=((xs.length:Int)).toNat) (fun i σ H2=> ∃(rs:List V) (x2 x3:Option V),σ=[some (.ref a),some (.ref M),x2,x3]∧ae H H2∧H2 M=some (.lst rs)∧Paired (mO H2) rs (ck xs i)∧rs.length≤i*12)
   ⟨[],none,none,rfl,s0,Zc,.nil,Nat.zero_le _⟩ ?_ ?_
  ·rintro i σ H2 hi ⟨rs,x2,x3,rfl,s2,dY,ff,iK⟩
   have bP:i<xs.length:=by omega
   refine⟨_,rfl,(0+(i:Int)),rfl,by omega,by omega,?_⟩
   refine Yc (n:=((0:Int)+(i:Int)).toNat) (fun j σ H3=> ∃(rs:List V) (x3:Option V),σ=[some (.ref a),some (.ref M),some (.int (i:Int)),x3]∧ae H H3∧H3 M=some (.lst rs)∧Paired (mO H3) rs (ck xs i++eK xs i j)∧rs.length≤i*12+j)
    ⟨rs,x3,by rw[Int.zero_add];rfl,s2,dY,by simpa[eK] using ff,iK⟩ ?_ ?_
   ·rintro j σ H3 hj ⟨rs,x3,rfl,s3,jn,je,xp⟩
    have dG:j<i:=by omega
    have tN:=s3 _ _ ha
    have md:j<xs.length:=by omega
    have ej:eE xs (0+(j:Int))=some xs[j]:=by rw[Int.zero_add];exact ZS (List.getElem?_eq_getElem md)
    have ei:eE xs (i:Int)=some xs[i]:=ZS (List.getElem?_eq_getElem bP)
    have rj:rowAt xs j=lh xs[j]:=by unfold rowAt;rw[List.getElem?_eq_getElem md];rfl
    have ri:rowAt xs i=lh xs[i]:=by unfold rowAt;rw[List.getElem?_eq_getElem bP];rfl
    refine⟨_,rfl,_,rfl,a,xs,_,_,rfl,rfl,ao.of tN,ej,_,rfl,?_⟩
    have skip:eO xs i j=none→∃(vZ:List V) (x3:Option V),([some (.ref a),some (.ref M),some (.int (i:Int)),some (.int (0+(j:Int)))]:L2.St)=[some (.ref a),some (.ref M),some (.int (i:Int)),x3]∧ae H H3∧H3 M=some (.lst vZ)∧Paired (mO H3) vZ (ck xs i++eK xs i (j+1))∧vZ.length≤i*12+(j+1):=fun e=>by
     refine⟨rs,_,rfl,s3,jn,?_,by omega⟩
     rw[YG,e]
     simpa using je
    rcases eP xs[j] (List.getElem_mem md) with nj |⟨vj,nj⟩
    ·rw[nj]
     exact aR (aR (skip (by unfold eO;rw[rj,nj];rfl)))
    ·rw[nj]
     refine bh ?_
     refine⟨_,rfl,_,rfl,a,xs,_,_,rfl,rfl,ao.of tN,ei,_,rfl,?_⟩
     rcases eP xs[i] (List.getElem_mem bP) with ni |⟨vi,ni⟩
     ·rw[ni]
      exact aR (skip (by unfold eO;rw[rj,ri,nj,ni];rfl))
     ·rw[ni]
      refine bh ?_
      refine⟨_,rfl,.inl ⟨rfl,_,ah.of jn⟩,_,rfl,_,rfl,_,_,rfl,rfl,_,rfl,_,rfl,a,xs,_,_,rfl,rfl,ao.of tN,ei,_,rfl,_,rfl,a,xs,_,_,rfl,rfl,ao.of tN,ej,vi,vj,by rw[ni],by rw[nj],(by show 2≤sizeLine;decide),fun t' nR=> ?_⟩
      refine⟨_,rfl,_,rfl,(by show 3≤sizeLine;decide),fun t ht=> ?_⟩
      generalize oi:upd H3 t' (HO.tup [V.int ((i:Int) - (0+(j:Int))),V.int (vi - vj)])=H4 at ht
      have s4:ae H3 H4:=fun c o hc=>by rw[←oi,Zh (Zd hc nR)];exact hc
      have KH:H4 t'=some (.tup [V.int ((i:Int) - (0+(j:Int))),V.int (vi - vj)]):=by rw[←oi];exact Zc
      generalize qA:upd H4 t (HO.tup [V.ref t',V.int (0+(j:Int)),V.int (i:Int)])=H5
      have s5:ae H4 H5:=fun c o hc=>by rw[←qA,Zh (Zd hc ht)];exact hc
      have BW:H5 t=some (.tup [V.ref t',V.int (0+(j:Int)),V.int (i:Int)]):=by rw[←qA];exact Zc
      have iJ:=s5 _ _ (s4 _ _ jn)
      have sX:aq M H3 (upd H5 M (.lst (rs++[.ref t]))):=(s4.trans s5).x.trans aq.upd
      have Lg:rs.length<sizeLine:=by rw[sizeLine_eq];omega
      refine⟨M,rs,_,rfl,rfl,iJ,Lg,rs++[.ref t],_,rfl,?_,Zc,?_,by rw[List.length_append];simp;omega⟩
      ·intro c o hc
       have h3:=s3 _ _ hc
       exact sX c o h3 (Zd hc hM)
      ·rw[YG,←List.append_assoc]
       have es:eO xs i j=some ((i:Int) - j,vi - vj,(j:Int),(i:Int)):=by unfold eO;rw[rj,ri,nj,ni];rfl
       rw[es]
       refine Paired.snoc (Paired.dj je fun v q' hq=>hq.x jn sX) ⟨t,t',rfl,?_,?_⟩
       ·rw[Zh (Z4 BW iJ (by intro z;cases z)),BW,Int.zero_add]
       ·have:=s5 _ _ KH
        rw[Zh (Z4 this iJ (by intro z;cases z)),this,Int.zero_add]
   ·rintro σ H3 ⟨rs,x3,rfl,s3,jn,je,xp⟩
    have ei:((0:Int)+(i:Int)).toNat=i:=by omega
    rw[ei]at je xp
    refine⟨rs,_,_,rfl,s3,jn,?_,by omega⟩
    rw[ZN]
    exact je
  ·rintro σ H2 ⟨rs,x2,x3,rfl,s2,dY,ff,iK⟩
   have e:((xs.length:Int)).toNat=xs.length:=by omega
   rw[e]at ff
   exact⟨_,rfl,q M H2 rs s2 hM dY ff⟩
end
section
def keyOf (q:iW):List Key:=[Sum.inl q.1,Sum.inl q.2.1]
def dN (xs:List V):Bool:=decide ((ck xs xs.length).map keyOf).Nodup
theorem Jn (xs:List V):∀n,(ck xs n).length≤n*n
 |0=>Nat.zero_le _
 |n+1=>by
  have ih:=Jn xs n
  have h2:(eK xs n n).length≤n:=by
   have:=List.length_filterMap_le (eO xs n) (List.range n)
   rw[List.length_range]at this
   exact this
  rw[ZN,List.length_append,Nat.add_mul,Nat.mul_add]
  omega
theorem We (xs:List V) (h:xs.length≤12):(ck xs xs.length).length≤144:=Nat.le_trans (Jn xs _) (Nat.mul_le_mul h h)
end
section
variable {P:Program}{w:World}{K:PySem.W.Frag}{mg:Str→Option Value}{base:Heap}
abbrev vH:Stmt:=top 43
def ve:Sp:=fun vs H Q _=> ∃(a:Addr) (xs:List V),vs=[.ref a]∧H a=some (.tup xs)∧mP xs∧xs.length≤12∧∀H',ae H H'→Q (.bl (dN xs)) H'
theorem o8:br ["_law_lay_here", "_law_met", "_law_step", "_law_line", "_law_other"] ["_law_lay_here"] (ay vH):=⟨rfl,rfl,rfl,by decide+kernel,rfl,by decide+kernel,by decide+kernel⟩
theorem Paired.at {α β:Type}{F:α→β→Prop} :∀{jX:List α}{jW:List β}{i:Nat}{a:α},Paired F jX jW→jX[i]? =some a→∃b,jW[i]? =some b∧F a b
 |_,_,_,_,.nil,e=>by simp at e
 |_,_,0,_,.cons r _,e=>by simp at e;subst e;exact⟨_,rfl,r⟩
 |_,_,i+1,a,.cons _ t,e=>by
  obtain⟨u,h1,h2⟩:=Paired.at (i:=i) (a:=a) t (by simpa using e)
  exact⟨u,by simpa using h1,h2⟩
theorem RC {f:Addr}{fd:FuncData}(F:aJ K "_law_unlike" "_law_unlike" vH f fd) (D1:Def P w K mg base 1 "_law_steps" ["_law_lay_here"] (rE K)):aE P w K mg base aH 2 f fd ["_law_lay_here"] ve:=by
 refine F.ok o8 (fun vs H Q E h=> ?_) (fun ak A outer s H vs Q E hr h=> ?_)
 ·obtain⟨a,xs,rfl,_⟩:=h
  rfl
 ·obtain⟨a,xs,rfl,ha,eP,hlen,q⟩:=h
  have hu:=UN hr
  refine⟨_,Ze (Zp (i:=1) o8.nd rfl (Or.inl rfl) Ux)
   (Ze (Yj PassesOwn.never rfl (Z6 (Zj D1 hr (Za (pv 0) Zb))) (Z7 rfl (Zo (Zy (i:=2) o8.nd rfl (Or.inl rfl)) (Zo (Zy (i:=3) o8.nd rfl (Or.inl rfl)) (Zo (Zy (i:=4) o8.nd rfl (Or.inl rfl)) ZT))))
    (Ze (Z2 (Ja (O9 hu (pv 2) (pv 1))) (Zk (Zz WL)) ZH) (Zk (EG hu (pv 1) (pv 2) WL rfl))))
   (Zk (Zz WL))),?_⟩
  intro d hd
  have s0:ae H (upd H d (.dT [])):=fun c o hc=>by rw[Zh (Zd hc hd)];exact hc
  have tO:=s0 _ _ ha
  refine⟨_,rfl,a,xs,rfl,ao.of tO,tO,eP,hlen,fun l H1 rs s1 TQ hl pr=> ⟨l,rfl,⟨rs,ah.of hl⟩,?_⟩⟩
  have tL:H1 d=some (.dT []):=s1 _ _ Zc
  have Ln:l≠d:=Z4 hl tL (by intro z;cases z)
  generalize BZ:ck xs xs.length=qs at pr
  have Kv:dN xs=decide (qs.map keyOf).Nodup:=by unfold dN;rw[BZ]
  rw[Kv]at q
  have Li:rs.length=qs.length:=Paired.length pr
  refine YV (K:=K) (a:=l) (xs:=rs) (fun i σ H2=> ∃(kvs:List (List Key×V)) (x2 x3 x4:Option V),σ=[some (.ref a),some (.ref d),x2,x3,x4]∧aq d H1 H2∧H2 d=some (.dT kvs)∧kvs.map (·.1)=(qs.take i).map keyOf∧((qs.take i).map keyOf).Nodup)
   ⟨[],none,none,none,rfl,aq.refl _ _,tL,rfl,List.nodup_nil⟩ (fun i σ H2 _ ⟨_,_,_,_,_,k,_⟩=>ah.of (k _ _ hl Ln)) ?_ ?_
  ·rintro i v σ H2 hv ⟨kvs,x2,x3,x4,rfl,k2,hd2,f9,nT⟩
   obtain⟨qq,hq,t,t',rfl,ht,nR⟩:=Paired.at pr hv
   have w4:=k2 _ _ ht (Z4 ht tL (by intro z;cases z))
   have KI:=k2 _ _ nR (Z4 nR tL (by intro z;cases z))
   have ym:(qs.take (i+1)).map keyOf=(qs.take i).map keyOf++[keyOf qq]:=by rw[List.take_add_one,hq,List.map_append];rfl
   have Cv:H2 t'=some (.tup ((keyOf qq).map kV)):=KI
   refine⟨t,_,rfl,ao.of w4,rfl,_,_,rfl,_,_,rfl,_,_,rfl,rfl,?_⟩
   refine⟨_,rfl,_,rfl,d,_,rfl,jC.t hd2 Cv,_,rfl,?_⟩
   have hsz:kvs.length<sizeLine:=by
    have e1:kvs.length=((qs.take i).map keyOf).length:=by rw[←f9,List.length_map]
    rw[List.length_map,List.length_take]at e1
    have:i<rs.length:=(List.getElem?_eq_some_iff.mp hv).1
    rw[sizeLine_eq]
    have KU:=We xs hlen
    rw[BZ]at KU
    omega
   cases e:bK kvs (keyOf qq) with
   |some z=>
    refine bh ?_
    have m:keyOf qq∈(qs.take i).map keyOf:=by rw[←f9];exact Qh e
    have K5:¬(qs.map keyOf).Nodup:=fun nd=>by
     have e2:qs.map keyOf=(qs.take (i+1)).map keyOf++(qs.drop (i+1)).map keyOf:=by rw[←List.map_append,List.take_append_drop]
     rw[e2,ym]at nd
     have:=(List.nodup_append.mp nd).1
     exact(List.nodup_append.mp this).2.2 _ m _ (List.mem_singleton.mpr rfl) rfl
    rw[decide_eq_false K5]at q
    exact q _ fun c o hc=>k2 c o (s1 _ _ (s0 _ _ hc)) (Zd hc hd)
   |none=>
    refine aR ?_
    refine⟨_,rfl,_,rfl,d,_,rfl,oF.t hd2 Cv hsz,putK kvs (keyOf qq) (.bl true),_,_,_,rfl,k2.trans aq.upd,Zc,?_,?_⟩
    ·rw[Q6 _ e,List.map_append,f9,ym];rfl
    ·rw[ym]
     exact Ua nT (by rw[←f9];exact Rf e)
  ·rintro σ H2 ⟨kvs,x2,x3,x4,rfl,k2,hd2,f9,nT⟩
   rw[Li,List.take_length]at nT
   rw[decide_eq_true nT]at q
   exact q _ fun c o hc=>k2 c o (s1 _ _ (s0 _ _ hc)) (Zd hc hd)
end
section
def Hg (K:PySem.W.Frag):R2:=fun x y H Q=> ∃a b ys,x=.ref a∧y=.ref b∧ao K H a []∧ao K H b ys∧Q (.ref b) H
def jS (K:PySem.W.Frag):R2:=fun x y H Q=>Hg K x y H Q∨A3 K x y H Q
theorem Yr {X:Cx} :bg X (binaryOp .Add) (jS X.K):=QX.or P5
theorem En {K:PySem.W.Frag}{fa:Addr}{fs:List V}{y:V}{H:Hp}{Q:VK}{σ:L2.St}{i j:Nat}(hf:H fa=some (.tup fs)) (hl:fs.length≤100) (h1:σ[i]? =some (some (.ref fa))) (h2:σ[j]? =some (some y))
  (q:∀(a':Addr) (H':Hp),ae H H'→H' a'=some (.tup (fs++[y]))→Q (.ref a') H'):jI (jS K) (jH i) (qY (i7 (jH j) jJ)) σ H Q:=by
 refine⟨_,h1,_,h2,(by show 1≤sizeLine;decide),fun t ht=> ?_⟩
 have s1:ae H (upd H t (.tup [y])):=fun c o hc=>by rw[Zh (Zd hc ht)];exact hc
 have CD:=s1 _ _ hf
 cases fs with
 |nil=>exact .inl ⟨fa,t,[y],rfl,rfl,ao.of CD,ao.of Zc,q t _ s1 Zc⟩
 |cons x r=>
  refine .inr ⟨fa,t,x::r,[y],rfl,rfl,ao.of CD,ao.of Zc,(by simp),(by rw[sizeLine_eq];simp at hl ⊢;omega),(fun e=>by cases e),fun _ p hp=> ?_⟩
  exact q p _ (s1.trans fun c o hc=>by rw[Zh (Zd hc hp)];exact hc) Zc
theorem RH (n:Nat):L2.upTo (n+1)=L2.upTo n++[.int (n:Int)]:=by
 unfold L2.upTo
 rw[List.range_succ,List.map_append]
 rfl
theorem PV {n:Nat}{x:V}(h:x∈L2.upTo n):∃j:Nat,j<n∧x=.int (j:Int):=by
 unfold L2.upTo at h
 obtain⟨j,hj,e⟩:=List.mem_map.mp h
 exact⟨j,List.mem_range.mp hj,e.symm⟩
theorem JY {fs:List V}{y:V}{i:Nat}(h:i<fs.length):rowAt (fs++[y]) i=rowAt fs i:=by
 unfold rowAt
 rw[List.getElem?_append_left h]
theorem UP {α β:Type}{f g:α→Option β} :∀{l:List α},(∀x∈l,f x=g x)→l.filterMap f=l.filterMap g
 | [],_=>rfl
 |a::l,h=>by
  rw[List.filterMap_cons,List.filterMap_cons,h a List.mem_cons_self,UP fun x hx=>h x (List.mem_cons_of_mem _ hx)]
theorem Y9 {fs:List V}{y:V} :∀n,n≤fs.length→ck (fs++[y]) n=ck fs n
 |0,_=>rfl
 |n+1,h=>by
  rw[ZN,ZN,Y9 n (by omega)]
  congr 1
  unfold eK
  refine UP fun j hj=> ?_
  have:=List.mem_range.mp hj
  unfold eO
  rw[JY (by omega),JY (by omega)]
theorem Uq {fs:List V}(h:dN fs=true):dN (fs++[.af])=true:=by
 unfold dN at h ⊢
 have e:(fs++[V.af]).length=fs.length+1:=by simp
 rw[e,ZN,Y9 _ (Nat.le_refl _)]
 have e2:eK (fs++[V.af]) fs.length fs.length=[]:=by
  unfold eK
  rw[List.filterMap_eq_nil_iff]
  intro j _
  unfold eO
  have e3:rowAt (fs++[V.af]) fs.length=none:=by unfold rowAt;simp;rfl
  rw[e3]
  cases rowAt (fs++[V.af]) j<;>rfl
 rw[e2,List.append_nil]
 exact h
theorem Rj {j:Int}{fs:List V}(h:(!fJ (.int j) fs)=true):V.int j∉fs:=fun m=>by
 have:fJ (.int j) fs=true:=List.any_eq_true.mpr ⟨_,m,by show(j==j)=true;simp⟩
 rw[this]at h
 cases h
theorem three {v:Int}(h:0≤v) (h':v<3):∃c:Int,eE ([V.int 0,.int 1,.int 3]:List V) v=some (.int c):=by
 have:v=0∨v=1∨v=2:=by omega
 rcases this with rfl |rfl |rfl<;>exact⟨_,rfl⟩
end
section
variable {P:Program}{w:World}{K:PySem.W.Frag}{mg:Str→Option Value}{base:Heap}
abbrev vT:Stmt:=top 44
def vh (K:PySem.W.Frag):Sp:=fun vs H Q _=> ∃(p b:Addr) (wd hg:Int),vs=[.ref p,.ref b]∧bz H p∧fb H (.ref b) wd hg∧
 ∀(l:Addr) (H':Hp) (xs:List V),aq p H H'→bz H' p→H' l=some (.tup xs)→l≠p→cI wd hg xs→dN xs=true→Q (.ref l) H'
theorem iE:br ["_law_state_here", "_law_board_here", "_law_way", "_law_found", "_law_line", "_law_share", "_law_spot", "_law_left", "_law_some", "_law_row"] ["_law_state_here", "_law_board_here"] (ay vT):=⟨rfl,rfl,rfl,by decide+kernel,rfl,by decide+kernel,by decide+kernel⟩
theorem Ro {f:Addr}{fd:FuncData}(F:aJ K "_law_grown" "_law_grown" vT f fd) (G:Gs mg) (D1:Def P w K mg base 1 "_law_take" ["_law_state_here", "_law_many"] i9) (D2:Def P w K mg base 2 "_law_unlike" ["_law_lay_here"] ve):
  aE P w K mg base aH 3 f fd ["_law_state_here", "_law_board_here"] (vh K):=by
 refine F.ok iE (fun vs H Q E h=> ?_) (fun ak A outer s H vs Q E hr h=> ?_)
 ·obtain⟨p,b,wd,hg,rfl,_⟩:=h
  rfl
 ·obtain⟨p,b,wd,hg,rfl,st,bd,q⟩:=h
  have pM:=hr.mono (show 1≤2 by decide)
  refine⟨_,Ze (Ju (ZA (Za (Zj D1 pM (Za (pv 0) (Za Zi Zb))) (Za (ZA Zb) Zb))) (Z7 rfl (Zo (Zy (i:=2) iE.nd rfl (Or.inl rfl)) (Zo (Zy (i:=3) iE.nd rfl (Or.inr rfl)) ZT))))
   (Ze (Yj PassesOwn.never rfl (ZW rfl G.range (Za (ZL Yg (pv 1) Zi (fun _ _=>rfl)) Zb)) (Zy (i:=4) iE.nd rfl (Or.inl rfl))
    (Ze (Ec (i:=5) (j:=6) rfl iE.nd rfl rfl (by decide) rfl rfl (Za (Zj D1 pM (Za (pv 0) (Za Zi Zb))) (Za (Zj D1 pM (Za (pv 0) (Za Zi Zb))) Zb)) rfl)
    (Ze (JN ["_law_row", "_law_found"] 1 [3] (i:=7) iE.nd rfl (Or.inl rfl) (ZW rfl G.range (Za (ZL Yg (pv 1) Zi (fun _ _=>rfl)) Zb)) (fun C s H fp=>pb 0) (fun C s H fp=>Yp (ZX (show bg (aT _ _ _ C s H fp) (compareOp .NotIn) (A0 K true) from W8) (pv 0) (pv 1) rfl)) (fun C s H fp D=>ZK rfl (pv 0)))
    (Ze (JN ["_law_row", "_law_found"] 1 [3] (i:=8) iE.nd rfl (Or.inl rfl) (Z6 (pv 7)) (fun C s H fp=>pb 0) (fun C s H fp=>Yp (Z3 (Zj D2 hr (Za (Zn (show bg (aT _ _ _ C s H fp) (binaryOp .Add) (jS K) from Yr) (pv 1) (ZA (Za (pv 0) Zb))) Zb)))) (fun C s H fp D=>ZK rfl (pv 0)))
    (Ze (Zp (i:=9) iE.nd rfl (Or.inl rfl) YI)
    (Ze (Z2 (PW.pt (W4 (ZX (Ea hr.uH) (pv 8) (ZB Zb) (cY _)) (JL (ZX DO (pv 5) (ZL ZM (ZB (Za Zi (Za Zi (Za Zi Zb)))) (pv 2) (fun _ _=>rfl)) (cY _)))))
     (Zk (Zp (i:=9) iE.nd rfl (Or.inl rfl) (ZL ZM (pv 8) (Zn Yx (pv 6) (Zm Zv rfl G.len boot_len (Za (pv 8) Zb))) (fun _ _=>rfl)))) ZH)
    (Zk (Zp (i:=3) iE.nd rfl (Or.inr rfl) (Zn Yr (pv 3) (ZA (Za (pv 9) Zb)))))))))))
   (Zk (Zz (pv 3)))),?_⟩
  obtain⟨a,e,hb⟩:=ZI bd.1
  cases e
  obtain⟨_,w1,w2,g1,g2⟩:=id bd
  obtain⟨u0,v0,e0,_⟩:=id st
  have ki:b≠p:=Z4 hb e0 (by intro z;cases z)
  refine⟨_,rfl,p,3,rfl,st,by decide,by decide,fun way o1 h1 qC aw=> ⟨Nat.zero_le _,fun f0 LL=> ⟨(by show 2≤sizeLine;decide),fun tt Kx=> ⟨tt,_,rfl,ao.of Zc,rfl,_,_,rfl,_,_,rfl,rfl,?_⟩⟩⟩⟩
  have x1:aq p H (upd H p o1):=aq.upd
  have sA:ae (upd H p o1) (upd (upd H p o1) f0 (.tup [])):=fun c o hc=>by rw[Zh (Zd hc LL)];exact hc
  have sB:ae (upd (upd H p o1) f0 (.tup [])) (upd (upd (upd H p o1) f0 (.tup [])) tt (.tup [.int way,.ref f0])):=fun c o hc=>by rw[Zh (Zd hc Kx)];exact hc
  generalize xY:upd (upd (upd H p o1) f0 (HO.tup [])) tt (HO.tup [V.int way,V.ref f0])=H0 at sB
  have x0:aq p H H0:=x1.trans (sA.trans sB).x
  obtain⟨u1,v1,e1,y1,y2,y3⟩:=id aw
  have df:bz H0 p:=⟨u1,v1,(sA.trans sB) _ _ e1,y1,y2,y3⟩
  have og:=x0 _ _ hb ki
  refine⟨_,rfl,b,_,_,_,rfl,rfl,ao.of og,ou,wd,rfl,by omega,by omega,?_⟩
  refine Yc (n:=wd.toNat) (fun i σ H2=> ∃(fa:Addr) (fs:List V) (x4 x5 x6 x7 x8 x9:Option V),σ=[some (.ref p),some (.ref b),some (.int way),some (.ref fa),x4,x5,x6,x7,x8,x9]∧aq p H H2∧bz H2 p∧H2 fa=some (.tup fs)∧fs.length=i∧
    (∀r∈rowsOf fs,bS r 0 (hg - 1)=true)∧(rowsOf fs).Nodup∧dN fs=true)
   ⟨f0,[],none,none,none,none,none,none,rfl,x0,df,sB _ _ Zc,rfl,(fun r cq=>nomatch (show r∈([]:List V) from cq)),List.nodup_nil,rfl⟩ ?_ ?_
  ·rintro i σ H2 hi ⟨fa,fs,x4,x5,x6,x7,x8,x9,rfl,k2,aj,qc,CC,eP,dF,wX⟩
   have bP:i<wd.toNat:=hi
   refine⟨_,rfl,p,4,rfl,aj,by decide,by decide,fun sh o3 _ _ aK=> ?_⟩
   refine⟨_,rfl,p,12,rfl,aK,by decide,by decide,fun sp o4 BX tw cV=> ⟨_,_,rfl,?_⟩⟩
   generalize oi:upd (upd H2 p o3) p o4=H4 at cV
   have zL:aq p H2 H4:=by rw[←oi];exact aq.upd.trans aq.upd
   obtain⟨uz,vz,ez,_⟩:=id aj
   have LH:fa≠p:=Z4 qc ez (by intro z;cases z)
   have xC:=zL _ _ qc LH
   have k4:aq p H H4:=k2.trans zL
   have Md:=k4 _ _ hb ki
   have AX:mP fs:=fun x hx=>by
    by_cases e:x=.af
    ·exact .inl e
    ·have m:x∈rowsOf fs:=List.mem_filter.mpr ⟨hx,by simp[e]⟩
     have q':=eP x m
     cases x with
     |int i=>exact .inr ⟨i,rfl⟩
     |_=>cases q'
   have flat:fs.all gC=true:=List.all_eq_true.mpr fun x hx=>by
    rcases AX x hx with z |⟨j,z⟩<;>rw[z]<;>rfl
   refine⟨_,rfl,b,_,_,_,rfl,rfl,ao.of Md,cb,hg,rfl,by omega,by omega,?_⟩
   refine YN (n:=hg.toNat) (fun j ys ai H'=>ys=(L2.upTo j).filter (fun r=> !fJ r fs)∧H'=H4∧∃v,ai=[v,some (.ref fa)]) ⟨rfl,rfl,none,rfl⟩ ?_ ?_
   ·rintro j ys ai H' hj ⟨rfl,rfl,v,rfl⟩
    have eu:(L2.upTo (j+1)).filter (fun r=> !fJ r fs)=(L2.upTo j).filter (fun r=> !fJ r fs)++(if (!fJ (.int (0+(j:Int))) fs)=true then [V.int (0+(j:Int))] else []):=by
     rw[RH,List.filter_append,Int.zero_add]
     cases hh:(!fJ (.int (j:Int)) fs)<;>simp[hh]
    refine⟨_,rfl,_,rfl,fa,fs,rfl,.inr (ao.of xC),rfl,flat,_,rfl,?_⟩
    show if (!fJ (.int (0+(j:Int))) fs)=true then _ else _
    cases hh:(!fJ (.int (0+(j:Int))) fs) with
    |true=>
     rw[hh]at eu
     refine bh ?_
     refine⟨_,rfl,?_,?_⟩
     ·have:=List.length_filter_le (fun r=> !fJ r fs) (L2.upTo j)
      have e2:(L2.upTo j).length=j:=by unfold L2.upTo;simp
      rw[sizeLine_eq]
      omega
     ·exact⟨by rw[eu,if_pos rfl],rfl,_,rfl⟩
    |false=>
     rw[hh]at eu
     exact aR ⟨by rw[eu,if_neg Bool.false_ne_true,List.append_nil],rfl,_,rfl⟩
   ·rintro ys ai H' ⟨rfl,rfl,v,rfl⟩ L hL
    generalize nV:(L2.upTo hg.toNat).filter (fun r=> !fJ r fs)=ls
    have sL:ae H' (upd H' L (.lst ls)):=fun c o hc=>by rw[Zh (Zd hc hL)];exact hc
    generalize qA:upd H' L (HO.lst ls)=H5 at sL
    have oh:H5 L=some (.lst ls):=by rw[←qA];exact Zc
    have TL:ls.length≤12:=by
     have:=List.length_filter_le (fun r=> !fJ r fs) (L2.upTo hg.toNat)
     have e2:(L2.upTo hg.toNat).length=hg.toNat:=by unfold L2.upTo;simp
     rw[nV]at this
     omega
    have good:∀y∈ls,∃j:Int,y=.int j∧0≤j∧j<hg∧V.int j∉fs:=fun y hy=>by
     rw[←nV]at hy
     obtain⟨m1,m2⟩:=List.mem_filter.mp hy
     obtain⟨j,hj,rfl⟩:=PV m1
     exact⟨j,rfl,by omega,by omega,Rj m2⟩
    refine⟨_,rfl,L,rfl,⟨ls,ah.of oh⟩,?_⟩
    refine Yt (xs:=ls) (fun j ys ai gG=>ys=(ls.take j).filter (fun r=>dN (fs++[r]))∧ae H5 gG∧∃v,ai=[v,some (.ref fa)]) ⟨rfl,ae.refl _,none,rfl⟩ (fun j ys ai gG _ ⟨_,s',_⟩=>ah.of (s' _ _ oh)) ?_ ?_
    ·rintro j y ys ai gG hy ⟨rfl,s',v,rfl⟩
     obtain⟨jj,ey,_,_,_⟩:=good y (List.mem_of_getElem? hy)
     have eu:(ls.take (j+1)).filter (fun r=>dN (fs++[r]))=(ls.take j).filter (fun r=>dN (fs++[r]))++(if dN (fs++[y])=true then [y] else []):=by
      rw[List.take_add_one,hy,List.filter_append]
      cases hh:dN (fs++[y])<;>simp[hh]
     have LK:=s' _ _ (sL _ _ xC)
     refine En (i:=1) (j:=0) LK (by omega) rfl rfl fun a' H7 s7 qp=> ?_
     refine⟨a',fs++[y],rfl,qp,fun x hx=> ?_,by rw[List.length_append];simp;omega,fun H8 s8=> ⟨_,rfl,?_⟩⟩
     ·rcases List.mem_append.mp hx with z |z
      ·exact AX x z
      ·exact .inr ⟨jj,by rw[List.mem_singleton.mp z,ey]⟩
     cases hh:dN (fs++[y]) with
     |true=>
      rw[hh]at eu
      refine bh ?_
      refine⟨_,rfl,?_,?_⟩
      ·have:=List.length_filter_le (fun r=>dN (fs++[r])) (ls.take j)
       rw[List.length_take]at this
       rw[sizeLine_eq]
       omega
      ·exact⟨by rw[eu,if_pos rfl],s'.trans (s7.trans s8),_,rfl⟩
     |false=>
      rw[hh]at eu
      exact aR ⟨by rw[eu,if_neg Bool.false_ne_true,List.append_nil],s'.trans (s7.trans s8),_,rfl⟩
    ·rintro ys ai gG ⟨rfl,s',v,rfl⟩ S hS
     rw[List.take_length]
     generalize xw:ls.filter (fun r=>dN (fs++[r]))=gs
     have sS:ae gG (upd gG S (.lst gs)):=fun c o hc=>by rw[Zh (Zd hc hS)];exact hc
     generalize C1:upd gG S (HO.lst gs)=H6 at sS
     have CQ:H6 S=some (.lst gs):=by rw[←C1];exact Zc
     have AS:ae H' H6:=sL.trans (s'.trans sS)
     obtain⟨u4,v4,e4,z1,z2,z3⟩:=id cV
     have fin:∀(y:V) (H7:Hp) (b5 b6 b7 b8:Option V) (D:Ends),(D.nx=fun σ H2=> ∃(fa:Addr) (fs:List V) (x4 x5 x6 x7 x8 x9:Option V),σ=[some (.ref p),some (.ref b),some (.int way),some (.ref fa),x4,x5,x6,x7,x8,x9]∧aq p H H2∧bz H2 p∧H2 fa=some (.tup fs)∧fs.length=i+1∧
       (∀r∈rowsOf fs,bS r 0 (hg - 1)=true)∧(rowsOf fs).Nodup∧dN fs=true)→ae H6 H7→(y=.af∨y∈gs)→
       oR (jI (jS K) (jH 3) (qY (i7 (jH 9) jJ))) (dc 3) D [some (.ref p),some (.ref b),some (.int way),some (.ref fa),some (.int (0+(i:Int))),b5,b6,b7,b8,some y] H7:=fun y H7 b5 b6 b7 b8 D eD s7 hy=>by
      have LJ:=s7 _ _ (AS _ _ xC)
      refine En (i:=3) (j:=9) LJ (by omega) rfl rfl fun a' H8 s8 qp=> ?_
      show D.nx _ _
      rw[eD]
      have AR:ae H' H8:=AS.trans (s7.trans s8)
      refine⟨a',fs++[y],_,_,_,_,_,_,rfl,k4.trans AR.x,⟨u4,v4,AR _ _ e4,z1,z2,z3⟩,qp,by rw[List.length_append,CC];rfl,?_⟩
      rcases hy with rfl |hy
      ·have e9:rowsOf (fs++[.af])=rowsOf fs:=by rw[Z9];simp
       rw[e9]
       exact⟨eP,dF,Uq wX⟩
      ·rw[←xw]at hy
       obtain⟨m1,m2⟩:=List.mem_filter.mp hy
       obtain⟨jj,rfl,j1,j2,j3⟩:=good y m1
       have e9:rowsOf (fs++[.int jj])=rowsOf fs++[.int jj]:=by rw[Z9];rfl
       rw[e9]
       refine⟨fun r cq=> ?_,?_,m2⟩
       ·rcases List.mem_append.mp cq with z |z
        ·exact eP r z
        ·rw[List.mem_singleton.mp z]
         show(decide ((0:Int)≤jj)&&decide (jj≤hg - 1))=true
         rw[decide_eq_true j1,decide_eq_true (by omega)]
         rfl
       ·exact Ua dF fun m=>j3 (List.mem_filter.mp m).1
     refine⟨_,rfl,Nat.zero_le _,fun q2 cT=> ?_⟩
     have sD:ae H6 (upd H6 q2 (.lst [])):=fun c o hc=>by rw[Zh (Zd hc cT)];exact hc
     refine⟨S,q2,gs,rfl,rfl,ah.of (sD _ _ CQ),ah.of Zc,_,rfl,?_⟩
     generalize TV:upd H6 q2 (HO.lst [])=H7 at sD
     cases qd:gs.isEmpty with
     |true=>exact aR (aR (fin .af H7 _ _ _ _ _ rfl sD (.inl rfl)))
     |false=>
      refine bh ?_
      have bZ:gs≠[]:=fun z=>by rw[z]at qd;cases qd
      have KW:0<gs.length:=List.length_pos_iff.mpr bZ
      refine⟨_,rfl,(by show 3≤sizeLine;decide),fun q3 l5=> ?_⟩
      obtain⟨c3,L8⟩:=three h1 qC
      have sE:ae H7 (upd H7 q3 (.lst [.int 0,.int 1,.int 3])):=fun c o hc=>by rw[Zh (Zd hc l5)];exact hc
      refine⟨_,rfl,q3,_,_,_,rfl,rfl,ah.of Zc,L8,_,_,rfl,rfl,_,rfl,?_⟩
      generalize TU:upd H7 q3 (HO.lst [V.int 0,.int 1,.int 3])=H8 at sE
      have CP:=sE _ _ (sD _ _ CQ)
      have m1:0≤sp%(gs.length:Int):=Int.emod_nonneg _ (by omega)
      have m2:sp%(gs.length:Int)<gs.length:=Int.emod_lt_of_pos _ (by omega)
      have m3:(sp%(gs.length:Int)).toNat<gs.length:=by omega
      have m5:eE gs (sp%(gs.length:Int))=some gs[(sp%(gs.length:Int)).toNat]:=by
       have:=ZS (xs:=gs) (List.getElem?_eq_getElem m3)
       rw[Int.toNat_of_nonneg m1]at this
       exact this
      refine sY (fun _=> ?_) (fun _=>fin .af H8 _ _ _ _ _ rfl (sD.trans sE) (.inl rfl))
      refine⟨_,rfl,_,rfl,_,rfl,S,gs,rfl,.inl (ah.of CP),_,_,rfl,rfl,(by show(0:Int)< (gs.length:Int);omega),S,gs,_,_,rfl,rfl,ah.of CP,m5,?_⟩
      exact fin _ H8 _ _ _ _ _ rfl (sD.trans sE) (.inr (List.getElem_mem m3))
  ·rintro σ H2 ⟨fa,fs,x4,x5,x6,x7,x8,x9,rfl,k2,aj,qc,CC,eP,dF,wX⟩
   obtain⟨uz,vz,ez,_⟩:=id aj
   exact⟨_,rfl,q fa H2 fs k2 aj qc (Z4 qc ez (by intro z;cases z)) ⟨by omega,eP,dF⟩ wX⟩
end
section
def az (xs:List V):List (Int×Int):=(List.range xs.length).filterMap fun l=> (rowAt xs l).map fun r=> ((l:Int),r)
def oA (H:Hp) (v:V) (q:Int×Int):Prop:=∃t:Addr,v=.ref t∧H t=some (.tup [.int q.1,.int q.2])
theorem oA.same {H H':Hp}{v:V}{q:Int×Int}(h:oA H v q) (s:ae H H'):oA H' v q:=by
 obtain⟨t,e,h1⟩:=h
 exact⟨t,e,s _ _ h1⟩
end
section
variable {P:Program}{w:World}{K:PySem.W.Frag}{mg:Str→Option Value}{base:Heap}
abbrev rP:Stmt:=top 26
def cf (H:Hp) (x y:V) (wd hg:Int) (xs:List V):Prop:=fb H x wd hg∧aZ H y=some xs∧cI wd hg xs
theorem cf.same {H H':Hp}{x y:V}{wd hg:Int}{xs:List V}(h:cf H x y wd hg xs) (s:ae H H'):cf H' x y wd hg xs:=⟨h.1.same s,s.aZ h.2.1,h.2.2⟩
theorem cf.pl {H:Hp}{x y:V}{wd hg:Int}{xs:List V}(h:cf H x y wd hg xs):fq K H y:=by
 obtain⟨a,rfl,ha⟩:=ZI h.2.1
 refine⟨⟨_,.tup ha⟩,fun zs e z hz=> ?_⟩
 rw[h.2.1]at e
 cases e
 rcases h.2.2.ok z hz with rfl |⟨i,rfl⟩
 ·exact⟨_,.af⟩
 ·exact⟨_,.int i⟩
def uW:Sp:=fun vs H Q _=> ∃x y wd hg xs,vs=[x,y]∧cf H x y wd hg xs∧∀H',ae H H'→Q .af H'
theorem Ax:br ["board", "lay"] ["board", "lay"] (ay rP):=⟨rfl,rfl,rfl,by decide+kernel,rfl,by decide+kernel,by decide+kernel⟩
theorem RD {f:Addr}{fd:FuncData}(F:aJ K "need_lay" "need_lay" rP f fd) (D1:Def P w K mg base 5 "is_lay" ["board", "thing"] (rD K)):aE P w K mg base aH 6 f fd ["board", "lay"] uW:=by
 refine F.ok Ax (fun vs H Q E h=> ?_) (fun ak A outer s H vs Q E hr h=> ?_)
 ·obtain⟨x,y,wd,hg,xs,rfl,_⟩:=h
  rfl
 ·obtain⟨x,y,wd,hg,xs,rfl,l,q⟩:=h
  refine⟨_,Zk (Z2 (Yi (Z3 (Zj D1 hr (Za (pv 0) (Za (pv 1) Zb))))) ZC ZH),?_⟩
  refine⟨x,rfl,y,rfl,x,y,wd,hg,rfl,l.1,l.pl,fun H' sm=> ⟨_,rfl,?_⟩⟩
  rw[l.2.1,l.2.2.is]
  exact aR (q H' sm)
def rB:Sp:=fun vs H Q _=> ∃x y wd hg xs,vs=[x,y]∧cf H x y wd hg xs∧∀(l:Addr) (H':Hp) (ps:List V),ae H H'→H l=none→H' l=some (.lst ps)→Paired (oA H') ps (az xs)→Q (.ref l) H'
end
section
def r9 (xs:List V) (n:Nat):List (Int×Int):=(List.range n).filterMap fun l=> (rowAt xs l).map fun r=> ((l:Int),r)
theorem JZ (xs:List V) (n:Nat):r9 xs (n+1)=r9 xs n++((rowAt xs n).map fun r=> ((n:Int),r)).toList:=by
 unfold r9
 rw[List.range_succ,List.filterMap_append]
 cases h:rowAt xs n<;>simp[h]
end
section
variable {P:Program}{w:World}{K:PySem.W.Frag}{mg:Str→Option Value}{base:Heap}
abbrev rO:Stmt:=top 27
theorem Av:br ["board", "lay"] ["board", "lay"] (ay rO):=⟨rfl,rfl,rfl,by decide+kernel,rfl,by decide+kernel,by decide+kernel⟩
theorem RM {f:Addr}{fd:FuncData}(F:aJ K "points" "points" rO f fd) (G:Gs mg) (D1:Def P w K mg base 6 "need_lay" ["board", "lay"] uW):aE P w K mg base aH 7 f fd ["board", "lay"] rB:=by
 refine F.ok Av (fun vs H Q E h=> ?_) (fun ak A outer s H vs Q E hr h=> ?_)
 ·obtain⟨x,y,wd,hg,xs,rfl,_⟩:=h
  rfl
 ·obtain⟨x,y,wd,hg,xs,rfl,l,q⟩:=h
  refine⟨_,Ze (ZG (Zj D1 hr (Za (pv 0) (Za (pv 1) Zb))))
   (Zk (Zz (Yk ["line", "row"] 2 [] (Qb rfl G.enumerate (Za (pv 1) Zb))
    (fun C s H fp=>show PG (aT _ _ _ C s H fp) _ (mE K 2 (eU (dc 0) (eU (dc 1) mF))) from Z7 rfl (Zo (pb 0) (Zo (pb 1) ZT)))
    (fun C s H fp=>Yp (Ja (YK (pv 1)))) (fun C s H fp D=>ZK rfl (ZA (Za (pv 0) (Za (pv 1) Zb))))))),?_⟩
  refine⟨x,rfl,y,rfl,x,y,wd,hg,xs,rfl,l,fun H1 s1=> ?_⟩
  obtain⟨a,rfl,ha⟩:=ZI (l.same s1).2.1
  have hlen:xs.length≤12:=by
   have h1:=l.2.2.len
   have h2:=l.1.2.2.1
   omega
  refine⟨_,rfl,a,rfl,⟨xs,ao.of ha⟩,?_⟩
  refine QT (xs:=xs) (fun i ys σ H2=> ∃v0 v1,σ=[v0,v1]∧ae H1 H2∧Paired (oA H2) ys (r9 xs i)∧ys.length≤i) ⟨_,_,rfl,ae.refl _,.nil,Nat.zero_le _⟩ (fun i ys σ H2 _ ⟨_,_,_,s2,_⟩=>ao.of (s2 _ _ ha)) ?_ ?_
  ·rintro i v T ys σ H2 hv hT ⟨v0,v1,rfl,s2,ff,iK⟩
   have hi:i<xs.length:=(List.getElem?_eq_some_iff.mp hv).1
   have sT:ae H2 (upd H2 T (.par [.int (i:Int),v])):=fun c o hc=>by rw[Zh (Zd hc hT)];exact hc
   have er:rowAt xs i=lh v:=by unfold rowAt;rw[hv];rfl
   refine⟨T,_,rfl,ao.Bj Zc,rfl,_,_,rfl,_,_,rfl,rfl,?_⟩
   refine⟨_,rfl,_,rfl,?_⟩
   generalize C2:upd H2 T (HO.par [V.int (i:Int),v])=H3 at sT
   rcases l.2.2.ok v (List.mem_of_getElem? hv) with rfl |⟨r,rfl⟩
   ·refine aR ⟨_,_,rfl,s2.trans sT,?_,by omega⟩
    rw[JZ,er]
    exact(by simpa[lh] using Paired.dj ff fun v q' hq=>hq.same sT)
   ·refine bh ?_
    refine⟨_,rfl,_,rfl,(by show 2≤sizeLine;decide),fun t ht=> ⟨by rw[sizeLine_eq];omega,?_⟩⟩
    have s4:ae H3 (upd H3 t (.tup [.int (i:Int),.int r])):=fun c o hc=>by rw[Zh (Zd hc ht)];exact hc
    refine⟨_,_,rfl,s2.trans (sT.trans s4),?_,by rw[List.length_append];simp;omega⟩
    rw[JZ,er]
    exact Paired.snoc (Paired.dj ff fun v q' hq=>hq.same (sT.trans s4)) ⟨t,rfl,Zc⟩
  ·rintro ys σ H2 ⟨v0,v1,rfl,s2,ff,iK⟩ p hp
   have s4:ae H2 (upd H2 p (.lst ys)):=fun c o hc=>by rw[Zh (Zd hc hp)];exact hc
   exact q p _ ys (s1.trans (s2.trans s4)) ((s1.trans s2).free hp) Zc (Paired.dj ff fun v q' hq=>hq.same s4)
end
end U
namespace U
open PySem L2 PyProof.Rows PyProof.Rows.fP
section
theorem JM (xs:List V):(az xs).length≤xs.length:=by
 unfold az
 have:=List.length_filterMap_le (fun l:Nat=> (rowAt xs l).map fun r=> ((l:Int),r)) (List.range xs.length)
 rw[List.length_range]at this
 exact this
theorem EB {xs:List V}{p:Int×Int} :p∈az xs↔∃l:Nat,l<xs.length∧rowAt xs l=some p.2∧p.1=(l:Int):=by
 unfold az
 rw[List.mem_filterMap]
 constructor
 ·rintro⟨l,hl,e⟩
  rw[Option.map_eq_some_iff]at e
  obtain⟨r,hr,rfl⟩:=e
  exact⟨l,List.mem_range.mp hl,hr,rfl⟩
 ·rintro⟨l,hl,hr,e⟩
  refine⟨l,List.mem_range.mpr hl,?_⟩
  rw[hr,Option.map_some,←e]
theorem Ou (xs:List V):(az xs).Pairwise fun a b=>a.1≠b.1:=by
 unfold az
 rw[List.pairwise_filterMap]
 refine List.Pairwise.imp ?_ (List.nodup_iff_pairwise_ne.mp List.nodup_range)
 intro l l' bZ q hq q' jm
 rw[Option.map_eq_some_iff]at hq jm
 obtain⟨_,_,rfl⟩:=hq
 obtain⟨_,_,rfl⟩:=jm
 show(l:Int)≠(l':Int)
 omega
end
end U
namespace U
open PySem L2 PyProof.Rows
section
abbrev oo:List Value:=[.type "ValueError",.type "Exception",.type "BaseException",.type "object"]
structure ze (K:PySem.W.Frag) (mg:Str→Option Value) (cB cL:Addr):Prop where
 mB:mg "NoBoard" =some (.ref cB)
 xB:PySem.W.excIn K cB oo "ValueError.__new__" =true
 mL:mg "NoLay" =some (.ref cL)
 xL:PySem.W.excIn K cL oo "ValueError.__new__" =true
def gH (K:PySem.W.Frag) (H:Hp) (x:V):Prop:=fq K H x∧lO (aZ H x)=false
def kP (K:PySem.W.Frag) (cB cL:Addr) (H:Hp) (x y:V) (C:Addr):Prop:=
 (C=cB∧gH K H x)∨(C=cL∧∃wd hg,fb H x wd hg∧fq K H y∧gU wd hg (aZ H y)=false)
theorem JG {K:PySem.W.Frag}{H H1:Hp}{y:V}(ty:cj K H y) (s1:ae H H1) (e:aZ H y=none):aZ H1 y=none:=by
 obtain⟨T,t⟩:=ty
 cases t with
 |tup e2=>rw[Zr e2]at e;cases e
 |lst e2=>rw[Zx,s1 _ _ e2];rfl
 |aW e2=>rw[Zx,s1 _ _ e2];rfl
 |dK e2=>rw[Zx,s1 _ _ e2];rfl
 |dT e2=>rw[Zx,s1 _ _ e2];rfl
 |_=>rfl
theorem YF {K:PySem.W.Frag}{H H1:Hp}{y:V}(ty:cj K H y) (s1:ae H H1):aZ H1 y=aZ H y:=by
 cases e:aZ H y with
 |none=>exact JG ty s1 e
 |some xs=>exact s1.aZ e
theorem fq.same {K:PySem.W.Frag}{H H1:Hp}{y:V}(p:fq K H y) (s1:ae H H1):fq K H1 y:=by
 refine⟨s1.gO p.1,fun xs e z hz=>s1.gO (p.2 xs ?_ z hz)⟩
 rw[←YF p.1 s1];exact e
theorem gH.same {K:PySem.W.Frag}{H H1:Hp}{x:V}(b:gH K H x) (s1:ae H H1):gH K H1 x:=⟨b.1.same s1,by rw[YF b.1.1 s1];exact b.2⟩
theorem kP.same {K:PySem.W.Frag}{cB cL:Addr}{H H1:Hp}{x y:V}{C:Addr}(b:kP K cB cL H x y C) (s1:ae H H1):kP K cB cL H1 x y C:=by
 rcases b with ⟨e,b⟩ |⟨e,wd,hg,b1,b2,b3⟩
 ·exact .inl ⟨e,b.same s1⟩
 ·exact .inr ⟨e,wd,hg,b1.same s1,b2.same s1,by rw[YF b2.1 s1];exact b3⟩
end
section
variable {P:Program}{w:World}{K:PySem.W.Frag}{mg:Str→Option Value}{base:Heap}{cB cL:Addr}
def uZ (K:PySem.W.Frag) (cB:Addr):Sp:=fun vs H _ E=> ∃x,vs=[x]∧gH K H x∧∀e H',ae H H'→E (.ref e) (some cB) H'
theorem Wu {f:Addr}{fd:FuncData}(F:aJ K "need_board" "need_board" rQ f fd) (G:Gs mg) (X:ze K mg cB cL) (D1:Def P w K mg base 3 "is_board" ["thing"] (rH K)):aE P w K mg base (bE P w) 4 f fd ["board"] (uZ K cB):=by
 obtain⟨tk,hL⟩:=G.longest
 refine F.iF Ay (fun vs H Q E h=> ?_) (fun ak A outer s H vs Q E hr h=> ?_)
 ·obtain⟨x,rfl,_⟩:=h
  rfl
 ·obtain⟨x,rfl,b,q⟩:=h
  refine⟨_,Zk (Z2 (Yi (Z3 (Zj D1 hr (Za (pv 0) Zb)))) (Zk (J5 PySem.F.excBase_ValueError X.mB X.xB rfl (Za (P9 J7 (ZP (v:=.int 12) rfl hL ⟨_,rfl⟩)) Zb))) ZH),?_⟩
  refine⟨x,rfl,x,rfl,b.1,fun H' sm=> ⟨_,rfl,?_⟩⟩
  rw[b.2]
  exact bh ⟨_,rfl,by decide,12,rfl,by decide,by decide,fun z=> ⟨by show 1≤sizeLine;decide,fun e=>q e H' sm⟩⟩
def va (K:PySem.W.Frag) (cB:Addr):Sp:=fun vs H _ E=> ∃x y,vs=[x,y]∧gH K H x∧∀e H',ae H H'→E (.ref e) (some cB) H'
theorem P1 {f:Addr}{fd:FuncData}(F:aJ K "is_lay" "is_lay" rT f fd) (D1:bA P w K mg base 4 "need_board" ["board"] (uZ K cB)):aE P w K mg base (bE P w) 5 f fd ["board", "thing"] (va K cB):=by
 refine F.iF o7 (fun vs H Q E h=> ?_) (fun ak A outer s H vs Q E hr h=> ?_)
 ·obtain⟨x,y,rfl,_⟩:=h
  rfl
 ·obtain⟨x,y,rfl,b,q⟩:=h
  refine⟨_,Ze (ZG (ZZ D1 hr (Za (pv 0) Zb))) ZC,?_⟩
  exact⟨x,rfl,x,rfl,b,q⟩
def fU (K:PySem.W.Frag) (cB cL:Addr):Sp:=fun vs H _ E=> ∃x y C,vs=[x,y]∧kP K cB cL H x y C∧∀e H',ae H H'→E (.ref e) (some C) H'
theorem UB {f:Addr}{fd:FuncData}(F:aJ K "need_lay" "need_lay" rP f fd) (X:ze K mg cB cL) (D1:bA P w K mg base 5 "is_lay" ["board", "thing"] (va K cB)) (D2:Def P w K mg base 5 "is_lay" ["board", "thing"] (rD K)):
  aE P w K mg base (bE P w) 6 f fd ["board", "lay"] (fU K cB cL):=by
 refine F.iF Ax (fun vs H Q E h=> ?_) (fun ak A outer s H vs Q E hr h=> ?_)
 ·obtain⟨x,y,C,rfl,_⟩:=h
  rfl
 ·obtain⟨x,y,C,rfl,b,q⟩:=h
  rcases b with ⟨rfl,b⟩ |⟨rfl,wd,hg,b1,b2,b3⟩
  ·refine⟨_,Zk (Z2 (Yi (Z3 (ZZ D1 hr (Za (pv 0) (Za (pv 1) Zb))))) ZC ZH),?_⟩
   exact⟨x,rfl,y,rfl,x,y,rfl,b,q⟩
  ·refine⟨_,Zk (Z2 (Yi (Z3 (Zj D2 hr (Za (pv 0) (Za (pv 1) Zb))))) (Zk (J5 PySem.F.excBase_ValueError X.mL X.xL rfl (Za J7 Zb))) ZH),?_⟩
   refine⟨x,rfl,y,rfl,x,y,wd,hg,rfl,b1,b2,fun H' sm=> ⟨_,rfl,?_⟩⟩
   rw[b3]
   exact bh ⟨by show 1≤sizeLine;decide,fun e=>q e H' sm⟩
theorem RE {f:Addr}{fd:FuncData}(F:aJ K "points" "points" rO f fd) (D1:bA P w K mg base 6 "need_lay" ["board", "lay"] (fU K cB cL)):aE P w K mg base (bE P w) 7 f fd ["board", "lay"] (fU K cB cL):=by
 refine F.iF Av (fun vs H Q E h=> ?_) (fun ak A outer s H vs Q E hr h=> ?_)
 ·obtain⟨x,y,C,rfl,_⟩:=h
  rfl
 ·obtain⟨x,y,C,rfl,b,q⟩:=h
  refine⟨_,Ze (ZG (ZZ D1 hr (Za (pv 0) (Za (pv 1) Zb)))) ZC,?_⟩
  exact⟨x,rfl,y,rfl,x,y,C,rfl,b,q⟩
end
section
def Bn:List Str:=["NoBoard", "NoLay", "NoNumber", "NoPoints", "NoPoint", "NoPaper", "NoUnlike", "NoPrime", "NoRoot", "NoTurn", "TooFew", "TooMany", "NoText", "NoLine", "NoDeed"]
structure mS (K:PySem.W.Frag) (mg:Str→Option Value) (cS C:Addr) (iC:Nat):Prop where
 z:mU K C
 ms:mg "StepError" =some (.ref cS)
 xs:PySem.W.exmOne K (.ref C) (.ref cS)=some true
 m:∀i,i<15→∃c,mg (Bn.getD i "")=some (.ref c)∧PySem.W.kitOne K (.ref C) (.ref c)=some (decide (i=iC))
 mv:mg "ValueError" =none
 xv:PySem.W.kitOne K (.ref C) (.type "ValueError")=some true
end
section
variable {P:Program}{w:World}{K:PySem.W.Frag}{mg:Str→Option Value}{base:Heap}
abbrev vG:Stmt:=top 38
def nA (P:Program) (w:World) (K:PySem.W.Frag) (mg:Str→Option Value) (base:Heap) (cS:Addr) (k:Nat):Sp:=fun vs H Q _=> ∃f fd sp C iC,vs=[.ref f]∧(iC=0∨iC=1∨iC=2)∧mS K mg cS C iC∧(∀s,bo P w H s→PySem.W.FnAt f s)∧aE P w K mg base (bE P w) k f fd [] sp∧
 (∀s,BindsTo s fd ⟨[],[]⟩ [])∧(∀Q' E',(∀e H',ae H H'→E' (.ref e) (some C) H')→sp [] H Q' E')∧∀l H',ae H H'→H l=none→H' l=some (.lst [.int (iC:Int)])→Q (.ref l) H'
theorem jb:br ["_law_call", "_law_error", "e", "_law_marks"] ["_law_call"] (ay vG):=⟨rfl,rfl,rfl,by decide+kernel,rfl,by decide+kernel,by decide+kernel⟩
def bL (iC n:Nat):List V:=(List.range n).map fun i=>V.bl (decide (i=iC))
theorem Zf {H:Hp}{p:Addr}{o:HO}(h:H p=none):ae H (upd H p o):=fun b u hb=>by rw[Zh (Zd hb h)];exact hb
theorem O7 {k:Nat}{f:Addr}{fd:FuncData}{cS:Addr}(F:aJ K "_law_refused" "_law_refused" vG f fd) (G:Gs mg):aE P w K mg base aH (k+1) f fd ["_law_call"] (nA P w K mg base cS k):=by
 refine F.ok jb (fun vs H Q E h=> ?_) (fun ak A outer s H vs Q E hr h=> ?_)
 ·obtain⟨f,fd,sp,C,iC,rfl,_⟩:=h
  rfl
 ·obtain⟨f,fd,sp,C,iC,rfl,hi,M,fN,Fl,xM,dw,q⟩:=h
  obtain⟨c0,m0,k0⟩:=M.m 0 (by decide)
  obtain⟨c1,m1,k1⟩:=M.m 1 (by decide)
  obtain⟨c2,m2,k2⟩:=M.m 2 (by decide)
  obtain⟨c3,m3,k3⟩:=M.m 3 (by decide)
  obtain⟨c4,m4,k4⟩:=M.m 4 (by decide)
  obtain⟨c5,m5,k5⟩:=M.m 5 (by decide)
  obtain⟨c6,m6,k6⟩:=M.m 6 (by decide)
  obtain⟨c7,m7,k7⟩:=M.m 7 (by decide)
  obtain⟨c8,m8,k8⟩:=M.m 8 (by decide)
  obtain⟨c9,m9,k9⟩:=M.m 9 (by decide)
  obtain⟨c10,sJ,Kc⟩:=M.m 10 (by decide)
  obtain⟨c11,Ip,Kb⟩:=M.m 11 (by decide)
  obtain⟨c12,Io,Ka⟩:=M.m 12 (by decide)
  obtain⟨c13,Im,I9⟩:=M.m 13 (by decide)
  obtain⟨c14,Il,IZ⟩:=M.m 14 (by decide)
  refine⟨_,Ze (Zp (i:=1) jb.nd rfl (Or.inl rfl) YI)
   (Ze (RG (ic:=0) (ie:=2) rfl rfl rfl jb.nd rfl (Or.inl rfl) rfl rfl M.ms rfl hr (fun e=>Zk (Zp (i:=1) jb.nd rfl (Or.inl rfl) (pv 2))))
   (Ze (Zp (i:=3) jb.nd rfl (Or.inr rfl) (ZB (Za (Zm Zs rfl G.isinstance boot_isinstance (Za (pv 1) (Za (ZP (v:=.ref c0) rfl m0 rfl) Zb))) (Za (Zm Zs rfl G.isinstance boot_isinstance (Za (pv 1) (Za (ZP (v:=.ref c1) rfl m1 rfl) Zb))) (Za (Zm Zs rfl G.isinstance boot_isinstance (Za (pv 1) (Za (ZP (v:=.ref c2) rfl m2 rfl) Zb))) Zb)))))
   (Ze (Zp (i:=3) jb.nd rfl (Or.inr rfl) (Zn YM (pv 3) (ZB (Za (Zm Zs rfl G.isinstance boot_isinstance (Za (pv 1) (Za (ZP (v:=.ref c3) rfl m3 rfl) Zb))) (Za (Zm Zs rfl G.isinstance boot_isinstance (Za (pv 1) (Za (ZP (v:=.ref c4) rfl m4 rfl) Zb))) (Za (Zm Zs rfl G.isinstance boot_isinstance (Za (pv 1) (Za (ZP (v:=.ref c5) rfl m5 rfl) Zb))) Zb))))))
   (Ze (Zp (i:=3) jb.nd rfl (Or.inr rfl) (Zn YM (pv 3) (ZB (Za (Zm Zs rfl G.isinstance boot_isinstance (Za (pv 1) (Za (ZP (v:=.ref c6) rfl m6 rfl) Zb))) (Za (Zm Zs rfl G.isinstance boot_isinstance (Za (pv 1) (Za (ZP (v:=.ref c7) rfl m7 rfl) Zb))) (Za (Zm Zs rfl G.isinstance boot_isinstance (Za (pv 1) (Za (ZP (v:=.ref c8) rfl m8 rfl) Zb))) Zb))))))
   (Ze (Zp (i:=3) jb.nd rfl (Or.inr rfl) (Zn YM (pv 3) (ZB (Za (Zm Zs rfl G.isinstance boot_isinstance (Za (pv 1) (Za (ZP (v:=.ref c9) rfl m9 rfl) Zb))) (Za (Zm Zs rfl G.isinstance boot_isinstance (Za (pv 1) (Za (ZP (v:=.ref c10) rfl sJ rfl) Zb))) (Za (Zm Zs rfl G.isinstance boot_isinstance (Za (pv 1) (Za (ZP (v:=.ref c11) rfl Ip rfl) Zb))) Zb))))))
   (Ze (Zp (i:=3) jb.nd rfl (Or.inr rfl) (Zn YM (pv 3) (ZB (Za (Zm Zs rfl G.isinstance boot_isinstance (Za (pv 1) (Za (ZP (v:=.ref c12) rfl Io rfl) Zb))) (Za (Zm Zs rfl G.isinstance boot_isinstance (Za (pv 1) (Za (ZP (v:=.ref c13) rfl Im rfl) Zb))) (Za (Zm Zs rfl G.isinstance boot_isinstance (Za (pv 1) (Za (ZP (v:=.ref c14) rfl Il rfl) Zb))) Zb))))))
   (Ze (Z2 (Yi (Z3 (Zm Zs rfl G.isinstance boot_isinstance (Za (pv 1) (Za (YA (v:=.ty "ValueError") rfl M.mv PyProof.Rows.Boot.«ValueError» rfl) Zb))))) (Zk (Zz YI)) ZH)
   (Zk (Zz (Yk ["_law_k", "_law_marks"] 1 [3] (ZW rfl G.range (Za Zi Zb)) (fun C s H fp=>pb 0)
    (fun C s H fp=>Yp (Z3 (ZL (show qN (aT _ _ _ C s H fp) (wg K) from ZM) (pv 1) (pv 0) (fun _ _=>rfl)))) (fun C s H fp D=>ZK rfl (pv 0)))))))))))),?_⟩
  refine⟨f,fd,sp,rfl,fN,Fl,xM,dw _ _ fun e H1 s1=> ⟨e,C,rfl,rfl,M.xs,fun n9=> ⟨_,rfl,?_⟩⟩⟩
  have s2:ae H1 (upd H1 e (kB e C)):=Zf n9
  have he:upd H1 e (kB e C) e=some (kB e C):=Zc
  generalize upd H1 e (kB e C)=H2 at s2 he
  refine⟨_,rfl,e,C,_,_,_,rfl,he,M.z,fun _ h=>h,k0,_,rfl,e,C,_,_,_,rfl,he,M.z,fun _ h=>h,k1,_,rfl,e,C,_,_,_,rfl,he,M.z,fun _ h=>h,k2,(by show 3≤sizeLine;decide),fun l1 Lp=> ?_⟩
  have sa:ae H2 (upd H2 l1 (.lst (bL iC 3))):=Zf Lp
  have ha:upd H2 l1 (.lst (bL iC 3)) l1=some (.lst (bL iC 3)):=Zc
  show _
  generalize Ms:upd H2 l1 (HO.lst (bL iC 3))=Ha at sa ha
  rw[show upd H2 l1 (HO.lst [V.bl (decide (0=iC)),V.bl (decide (1=iC)),V.bl (decide (2=iC))])=Ha from Ms]
  have tJ:=sa _ _ he
  refine⟨_,rfl,_,rfl,e,C,_,_,_,rfl,tJ,M.z,fun _ h=>h,k3,_,rfl,e,C,_,_,_,rfl,tJ,M.z,fun _ h=>h,k4,_,rfl,e,C,_,_,_,rfl,tJ,M.z,fun _ h=>h,k5,(by show 3≤sizeLine;decide),fun m0 Cq=> ⟨l1,m0,bL iC 3,_,rfl,rfl,Zf Cq _ _ ha,Zc,(by show 3+3≤sizeLine;decide),fun p0 Cb=> ?_⟩⟩
  have vS:ae Ha (upd Ha m0 (.lst [V.bl (decide (3=iC)),V.bl (decide (4=iC)),V.bl (decide (5=iC))])):=Zf Cq
  generalize upd Ha m0 (HO.lst [V.bl (decide (3=iC)),V.bl (decide (4=iC)),V.bl (decide (5=iC))])=qO at vS Cb
  have vO:ae qO (upd qO p0 (.lst (bL iC 6))):=Zf Cb
  have C0:upd qO p0 (.lst (bL iC 6)) p0=some (.lst (bL iC 6)):=Zc
  generalize Mw:upd qO p0 (HO.lst (bL iC 6))=uv at vO C0
  rw[show upd qO p0 (HO.lst (bL iC 3++[V.bl (decide (3=iC)),V.bl (decide (4=iC)),V.bl (decide (5=iC))]))=uv from Mw]
  have n9:=vO _ _ (vS _ _ tJ)
  refine⟨_,rfl,_,rfl,e,C,_,_,_,rfl,n9,M.z,fun _ h=>h,k6,_,rfl,e,C,_,_,_,rfl,n9,M.z,fun _ h=>h,k7,_,rfl,e,C,_,_,_,rfl,n9,M.z,fun _ h=>h,k8,(by show 3≤sizeLine;decide),fun m1 Cp=> ⟨p0,m1,bL iC 6,_,rfl,rfl,Zf Cp _ _ C0,Zc,(by show 6+3≤sizeLine;decide),fun p1 l6=> ?_⟩⟩
  have vR:ae uv (upd uv m1 (.lst [V.bl (decide (6=iC)),V.bl (decide (7=iC)),V.bl (decide (8=iC))])):=Zf Cp
  generalize upd uv m1 (HO.lst [V.bl (decide (6=iC)),V.bl (decide (7=iC)),V.bl (decide (8=iC))])=oE at vR l6
  have vN:ae oE (upd oE p1 (.lst (bL iC 9))):=Zf l6
  have CZ:upd oE p1 (.lst (bL iC 9)) p1=some (.lst (bL iC 9)):=Zc
  generalize Mv:upd oE p1 (HO.lst (bL iC 9))=uu at vN CZ
  rw[show upd oE p1 (HO.lst (bL iC 6++[V.bl (decide (6=iC)),V.bl (decide (7=iC)),V.bl (decide (8=iC))]))=uu from Mv]
  have nZ:=vN _ _ (vR _ _ n9)
  refine⟨_,rfl,_,rfl,e,C,_,_,_,rfl,nZ,M.z,fun _ h=>h,k9,_,rfl,e,C,_,_,_,rfl,nZ,M.z,fun _ h=>h,Kc,_,rfl,e,C,_,_,_,rfl,nZ,M.z,fun _ h=>h,Kb,(by show 3≤sizeLine;decide),fun m2 dY=> ⟨p1,m2,bL iC 9,_,rfl,rfl,Zf dY _ _ CZ,Zc,(by show 9+3≤sizeLine;decide),fun p2 da=> ?_⟩⟩
  have vQ:ae uu (upd uu m2 (.lst [V.bl (decide (9=iC)),V.bl (decide (10=iC)),V.bl (decide (11=iC))])):=Zf dY
  generalize upd uu m2 (HO.lst [V.bl (decide (9=iC)),V.bl (decide (10=iC)),V.bl (decide (11=iC))])=oD at vQ da
  have vM:ae oD (upd oD p2 (.lst (bL iC 12))):=Zf da
  have CY:upd oD p2 (.lst (bL iC 12)) p2=some (.lst (bL iC 12)):=Zc
  generalize Mu:upd oD p2 (HO.lst (bL iC 12))=ur at vM CY
  rw[show upd oD p2 (HO.lst (bL iC 9++[V.bl (decide (9=iC)),V.bl (decide (10=iC)),V.bl (decide (11=iC))]))=ur from Mu]
  have kg:=vM _ _ (vQ _ _ nZ)
  refine⟨_,rfl,_,rfl,e,C,_,_,_,rfl,kg,M.z,fun _ h=>h,Ka,_,rfl,e,C,_,_,_,rfl,kg,M.z,fun _ h=>h,I9,_,rfl,e,C,_,_,_,rfl,kg,M.z,fun _ h=>h,IZ,(by show 3≤sizeLine;decide),fun m3 jn=> ⟨p2,m3,bL iC 12,_,rfl,rfl,Zf jn _ _ CY,Zc,(by show 12+3≤sizeLine;decide),fun p3 hJ=> ?_⟩⟩
  have vP:ae ur (upd ur m3 (.lst [V.bl (decide (12=iC)),V.bl (decide (13=iC)),V.bl (decide (14=iC))])):=Zf jn
  generalize upd ur m3 (HO.lst [V.bl (decide (12=iC)),V.bl (decide (13=iC)),V.bl (decide (14=iC))])=oC at vP hJ
  have vL:ae oC (upd oC p3 (.lst (bL iC 15))):=Zf hJ
  have CW:upd oC p3 (.lst (bL iC 15)) p3=some (.lst (bL iC 15)):=Zc
  generalize Mt:upd oC p3 (HO.lst (bL iC 15))=ER at vL CW
  rw[show upd oC p3 (HO.lst (bL iC 12++[V.bl (decide (12=iC)),V.bl (decide (13=iC)),V.bl (decide (14=iC))]))=ER from Mt]
  have LP:=vL _ _ (vP _ _ kg)
  refine⟨_,rfl,e,C,_,_,_,rfl,LP,M.z,fun _ h=>h,M.xv,_,rfl,?_⟩
  refine aR ?_
  refine⟨15,rfl,by decide,by decide,?_⟩
  refine YN (n:=15) (fun i ys σ H4=>ys=((List.range i).filter fun k=>decide (k=iC)).map (fun k:Nat=>V.int (k:Int))∧H4=ER∧∃v,σ=[v,some (.ref p3)]) ⟨rfl,rfl,none,rfl⟩ ?_ ?_
  ·rintro i ys σ H4 Lx ⟨rfl,rfl,v,rfl⟩
   have hm:eE (bL iC 15) (0+(i:Int))=some (V.bl (decide (i=iC))):=by
    rw[Int.zero_add]
    refine ZS ?_
    unfold bL
    rw[List.getElem?_map,List.getElem?_range Lx]
    rfl
   refine⟨_,rfl,_,rfl,p3,_,_,_,rfl,rfl,ah.of CW,hm,_,rfl,?_⟩
   have er:((List.range (i+1)).filter fun k=>decide (k=iC))=((List.range i).filter fun k=>decide (k=iC))++(if decide (i=iC)=true then [i] else []):=by
    rw[List.range_succ,List.filter_append]
    cases hd:decide (i=iC)<;>simp_all
   cases hd:decide (i=iC) with
   |true=>
    rw[hd]at er
    refine bh ⟨_,rfl,?_,?_,rfl,_,rfl⟩
    ·rw[List.length_map,sizeLine_eq]
     have:=List.length_filter_le (fun k=>decide (k=iC)) (List.range i)
     rw[List.length_range]at this
     omega
    ·rw[er,if_pos rfl,List.map_append,Int.zero_add]
     rfl
   |false=>
    rw[hd]at er
    exact aR ⟨by rw[er,if_neg Bool.false_ne_true,List.append_nil],rfl,_,rfl⟩
  ·rintro ys σ H4 ⟨rfl,rfl,v,rfl⟩ p hp
   have ef:((List.range 15).filter fun k=>decide (k=iC)).map (fun k:Nat=>V.int (k:Int))=[V.int (iC:Int)]:=by
    rcases hi with rfl |rfl |rfl<;>rfl
   rw[ef]
   have fE:=s1.trans (s2.trans (sa.trans (vS.trans (vO.trans (vR.trans (vN.trans (vQ.trans (vM.trans (vP.trans vL)))))))))
   exact q p _ (fE.trans (Zf hp)) (fE.free hp) Zc
end
section
theorem bz.same {H H':Hp}{p:Addr}(h:bz H p) (s:ae H H'):bz H' p:=by
 obtain⟨u,v,e,r⟩:=h
 exact⟨u,v,s _ _ e,r⟩
def kX:V→Bool
 | .int _=>true
 | .bl _=>true
 | .str _=>true
 | .af=>true
 |_=>false
theorem EF {K:PySem.W.Frag}{H:Hp} :∀{v:V},kX v=true→cj K H v
 | .int i,_=> ⟨_,.int i⟩
 | .bl b,_=> ⟨_,.bl b⟩
 | .str x,_=> ⟨_,.str x⟩
 | .af,_=> ⟨_,.af⟩
def jf:Lit→Bool
 | .sc v=>kX v
 | .tup xs=>xs.all kX
 |_=>true
def wH:Lit→Option (List V)
 | .tup xs=>some xs
 |_=>none
theorem JQ {H:Hp}{v:V} :∀{l:Lit},jf l=true→fw H v l→aZ H v=wH l
 | .sc u,hp,h=>by
  have h':v=u:=h
  subst h'
  cases v with
  |ref a=>cases hp
  |_=>rfl
 | .tup xs,_,⟨a,e,h⟩=>by rw[e,Zr h];rfl
 | .lst xs,_,⟨a,e,h⟩=>by rw[e,Zx,h];rfl
 | .dZ,_,⟨a,e,h⟩=>by rw[e,Zx,h];rfl
theorem Uc {K:PySem.W.Frag}{H:Hp}{v:V} :∀{l:Lit},jf l=true→fw H v l→fq K H v
 | .sc u,hp,h=>by
  have h':v=u:=h
  subst h'
  refine⟨EF hp,fun xs e y hy=> ?_⟩
  rw[JQ (l:=.sc v) hp rfl]at e
  cases e
 | .tup xs,hp,⟨a,e,h⟩=>by
  subst e
  refine⟨⟨_,.tup h⟩,fun ys e y hy=> ?_⟩
  rw[Zr h]at e
  cases e
  exact EF (List.all_eq_true.mp hp y hy)
 | .lst xs,hp,⟨a,e,h⟩=>by
  subst e
  refine⟨⟨_,.lst h⟩,fun ys e y hy=> ?_⟩
  rw[Zx,h]at e
  cases e
 | .dZ,hp,⟨a,e,h⟩=>by
  subst e
  refine⟨⟨_,.dK h⟩,fun ys e y hy=> ?_⟩
  rw[Zx,h]at e
  cases e
theorem Paired.app {α β:Type}{F:α→β→Prop} :∀{a c:List α}{b d:List β},Paired F a b→Paired F c d→Paired F (a++c) (b++d)
 |_,_,_,_,.nil,h=>h
 |_,_,_,_,.cons r t,h=> .cons r (Paired.app t h)
end
section
variable {P:Program}{w:World}{K:PySem.W.Frag}{mg:Str→Option Value}{base:Heap}
abbrev kZ:Stmt:=top 40
def su:List Lit:=[.tup [.int 0,.int 1],.tup [.int 1,.int 13],.tup [.int 13,.int 1],.tup [.int 1,.int 0],.tup [.int (-1),.int 2],.tup [.bl true,.int 2],.tup [.int 2,.bl true],.tup [.bl false,.int 1],.tup [.int 2],.tup [.int 2,.int 2,.int 2]]
def sr:List Lit:=[.lst [.int 2,.int 2],.sc .af,.sc (.int 4),.sc (.str "2x2"),.tup [.str "2",.int 2],.tup [.int 2,.af],.tup [.int (10^(29:Int).toNat),.int 2],.dZ]
def DE (l:Lit):Bool:=jf l&& !lO (wH l)
theorem Qs:(su++sr).all DE=true:=by decide+kernel
def iX (p:Addr) (H:Hp) (v:V):Prop:=v≠.ref p∧∀xs,aZ H v=some xs→∀y∈xs,y≠.ref p
def uV (K:PySem.W.Frag):Sp:=fun vs H Q _=> ∃p:Addr,vs=[.ref p]∧bz H p∧∀v H',aq p H H'→bz H' p→gH K H' v→iX p H' v→Q v H'
def wz:List Expr:=match bM kZ with | .Assign _ (.List es _) _::_=>es |_=> []
def wx:List Expr:=match bM kZ with |_:: .Return (some (.Subscript (.BinOp _ _ (.List es _) _) _ _)) _::_=>es |_=> []
def HQ (a b:List Expr):List Stmt:=match bM kZ with
 | [.Assign x (.List _ p1) p2,.Return (some (.Subscript (.BinOp y o (.List _ p3) p4) z p5)) p6]=> [.Assign x (.List a p1) p2,.Return (some (.Subscript (.BinOp y o (.List b p3) p4) z p5)) p6]
 |_=> []
theorem PX:bM kZ=HQ wz wx:=by kernel_rfl
theorem Qt:litsOf wz=some su:=by kernel_rfl
theorem Qu:litsOf wx=some sr:=by kernel_rfl
theorem Aw:br ["_law_state_here", "_law_some"] ["_law_state_here"] (ay kZ):=⟨rfl,rfl,rfl,by decide+kernel,rfl,by decide+kernel,by decide+kernel⟩
theorem O3 {f:Addr}{fd:FuncData}(F:aJ K "_law_no_board" "_law_no_board" kZ f fd) (D1:Def P w K mg base 1 "_law_take" ["_law_state_here", "_law_many"] i9):aE P w K mg base aH 2 f fd ["_law_state_here"] (uV K):=by
 refine F.ok Aw (fun vs H Q E h=> ?_) (fun ak A outer s H vs Q E hr h=> ?_)
 ·obtain⟨p,rfl,_⟩:=h
  rfl
 ·obtain⟨p,rfl,st,q⟩:=h
  rw[PX]
  have i1:=Qt
  have i2:=Qu
  generalize wz=MX at i1
  generalize wx=MW at i2
  refine⟨_,Ze (Zp (i:=1) Aw.nd rfl (Or.inl rfl) (ZB (Y3 (ls:=su) i1))) (Zk (Zz (ZL ZM (Zn YM (pv 1) (ZB (Y3 (ls:=sr) i2))) (Zj D1 hr (Za (pv 0) (Za Zi Zb))) (fun _ _=>rfl)))),?_⟩
  refine fun cA H1 s1 fZ n1=> ?_
  have l1:cA.length=10:=Paired.length fZ
  refine⟨by rw[l1];decide,fun L1 ig=> ?_⟩
  have s2:ae H1 (upd H1 L1 (.lst cA)):=Zf ig
  have eL:upd H1 L1 (.lst cA) L1=some (.lst cA):=Zc
  generalize upd H1 L1 (HO.lst cA)=H2 at s2 eL
  refine⟨_,rfl,fun cO H3 s3 ff n2=> ?_⟩
  have l2:cO.length=8:=Paired.length ff
  refine⟨by rw[l2];decide,fun L2 qx=> ?_⟩
  have s4:ae H3 (upd H3 L2 (.lst cO)):=Zf qx
  have eM:upd H3 L2 (.lst cO) L2=some (.lst cO):=Zc
  generalize upd H3 L2 (HO.lst cO)=H4 at s4 eM
  refine⟨L1,L2,_,_,rfl,rfl,s4 _ _ (s3 _ _ eL),eM,by rw[l1,l2];decide,fun L3 mz=> ?_⟩
  have s5:ae H4 (upd H4 L3 (.lst (cA++cO))):=Zf mz
  have eN:upd H4 L3 (.lst (cA++cO)) L3=some (.lst (cA++cO)):=Zc
  generalize upd H4 L3 (HO.lst (cA++cO))=H5 at s5 eN
  have fE:ae H H5:=s1.trans (s2.trans (s3.trans (s4.trans s5)))
  have pr:Paired (fw H5) (cA++cO) (su++sr):=Paired.app (Paired.dj fZ fun _ _ h=>h.same (s2.trans (s3.trans (s4.trans s5)))) (Paired.dj ff fun _ _ h=>h.same (s4.trans s5))
  have fe:=st.same fE
  refine⟨_,rfl,p,18,rfl,fe,by decide,by decide,fun r o h0 TX gu=> ?_⟩
  obtain⟨u0,v0,kC,_⟩:=id fe
  have wJ:(cA++cO).length=18:=by rw[List.length_append,l1,l2]
  have nL:L3≠p:=fun z=>by
   rw[z,kC]at eN
   have y:[V.int u0,V.int v0]=cA++cO:=by injection eN with y;injection y
   rw[←y]at wJ
   cases wJ
  have aA:r.toNat< (cA++cO).length:=by rw[wJ];omega
  have gb:=List.getElem?_eq_getElem aA
  have kj:=ZS gb
  rw[Int.toNat_of_nonneg h0]at kj
  obtain⟨l,hl,gp⟩:=Paired.at pr gb
  have hb:=List.all_eq_true.mp Qs l (List.mem_of_getElem? hl)
  unfold DE at hb
  rw[Bool.and_eq_true]at hb
  refine⟨L3,_,_,_,rfl,rfl,ah.of (by rw[Zh nL];exact eN),kj,?_⟩
  have keep:∀c u,H5 c=some u→c≠p→upd H5 p o c=some u:=fun c u hc hn=>by rw[Zh hn];exact hc
  have oq:fw (upd H5 p o) (cA++cO)[r.toNat] l:=by
   cases l with
   |sc v=>exact gp
   |tup xs=>
    obtain⟨a,e,h⟩:=gp
    exact⟨a,e,keep _ _ h fun z=>by rw[z,kC]at h;cases h⟩
   |lst xs=>
    obtain⟨a,e,h⟩:=gp
    refine⟨a,e,keep _ _ h fun z=> ?_⟩
    have hm:V.ref a∈cA++cO:=by rw[←e];exact List.getElem_mem aA
    obtain⟨_,_,y,_⟩:=id st
    rcases List.mem_append.mp hm with hm |hm
    ·have:=n1 a hm
     rw[z,y]at this
     cases this
    ·have:=n2 a hm
     rw[z,(s1.trans s2) _ _ y]at this
     cases this
   |dZ=>
    obtain⟨a,e,h⟩:=gp
    exact⟨a,e,keep _ _ h fun z=>by rw[z,kC]at h;cases h⟩
  have nr:iX p (upd H5 p o) (cA++cO)[r.toNat]:=by
   have tW:upd H5 p o p=some o:=Zc
   cases l with
   |sc v=>
    have e:(cA++cO)[r.toNat]=v:=oq
    rw[e]
    have hs:kX v=true:=hb.1
    refine⟨fun z=> (by rw[z]at hs;cases hs),fun xs h y hy=> ?_⟩
    rw[JQ (l:=.sc v) hs rfl]at h
    cases h
   |tup xs=>
    obtain⟨a,e,h⟩:=gp
    have bZ:a≠p:=fun z=>by rw[z,kC]at h;cases h
    rw[e]
    refine⟨fun z=>bZ (by cases z;rfl),fun ys h2 y hy z=> ?_⟩
    rw[Zr (keep _ _ h bZ)]at h2
    cases h2
    have hs:=List.all_eq_true.mp (show xs.all kX=true from hb.1) y hy
    rw[z]at hs
    cases hs
   |lst xs=>
    obtain⟨a,e,h⟩:=oq
    have hm:V.ref a∈cA++cO:=by rw[←e];exact List.getElem_mem aA
    obtain⟨_,_,y,_⟩:=id st
    have bZ:a≠p:=fun z=>by
     rcases List.mem_append.mp hm with hm |hm
     ·have:=n1 a hm
      rw[z,y]at this
      cases this
     ·have:=n2 a hm
      rw[z,(s1.trans s2) _ _ y]at this
      cases this
    rw[e]
    refine⟨fun z=>bZ (by cases z;rfl),fun ys h2 y hy=> ?_⟩
    rw[Zx,h]at h2
    cases h2
   |dZ=>
    obtain⟨a,e,h⟩:=gp
    have bZ:a≠p:=fun z=>by rw[z,kC]at h;cases h
    rw[e]
    refine⟨fun z=>bZ (by cases z;rfl),fun ys h2 y hy=> ?_⟩
    rw[Zx,keep _ _ h bZ]at h2
    cases h2
  refine q _ _ (fun c u hc hn=>keep c u (fE _ _ hc) hn) gu ⟨Uc hb.1 oq,?_⟩ nr
  rw[JQ hb.1 oq]
  simpa using hb.2
end
section
theorem Yl {wd hg:Int}{xs:List V}(h:(xs.length:Int)≠wd):gU wd hg (some xs)=false:=by
 show(decide ((xs.length:Int)=wd)&&_&&_)=false
 rw[decide_eq_false h,Bool.false_and,Bool.false_and]
theorem Ud {wd hg:Int}{xs:List V}{y:V}{k:Nat}(hn:y≠.af) (hw:bS y 0 (hg - 1)=false):gU wd hg (some (xs.take k++[y]++xs.drop (k+1)))=false:=by
 show(decide _&&((rowsOf (xs.take k++[y]++xs.drop (k+1))).all fun r=>bS r 0 (hg - 1))&&_)=false
 have hm:y∈rowsOf (xs.take k++[y]++xs.drop (k+1)):=by
  unfold rowsOf
  refine List.mem_filter.mpr ⟨by simp,by simp[hn]⟩
 have:((rowsOf (xs.take k++[y]++xs.drop (k+1))).all fun r=>bS r 0 (hg - 1))=false:=by
  rw[Bool.eq_false_iff]
  intro h
  have:=List.all_eq_true.mp h y hm
  rw[hw]at this
  cases this
 rw[this,Bool.and_false,Bool.false_and]
theorem Uu (a b:List V):rowsOf (a++b)=rowsOf a++rowsOf b:=by unfold rowsOf;rw[List.filter_append]
theorem OM {wd hg:Int}{xs:List V}{y:V}{j k:Nat}(hj:xs[j]? =some y) (xu:j≠k) (hn:y≠.af):gU wd hg (some (xs.take k++[y]++xs.drop (k+1)))=false:=by
 show(decide _&&_&&decide (rowsOf (xs.take k++[y]++xs.drop (k+1))).Nodup)=false
 have:¬(rowsOf (xs.take k++[y]++xs.drop (k+1))).Nodup:=by
  rw[Uu,Uu]
  have e1:rowsOf [y]=[y]:=by unfold rowsOf;simp[hn]
  rw[e1]
  intro nd
  have nX:∀l:List V,y∈l→y∈rowsOf l:=fun l hl=>List.mem_filter.mpr ⟨hl,by simp[hn]⟩
  obtain⟨n1,n2,n3⟩:=List.nodup_append.mp nd
  obtain⟨m1,m2,m3⟩:=List.nodup_append.mp n1
  by_cases aA:j<k
  ·have:y∈xs.take k:=List.mem_of_getElem? (i:=j) (by rw[List.getElem?_take,if_pos aA];exact hj)
   exact m3 y (nX _ this) y (by simp) rfl
  ·have:y∈xs.drop (k+1):=List.mem_of_getElem? (i:=j - (k+1)) (by rw[List.getElem?_drop,show k+1+(j - (k+1))=j by omega];exact hj)
   exact n3 y (by simp) y (nX _ this) rfl
 rw[decide_eq_false this,Bool.and_false]
def i0 (K:PySem.W.Frag) (wd hg:Int) (H:Hp) (v:V):Prop:=fq K H v∧gU wd hg (aZ H v)=false
theorem i0.same {K:PySem.W.Frag}{wd hg:Int}{H H':Hp}{v:V}(b:i0 K wd hg H v) (s:ae H H'):i0 K wd hg H' v:=⟨b.1.same s,by rw[YF b.1.1 s];exact b.2⟩
theorem Ql {K:PySem.W.Frag}{wd hg:Int}{H:Hp}{a:Addr}{xs:List V}(h:H a=some (.tup xs)) (hp:∀y∈xs,cj K H y) (hb:gU wd hg (some xs)=false):i0 K wd hg H (.ref a):=by
 refine⟨⟨⟨_,.tup h⟩,fun ys e y hy=> ?_⟩,by rw[Zr h];exact hb⟩
 rw[Zr h]at e
 cases e
 exact hp y hy
theorem U0 {K:PySem.W.Frag}{wd hg:Int}{H:Hp}{v:V}{l:Lit}(hp:jf l=true) (hn:wH l=none) (h:fw H v l):i0 K wd hg H v:=⟨Uc hp h,by rw[JQ hp h,hn];rfl⟩
theorem Qk {K:PySem.W.Frag}{wd hg:Int}{H:Hp}{a:Addr}{xs:List V}(h:H a=some (.lst xs)):i0 K wd hg H (.ref a):=by
 have e0:aZ H (.ref a)=none:=by rw[Zx,h];rfl
 exact⟨⟨⟨_,.lst h⟩,fun ys e=>by rw[e0]at e;cases e⟩,by rw[e0];rfl⟩
def oX:V→Bool
 | .int i=>decide (i.natAbs.log2<1920)
 | .bl _=>true
 | .af=>true
 | .str x=>x== "0" ||x== "1x1: ."
 |_=>false
def jc (H:Hp) (y:V):Prop:=oX y=true∨∃(b:Addr) (z:V),y=.ref b∧(H b=some (.tup [z])∨H b=some (.lst [z]))∧oX z=true
def kF (p:Addr) (H:Hp) (v:V):Prop:=oX v=true∨(∃(a:Addr) (xs:List V),v=.ref a∧xs.length≤1000∧(H a=some (.tup xs)∨(a≠p∧H a=some (.lst xs)))∧∀y∈xs,jc H y)∨∃a:Addr,v=.ref a∧H a=some (.dK [])
theorem jc.same {H H':Hp}{y:V}(h:jc H y) (s:ae H H'):jc H' y:=by
 rcases h with h |⟨b,z,e,h |h,hz⟩
 ·exact .inl h
 ·exact .inr ⟨b,z,e,.inl (s _ _ h),hz⟩
 ·exact .inr ⟨b,z,e,.inr (s _ _ h),hz⟩
theorem kF.same {p:Addr}{H H':Hp}{v:V}(h:kF p H v) (s:ae H H'):kF p H' v:=by
 rcases h with h |⟨a,xs,e,hl,h |⟨n,h⟩,hy⟩ |⟨a,e,h⟩
 ·exact .inl h
 ·exact .inr (.inl ⟨a,xs,e,hl,.inl (s _ _ h),fun y m=> (hy y m).same s⟩)
 ·exact .inr (.inl ⟨a,xs,e,hl,.inr ⟨n,s _ _ h⟩,fun y m=> (hy y m).same s⟩)
 ·exact .inr (.inr ⟨a,e,s _ _ h⟩)
def kG (K:PySem.W.Frag) (H:Hp) (y:V):Prop:=cj K H y∧jc H y
theorem kG.same {K:PySem.W.Frag}{H H':Hp}{y:V}(h:kG K H y) (s:ae H H'):kG K H' y:=⟨s.gO h.1,h.2.same s⟩
def bB (K:PySem.W.Frag) (p:Addr) (wd hg:Int) (H:Hp) (v:V):Prop:=i0 K wd hg H v∧kF p H v
theorem bB.same {K:PySem.W.Frag}{p:Addr}{wd hg:Int}{H H':Hp}{v:V}(b:bB K p wd hg H v) (s:ae H H'):bB K p wd hg H' v:=⟨b.1.same s,b.2.same s⟩
theorem ZR {K:PySem.W.Frag}{p:Addr}{wd hg:Int}{H:Hp}{a:Addr}{xs:List V}(h:H a=some (.tup xs)) (hp:∀y∈xs,kG K H y) (hb:gU wd hg (some xs)=false) (hl:xs.length≤1000:=by(simp only[List.length_append,List.length_cons,List.length_nil,List.length_take,List.length_drop];omega)):bB K p wd hg H (.ref a):=⟨Ql h (fun y hy=> (hp y hy).1) hb,.inr (.inl ⟨a,xs,rfl,hl,.inl h,fun y hy=> (hp y hy).2⟩)⟩
theorem Y6 {K:PySem.W.Frag}{p:Addr}{wd hg:Int}{H:Hp}{v:V}(hp:jf (.sc v)=true) (hs:oX v=true):bB K p wd hg H v:=⟨U0 (l:=.sc v) hp rfl rfl,.inl hs⟩
theorem Wn {K:PySem.W.Frag}{p:Addr}{wd hg:Int}{H:Hp}{a:Addr}(h:H a=some (.dK [])):bB K p wd hg H (.ref a):=⟨U0 (l:=.dZ) rfl rfl ⟨a,rfl,h⟩,.inr (.inr ⟨a,rfl,h⟩)⟩
theorem Wm {K:PySem.W.Frag}{p:Addr}{wd hg:Int}{H:Hp}{a:Addr}{xs:List V}(h:H a=some (.lst xs)) (np:a≠p) (hl:xs.length≤1000) (hp:∀y∈xs,jc H y):bB K p wd hg H (.ref a):=⟨Qk h,.inr (.inl ⟨a,xs,rfl,hl,.inr ⟨np,h⟩,hp⟩)⟩
theorem Ys {K:PySem.W.Frag}{a b:Addr}{xs ys:List V}{H:Hp}{Q:VK}(ha:H a=some (.tup xs)) (hb:H b=some (.tup ys)) (hl:xs.length+ys.length≤1000) (q:∀(c:Addr) (H':Hp),ae H H'→H' c=some (.tup (xs++ys))→Q (.ref c) H'):jS K (.ref a) (.ref b) H Q:=by
 cases xs with
 |nil=>exact .inl ⟨a,b,ys,rfl,rfl,ao.of ha,ao.of hb,q b H (ae.refl H) hb⟩
 |cons x r=>
  refine .inr ⟨a,b,x::r,ys,rfl,rfl,ao.of ha,ao.of hb,(by simp),Nat.le_of_lt (vt hl),fun e=> ?_,fun e p hp=> ?_⟩
  ·subst e
   exact q a H (ae.refl H) (by rw[List.append_nil];exact ha)
  ·exact q p _ (Zf hp) Zc
theorem Pf {K:PySem.W.Frag}{a:Addr}{xs:List V}{H:Hp}{Q:VK}{k:Nat}(ha:H a=some (.tup xs)) (hk:k<xs.length) (q:∀p:Addr,H p=none→Q (.ref p) (upd H p (.tup (xs.take k)))):jQ K (.ref a) none (some (k:Int)) H Q:=by
 refine⟨a,xs,rfl,ao.of ha,fun h=> ?_,fun p hp=> ?_⟩
 ·rw[HT.o9]at h
  omega
 ·have e:gD xs none (some (k:Int))=xs.take k:=by
   unfold gD
   rw[HT.vK,HT.o9,List.drop_zero,Nat.sub_zero,Nat.min_eq_left (by omega)]
  rw[e]
  exact q p hp
theorem UT {K:PySem.W.Frag}{a:Addr}{xs:List V}{H:Hp}{Q:VK}{k:Nat}(ha:H a=some (.tup xs)) (hk:0<k) (f9:k≤xs.length) (q:∀p:Addr,H p=none→Q (.ref p) (upd H p (.tup (xs.drop k)))):jQ K (.ref a) (some (k:Int)) none H Q:=by
 refine⟨a,xs,rfl,ao.of ha,fun h=> ?_,fun p hp=> ?_⟩
 ·rw[HT.o9]at h
  omega
 ·have e:gD xs (some (k:Int)) none=xs.drop k:=by
   unfold gD
   rw[HT.vK,HT.o9,Nat.min_eq_left f9]
   exact List.take_of_length_le (by rw[List.length_drop];omega)
  rw[e]
  exact q p hp
theorem W5 {K:PySem.W.Frag}{a:Addr}{xs:List V}{y:V}{H:Hp}{Q:VK}{k:Nat}{σ:L2.St}{te tl th z5:TE}(ha:H a=some (.tup xs)) (hk:k<xs.length) (hl:xs.length≤100)
  (e1:∀H Q,Q (.ref a) H→te σ H Q) (e2:∀H Q,Q (.int (k:Int)) H→tl σ H Q) (e3:∀H Q,Q y H→th σ H Q) (e4:∀H Q,Q (.int ((k+1:Nat):Int)) H→z5 σ H Q)
  (q:∀(c:Addr) (H':Hp),ae H H'→H' c=some (.tup (xs.take k++[y]++xs.drop (k+1)))→Q (.ref c) H'):
  jI (jS K) (jI (jS K) (qZ (jQ K) te rg (q0 tl)) (qY (i7 th jJ))) (qZ (jQ K) te (q0 z5) rg) σ H Q:=by
 refine e1 _ _ (e2 _ _ ⟨_,rfl,Pf ha hk fun p1 l6=>e3 _ _ ⟨(by show 1≤sizeLine;decide),fun p2 da=> ?_⟩⟩)
 have s1:ae H (upd H p1 (.tup (xs.take k))):=Zf l6
 have s2:=Zf (o:=.tup [y]) da
 refine Ys (s2 _ _ Zc) Zc (by rw[List.length_take];simp;omega) fun c H3 s3 hc=> ?_
 have sA:=s1.trans (s2.trans s3)
 refine e1 _ _ (e4 _ _ ⟨_,rfl,?_⟩)
 show jQ K (.ref a) (some ((k+1:Nat):Int)) none H3 (fun y H2=>jS K (.ref c) y H2 Q)
 refine UT (k:=k+1) (sA _ _ ha) (by omega) (by omega) fun p4 K0=> ?_
 have s4:=Zf (o:=.tup (xs.drop (k+1))) K0
 refine Ys (s4 _ _ hc) Zc (by rw[List.length_append,List.length_take,List.length_drop];simp;omega) fun c2 H5 s5 mi=> ?_
 exact q c2 H5 (sA.trans (s4.trans s5)) mi
end
section
variable {P:Program}{w:World}{K:PySem.W.Frag}{mg:Str→Option Value}{base:Heap}
abbrev kY:Stmt:=top 45
def lI:List Lit:=[.sc (.int (-1)),.sc (.bl true),.sc (.bl false),.sc (.str "0"),.tup [.int 0],.sc (.int (10^(29:Int).toNat)),.lst [.int 0]]
def sW:List Lit:=[.sc (.int 0),.sc (.int 0),.sc (.int 0),.sc (.int 1),.sc (.int 1),.sc (.int 2),.sc (.int 3),.sc (.int 4),.sc (.int 5),.sc (.int 6),.sc (.int 7),.sc (.int 8)]
theorem PZ {K:PySem.W.Frag}{H:Hp}{v:V}{l:Lit}{hg:Int}(h2:hg≤12) (hl:l∈lI) (h:fw H v l):v≠.af∧bS v 0 (hg - 1)=false∧kG K H v:=by
 have hp:jf l=true:=List.all_eq_true.mp (show lI.all jf=true by decide+kernel) l hl
 refine⟨?_,?_,(Uc hp h).1,?_⟩
 ·simp only[lI,List.mem_cons,List.not_mem_nil,or_false]at hl
  rcases hl with rfl |rfl |rfl |rfl |rfl |rfl |rfl
  ·rw[show v=_ from h];simp
  ·rw[show v=_ from h];simp
  ·rw[show v=_ from h];simp
  ·rw[show v=_ from h];simp
  ·obtain⟨a,e,_⟩:=h;rw[e];simp
  ·rw[show v=_ from h];simp
  ·obtain⟨a,e,_⟩:=h;rw[e];simp
 ·simp only[lI,List.mem_cons,List.not_mem_nil,or_false]at hl
  rcases hl with rfl |rfl |rfl |rfl |rfl |rfl |rfl
  ·rw[show v=_ from h];rfl
  ·rw[show v=_ from h];rfl
  ·rw[show v=_ from h];rfl
  ·rw[show v=_ from h];rfl
  ·obtain⟨a,e,_⟩:=h;rw[e];rfl
  ·rw[show v=_ from h]
   show(decide ((0:Int)≤10^(29:Int).toNat)&&decide ((10:Int)^(29:Int).toNat≤hg - 1))=false
   have:¬(10:Int)^(29:Int).toNat≤hg - 1:=by
    have:(10:Int)^(29:Int).toNat=100000000000000000000000000000:=by decide
    omega
   rw[decide_eq_false this,Bool.and_false]
  ·obtain⟨a,e,_⟩:=h;rw[e];rfl
 ·simp only[lI,List.mem_cons,List.not_mem_nil,or_false]at hl
  rcases hl with rfl |rfl |rfl |rfl |rfl |rfl |rfl
  ·rw[show v=_ from h];exact .inl (by decide)
  ·rw[show v=_ from h];exact .inl (by decide)
  ·rw[show v=_ from h];exact .inl (by decide)
  ·rw[show v=_ from h];exact .inl (by decide)
  ·obtain⟨a,e,h1⟩:=h;exact .inr ⟨a,.int 0,e,.inl h1,by decide⟩
  ·rw[show v=_ from h];exact .inl (by decide)
  ·obtain⟨a,e,h1⟩:=h;exact .inr ⟨a,.int 0,e,.inr h1,by decide⟩
theorem yS {r:Int}{vs:List V}{H:Hp}(h0:0≤r) (h1:r<12) (pr:Paired (fw H) vs sW):∃c:Nat,c≤8∧eE vs r=some (.int (c:Int)):=by
 have key:∀(vs:List V) (ls:List Lit),Paired (fw H) vs ls→ls.all (fun l=>match l with | .sc (.int i)=>decide (0≤i∧i≤8) |_=>false)=true→∀i:Nat,i<ls.length→∃c:Nat,c≤8∧vs[i]? =some (.int (c:Int)):=by
  intro vs ls pr
  induction pr with
  |nil=>intro _ i hi;simp at hi
  |cons r t ih=>
   rename_i v l kQ Tq
   intro ha i hi
   rw[List.all_cons,Bool.and_eq_true]at ha
   cases i with
   |zero=>
    cases l with
    |sc u=>
     have e:v=u:=r
     subst e
     cases v with
     |int j=>
      have hj:=of_decide_eq_true ha.1
      exact⟨j.toNat,by omega,by simp;omega⟩
     |_=>cases ha.1
    |_=>cases ha.1
   |succ i=>
    obtain⟨c,h1,h2⟩:=ih ha.2 i (by simpa using hi)
    exact⟨c,h1,by simpa using h2⟩
 obtain⟨c,h2,h3⟩:=key vs sW pr (by decide+kernel) r.toNat (by show r.toNat<12;omega)
 have:=ZS h3
 rw[Int.toNat_of_nonneg h0]at this
 exact⟨c,h2,this⟩
theorem Jm {wd hg:Int}{xs:List V}(h:cI wd hg xs):∀x∈xs,x=.af∨∃i:Int,x=.int i:=fun x hx=>by
 by_cases e:x=.af
 ·exact .inl e
 ·have m:x∈rowsOf xs:=List.mem_filter.mpr ⟨hx,by simp[e]⟩
  have q':=h.row x m
  cases x with
  |int i=>exact .inr ⟨i,rfl⟩
  |_=>cases q'
theorem Ef {i:Int}(h0:0≤i) (h1:i≤12):oX (.int i)=true:=by
 have c:i=0∨i=1∨i=2∨i=3∨i=4∨i=5∨i=6∨i=7∨i=8∨i=9∨i=10∨i=11∨i=12:=by omega
 rcases c with rfl |rfl |rfl |rfl |rfl |rfl |rfl |rfl |rfl |rfl |rfl |rfl |rfl<;>decide
theorem ZJ {K:PySem.W.Frag}{H:Hp}{wd hg:Int}{xs:List V}(g2:hg≤12) (h:cI wd hg xs):∀x∈xs,kG K H x:=fun x hx=>by
 rcases Jm h x hx with rfl |⟨i,rfl⟩
 ·exact⟨⟨_,.af⟩,.inl rfl⟩
 ·have hm:V.int i∈rowsOf xs:=List.mem_filter.mpr ⟨hx,by simp⟩
  have hw:(decide (0≤i)&&decide (i≤hg - 1))=true:=h.row _ hm
  rw[Bool.and_eq_true,decide_eq_true_eq,decide_eq_true_eq]at hw
  exact⟨⟨_,.int i⟩,.inl (Ef hw.1 (by omega))⟩
theorem UQ:∀(xs:List V) (i:Int),V.int i∈xs→(∀x∈xs,x=.af∨∃j:Int,x=.int j)→∃j:Nat,xs[j]? =some (.int i)∧∀m y,m<j→xs[m]? =some y→dI y (.int i)=false
 | [],i,h,_=>by simp at h
 |x::r,i,h,hr=>by
  by_cases e:x=.int i
  ·exact⟨0,by rw[e];rfl,fun m y hm _=>absurd hm (Nat.not_lt_zero _)⟩
  ·have h':V.int i∈r:=by
    rcases List.mem_cons.mp h with z |z
    ·exact absurd z.symm e
    ·exact z
   obtain⟨j,hj,hn⟩:=UQ r i h' fun y hy=>hr y (List.mem_cons_of_mem _ hy)
   refine⟨j+1,by simpa using hj,fun m y hm hy=> ?_⟩
   cases m with
   |zero=>
    have:y=x:=by simpa using hy.symm
    subst this
    rcases hr y List.mem_cons_self with rfl |⟨k,rfl⟩
    ·rfl
    ·show(k==i)=false
     have:k≠i:=fun z=>e (by rw[z])
     simpa using this
   |succ m=>exact hn m y (by omega) (by simpa using hy)
def uU (K:PySem.W.Frag):Sp:=fun vs H Q _=> ∃(p b l:Addr) (wd hg:Int) (xs:List V),vs=[.ref p,.ref b,.ref l]∧bz H p∧fb H (.ref b) wd hg∧H l=some (.tup xs)∧cI wd hg xs∧∀v H',aq p H H'→bz H' p→bB K p wd hg H' v→Q v H'
def wB:List Expr:=match bM kY with |_:: .Assign _ (.Subscript (.List (_::es) _) _ _) _::_=>es |_=> []
def wA:List Expr:=match bM kY with | [_,_,_,_,_,_,_,.Return (some (.Subscript _ (.Subscript (.List es _) _ _) _)) _]=>es |_=> []
def HU (a b:List Expr):List Stmt:=match bM kY with
 | [s0,.Assign x (.Subscript (.List (y::_) p1) z p2) p3,s2,s3,s4,s5,s6,.Return (some (.Subscript u (.Subscript (.List _ q1) v q2) q3)) q4]=> [s0,.Assign x (.Subscript (.List (y::a) p1) z p2) p3,s2,s3,s4,s5,s6,.Return (some (.Subscript u (.Subscript (.List b q1) v q2) q3)) q4]
 |_=> []
theorem Qr:bM kY=HU wB wA:=by kernel_rfl
theorem Qp:litsOf wB=some lI:=by kernel_rfl
theorem Qq:litsOf wA=some sW:=by kernel_rfl
theorem iD:br ["_law_state_here", "_law_board_here", "_law_lay_here", "_law_way", "_law_at", "_law_to", "_law_odd", "_law_rows", "_law_twice", "_law_row", "_law_spot", "_law_some"] ["_law_state_here", "_law_board_here", "_law_lay_here"] (ay kY):=⟨rfl,rfl,rfl,by decide+kernel,rfl,by decide+kernel,by decide+kernel⟩
theorem YZ {D:Ends}{σ:L2.St}{H:Hp}(h:D.nx σ H):Ad D σ H:=h
theorem Zq {t u:TS}{D:Ends}{σ:L2.St}{H:Hp}(h:t {D with nx:=u D} σ H):Ac t u D σ H:=h
theorem ZE {te:TE}{g:TG}{D:Ends}{σ:L2.St}{H:Hp}(h:te σ H fun v H1=>g v σ H1 D.nx):oR te g D σ H:=h
theorem U6 {t:TA}{σ:L2.St}{H:Hp}{Q:VK}(h:t σ H fun xs H1=>xs.length≤sizeLine∧∀p,H1 p=none→Q (.ref p) (upd H1 p (.lst xs))):Ae t σ H Q:=h
theorem Y0 {ta:TE}{tr:TA}{σ:L2.St}{H:Hp}{Q:List V→Hp→Prop}(h:ta σ H fun x H1=>tr σ H1 fun xs H2=>Q (x::xs) H2):i7 ta tr σ H Q:=h
theorem Zu {i:Nat}{v:V}{σ:L2.St}{H:Hp}{Q:L2.St→Hp→Prop}(h:Q (σ.set i (some v)) H):dc i v σ H Q:=h
theorem Jc {K:PySem.W.Frag}{a:Addr}{xs:List V}{H:Hp}{Q:VK}{k:Nat}{σ:L2.St}{te tl:TE}(ha:H a=some (.tup xs)) (hk:0<k) (f9:k≤xs.length) (e1:∀H Q,Q (.ref a) H→te σ H Q) (e2:∀H Q,Q (.int (k:Int)) H→tl σ H Q)
  (q:∀p:Addr,H p=none→Q (.ref p) (upd H p (.tup (xs.drop k)))):qZ (jQ K) te (q0 tl) rg σ H Q:=e1 _ _ (e2 _ _ ⟨_,rfl,show jQ K (.ref a) (some (k:Int)) none H Q from UT ha hk f9 q⟩)
theorem O4 {f:Addr}{fd:FuncData}(F:aJ K "_law_no_lay" "_law_no_lay" kY f fd) (G:Gs mg) (D1:Def P w K mg base 1 "_law_take" ["_law_state_here", "_law_many"] i9):aE P w K mg base aH 2 f fd ["_law_state_here", "_law_board_here", "_law_lay_here"] (uU K):=by
  refine F.ok iD (fun vs H Q E h=> ?_) (fun ak A outer s H vs Q E hr h=> ?_)
  · obtain⟨p,b,l,wd,hg,xs,rfl,_⟩:=h
    rfl
  · obtain⟨p,b,l,wd,hg,xs,rfl,st,bd,hl,lay,q⟩:=h
    rw[Qr]
    have i1:=Qp
    have i2:=Qq
    generalize wB=MX at i1
    generalize wA=MW at i2
    refine⟨_,Ze (W6 (i:=3) (j:=4) (k:=5) rfl iD.nd rfl rfl rfl rfl rfl rfl
        (Za (Zj D1 hr (Za (pv 0) (Za Zi Zb))) (Za (Zj D1 hr (Za (pv 0) (Za (ZL Yg (pv 1) Zi (fun _ _=>rfl)) Zb))) (Za (Zj D1 hr (Za (pv 0) (Za Zi Zb))) Zb))))
      (Ze (Zp (i:=6) iD.nd rfl (Or.inl rfl) (ZL ZM (ZB (Za (ZL Yg (pv 1) Zi (fun _ _=>rfl)) (Y3 (ls:=lI) i1))) (Zj D1 hr (Za (pv 0) (Za Zi Zb))) (fun _ _=>rfl)))
      (Ze (JN ["_law_row"] 1 [] (i:=7) iD.nd rfl (Or.inl rfl) (yV (pv 2)) (fun C s H fp=>pb 0) (fun C s H fp=>Yp (Ja (YK (pv 0)))) (fun C s H fp D=>ZK rfl (pv 0)))
      (Ze (Zp (i:=8) iD.nd rfl (Or.inl rfl) (Zn Yr (pv 2) (ZA (Za YI Zb))))
      (Ze (Z2 (PW.pt (W4 (ZX (Ea hr.uH) (pv 7) (ZB Zb) (cY _)) (JL (ZX ui (Zm Zv rfl G.len boot_len (Za (pv 2) Zb)) Zi (cY _)))))
        (Ze (Zp (i:=9) iD.nd rfl (Or.inl rfl) (ZL ZM (pv 7) (Zn Yx (pv 5) (Zm Zv rfl G.len boot_len (Za (pv 7) Zb))) (fun _ _=>rfl)))
        (Ze (Zp (i:=10) iD.nd rfl (Or.inl rfl) (Zn Yx (Zn ZU (Zn ZU (Yv PySem.F.plainAttrs_tuple PySem.F.slot_tuple_index PySem.F.type_tuple_index QS (pv 2) (Za (pv 9) Zb)) Zi) (Zn Yx (pv 4) (Zn Z0 (Zm Zv rfl G.len boot_len (Za (pv 2) Zb)) Zi))) (Zm Zv rfl G.len boot_len (Za (pv 2) Zb))))
        (Zk (Zp (i:=8) iD.nd rfl (Or.inl rfl) (Zn Yr (Zn Yr (YE JV (pv 2) Y2 (Y1 (pv 10))) (ZA (Za (pv 9) Zb))) (YE JV (pv 2) (Y1 (Zn ZU (pv 10) Zi)) Y2)))))) ZH)
      (Ze (Zp (i:=11) iD.nd rfl (Or.inl rfl) (ZB (Za (Zn Yr (Zn Yr (YE JV (pv 2) Y2 (Y1 (pv 4))) (ZA (Za (pv 6) Zb))) (YE JV (pv 2) (Y1 (Zn ZU (pv 4) Zi)) Y2))
        (Za (pv 8) (Za (Zn Yr (pv 2) (ZA (Za YI Zb))) (Za (YE JV (pv 2) (Y1 Zi) Y2) (Za (Ya Ui rfl G.list boot_list (Za (pv 2) Zb)) Zb)))))))
      (Ze (Zp (i:=11) iD.nd rfl (Or.inl rfl) (Zn YM (pv 11) (ZB (Za YI (Za J7 (Za Uy (Za (Zn Yr (pv 2) (pv 2)) Zb)))))))
      (Zk (Zz (ZL ZM (pv 11) (ZL ZM (ZB (Y3 (ls:=sW) i2)) (pv 3) (fun _ _=>rfl)) (fun _ _=>rfl)))))))))),?_⟩
    obtain⟨L9,w1,w2,g1,g2⟩:=id bd
    have hb:H b=some (.tup [.int wd,.int hg]):=by
      obtain⟨a,e,h⟩:=ZI L9
      cases e
      exact h
    obtain⟨u0,v0,ep,_⟩:=id st
    have ki:b≠p:=Z4 hb ep (by intro z;cases z)
    have Cs:l≠p:=Z4 hl ep (by intro z;cases z)
    have hlen:=lay.len
    refine⟨_,rfl,p,12,rfl,st,by decide,by decide,fun r1 o1 a1 a2 aw=> ?_⟩
    refine⟨_,rfl,_,rfl,b,_,_,_,rfl,rfl,ao.of (by rw[Zh ki];exact hb),ou,p,wd,rfl,aw,by omega,by omega,fun r2 o2 a3 a4 aj=> ?_⟩
    obtain⟨k2,rfl⟩:=Int.eq_ofNat_of_zero_le a3
    refine⟨_,rfl,p,12,rfl,aj,by decide,by decide,fun r3 o3 a5 a6 aK=> ⟨_,_,_,rfl,?_⟩⟩
    have x3:aq p H (upd (upd (upd H p o1) p o2) p o3):=(aq.upd.trans aq.upd).trans aq.upd
    generalize upd (upd (upd H p o1) p o2) p o3=H3 at aK x3
    have Me:=x3 _ _ hb ki
    have xp:=x3 _ _ hl Cs
    refine⟨_,rfl,b,_,_,_,rfl,rfl,ao.of Me,cb,fun jh H4 s4 Ba n4=> ?_⟩
    have lo:jh.length=7:=Paired.length Ba
    refine⟨by show jh.length+1≤sizeLine;rw[lo];decide,fun L4 iP=> ?_⟩
    have s5:ae H4 (upd H4 L4 (.lst (V.int hg::jh))):=Zf iP
    have e5:upd H4 L4 (.lst (V.int hg::jh)) L4=some (.lst (V.int hg::jh)):=Zc
    generalize upd H4 L4 (HO.lst (V.int hg::jh))=H5 at s5 e5
    have AU:ae H3 H5:=s4.trans s5
    refine⟨_,rfl,p,8,rfl,aK.same AU,by decide,by decide,fun r4 o4 a7 a8 gu=> ?_⟩
    obtain⟨u3,v3,tX,_⟩:=id aK
    have Ie:L4≠p:=fun z=>by rw[z,s4 _ _ tX]at iP;cases iP
    have aA:r4.toNat< (V.int hg::jh).length:=by rw[List.length_cons,lo];omega
    have gb:=List.getElem?_eq_getElem aA
    have kj:=ZS gb
    rw[Int.toNat_of_nonneg a7]at kj
    have zK:aq p H5 (upd H5 p o4):=aq.upd
    refine⟨L4,_,_,_,rfl,rfl,ah.of (by rw[Zh Ie];exact e5),kj,?_⟩
    generalize TJ:(V.int hg::jh)[r4.toNat]=od at gb
    have odd:od≠.af∧bS od 0 (hg - 1)=false∧kG K (upd H5 p o4) od:=by
      cases hr:r4.toNat with
      |zero=>
       rw[hr]at gb
       have e:V.int hg=od:=by simpa using gb
       rw[←e]
       refine⟨by simp,?_,⟨_,.int hg⟩,.inl (Ef (by omega) (by omega))⟩
       show(decide (0≤hg)&&decide (hg≤hg - 1))=false
       rw[decide_eq_false (show ¬hg≤hg - 1 by omega),Bool.and_false]
      |succ k=>
       rw[hr]at gb
       have hk:jh[k]? =some od:=by simpa using gb
       obtain⟨lt,Lh,NR⟩:=Y7 Ba hk
       have gp:=NR.same s5
       have oq:fw (upd H5 p o4) od lt:=by
         have wD:∀a,od=.ref a→a≠p:=fun a e z=>by
           have:=n4 a (by rw[←e];exact List.mem_of_getElem? hk)
           rw[z,tX]at this
           cases this
         cases lt with
         |sc v=>exact gp
         |tup ys=>
          obtain⟨a,e,h⟩:=gp
          exact⟨a,e,by rw[Zh (wD a e)];exact h⟩
         |lst ys=>
          obtain⟨a,e,h⟩:=gp
          exact⟨a,e,by rw[Zh (wD a e)];exact h⟩
         |dZ=>
          obtain⟨a,e,h⟩:=gp
          exact⟨a,e,by rw[Zh (wD a e)];exact h⟩
       exact PZ g2 (List.mem_of_getElem? Lh) oq
    have x6:aq p H (upd H5 p o4):=(x3.trans AU.x).trans zK
    generalize upd H5 p o4=H6 at gu odd x6
    clear zK e5 iP
    have fM:=x6 _ _ hl Cs
    have xP:=x6 _ _ hb ki
    obtain⟨wq,wk,wm⟩:=odd
    obtain⟨u6,v6,tW,_⟩:=id gu
    refine⟨_,rfl,l,rfl,⟨xs,ao.of fM⟩,?_⟩
    refine Wa (xs:=xs) (fun i ys σ H2=>ys=rowsOf (xs.take i)∧H2=H6∧∃v,σ=[v]) ⟨rfl,rfl,none,rfl⟩ (fun i ys σ H2 _ ⟨_,e2,_⟩=>by rw[e2];exact ao.of fM) ?_ ?_
    · rintro i r ys σ H2 cq ⟨rfl,rfl,v,rfl⟩
      have et:rowsOf (xs.take (i+1))=rowsOf (xs.take i)++(if (!decide (r=V.af))=true then [r] else []):=by
        unfold rowsOf
        rw[List.take_add_one,cq,List.filter_append]
        cases hh:(!decide (r=V.af)) with
        |true=>simp[hh]
        |false=>simp[hh]
      refine⟨r,rfl,_,rfl,?_⟩
      cases hh:(!decide (r=V.af)) with
      |true=>
       rw[hh]at et
       refine bh ?_
       refine⟨r,rfl,?_,?_⟩
       · have:=List.length_filter_le (fun x=> !decide (x=V.af)) (xs.take i)
         unfold rowsOf
         rw[sizeLine_eq]
         rw[List.length_take]at this
         omega
       · exact⟨by rw[et,if_pos rfl],rfl,_,rfl⟩
      |false=>
       rw[hh]at et
       exact aR ⟨by rw[et,if_neg Bool.false_ne_true,List.append_nil],rfl,_,rfl⟩
    · rintro ys σ H2 ⟨rfl,rfl,v,rfl⟩ R7 Mm
      rw[List.take_length]
      have s7:ae H2 (upd H2 R7 (.lst (rowsOf xs))):=Zf Mm
      have e7:upd H2 R7 (.lst (rowsOf xs)) R7=some (.lst (rowsOf xs)):=Zc
      generalize upd H2 R7 (HO.lst (rowsOf xs))=H7 at s7 e7
      refine⟨_,rfl,(by show 1≤sizeLine;decide),fun t8 KG=> ?_⟩
      have s8:ae H7 (upd H7 t8 (.tup [.af])):=Zf KG
      refine Ys (s8 _ _ (s7 _ _ fM)) Zc (by simp;omega) fun c9 H9 s9 L6=> ?_
      have GV:ae H2 H9:=s7.trans (s8.trans s9)
      have Hw:∀y∈xs++[V.af],kG K H9 y:=fun y hy=>by
        rcases List.mem_append.mp hy with m |m
        · exact ZJ g2 lay y m
        · rw[List.mem_singleton.mp m];exact⟨⟨_,.af⟩,.inl rfl⟩
      have NA:bB K p wd hg H9 (.ref c9):=ZR L6 Hw (Yl (by rw[List.length_append];simp;omega))
      have e9:=(s8.trans s9) _ _ e7
      refine⟨_,rfl,Nat.zero_le _,fun oH Kj=> ?_⟩
      have sz:ae H9 (upd H9 oH (.lst [])):=Zf Kj
      have ez:upd H9 oH (.lst []) oH=some (.lst []):=Zc
      generalize upd H9 oH (HO.lst [])=kN at sz ez
      have dC:ae H2 kN:=GV.trans sz
      refine⟨R7,oH,rowsOf xs,rfl,rfl,ah.of (sz _ _ e9),ah.of ez,_,rfl,?_⟩
      have il:=NA.same sz
      cases hE:(rowsOf xs).isEmpty with
      |true=>
       refine aR (aR (YZ ?_))
       dsimp only
       have fh:=dC _ _ fM
       refine Zq (ZE (U6 (Y0 ?_)))
       refine W5 (K:=K) (a:=l) (xs:=xs) (y:=od) (k:=k2) fh (by omega) (by omega) (fun H Q h=> ⟨_,rfl,h⟩) (fun H Q h=> ⟨_,rfl,h⟩) (fun H Q h=> ⟨_,rfl,h⟩)
         (fun H Q h=> ⟨_,rfl,_,_,rfl,rfl,(by have e:((k2+1:Nat):Int)=(k2:Int)+1:=by omega
                                             rw[e]at h;exact h)⟩) fun c11 mT dg qi=> ?_
       have b11:bB K p wd hg mT (.ref c11):=ZR qi (fun y hy=>by
         rcases List.mem_append.mp hy with m |m
         · rcases List.mem_append.mp m with m |m
           · exact ZJ g2 lay y (List.mem_of_mem_take m)
           · rw[List.mem_singleton.mp m];exact wm.same (dC.trans dg)
         · exact ZJ g2 lay y (List.mem_of_mem_drop m)) (Ud wq wk)
       replace il:=il.same dg
       have kc:=dg _ _ fh
       refine⟨_,rfl,_,rfl,(by show 1≤sizeLine;decide),fun Ai pI=> ?_⟩
       have jO:=Zf (o:=.tup [V.af]) pI
       refine Ys (jO _ _ kc) Zc (by simp;omega) fun c13 fT lg qh=> ?_
       have sA:=jO.trans lg
       have b13:bB K p wd hg fT (.ref c13):=ZR qh (fun y hy=>by
         rcases List.mem_append.mp hy with m |m
         · exact ZJ g2 lay y m
         · rw[List.mem_singleton.mp m];exact⟨⟨_,.af⟩,.inl rfl⟩) (Yl (by rw[List.length_append];simp;omega))
       have ka:=sA _ _ kc
       refine Y0 (Jc (K:=K) (a:=l) (xs:=xs) (k:=1) ka (by omega) (by omega) (fun H Q h=> ⟨_,rfl,h⟩) (fun H Q h=>h) fun c14 qg=> ?_)
       have cW:=Zf (o:=.tup (xs.drop 1)) qg
       have b14:bB K p wd hg (upd fT c14 (.tup (xs.drop 1))) (.ref c14):=ZR Zc (fun y hy=>ZJ g2 lay y (List.mem_of_mem_drop hy)) (Yl (by rw[List.length_drop];omega))
       generalize upd fT c14 (HO.tup (xs.drop 1))=iw at cW b14
       have j9:=cW _ _ ka
       refine⟨_,rfl,l,xs,rfl,.inr (ao.of j9),fun c15 kh=> ?_⟩
       have fG:=Zf (o:=.lst xs) kh
       have pB:c15≠p:=fun z=>by
         have h:=cW _ _ (sA _ _ (dg _ _ (dC _ _ tW)))
         rw[←z,kh]at h
         cases h
       have b15:bB K p wd hg (upd iw c15 (.lst xs)) (.ref c15):=Wm Zc pB (by omega) fun y hy=> (ZJ (K:=K) g2 lay y hy).2
       generalize upd iw c15 (HO.lst xs)=kM at fG b15
       refine⟨(by show 5≤sizeLine;decide),fun fS qz=> ?_⟩
       have fF:=Zf (o:=.lst [V.ref c11,V.ref c9,V.ref c13,V.ref c14,V.ref c15]) qz
       have e16:upd kM fS (.lst [V.ref c11,V.ref c9,V.ref c13,V.ref c14,V.ref c15]) fS=some (.lst [V.ref c11,V.ref c9,V.ref c13,V.ref c14,V.ref c15]):=Zc
       generalize upd kM fS (HO.lst [V.ref c11,V.ref c9,V.ref c13,V.ref c14,V.ref c15])=kL at fF e16
       have pW:=fF _ _ (fG _ _ j9)
       refine⟨_,rfl,fun aU qe=> ?_⟩
       have dQ:=Zf (o:=.dK []) qe
       have b17:bB K p wd hg (upd kL aU (.dK [])) (.ref aU):=Wn Zc
       generalize upd kL aU (HO.dK [])=ET at dQ b17
       have j8:=dQ _ _ pW
       refine⟨_,rfl,_,rfl,Ys j8 j8 (by omega) fun c18 iu gM qf=> ?_⟩
       have b18:bB K p wd hg iu (.ref c18):=ZR qf (fun y hy=>by
         rcases List.mem_append.mp hy with m |m
         · exact ZJ g2 lay y m
         · exact ZJ g2 lay y m) (Yl (by rw[List.length_append];omega))
       refine⟨(by show 4≤sizeLine;decide),fun iq qy=> ?_⟩
       have jN:=Zf (o:=.lst [V.af,V.str "1x1: .",V.ref aU,V.ref c18]) qy
       refine⟨fS,iq,_,_,rfl,rfl,jN _ _ (gM _ _ (dQ _ _ e16)),Zc,(by show 5+4≤sizeLine;decide),fun fQ qw=> ?_⟩
       have jM:=Zf (o:=.lst ([V.ref c11,V.ref c9,V.ref c13,V.ref c14,V.ref c15]++[V.af,V.str "1x1: .",V.ref aU,V.ref c18])) qw
       have e20:upd (upd iu iq (.lst [V.af,V.str "1x1: .",V.ref aU,V.ref c18])) fQ (.lst ([V.ref c11,V.ref c9,V.ref c13,V.ref c14,V.ref c15]++[V.af,V.str "1x1: .",V.ref aU,V.ref c18])) fQ=some (.lst ([V.ref c11,V.ref c9,V.ref c13,V.ref c14,V.ref c15]++[V.af,V.str "1x1: .",V.ref aU,V.ref c18])):=Zc
       generalize upd (upd iu iq (.lst [V.af,V.str "1x1: .",V.ref aU,V.ref c18])) fQ (HO.lst ([V.ref c11,V.ref c9,V.ref c13,V.ref c14,V.ref c15]++[V.af,V.str "1x1: .",V.ref aU,V.ref c18]))=ES at jM e20
       refine⟨_,rfl,fun gT qP jL jT Bx=> ?_⟩
       have li:gT.length=12:=Paired.length jT
       refine⟨by rw[li];decide,fun kJ qv=> ?_⟩
       have jK:=Zf (o:=.lst gT) qv
       obtain⟨ci,CH,qm⟩:=yS a1 a2 jT
       refine⟨_,rfl,kJ,_,_,_,rfl,rfl,ah.of Zc,qm,?_⟩
       have sB:=jN.trans (jM.trans (jL.trans jK))
       have qK:∀v∈[V.ref c11,V.ref c9,V.ref c13,V.ref c14,V.ref c15]++[V.af,V.str "1x1: .",V.ref aU,V.ref c18],bB K p wd hg (upd qP kJ (.lst gT)) v:=by
         intro v hv
         have sC:=gM.trans sB
         have sD:=dQ.trans sC
         have sE:=fF.trans sD
         have sF:=fG.trans sE
         have sG:=cW.trans sF
         simp only[List.cons_append,List.nil_append,List.mem_cons,List.not_mem_nil,or_false]at hv
         rcases hv with rfl |rfl |rfl |rfl |rfl |rfl |rfl |rfl |rfl
         · exact b11.same (sA.trans sG)
         · exact il.same (sA.trans sG)
         · exact b13.same sG
         · exact b14.same sF
         · exact b15.same sE
         · exact Y6 rfl rfl
         · exact Y6 rfl (by decide)
         · exact b17.same sC
         · exact b18.same sB
       have j7:ci< ([V.ref c11,V.ref c9,V.ref c13,V.ref c14,V.ref c15]++[V.af,V.str "1x1: .",V.ref aU,V.ref c18]).length:=by show ci<9;omega
       refine⟨fQ,_,_,_,rfl,rfl,ah.of ((jL.trans jK) _ _ e20),ZS (List.getElem?_eq_getElem j7),?_⟩
       have fE:=dC.trans (dg.trans (sA.trans (cW.trans (fG.trans (fF.trans (dQ.trans (gM.trans sB)))))))
       exact q _ _ (x6.trans fE.x) (gu.same fE) (qK _ (List.getElem_mem j7))
      |false=>
       refine bh ?_
       refine⟨_,rfl,l,xs,rfl,.inr (ao.of (dC _ _ fM)),_,_,rfl,rfl,_,rfl,?_⟩
       refine sY (fun h1=> ?_) (fun _=> ?_)
       · have qC:1<xs.length:=by
           have:=of_decide_eq_true h1
           omega
         have nr:0< (rowsOf xs).length:=by
           cases w6:rowsOf xs with
           |nil=>rw[w6]at hE;cases hE
           |cons a b=>simp
         have Le:0≤r3%((rowsOf xs).length:Int)∧r3%((rowsOf xs).length:Int)< ((rowsOf xs).length:Int):=⟨Int.emod_nonneg _ (by omega),Int.emod_lt_of_pos _ (by omega)⟩
         have Cr:(r3%((rowsOf xs).length:Int)).toNat< (rowsOf xs).length:=by omega
         have xQ:=ZS (List.getElem?_eq_getElem Cr)
         rw[Int.toNat_of_nonneg Le.1]at xQ
         have xn:(rowsOf xs)[(r3%((rowsOf xs).length:Int)).toNat]∈rowsOf xs:=List.getElem_mem Cr
         generalize (rowsOf xs)[(r3%((rowsOf xs).length:Int)).toNat]=row at xQ xn
         have Cj:row∈xs:=(List.mem_filter.mp xn).1
         have KQ:row≠.af:=by simpa using (List.mem_filter.mp xn).2
         obtain⟨ri,rfl⟩:∃ri:Int,row=.int ri:=by
           rcases Jm lay row Cj with z |z
           · exact absurd z KQ
           · exact z
         obtain⟨j,hj,iI⟩:=UQ xs ri Cj (Jm lay)
         have md:j<xs.length:=(List.getElem?_eq_some_iff.mp hj).1
         have flat:xs.all gC=true:=List.all_eq_true.mpr fun x hx=>by
           rcases Jm lay x hx with z |⟨i,z⟩<;>rw[z]<;>rfl
         have fh:=dC _ _ fM
         refine⟨_,rfl,_,rfl,_,rfl,R7,_,rfl,.inl (ah.of (sz _ _ e9)),_,_,rfl,rfl,by omega,R7,_,_,_,rfl,rfl,ah.of (sz _ _ e9),xQ,?_⟩
         refine⟨_,rfl,.inr (.inl ⟨rfl,.inr ⟨_,fh⟩⟩),_,rfl,l,xs,.int ri,j,rfl,rfl,ao.of fh,rfl,flat,⟨_,hj,by show(ri==ri)=true;simp⟩,iI,?_⟩
         have Ao:0≤((j:Int)+1+(k2:Int)%((xs.length:Int) - 1))%(xs.length:Int)∧((j:Int)+1+(k2:Int)%((xs.length:Int) - 1))%(xs.length:Int)< (xs.length:Int):=⟨Int.emod_nonneg _ (by omega),Int.emod_lt_of_pos _ (by omega)⟩
         have Gr:((j:Int)+1+(k2:Int)%((xs.length:Int) - 1))%(xs.length:Int)≠(j:Int):=by
           have m1:0≤(k2:Int)%((xs.length:Int) - 1):=Int.emod_nonneg _ (by omega)
           have m2:(k2:Int)%((xs.length:Int) - 1)< (xs.length:Int) - 1:=Int.emod_lt_of_pos _ (by omega)
           generalize (k2:Int)%((xs.length:Int) - 1)=m at m1 m2
           intro hz
           by_cases aA:(j:Int)+1+m< (xs.length:Int)
           · rw[Int.emod_eq_of_lt (by omega) aA]at hz
             omega
           · have e:((j:Int)+1+m)%(xs.length:Int)=(j:Int)+1+m - (xs.length:Int):=by
               rw[←Int.sub_emod_right,Int.emod_eq_of_lt (by omega) (by omega)]
             rw[e]at hz
             omega
         refine⟨_,_,rfl,rfl,_,rfl,_,rfl,l,xs,rfl,.inr (ao.of fh),_,_,rfl,rfl,_,_,rfl,rfl,by omega,_,_,rfl,rfl,_,rfl,l,xs,rfl,.inr (ao.of fh),_,_,rfl,rfl,by omega,?_⟩
         refine Zu ?_
         dsimp only
         generalize ((j:Int)+1+(k2:Int)%((xs.length:Int) - 1))%(xs.length:Int)=S5 at Ao Gr ⊢
         obtain⟨sp,rfl⟩:=Int.eq_ofNat_of_zero_le Ao.1
         have KL:sp<xs.length:=by omega
         have KN:j≠sp:=by omega
         refine ZE ?_
         refine W5 (K:=K) (a:=l) (xs:=xs) (y:=.int ri) (k:=sp) fh KL (by omega) (fun H Q h=> ⟨_,rfl,h⟩) (fun H Q h=> ⟨_,rfl,h⟩) (fun H Q h=> ⟨_,rfl,h⟩)
           (fun H Q h=> ⟨_,rfl,_,_,rfl,rfl,(by have e:((sp+1:Nat):Int)=(sp:Int)+1:=by omega
                                               rw[e]at h;exact h)⟩) fun cz Hz Gm LY=> ?_
         refine Zu ?_
         dsimp only
         have Nz:bB K p wd hg Hz (.ref cz):=ZR LY (fun y hy=>by
           rcases List.mem_append.mp hy with m |m
           · rcases List.mem_append.mp m with m |m
             · exact ZJ g2 lay y (List.mem_of_mem_take m)
             · rw[List.mem_singleton.mp m];exact ZJ g2 lay _ (List.mem_of_getElem? hj)
           · exact ZJ g2 lay y (List.mem_of_mem_drop m)) (OM hj KN (by simp))
         clear il
         have dC:=dC.trans Gm
         have il:=Nz
         clear fh
         have fh:=dC _ _ fM
         refine Zq (ZE (U6 (Y0 ?_)))
         refine W5 (K:=K) (a:=l) (xs:=xs) (y:=od) (k:=k2) fh (by omega) (by omega) (fun H Q h=> ⟨_,rfl,h⟩) (fun H Q h=> ⟨_,rfl,h⟩) (fun H Q h=> ⟨_,rfl,h⟩)
           (fun H Q h=> ⟨_,rfl,_,_,rfl,rfl,(by have e:((k2+1:Nat):Int)=(k2:Int)+1:=by omega
                                               rw[e]at h;exact h)⟩) fun c11 mT dg qi=> ?_
         have b11:bB K p wd hg mT (.ref c11):=ZR qi (fun y hy=>by
           rcases List.mem_append.mp hy with m |m
           · rcases List.mem_append.mp m with m |m
             · exact ZJ g2 lay y (List.mem_of_mem_take m)
             · rw[List.mem_singleton.mp m];exact wm.same (dC.trans dg)
           · exact ZJ g2 lay y (List.mem_of_mem_drop m)) (Ud wq wk)
         replace il:=il.same dg
         have kc:=dg _ _ fh
         refine⟨_,rfl,_,rfl,(by show 1≤sizeLine;decide),fun Ai pI=> ?_⟩
         have jO:=Zf (o:=.tup [V.af]) pI
         refine Ys (jO _ _ kc) Zc (by simp;omega) fun c13 fT lg qh=> ?_
         have sA:=jO.trans lg
         have b13:bB K p wd hg fT (.ref c13):=ZR qh (fun y hy=>by
           rcases List.mem_append.mp hy with m |m
           · exact ZJ g2 lay y m
           · rw[List.mem_singleton.mp m];exact⟨⟨_,.af⟩,.inl rfl⟩) (Yl (by rw[List.length_append];simp;omega))
         have ka:=sA _ _ kc
         refine Y0 (Jc (K:=K) (a:=l) (xs:=xs) (k:=1) ka (by omega) (by omega) (fun H Q h=> ⟨_,rfl,h⟩) (fun H Q h=>h) fun c14 qg=> ?_)
         have cW:=Zf (o:=.tup (xs.drop 1)) qg
         have b14:bB K p wd hg (upd fT c14 (.tup (xs.drop 1))) (.ref c14):=ZR Zc (fun y hy=>ZJ g2 lay y (List.mem_of_mem_drop hy)) (Yl (by rw[List.length_drop];omega))
         generalize upd fT c14 (HO.tup (xs.drop 1))=iw at cW b14
         have j9:=cW _ _ ka
         refine⟨_,rfl,l,xs,rfl,.inr (ao.of j9),fun c15 kh=> ?_⟩
         have fG:=Zf (o:=.lst xs) kh
         have pB:c15≠p:=fun z=>by
           have h:=cW _ _ (sA _ _ (dg _ _ (dC _ _ tW)))
           rw[←z,kh]at h
           cases h
         have b15:bB K p wd hg (upd iw c15 (.lst xs)) (.ref c15):=Wm Zc pB (by omega) fun y hy=> (ZJ (K:=K) g2 lay y hy).2
         generalize upd iw c15 (HO.lst xs)=kM at fG b15
         refine⟨(by show 5≤sizeLine;decide),fun fS qz=> ?_⟩
         have fF:=Zf (o:=.lst [V.ref c11,V.ref cz,V.ref c13,V.ref c14,V.ref c15]) qz
         have e16:upd kM fS (.lst [V.ref c11,V.ref cz,V.ref c13,V.ref c14,V.ref c15]) fS=some (.lst [V.ref c11,V.ref cz,V.ref c13,V.ref c14,V.ref c15]):=Zc
         generalize upd kM fS (HO.lst [V.ref c11,V.ref cz,V.ref c13,V.ref c14,V.ref c15])=kL at fF e16
         have pW:=fF _ _ (fG _ _ j9)
         refine⟨_,rfl,fun aU qe=> ?_⟩
         have dQ:=Zf (o:=.dK []) qe
         have b17:bB K p wd hg (upd kL aU (.dK [])) (.ref aU):=Wn Zc
         generalize upd kL aU (HO.dK [])=ET at dQ b17
         have j8:=dQ _ _ pW
         refine⟨_,rfl,_,rfl,Ys j8 j8 (by omega) fun c18 iu gM qf=> ?_⟩
         have b18:bB K p wd hg iu (.ref c18):=ZR qf (fun y hy=>by
           rcases List.mem_append.mp hy with m |m
           · exact ZJ g2 lay y m
           · exact ZJ g2 lay y m) (Yl (by rw[List.length_append];omega))
         refine⟨(by show 4≤sizeLine;decide),fun iq qy=> ?_⟩
         have jN:=Zf (o:=.lst [V.af,V.str "1x1: .",V.ref aU,V.ref c18]) qy
         refine⟨fS,iq,_,_,rfl,rfl,jN _ _ (gM _ _ (dQ _ _ e16)),Zc,(by show 5+4≤sizeLine;decide),fun fQ qw=> ?_⟩
         have jM:=Zf (o:=.lst ([V.ref c11,V.ref cz,V.ref c13,V.ref c14,V.ref c15]++[V.af,V.str "1x1: .",V.ref aU,V.ref c18])) qw
         have e20:upd (upd iu iq (.lst [V.af,V.str "1x1: .",V.ref aU,V.ref c18])) fQ (.lst ([V.ref c11,V.ref cz,V.ref c13,V.ref c14,V.ref c15]++[V.af,V.str "1x1: .",V.ref aU,V.ref c18])) fQ=some (.lst ([V.ref c11,V.ref cz,V.ref c13,V.ref c14,V.ref c15]++[V.af,V.str "1x1: .",V.ref aU,V.ref c18])):=Zc
         generalize upd (upd iu iq (.lst [V.af,V.str "1x1: .",V.ref aU,V.ref c18])) fQ (HO.lst ([V.ref c11,V.ref cz,V.ref c13,V.ref c14,V.ref c15]++[V.af,V.str "1x1: .",V.ref aU,V.ref c18]))=ES at jM e20
         refine⟨_,rfl,fun gT qP jL jT Bx=> ?_⟩
         have li:gT.length=12:=Paired.length jT
         refine⟨by rw[li];decide,fun kJ qv=> ?_⟩
         have jK:=Zf (o:=.lst gT) qv
         obtain⟨ci,CH,qm⟩:=yS a1 a2 jT
         refine⟨_,rfl,kJ,_,_,_,rfl,rfl,ah.of Zc,qm,?_⟩
         have sB:=jN.trans (jM.trans (jL.trans jK))
         have qK:∀v∈[V.ref c11,V.ref cz,V.ref c13,V.ref c14,V.ref c15]++[V.af,V.str "1x1: .",V.ref aU,V.ref c18],bB K p wd hg (upd qP kJ (.lst gT)) v:=by
           intro v hv
           have sC:=gM.trans sB
           have sD:=dQ.trans sC
           have sE:=fF.trans sD
           have sF:=fG.trans sE
           have sG:=cW.trans sF
           simp only[List.cons_append,List.nil_append,List.mem_cons,List.not_mem_nil,or_false]at hv
           rcases hv with rfl |rfl |rfl |rfl |rfl |rfl |rfl |rfl |rfl
           · exact b11.same (sA.trans sG)
           · exact il.same (sA.trans sG)
           · exact b13.same sG
           · exact b14.same sF
           · exact b15.same sE
           · exact Y6 rfl rfl
           · exact Y6 rfl (by decide)
           · exact b17.same sC
           · exact b18.same sB
         have j7:ci< ([V.ref c11,V.ref cz,V.ref c13,V.ref c14,V.ref c15]++[V.af,V.str "1x1: .",V.ref aU,V.ref c18]).length:=by show ci<9;omega
         refine⟨fQ,_,_,_,rfl,rfl,ah.of ((jL.trans jK) _ _ e20),ZS (List.getElem?_eq_getElem j7),?_⟩
         have fE:=dC.trans (dg.trans (sA.trans (cW.trans (fG.trans (fF.trans (dQ.trans (gM.trans sB)))))))
         exact q _ _ (x6.trans fE.x) (gu.same fE) (qK _ (List.getElem_mem j7))
       · refine YZ ?_
         dsimp only
         have fh:=dC _ _ fM
         refine Zq (ZE (U6 (Y0 ?_)))
         refine W5 (K:=K) (a:=l) (xs:=xs) (y:=od) (k:=k2) fh (by omega) (by omega) (fun H Q h=> ⟨_,rfl,h⟩) (fun H Q h=> ⟨_,rfl,h⟩) (fun H Q h=> ⟨_,rfl,h⟩)
           (fun H Q h=> ⟨_,rfl,_,_,rfl,rfl,(by have e:((k2+1:Nat):Int)=(k2:Int)+1:=by omega
                                               rw[e]at h;exact h)⟩) fun c11 mT dg qi=> ?_
         have b11:bB K p wd hg mT (.ref c11):=ZR qi (fun y hy=>by
           rcases List.mem_append.mp hy with m |m
           · rcases List.mem_append.mp m with m |m
             · exact ZJ g2 lay y (List.mem_of_mem_take m)
             · rw[List.mem_singleton.mp m];exact wm.same (dC.trans dg)
           · exact ZJ g2 lay y (List.mem_of_mem_drop m)) (Ud wq wk)
         replace il:=il.same dg
         have kc:=dg _ _ fh
         refine⟨_,rfl,_,rfl,(by show 1≤sizeLine;decide),fun Ai pI=> ?_⟩
         have jO:=Zf (o:=.tup [V.af]) pI
         refine Ys (jO _ _ kc) Zc (by simp;omega) fun c13 fT lg qh=> ?_
         have sA:=jO.trans lg
         have b13:bB K p wd hg fT (.ref c13):=ZR qh (fun y hy=>by
           rcases List.mem_append.mp hy with m |m
           · exact ZJ g2 lay y m
           · rw[List.mem_singleton.mp m];exact⟨⟨_,.af⟩,.inl rfl⟩) (Yl (by rw[List.length_append];simp;omega))
         have ka:=sA _ _ kc
         refine Y0 (Jc (K:=K) (a:=l) (xs:=xs) (k:=1) ka (by omega) (by omega) (fun H Q h=> ⟨_,rfl,h⟩) (fun H Q h=>h) fun c14 qg=> ?_)
         have cW:=Zf (o:=.tup (xs.drop 1)) qg
         have b14:bB K p wd hg (upd fT c14 (.tup (xs.drop 1))) (.ref c14):=ZR Zc (fun y hy=>ZJ g2 lay y (List.mem_of_mem_drop hy)) (Yl (by rw[List.length_drop];omega))
         generalize upd fT c14 (HO.tup (xs.drop 1))=iw at cW b14
         have j9:=cW _ _ ka
         refine⟨_,rfl,l,xs,rfl,.inr (ao.of j9),fun c15 kh=> ?_⟩
         have fG:=Zf (o:=.lst xs) kh
         have pB:c15≠p:=fun z=>by
           have h:=cW _ _ (sA _ _ (dg _ _ (dC _ _ tW)))
           rw[←z,kh]at h
           cases h
         have b15:bB K p wd hg (upd iw c15 (.lst xs)) (.ref c15):=Wm Zc pB (by omega) fun y hy=> (ZJ (K:=K) g2 lay y hy).2
         generalize upd iw c15 (HO.lst xs)=kM at fG b15
         refine⟨(by show 5≤sizeLine;decide),fun fS qz=> ?_⟩
         have fF:=Zf (o:=.lst [V.ref c11,V.ref c9,V.ref c13,V.ref c14,V.ref c15]) qz
         have e16:upd kM fS (.lst [V.ref c11,V.ref c9,V.ref c13,V.ref c14,V.ref c15]) fS=some (.lst [V.ref c11,V.ref c9,V.ref c13,V.ref c14,V.ref c15]):=Zc
         generalize upd kM fS (HO.lst [V.ref c11,V.ref c9,V.ref c13,V.ref c14,V.ref c15])=kL at fF e16
         have pW:=fF _ _ (fG _ _ j9)
         refine⟨_,rfl,fun aU qe=> ?_⟩
         have dQ:=Zf (o:=.dK []) qe
         have b17:bB K p wd hg (upd kL aU (.dK [])) (.ref aU):=Wn Zc
         generalize upd kL aU (HO.dK [])=ET at dQ b17
         have j8:=dQ _ _ pW
         refine⟨_,rfl,_,rfl,Ys j8 j8 (by omega) fun c18 iu gM qf=> ?_⟩
         have b18:bB K p wd hg iu (.ref c18):=ZR qf (fun y hy=>by
           rcases List.mem_append.mp hy with m |m
           · exact ZJ g2 lay y m
           · exact ZJ g2 lay y m) (Yl (by rw[List.length_append];omega))
         refine⟨(by show 4≤sizeLine;decide),fun iq qy=> ?_⟩
         have jN:=Zf (o:=.lst [V.af,V.str "1x1: .",V.ref aU,V.ref c18]) qy
         refine⟨fS,iq,_,_,rfl,rfl,jN _ _ (gM _ _ (dQ _ _ e16)),Zc,(by show 5+4≤sizeLine;decide),fun fQ qw=> ?_⟩
         have jM:=Zf (o:=.lst ([V.ref c11,V.ref c9,V.ref c13,V.ref c14,V.ref c15]++[V.af,V.str "1x1: .",V.ref aU,V.ref c18])) qw
         have e20:upd (upd iu iq (.lst [V.af,V.str "1x1: .",V.ref aU,V.ref c18])) fQ (.lst ([V.ref c11,V.ref c9,V.ref c13,V.ref c14,V.ref c15]++[V.af,V.str "1x1: .",V.ref aU,V.ref c18])) fQ=some (.lst ([V.ref c11,V.ref c9,V.ref c13,V.ref c14,V.ref c15]++[V.af,V.str "1x1: .",V.ref aU,V.ref c18])):=Zc
         generalize upd (upd iu iq (.lst [V.af,V.str "1x1: .",V.ref aU,V.ref c18])) fQ (HO.lst ([V.ref c11,V.ref c9,V.ref c13,V.ref c14,V.ref c15]++[V.af,V.str "1x1: .",V.ref aU,V.ref c18]))=ES at jM e20
         refine⟨_,rfl,fun gT qP jL jT Bx=> ?_⟩
         have li:gT.length=12:=Paired.length jT
         refine⟨by rw[li];decide,fun kJ qv=> ?_⟩
         have jK:=Zf (o:=.lst gT) qv
         obtain⟨ci,CH,qm⟩:=yS a1 a2 jT
         refine⟨_,rfl,kJ,_,_,_,rfl,rfl,ah.of Zc,qm,?_⟩
         have sB:=jN.trans (jM.trans (jL.trans jK))
         have qK:∀v∈[V.ref c11,V.ref c9,V.ref c13,V.ref c14,V.ref c15]++[V.af,V.str "1x1: .",V.ref aU,V.ref c18],bB K p wd hg (upd qP kJ (.lst gT)) v:=by
           intro v hv
           have sC:=gM.trans sB
           have sD:=dQ.trans sC
           have sE:=fF.trans sD
           have sF:=fG.trans sE
           have sG:=cW.trans sF
           simp only[List.cons_append,List.nil_append,List.mem_cons,List.not_mem_nil,or_false]at hv
           rcases hv with rfl |rfl |rfl |rfl |rfl |rfl |rfl |rfl |rfl
           · exact b11.same (sA.trans sG)
           · exact il.same (sA.trans sG)
           · exact b13.same sG
           · exact b14.same sF
           · exact b15.same sE
           · exact Y6 rfl rfl
           · exact Y6 rfl (by decide)
           · exact b17.same sC
           · exact b18.same sB
         have j7:ci< ([V.ref c11,V.ref c9,V.ref c13,V.ref c14,V.ref c15]++[V.af,V.str "1x1: .",V.ref aU,V.ref c18]).length:=by show ci<9;omega
         refine⟨fQ,_,_,_,rfl,rfl,ah.of ((jL.trans jK) _ _ e20),ZS (List.getElem?_eq_getElem j7),?_⟩
         have fE:=dC.trans (dg.trans (sA.trans (cW.trans (fG.trans (fF.trans (dQ.trans (gM.trans sB)))))))
         exact q _ _ (x6.trans fE.x) (gu.same fE) (qK _ (List.getElem_mem j7))
abbrev vE:Stmt:=top 48
def uR (R:Hp→V→V→Prop):Sp:=fun vs H Q _=> ∃x y,vs=[x,y]∧R H x y∧∀H',ae H H'→Q (.bl true) H'
theorem GJ:br ["_law_found", "_law_due"] ["_law_found", "_law_due"] (ay vE):=⟨rfl,rfl,rfl,by decide+kernel,rfl,by decide+kernel,by decide+kernel⟩
end
end U
namespace U
open PySem L2 PyProof.Rows PyProof.Rows.fP
section
variable {P:Program}{w:World}{K:PySem.W.Frag}{mg:Str→Option Value}{base:Heap}
def Rl (_:Hp) (x y:V):Prop:=(∃i:Int,x=.int i∧y=.int i)∨(∃k:Bool,x=.bl k∧y=.bl k)∨(x=.af∧y=.af)
theorem Rp {f:Addr}{fd:FuncData}(F:aJ K "_law_same" "_law_same" vE f fd) (G:Gs mg) {k:Nat} :aE P w K mg base aH (k+1) f fd ["_law_found", "_law_due"] (uR Rl):=by
 refine F.ok GJ (fun vs H Q E h=> ?_) (fun ak A outer s H vs Q E hr h=> ?_)
 ·obtain⟨x,y,rfl,_⟩:=h
  rfl
 ·obtain⟨x,y,rfl,r,q⟩:=h
  refine⟨_,Ze (Z2 (Z3 (Zm (WA (a:= "tuple") (b:= "list")) rfl G.isinstance boot_isinstance (Za (pv 1) (Za (ZA (Za (YA (v:=.ty "tuple") rfl G.tuple boot_tuple rfl) (Za (YA (v:=.ty "list") rfl G.list boot_list rfl) Zb))) Zb)))) ZC ZH)
   (Zk (Zz (YT (YJ JC (Zm (Yn (c:= "bool")) rfl G.isinstance boot_isinstance (Za (pv 0) (Za (YA (v:=.ty "bool") rfl G.bool boot_bool rfl) Zb)))
     (Zm (Yn (c:= "bool")) rfl G.isinstance boot_isinstance (Za (pv 1) (Za (YA (v:=.ty "bool") rfl G.bool boot_bool rfl) Zb))) (cY _))
    (YS (YJ JC (pv 0) (pv 1) (cY _)))))),?_⟩
  refine⟨_,rfl,(by show 2≤sizeLine;decide),fun t ht=> ?_⟩
  have s1:=Zf (o:=.tup [V.ty "tuple",V.ty "list"]) ht
  rcases r with ⟨i,rfl,rfl⟩ |⟨k,rfl,rfl⟩ |⟨rfl,rfl⟩
  ·refine⟨_,t,_,_,rfl,ao.of Zc,.inl ⟨i,rfl,rfl⟩,(show _=some false from rfl),_,rfl,aR ?_⟩
   refine⟨_,rfl,_,_,_,rfl,.int i,(show _=some false from rfl),_,rfl,_,_,_,rfl,.int i,(show _=some false from rfl),rfl,_,rfl,?_⟩
   refine bh ⟨_,rfl,_,rfl,rfl,?_⟩
   have e:decide (V.int i=V.int i)=true:=decide_eq_true rfl
   rw[e]
   exact q _ s1
  ·refine⟨_,t,_,_,rfl,ao.of Zc,.inr (.inl ⟨k,rfl,rfl⟩),(show _=some false from rfl),_,rfl,aR ?_⟩
   refine⟨_,rfl,_,_,_,rfl,.bl k,(show _=some true from rfl),_,rfl,_,_,_,rfl,.bl k,(show _=some true from rfl),rfl,_,rfl,?_⟩
   refine bh ⟨_,rfl,_,rfl,(by cases k<;>rfl),?_⟩
   have e:decide (V.bl k=V.bl k)=true:=decide_eq_true rfl
   rw[e]
   exact q _ s1
  ·refine⟨_,t,_,_,rfl,ao.of Zc,.inr (.inr (.inl ⟨rfl,rfl⟩)),(show _=some false from rfl),_,rfl,aR ?_⟩
   refine⟨_,rfl,_,_,_,rfl,.af,(show _=some false from rfl),_,rfl,_,_,_,rfl,.af,(show _=some false from rfl),rfl,_,rfl,?_⟩
   refine bh ⟨_,rfl,_,rfl,rfl,?_⟩
   have e:decide (V.af=V.af)=true:=decide_eq_true rfl
   rw[e]
   exact q _ s1
end
section
def uw (Y:Cx) (cl:List (Str×Addr)) (x:Str) (v:V) (H:Hp) (s:Shared):Prop:=∃c u,cl.lookup x=some c∧s.heap.IsCell c (some u)∧RelV v u∧H c=none∧c∉aS Y.stack
def IA (so si:Scope):Bool:=si.names.all fun z=>z.2 !=.free||so.names.lookup z.1==some .cell||so.names.lookup z.1==some .free
theorem Yb {X:Cx}{scope:Scope}(h:IA X.env.scope scope=true):∀z∈scope.names,z.2=.free→X.env.kindOf z.1=some .cell∨X.env.kindOf z.1=some .free:=fun z hz e=>by
 have:=List.all_eq_true.mp h z hz
 simp only[Bool.or_eq_true,bne_iff_ne,ne_eq,beq_iff_eq]at this
 rcases this with (h |h) |h
 ·exact absurd e h
 ·exact .inl h
 ·exact .inr h
end
section
variable {Y:Cx}{pins:List (Addr×Obj)}{σ:L2.St}{H:Hp}{s:Shared}
theorem Pq {i:Nat}{x:Str}{v:V}{scope:Scope}(I:Inv Y pins σ H s) (hi:Y.N[i]? =some x) (lP:σ[i]? =some (some v)) (hk:Y.env.scope.names.lookup x=some .cell) (fN:Y.fn x=true) (jo:(x,NameKind.free)∈scope.names):uw Y (bQ scope Y.env) x v H s:=by
 obtain⟨m,hn,hl⟩:=I.loc
 obtain⟨u,r,l⟩:=hl i x v hi lP (.inr (.inl hk))
 obtain⟨c,hc⟩:=YX (env:=Y.env) jo
 have e1:=(Yh hc).1
 rcases l with ⟨aY,_⟩ |⟨_,c',aV,iM⟩
 ·have:Y.env.scope.names.lookup x=some .local:=aY
  rw[hk]at this
  cases this
 ·rw[aV]at e1
  have e2:c=c':=e1
  subst e2
  refine⟨c,u,hc,iM,r,I.fm x c aV,fun hm=> ?_⟩
  rcases List.mem_cons.mp (I.oT c hm) with z |z
  ·exact I.gF x c aV z
  ·obtain⟨_,o,ho,_⟩:=I.ok.dH.mem z
   exact absurd (Nat.lt_of_lt_of_le (Heap.lt_size ho) (I.ok.kE x c fN aV)) (Nat.lt_irrefl _)
theorem Oq {scope:Scope}{env:Env}{z:Str}{c:Addr}(h:(bQ scope env).lookup z=some c):(z,NameKind.free)∈scope.names:=(Yh h).2
end
section
variable {X:Cx}{cS c P fR:Addr}{kf:Nat}
abbrev lq (X:Cx):Str:=X.env.qual++ "<lambda>"
theorem YQ {H H':Hp}{P:Addr}{q:Str}(h:TabAt H P q) (s:ae H H'):TabAt H' P q:=by
 obtain⟨ps,h1,h2,h3⟩:=h
 exact⟨ps,s _ _ h1,h2,fun pos cv z=>by obtain⟨d,e,g⟩:=h3 pos cv z;exact⟨d,e,s _ _ g⟩⟩
structure LCtx (X:Cx) (cS c P fR:Addr) (kf:Nat):Prop where
 lam:EM X c P
 hR:∀b',Def X.prog X.w X.K X.mg b' (kf+2) "_law_refused" ["_law_call"] (nA X.prog X.w X.K X.mg b' cS (kf+1))
 room:bR (kf+2) X.A
 mR:X.mg "_law_refused" =some (.ref fR)
 kR:PySem.W.keepIn X.K (.ref fR)=true
structure LN (X:Cx) (x:Str) (i:Nat):Prop where
 nx:X.N[i]? =some x
 kx:X.env.scope.names.lookup x=some .cell
 fx:X.fn x=true
def mQ (sp:Sp) (vs:List V) (C:Addr) (H:Hp):Prop:=∀Q' E',(∀e H',ae H H'→E' (.ref e) (some C) H')→sp vs H Q' E'
structure yZ (params:Arguments) (body:Expr) (scope:Scope) (N:List Str):Prop where
 kind:scope.kind=.function
 co:scope.isCoroutine=false
 gen:scope.isGenerator=false
 ji:∀z∈scope.names,z.2≠.cell
 only:∀z∈scope.names,z.2=.free→z.1∈N
 free:∀x∈N,scope.names.lookup x=some .free
 bind:∀(q:Str) (cl:List (Str×Addr)) (pm:Value) (c:Addr) (ct:Value),bindArgs (PySem.W.kla_fn "<lambda>" q params body scope cl pm (.ref c) ct) ⟨[],[]⟩=pure []
def jD (X:Cx) (kf:Nat) (C:Addr) (f:Addr) (q:Str) (bd:Expr) (scope:Scope) (cl:List (Str×Addr)) (N:List Str) (ws:List V) (Pre:Hp→Prop):Prop:=
 ∀(bf:Heap) (cc:Addr) (A:Around) (outer:List Env) (s2:Shared) (H2:Hp) (Q2:VK) (E2:XK),bR kf (A.deeper (PySem.W.envX q scope s2.heap.objs.size f (.ref cc) cl))→Pre H2→(∀e H',ae H2 H'→E2 (.ref e) (some C) H')→
  ∃t,PE (eC X.prog X.w X.K X.mg bf N q scope f (.ref cc) cl A outer s2 H2 E2) bd t∧t (ws.map some) H2 Q2
end
section
theorem DT {H H':Hp}{P p:Addr}{q:Str}{o:HO}(h:TabAt H P q) (s:aq p H H') (hp:H p=some o) (h1:∀ps,o≠.cg ps) (h2:∀c,o≠gE c q):TabAt H' P q:=by
 obtain⟨ps,e,t,f⟩:=h
 refine⟨ps,s _ _ e fun z=>by rw[z,hp]at e;cases e;exact h1 _ rfl,t,fun pos cv z=> ?_⟩
 obtain⟨d,e1,e2⟩:=f pos cv z
 exact⟨d,e1,s _ _ e2 fun z=>by rw[z,hp]at e2;cases e2;exact h2 _ rfl⟩
theorem Je {K:PySem.W.Frag}{H H':Hp}{p:Addr}{v:V}(t:cj K H v) (s:aq p H H') (hn:v≠.ref p):aZ H' v=aZ H v:=by
 obtain⟨T,t⟩:=t
 cases t with
 |tup e=>rw[Zr e,Zr (s _ _ e fun z=>hn (by rw[z]))]
 |lst e=>rw[Zx,Zx,e,s _ _ e fun z=>hn (by rw[z])]
 |aW e=>rw[Zx,Zx,e,s _ _ e fun z=>hn (by rw[z])]
 |dK e=>rw[Zx,Zx,e,s _ _ e fun z=>hn (by rw[z])]
 |dT e=>rw[Zx,Zx,e,s _ _ e fun z=>hn (by rw[z])]
 |_=>rfl
theorem Jh {K:PySem.W.Frag}{H H':Hp}{p:Addr}{v:V}(t:cj K H v) (s:aq p H H') (hn:v≠.ref p):cj K H' v:=by
 obtain⟨T,t⟩:=t
 cases t with
 |tup e=>exact⟨_,.tup (s _ _ e fun z=>hn (by rw[z]))⟩
 |lst e=>exact⟨_,.lst (s _ _ e fun z=>hn (by rw[z]))⟩
 |aW e=>exact⟨_,.aW (s _ _ e fun z=>hn (by rw[z]))⟩
 |dK e=>exact⟨_,.dK (s _ _ e fun z=>hn (by rw[z]))⟩
 |dT e=>exact⟨_,.dT (s _ _ e fun z=>hn (by rw[z]))⟩
 |af=>exact⟨_,.af⟩
 |bl b=>exact⟨_,.bl b⟩
 |int i=>exact⟨_,.int i⟩
 |str x=>exact⟨_,.str x⟩
 |ij x=>exact⟨_,.ij x⟩
theorem yQ {K:PySem.W.Frag}{H H':Hp}{p:Addr}{v:V}(t:fq K H v) (s:aq p H H') (n:iX p H v):fq K H' v:=by
 refine⟨Jh t.1 s n.1,fun xs e y hy=> ?_⟩
 rw[Je t.1 s n.1]at e
 exact Jh (t.2 xs e y hy) s (n.2 xs e y hy)
theorem Qv {K:PySem.W.Frag}{H H':Hp}{p q:Addr}{v:V}(t:cj K H v) (s:aq q H H') (hq:v≠.ref q) (n:iX p H v):iX p H' v:=⟨n.1,fun xs e=>n.2 xs (by rw[←Je t s hq];exact e)⟩
theorem DY {K:PySem.W.Frag}{H H':Hp}{p:Addr}{v:V}(b:gH K H v) (s:aq p H H') (n:iX p H v):gH K H' v:=⟨yQ b.1 s n,by rw[Je b.1.1 s n.1];exact b.2⟩
theorem Om {K:PySem.W.Frag}{wd hg:Int}{H H':Hp}{p:Addr}{v:V}(b:i0 K wd hg H v) (s:aq p H H') (n:iX p H v):i0 K wd hg H' v:=⟨yQ b.1 s n,by rw[Je b.1.1 s n.1];exact b.2⟩
theorem WN {K:PySem.W.Frag}{H:Hp}{P:Addr}{ps:Array Value}{v:V}(t:fq K H v) (h:H P=some (.cg ps)):iX P H v:=by
 have key:∀y,cj K H y→y≠.ref P:=fun y ⟨T,ty⟩ z=>by
  subst z
  cases ty with
  |lst e=>rw[h]at e;cases e
  |aW e=>rw[h]at e;cases e
  |tup e=>rw[h]at e;cases e
  |dK e=>rw[h]at e;cases e
  |dT e=>rw[h]at e;cases e
 exact⟨key v t.1,fun xs e y hy=>key y (t.2 xs e y hy)⟩
abbrev bH:Arguments:= {posonlyargs:=[],args:=[],vararg:=none,kwonlyargs:=[],kw_defaults:=[],kwarg:=none,defaults:=[]}
def cZ (p q:Int×Int):List Key:=[Sum.inl (q.1 - p.1),Sum.inl (q.2 - p.2)]
def allM (ps qs:List (Int×Int)):List (List Key):=ps.flatMap fun p=>qs.map (cZ p)
def cK (ms:List (List Key)) (k:List Key):Nat:=ms.countP fun m=>decide (m=k)
theorem DZ (a b:List (List Key)) (k:List Key):cK (a++b) k=cK a k+cK b k:=List.countP_append
theorem Oo {ms:List (List Key)}{k:List Key} :0<cK ms k↔k∈ms:=by
 unfold cK
 rw[List.countP_pos_iff]
 constructor
 ·rintro⟨a,h1,h2⟩
  rw[←of_decide_eq_true h2]
  exact h1
 ·intro h
  exact⟨k,h,decide_eq_true rfl⟩
structure HM (kvs:List (List Key×V)) (ms:List (List Key)):Prop where
 val:∀k,bK kvs k=if cK ms k=0 then none else some (.int (cK ms k:Int))
 nd:(kvs.map (·.1)).Nodup
 len:kvs.length≤ms.length
 mem:∀kv∈kvs,kv.1∈ms
theorem HM.nil:HM [] []:=⟨fun k=>rfl,List.nodup_nil,Nat.le_refl _,fun kv h=>by cases h⟩
theorem OB {kvs:List (List Key×V)}{k:List Key} :(kvs.any fun kv=>decide (kv.1=k))=true↔k∈kvs.map (·.1):=by
 rw[List.any_eq_true,List.mem_map]
 constructor
 ·rintro⟨kv,h1,h2⟩
  exact⟨kv,h1,of_decide_eq_true h2⟩
 ·rintro⟨kv,h1,h2⟩
  exact⟨kv,h1,decide_eq_true h2⟩
theorem HM.put {kvs:List (List Key×V)}{ms:List (List Key)}(h:HM kvs ms) (k:List Key):HM (putK kvs k (.int ((cK ms k:Int)+1))) (ms++[k]):=by
 have ek:∀j,cK (ms++[k]) j=cK ms j+if k=j then 1 else 0:=fun j=>by
  rw[DZ]
  congr 1
  unfold cK
  by_cases e:k=j
  ·simp[e,List.countP_cons]
  ·simp[e,List.countP_cons]
 refine⟨fun j=> ?_,?_,?_,fun kv gz=> ?_⟩
 ·rw[Rg,ek]
  by_cases e:j=k
  ·subst e
   rw[if_pos rfl,if_pos rfl,if_neg (by omega)]
   congr 2
  ·rw[if_neg e,if_neg (Ne.symm e),Nat.add_zero]
   exact h.val j
 ·unfold putK
  by_cases e:(kvs.any fun kv=>decide (kv.1=k))=true
  ·rw[if_pos e,List.map_map]
   have:((fun x:List Key×V=>x.1)∘fun kv=>if kv.1=k then (kv.1,V.int ((cK ms k:Int)+1)) else kv)=(·.1):=by
    funext kv
    show(if kv.1=k then (kv.1,V.int ((cK ms k:Int)+1)) else kv).1=kv.1
    split<;>rfl
   rw[this]
   exact h.nd
  ·rw[if_neg e,List.map_append]
   refine List.nodup_append.mpr ⟨h.nd,List.pairwise_singleton _ _,fun a ha b hb=> ?_⟩
   have gk:b=k:=by simpa using hb
   rw[gk]
   intro z
   rw[z]at ha
   exact e (OB.mpr ha)
 ·refine Nat.le_trans (YU _ _ _) ?_
  rw[List.length_append]
  have:=h.len
  simp
  omega
 ·have key:kv.1∈kvs.map (·.1)∨kv.1=k:=by
   unfold putK at gz
   split at gz
   ·obtain⟨u,hu,rfl⟩:=List.mem_map.mp gz
    refine .inl ?_
    have:(if u.1=k then (u.1,V.int ((cK ms k:Int)+1)) else u).1=u.1:=by split<;>rfl
    rw[this]
    exact List.mem_map_of_mem hu
   ·rcases List.mem_append.mp gz with z |z
    ·exact .inl (List.mem_map_of_mem z)
    ·have:kv=(k,.int ((cK ms k:Int)+1)):=by simpa using z
     exact .inr (by rw[this])
  rcases key with z |z
  ·obtain⟨u,hu,e⟩:=List.mem_map.mp z
   rw[←e]
   exact List.mem_append_left _ (h.mem u hu)
  ·rw[z];simp
theorem HM.at_ {kvs:List (List Key×V)}{ms:List (List Key)}(h:HM kvs ms) {kv:List Key×V}(hk:kv∈kvs):kv.2=.int (cK ms kv.1:Int):=by
 have v:bK kvs kv.1=some kv.2:=by
  have:∀{l:List (List Key×V)},(l.map (·.1)).Nodup→kv∈l→bK l kv.1=some kv.2:=by
   intro l
   induction l with
   |nil=>intro _ h;cases h
   |cons x r ih=>
    intro nd hm
    rw[List.map_cons,List.nodup_cons]at nd
    by_cases e:x.1=kv.1
    ·rcases List.mem_cons.mp hm with z |z
     ·rw[z,ZV rfl]
     ·exact absurd (List.mem_map_of_mem (f:=fun x:List Key×V=>x.1) z) (by rw[←e];exact nd.1)
    ·rcases List.mem_cons.mp hm with z |z
     ·exact absurd (by rw[z]) e
     ·unfold bK
      rw[List.find?_cons_of_neg (by simpa using e)]
      exact ih nd.2 z
  exact this h.nd hk
 rw[h.val]at v
 split at v
 ·cases v
 ·exact(Option.some.inj v).symm
def dB (xs ys:List V) (a b:Int) (i:Nat):Bool:=match rowAt xs i with
 |some r=>decide (0≤(i:Int)+a)&&decide ((i:Int)+a<ys.length)&&decide (rowAt ys ((i:Int)+a).toNat=some (r+b))
 |none=>false
def cF (xs ys:List V) (a b:Int):Nat→Nat
 |0=>0
 |n+1=>cF xs ys a b n+if dB xs ys a b n=true then 1 else 0
def pf (xs:List V) (n:Nat):List (Int×Int):=(List.range n).filterMap fun l=> (rowAt xs l).map fun r=> ((l:Int),r)
theorem WI (xs:List V) (n:Nat):pf xs (n+1)=pf xs n++((rowAt xs n).map fun r=> ((n:Int),r)).toList:=by
 unfold pf
 rw[List.range_succ,List.filterMap_append]
 congr 1
 all_goals (cases rowAt xs n<;>rfl)
theorem W2 {ys:List V}{a b:Int} :(a,b)∈az ys↔0≤a∧a<ys.length∧rowAt ys a.toNat=some b:=by
 rw[EB]
 constructor
 ·rintro⟨l,h1,h2,h3⟩
  have h3:a=(l:Int):=h3
  subst h3
  exact⟨by omega,by omega,by rw[Int.toNat_natCast];exact h2⟩
 ·rintro⟨h1,h2,h3⟩
  exact⟨a.toNat,by omega,h3,by show a=(a.toNat:Int);omega⟩
theorem Ot (ys:List V):(az ys).Nodup:=(Ou ys).imp fun {a b} h e=>h (by rw[e])
theorem Wv {qs:List (Int×Int)}(nd:qs.Nodup) (p:Int×Int) (a b:Int):cK (qs.map (cZ p)) [Sum.inl a,Sum.inl b]=if (p.1+a,p.2+b)∈qs then 1 else 0:=by
 have e:cK (qs.map (cZ p)) [Sum.inl a,Sum.inl b]=qs.countP fun q=>decide (q=(p.1+a,p.2+b)):=by
  unfold cK
  rw[List.countP_map]
  refine List.countP_congr fun q _=> ?_
  show decide (cZ p q=[Sum.inl a,Sum.inl b])=true↔decide (q=(p.1+a,p.2+b))=true
  rw[decide_eq_true_iff,decide_eq_true_iff]
  unfold cZ
  constructor
  ·intro h
   injection h with h1 h2
   injection h2 with h2 _
   injection h1 with h1
   injection h2 with h2
   exact Prod.ext (by show q.1=p.1+a;omega) (by show q.2=p.2+b;omega)
  ·intro h
   rw[h]
   show [Sum.inl (p.1+a - p.1),Sum.inl (p.2+b - p.2)]=_
   rw[show p.1+a - p.1=a by omega,show p.2+b - p.2=b by omega]
 have one:∀{l:List (Int×Int)}{x:Int×Int},l.Nodup→l.countP (fun q=>decide (q=x))=if x∈l then 1 else 0:=by
  intro l x
  induction l with
  |nil=>intro _;rfl
  |cons y r ih=>
   intro nd
   rw[List.nodup_cons]at nd
   by_cases z:y=x
   ·subst z
    rw[List.countP_cons,ih nd.2,if_neg nd.1,if_pos List.mem_cons_self,if_pos (decide_eq_true rfl)]
   ·rw[List.countP_cons,ih nd.2,if_neg (show ¬decide (y=x)=true by rw[decide_eq_false z];exact Bool.false_ne_true),Nat.add_zero]
    by_cases m:x∈r
    ·rw[if_pos m,if_pos (List.mem_cons_of_mem _ m)]
    ·rw[if_neg m,if_neg fun h=> (List.mem_cons.mp h).elim (fun e=>z e.symm) m]
 rw[e]
 exact one nd
theorem Wg (xs ys:List V) (a b:Int):∀n,cK (allM (pf xs n) (az ys)) [Sum.inl a,Sum.inl b]=cF xs ys a b n
 |0=>rfl
 |n+1=>by
  have ih:=Wg xs ys a b n
  unfold allM at *
  rw[WI,List.flatMap_append,DZ,ih]
  show _=cF xs ys a b n+_
  congr 1
  cases hr:rowAt xs n with
  |none=>
   have hh:¬dB xs ys a b n=true:=by unfold dB;rw[hr];exact Bool.false_ne_true
   rw[if_neg hh]
   rfl
  |some r=>
   show cK (List.flatMap (fun p=> (az ys).map (cZ p)) [((n:Int),r)]) _=_
   rw[List.flatMap_singleton,Wv (Ot ys)]
   have iff:=W2 (ys:=ys) (a:=(n:Int)+a) (b:=r+b)
   have hh:dB xs ys a b n=true↔((n:Int)+a,r+b)∈az ys:=by
    unfold dB
    rw[hr,iff]
    simp only[Bool.and_eq_true,decide_eq_true_eq,and_assoc]
   by_cases h:((n:Int)+a,r+b)∈az ys
   ·rw[if_pos h,if_pos (hh.mpr h)]
   ·rw[if_neg h,if_neg fun z=>h (hh.mp z)]
abbrev aG (xs ys:List V) (a b:Int):Nat:=cF xs ys a b xs.length
theorem Jp (xs ys:List V) (a b:Int):cK (allM (az xs) (az ys)) [Sum.inl a,Sum.inl b]=aG xs ys a b:=Wg xs ys a b xs.length
def gN (xs ys:List V) (a:Int) (lo:Int) (n:Nat):List (List Int):=(List.range n).filterMap fun(j:Nat)=>if 0<aG xs ys a (lo+j) then some [a,lo+j,(aG xs ys a (lo+j):Int)] else none
def ju (xs ys:List V) (la lb:Int) (nb:Nat) (n:Nat):List (List Int):=(List.range n).flatMap fun(i:Nat)=>gN xs ys (la+i) lb nb
theorem WG (xs ys:List V) (a lo:Int) (n:Nat):gN xs ys a lo (n+1)=gN xs ys a lo n++(if 0<aG xs ys a (lo+n) then [[a,lo+n,(aG xs ys a (lo+n):Int)]] else []):=by
 unfold gN
 rw[List.range_succ,List.filterMap_append]
 congr 1
 by_cases h:0<aG xs ys a (lo+n)
 ·simp[h]
 ·simp[h]
theorem Jz (xs ys:List V) (la lb:Int) (nb n:Nat):ju xs ys la lb nb (n+1)=ju xs ys la lb nb n++gN xs ys (la+n) lb nb:=by
 unfold ju
 rw[List.range_succ,List.flatMap_append,List.flatMap_singleton]
theorem Ji {xs ys:List V}{a lo:Int}{n:Nat}{k:List Int} :k∈gN xs ys a lo n↔∃j:Nat,j<n∧0<aG xs ys a (lo+j)∧k=[a,lo+j,(aG xs ys a (lo+j):Int)]:=by
 unfold gN
 rw[List.mem_filterMap]
 constructor
 ·rintro⟨j,hj,e⟩
  split at e
  ·rename_i h
   exact⟨j,List.mem_range.mp hj,h,(Option.some.inj e).symm⟩
  ·cases e
 ·rintro⟨j,hj,h,rfl⟩
  exact⟨j,List.mem_range.mpr hj,by rw[if_pos h]⟩
theorem Yy {xs ys:List V}{la lb:Int}{nb n:Nat}{k:List Int} :k∈ju xs ys la lb nb n↔∃i j:Nat,i<n∧j<nb∧0<aG xs ys (la+i) (lb+j)∧k=[la+i,lb+j,(aG xs ys (la+i) (lb+j):Int)]:=by
 unfold ju
 rw[List.mem_flatMap]
 constructor
 ·rintro⟨i,hi,h⟩
  obtain⟨j,hj,h1,h2⟩:=Ji.mp h
  exact⟨i,j,List.mem_range.mp hi,hj,h1,h2⟩
 ·rintro⟨i,j,hi,hj,h1,h2⟩
  exact⟨i,List.mem_range.mpr hi,Ji.mpr ⟨j,hj,h1,h2⟩⟩
theorem EA {a a':Int}{l m:List Int}(h:a<a'):cC (a::l) (a'::m)=true:=by
 show(if a=a' then _ else decide (a<a'))=true
 rw[if_neg (by omega),decide_eq_true h]
theorem Qm {a b b':Int}{l m:List Int}(h:b<b'):cC (a::b::l) (a::b'::m)=true:=by
 show(if a=a then _ else _)=true
 rw[if_pos rfl]
 exact EA h
theorem WH (xs ys:List V) (a lo:Int):∀n,(gN xs ys a lo n).Pairwise fun u v=>cC u v=true
 |0=>List.Pairwise.nil
 |n+1=>by
  rw[WG]
  refine List.pairwise_append.mpr ⟨WH xs ys a lo n,by split<;>simp,fun u hu v hv=> ?_⟩
  obtain⟨j,hj,_,rfl⟩:=Ji.mp hu
  split at hv
  ·have:v=[a,lo+n,(aG xs ys a (lo+n):Int)]:=by simpa using hv
   rw[this]
   exact Qm (by omega)
  ·cases hv
theorem JA (xs ys:List V) (la lb:Int) (nb:Nat):∀n,(ju xs ys la lb nb n).Pairwise fun u v=>cC u v=true
 |0=>List.Pairwise.nil
 |n+1=>by
  rw[Jz]
  refine List.pairwise_append.mpr ⟨JA xs ys la lb nb n,WH _ _ _ _ _,fun u hu v hv=> ?_⟩
  obtain⟨i,j,hi,_,_,rfl⟩:=Yy.mp hu
  obtain⟨j',_,_,rfl⟩:=Ji.mp hv
  exact EA (by omega)
theorem Q8 (xs ys:List V) (a lo:Int) (n:Nat):(gN xs ys a lo n).length≤n:=by
 unfold gN
 exact Nat.le_trans (List.length_filterMap_le _ _) (by rw[List.length_range];exact Nat.le_refl _)
theorem US (xs ys:List V) (la lb:Int) (nb:Nat):∀n,(ju xs ys la lb nb n).length≤n*nb
 |0=>Nat.zero_le _
 |n+1=>by
  rw[Jz,List.length_append,Nat.add_mul]
  have:=US xs ys la lb nb n
  have:=Q8 xs ys (la+n) lb nb
  omega
def eF (wd hg:Int) (xs ys:List V):List (List Int):=ju xs ys (1 - wd) (1 - hg) (2*hg - 1).toNat (2*wd - 1).toNat
def de (kv:List Key×V):List Int:=(kv.1.map fun k=>match k with |Sum.inl i=>i |Sum.inr _=>0)++[match kv.2 with | .int n=>n |_=>0]
theorem PU {ps qs:List (Int×Int)}{k:List Key} :k∈allM ps qs↔∃p∈ps,∃q∈qs,k=cZ p q:=by
 unfold allM
 rw[List.mem_flatMap]
 constructor
 ·rintro⟨p,hp,h⟩
  obtain⟨q,hq,rfl⟩:=List.mem_map.mp h
  exact⟨p,hp,q,hq,rfl⟩
 ·rintro⟨p,hp,q,hq,rfl⟩
  exact⟨p,hp,List.mem_map_of_mem hq⟩
theorem HM.de {kvs:List (List Key×V)}{xs ys:List V}(h:HM kvs (allM (az xs) (az ys))) {kv:List Key×V}(hk:kv∈kvs):
  ∃p∈az xs,∃q∈az ys,kv.1=cZ p q∧kv.2=.int (aG xs ys (q.1 - p.1) (q.2 - p.2):Int)∧0<aG xs ys (q.1 - p.1) (q.2 - p.2)∧U.de kv=[q.1 - p.1,q.2 - p.2,(aG xs ys (q.1 - p.1) (q.2 - p.2):Int)]:=by
 obtain⟨p,hp,q,hq,e⟩:=PU.mp (h.mem kv hk)
 have v:=h.at_ hk
 have c:cK (allM (az xs) (az ys)) kv.1=aG xs ys (q.1 - p.1) (q.2 - p.2):=by rw[e];exact Jp xs ys _ _
 rw[c]at v
 have pos:0<cK (allM (az xs) (az ys)) kv.1:=Oo.mpr (h.mem kv hk)
 rw[c]at pos
 refine⟨p,hp,q,hq,e,v,pos,?_⟩
 unfold U.de
 rw[e,v]
 rfl
theorem ud {wd hg:Int}{xs:List V}(l:cI wd hg xs) {p:Int×Int}(hp:p∈az xs):0≤p.1∧p.1<wd∧0≤p.2∧p.2<hg:=by
 obtain⟨i,hi,hr,e⟩:=EB.mp hp
 have:=l.len
 have rr:xs[i]? =some (.int p.2):=by
  unfold rowAt at hr
  cases h:xs[i]? with
  |none=>rw[h]at hr;cases hr
  |some v=>
   rw[h]at hr
   cases v<;>first |(cases hr;rfl) |cases hr
 have m:V.int p.2∈rowsOf xs:=List.mem_filter.mpr ⟨List.mem_of_getElem? rr,by simp⟩
 have q:=l.row _ m
 have q:(decide (0≤p.2)&&decide (p.2≤hg - 1))=true:=q
 simp only[Bool.and_eq_true,decide_eq_true_eq]at q
 omega
theorem HM.yr {kvs:List (List Key×V)}{xs ys:List V}{wd hg:Int}(h:HM kvs (allM (az xs) (az ys))) (lx:cI wd hg xs) (ly:cI wd hg ys):(kvs.map U.de).Perm (eF wd hg xs ys):=by
 have inj:∀{u v:List Key×V},u∈kvs→v∈kvs→U.de u=U.de v→u.1=v.1:=fun {u v} hu hv e=>by
  obtain⟨p,_,q,_,e1,_,_,t1⟩:=h.de hu
  obtain⟨p',_,q',_,e2,_,_,t2⟩:=h.de hv
  rw[t1,t2]at e
  injection e with f1 f2
  injection f2 with f2 _
  rw[e1,e2]
  unfold cZ
  rw[f1,f2]
 refine(List.perm_ext_iff_of_nodup ?_ ?_).mpr fun k=> ?_
 ·have:∀{l:List (List Key×V)},(∀u∈l,u∈kvs)→(l.map (·.1)).Nodup→(l.map U.de).Nodup:=by
   intro l
   induction l with
   |nil=>intro _ _;exact List.nodup_nil
   |cons x r ih=>
    intro hm nd
    rw[List.map_cons,List.nodup_cons]at nd ⊢
    refine⟨fun hx=> ?_,ih (fun u hu=>hm u (List.mem_cons_of_mem _ hu)) nd.2⟩
    obtain⟨y,hy,e⟩:=List.mem_map.mp hx
    exact nd.1 (List.mem_map.mpr ⟨y,hy,inj (hm y (List.mem_cons_of_mem _ hy)) (hm x List.mem_cons_self) e⟩)
  exact this (fun u hu=>hu) h.nd
 ·refine(JA xs ys _ _ _ _).imp fun {u v} hl e=> ?_
  rw[e]at hl
  have:=Jk _ _ hl
  rw[this]at hl
  cases hl
 ·constructor
  ·intro hk
   obtain⟨kv,gz,rfl⟩:=List.mem_map.mp hk
   obtain⟨p,hp,q,hq,e,v,pos,t⟩:=h.de gz
   have a:=ud lx hp
   have b:=ud ly hq
   rw[t]
   refine Yy.mpr ⟨(q.1 - p.1 - (1 - wd)).toNat,(q.2 - p.2 - (1 - hg)).toNat,by omega,by omega,?_⟩
   have e1:1 - wd+((q.1 - p.1 - (1 - wd)).toNat:Int)=q.1 - p.1:=by omega
   have e2:1 - hg+((q.2 - p.2 - (1 - hg)).toNat:Int)=q.2 - p.2:=by omega
   rw[e1,e2]
   exact⟨pos,rfl⟩
  ·intro hk
   obtain⟨i,j,_,_,pos,rfl⟩:=Yy.mp hk
   rw[←Jp]at pos
   have v:=h.val [Sum.inl (1 - wd+i),Sum.inl (1 - hg+j)]
   rw[if_neg (by omega)]at v
   unfold bK at v
   obtain⟨kv,hf,e⟩:=Option.map_eq_some_iff.mp v
   have hm:=List.mem_of_find?_eq_some hf
   have bF:kv.1=[Sum.inl (1 - wd+(i:Int)),Sum.inl (1 - hg+(j:Int))]:=by
    have z:=List.find?_some hf
    exact of_decide_eq_true z
   refine List.mem_map.mpr ⟨kv,hm,?_⟩
   unfold U.de
   rw[bF,e,Jp]
   rfl
theorem OA (wd hg:Int) (xs ys:List V):(eF wd hg xs ys).Pairwise fun a b=>cC b a=false:=(JA xs ys _ _ _ _).imp fun {a b} h=>Jk _ _ h
theorem Qx {wd hg:Int}{xs ys:List V}{ks:List (List Int)}(p:ks.Perm (eF wd hg xs ys)) (r:ks.Pairwise fun a b=>cC b a=false):ks=eF wd hg xs ys:=
 List.Perm.eq_of_pairwise (le:=fun a b=>cC b a=false) (fun a b _ _ h1 h2=>Ez _ _ h2 h1) r (OA wd hg xs ys) p
end
section
variable {P:Program}{w:World}{K:PySem.W.Frag}{mg:Str→Option Value}{base:Heap}{cB cL cN:Addr}
abbrev rR:Stmt:=top 21
def rC (K:PySem.W.Frag):Sp:=fun vs H Q _=> ∃x,vs=[x]∧cj K H x∧whole x=true∧Q .af H
theorem Az:br ["number"] ["number"] (ay rR):=⟨rfl,rfl,rfl,by decide+kernel,rfl,by decide+kernel,by decide+kernel⟩
theorem Og {f:Addr}{fd:FuncData}(F:aJ K "need_whole" "need_whole" rR f fd) (D1:Def P w K mg base 1 "is_whole" ["thing"] (oU K)):aE P w K mg base aH 2 f fd ["number"] (rC K):=by
 refine F.ok Az (fun vs H Q E h=> ?_) (fun ak A outer s H vs Q E hr h=> ?_)
 ·obtain⟨x,rfl,_⟩:=h
  rfl
 ·obtain⟨x,rfl,t,hx,q⟩:=h
  refine⟨_,Zk (Z2 (Yi (Z3 (Zj D1 hr (Za (pv 0) Zb)))) ZC ZH),?_⟩
  refine⟨_,rfl,x,rfl,t,_,rfl,?_⟩
  rw[hx]
  exact aR q
def uY (K:PySem.W.Frag) (cN:Addr):Sp:=fun vs H _ E=> ∃x,vs=[x]∧cj K H x∧whole x=false∧∀e H',ae H H'→E (.ref e) (some cN) H'
theorem O6 {f:Addr}{fd:FuncData}(F:aJ K "need_whole" "need_whole" rR f fd) (mN:mg "NoNumber" =some (.ref cN)) (xN:PySem.W.excIn K cN oo "ValueError.__new__" =true) (D1:Def P w K mg base 1 "is_whole" ["thing"] (oU K)):aE P w K mg base (bE P w) 2 f fd ["number"] (uY K cN):=by
 refine F.iF Az (fun vs H Q E h=> ?_) (fun ak A outer s H vs Q E hr h=> ?_)
 ·obtain⟨x,rfl,_⟩:=h
  rfl
 ·obtain⟨x,rfl,t,hx,q⟩:=h
  refine⟨_,Zk (Z2 (Yi (Z3 (Zj D1 hr (Za (pv 0) Zb)))) (Zk (J5 PySem.F.excBase_ValueError mN xN rfl (Za J7 Zb))) ZH),?_⟩
  refine⟨_,rfl,x,rfl,t,_,rfl,?_⟩
  rw[hx]
  exact bh ⟨by show 1≤sizeLine;decide,fun e=>q e H (ae.refl H)⟩
abbrev rX:Stmt:=top 29
def nB:Sp:=fun vs H Q _=> ∃x y z wd hg xs ys,vs=[x,y,z]∧cf H x y wd hg xs∧cf H x z wd hg ys∧∀(d:Addr) (H':Hp) (kvs:List (List Key×V)),ae H H'→H d=none→H' d=some (.dT kvs)→HM kvs (allM (az xs) (az ys))→Q (.ref d) H'
theorem fW:br ["board", "one", "other", "starts", "ends", "many_by_move", "line", "row", "at", "there", "move"] ["board", "one", "other"] (ay rX):=⟨rfl,rfl,rfl,by decide+kernel,rfl,by decide+kernel,by decide+kernel⟩
theorem Qy {ps qs:List (Int×Int)}{p:Int×Int}{i:Nat}(h:ps[i]? =some p):allM (ps.take (i+1)) qs=allM (ps.take i) qs++qs.map (cZ p):=by
 unfold allM
 rw[List.take_add_one,h,List.flatMap_append]
 show _++List.flatMap _ [p]=_
 rw[List.flatMap_singleton]
theorem IC {H H':Hp}{x y:V}{wd hg:Int}{xs:List V}(l:cf H x y wd hg xs) (s:ae H H'):cf H' x y wd hg xs:=⟨l.1.same s,s.aZ l.2.1,l.2.2⟩
theorem HM.get {kvs:List (List Key×V)}{ms:List (List Key)}(h:HM kvs ms) (k:List Key):(bK kvs k).getD (.int 0)=.int (cK ms k:Int):=by
 rw[h.val]
 split
 ·rename_i e
  rw[e]
  rfl
 ·rfl
theorem Oa {f:Addr}{fd:FuncData}(F:aJ K "hits_by_move" "hits_by_move" rX f fd) (D1:Def P w K mg base 7 "points" ["board", "lay"] rB):aE P w K mg base aH 8 f fd ["board", "one", "other"] nB:=by
 refine F.ok fW (fun vs H Q E h=> ?_) (fun ak A outer s H vs Q E hr h=> ?_)
 ·obtain⟨x,y,z,wd,hg,xs,ys,rfl,_⟩:=h
  rfl
 ·obtain⟨x,y,z,wd,hg,xs,ys,rfl,la,lb,q⟩:=h
  have hu:=UN hr
  refine⟨_,Ze (Zp (i:=3) fW.nd rfl (Or.inl rfl) (Zj D1 hr (Za (pv 0) (Za (pv 1) Zb))))
   (Ze (Zp (i:=4) fW.nd rfl (Or.inl rfl) (Zj D1 hr (Za (pv 0) (Za (pv 2) Zb))))
   (Ze (Zp (i:=5) fW.nd rfl (Or.inl rfl) Ux)
   (Ze (Yj PassesOwn.never rfl (Z6 (pv 3)) (Z7 rfl (Zo (Zy (i:=6) fW.nd rfl (Or.inl rfl)) (Zo (Zy (i:=7) fW.nd rfl (Or.inl rfl)) ZT)))
    (Zk (Yj PassesOwn.never rfl (Z6 (pv 4)) (Z7 rfl (Zo (Zy (i:=8) fW.nd rfl (Or.inl rfl)) (Zo (Zy (i:=9) fW.nd rfl (Or.inl rfl)) ZT)))
     (Ze (Zp (i:=10) fW.nd rfl (Or.inl rfl) (ZA (Za (Zn Z0 (pv 8) (pv 6)) (Za (Zn Z0 (pv 9) (pv 7)) Zb))))
     (Zk (EG hu (pv 5) (pv 10) (Zn ZU (Uz hu (pv 5) (pv 10) Zi ⟨rfl,rfl,rfl,rfl⟩) Zi) rfl))))))
   (Zk (Zz (pv 5)))))),?_⟩
  refine Zq (ZE ⟨_,rfl,_,rfl,x,y,wd,hg,xs,rfl,la,fun l1 H1 ps s1 n1 e1 fZ=>Zu ?_⟩)
  dsimp only[List.set]
  refine Zq (ZE ⟨_,rfl,_,rfl,x,z,wd,hg,ys,rfl,IC lb s1,fun l2 H2 qs s2 n2 e2 ff=>Zu ?_⟩)
  dsimp only[List.set]
  refine Zq (ZE fun d hd=>Zu ?_)
  dsimp only[List.set]
  have iS:=s2 _ _ e1
  have Hm:Paired (oA H2) ps (az xs):=Paired.dj fZ fun v q h=>h.same s2
  have s3:aq d H2 (upd H2 d (.dT [])):=aq.upd
  have e3:upd H2 d (.dT []) d=some (.dT []):=Zc
  generalize upd H2 d (HO.dT [])=H3 at s3 e3
  have Tn:l1≠d:=Zd iS hd
  have Tj:l2≠d:=Zd e2 hd
  have small:(az xs).length≤12∧(az ys).length≤12:=by
   have a:=JM xs
   have b:=JM ys
   have c:=la.2.2.len
   have c':=lb.2.2.len
   have:=la.1.2.2.1
   omega
  have keep:∀{H':Hp},aq d H2 H'→∀{t:Addr}{o:HO},H2 t=some o→H' t=some o:=fun {H'} sx {t o} h=>sx _ _ h (Zd h hd)
  refine Zq ⟨_,rfl,l1,rfl,⟨ps,ah.of (keep s3 iS)⟩,?_⟩
  refine YV (K:=K) (a:=l1) (xs:=ps) (fun i σ H'=> ∃kvs v6 v7 v8 v9 v10,σ=[some x,some y,some z,some (.ref l1),some (.ref l2),some (.ref d),v6,v7,v8,v9,v10]∧aq d H2 H'∧H' d=some (.dT kvs)∧HM kvs (allM ((az xs).take i) (az ys)))
   ⟨_,none,none,none,none,none,rfl,s3,e3,HM.nil⟩ (fun i σ H' _ ⟨_,_,_,_,_,_,_,sx,_⟩=>ah.of (keep sx iS)) ?_ ?_
  ·rintro i v σ H4 hv ⟨kvs,v6,v7,v8,v9,v10,rfl,oS,e4,l9⟩
   obtain⟨p,hp,t,rfl,ht⟩:=Paired.at Hm hv
   refine⟨t,_,rfl,ao.of (keep oS ht),rfl,_,_,rfl,_,_,rfl,rfl,?_⟩
   dsimp only[List.set]
   have hi:i< (az xs).length:=(List.getElem?_eq_some_iff.mp hp).1
   refine⟨_,rfl,l2,rfl,⟨qs,ah.of (keep oS e2)⟩,?_⟩
   refine YV (K:=K) (a:=l2) (xs:=qs) (fun j σ H'=> ∃kvs v8 v9 v10,σ=[some x,some y,some z,some (.ref l1),some (.ref l2),some (.ref d),some (.int p.1),some (.int p.2),v8,v9,v10]∧aq d H2 H'∧H' d=some (.dT kvs)∧HM kvs (allM ((az xs).take i) (az ys)++((az ys).take j).map (cZ p)))
    ⟨_,v8,v9,v10,rfl,oS,e4,by rw[List.take_zero,List.map_nil,List.append_nil];exact l9⟩ (fun j σ H' _ ⟨_,_,_,_,_,sx,_⟩=>ah.of (keep sx e2)) ?_ ?_
   ·rintro j u σ H5 wY ⟨BG,u8,u9,zV,rfl,rm,e5,iJ⟩
    obtain⟨r,cq,t2,rfl,w4⟩:=Paired.at ff wY
    have hj:j< (az ys).length:=(List.getElem?_eq_some_iff.mp cq).1
    refine⟨t2,_,rfl,ao.of (keep rm w4),rfl,_,_,rfl,_,_,rfl,rfl,?_⟩
    dsimp only[List.set]
    refine Zq (ZE ⟨_,rfl,_,rfl,_,_,rfl,rfl,_,rfl,_,rfl,_,_,rfl,rfl,(by show 2≤sizeLine;decide),fun b hb=>Zu ?_⟩)
    dsimp only[List.set]
    have s6:=Zf (o:=.tup ((cZ p r).map kV)) hb
    have e6:upd H5 b (.tup ((cZ p r).map kV)) b=some (.tup ((cZ p r).map kV)):=Zc
    have MY:upd H5 b (HO.tup [V.int (r.1 - p.1),V.int (r.2 - p.2)])=upd H5 b (.tup ((cZ p r).map kV)):=rfl
    rw[MY]
    generalize upd H5 b (HO.tup ((cZ p r).map kV))=H6 at s6 e6
    have yo:=s6 _ _ e5
    have ln:BG.length<sizeLine:=by
     have:=iJ.len
     rw[List.length_append,List.length_map,List.length_take]at this
     have l2:(allM ((az xs).take i) (az ys)).length≤144:=by
      have:∀(l:List (Int×Int)),(allM l (az ys)).length=l.length*(az ys).length:=fun l=>by
       unfold allM
       induction l with
       |nil=>simp
       |cons a t ih=>rw[List.flatMap_cons,List.length_append,ih,List.length_map,List.length_cons,Nat.add_mul];omega
      rw[this,List.length_take]
      exact Nat.le_trans (Nat.mul_le_mul (by omega:min i (az xs).length≤12) small.2) (by decide)
     rw[sizeLine_eq]
     omega
    refine⟨_,rfl,d,rfl,.inr ⟨_,.inl yo⟩,_,rfl,_,jC.t yo e6,_,_,iJ.get (cZ p r),rfl,_,rfl,_,rfl,d,_,rfl,oF.t yo e6 ln,?_⟩
    refine⟨_,_,_,_,rfl,(rm.trans s6.x).trans aq.upd,Zc,?_⟩
    rw[List.take_add_one,cq,List.map_append,←List.append_assoc]
    exact iJ.put (cZ p r)
   ·rintro σ H5 ⟨BG,u8,u9,zV,rfl,rm,e5,iJ⟩
    refine⟨_,_,_,_,_,_,rfl,rm,e5,?_⟩
    have lq:qs.length=(az ys).length:=Paired.length ff
    rw[lq,List.take_length]at iJ
    rw[Qy hp]
    exact iJ
  ·rintro σ H4 ⟨kvs,v6,v7,v8,v9,v10,rfl,oS,e4,l9⟩
   have lp:ps.length=(az xs).length:=Paired.length fZ
   rw[lp,List.take_length]at l9
   have dn:H d=none:=by
    cases h:H d with
    |none=>rfl
    |some u=>rw[(s1.trans s2) _ _ h]at hd;cases hd
   exact⟨_,rfl,q d H4 kvs (fun b o h=>keep oS (s2 _ _ (s1 _ _ h))) dn e4 l9⟩
abbrev rW:Stmt:=top 30
def rG:Sp:=fun vs H Q _=> ∃x y z wd hg xs ys a b,vs=[x,y,z,.int a,.int b]∧cf H x y wd hg xs∧cf H x z wd hg ys∧∀(H':Hp),ae H H'→Q (.int (aG xs ys a b:Int)) H'
theorem nE:br ["board", "one", "other", "right", "up", "many_by_move"] ["board", "one", "other", "right", "up"] (ay rW):=⟨rfl,rfl,rfl,by decide+kernel,rfl,by decide+kernel,by decide+kernel⟩
theorem Ob {f:Addr}{fd:FuncData}(F:aJ K "hits_between" "hits_between" rW f fd) (D1:Def P w K mg base 8 "hits_by_move" ["board", "one", "other"] nB) (D2:Def P w K mg base 2 "need_whole" ["number"] (rC K)):aE P w K mg base aH 9 f fd ["board", "one", "other", "right", "up"] rG:=by
 refine F.ok nE (fun vs H Q E h=> ?_) (fun ak A outer s H vs Q E hr h=> ?_)
 ·obtain⟨x,y,z,wd,hg,xs,ys,a,b,rfl,_⟩:=h
  rfl
 ·obtain⟨x,y,z,wd,hg,xs,ys,a,b,rfl,la,lb,q⟩:=h
  have hu:=UN hr
  refine⟨_,Ze (Zp (i:=5) nE.nd rfl (Or.inl rfl) (Zj D1 hr (Za (pv 0) (Za (pv 1) (Za (pv 2) Zb)))))
   (Ze (ZG (Zj D2 (hr.mono (by decide)) (Za (pv 3) Zb)))
   (Ze (ZG (Zj D2 (hr.mono (by decide)) (Za (pv 4) Zb)))
   (Zk (Zz (Uz hu (pv 5) (ZA (Za (pv 3) (Za (pv 4) Zb))) Zi ⟨rfl,rfl,rfl,rfl⟩))))),?_⟩
  refine Zq (ZE ⟨_,rfl,_,rfl,_,rfl,x,y,z,wd,hg,xs,ys,rfl,la,lb,fun d H1 kvs s1 n1 e1 hm=>Zu ?_⟩)
  dsimp only[List.set]
  refine Zq ⟨_,rfl,.int a,rfl,⟨_,.int a⟩,rfl,?_⟩
  try dsimp only
  refine Zq ⟨_,rfl,.int b,rfl,⟨_,.int b⟩,rfl,?_⟩
  try dsimp only
  refine⟨_,rfl,d,rfl,.inr ⟨_,.inl e1⟩,_,rfl,_,rfl,(by show 2≤sizeLine;decide),fun t ht=> ?_⟩
  have s2:=Zf (o:=.tup [V.int a,V.int b]) ht
  have e2:upd H1 t (.tup [V.int a,V.int b]) t=some (.tup (([Sum.inl a,Sum.inl b]:List Key).map kV)):=Zc
  generalize upd H1 t (HO.tup [V.int a,V.int b])=H2 at s2 e2
  refine⟨_,jC.t (s2 _ _ e1) e2,?_⟩
  rw[hm.get,Jp]
  exact q H2 (s1.trans s2)
abbrev rY:Stmt:=top 31
def vq:Sp:=fun vs H Q _=> ∃x y wd hg xs,vs=[x,y]∧cf H x y wd hg xs∧∀(L:Addr) (H':Hp) (ts:List V),ae H H'→H L=none→H' L=some (.lst ts)→Paired (eX H') ts (eF wd hg xs xs)→Q (.ref L) H'
theorem rN:br ["board", "lay", "many_by_move"] ["board", "lay"] (ay rY):=⟨rfl,rfl,rfl,by decide+kernel,rfl,by decide+kernel,by decide+kernel⟩
theorem JJ {H H':Hp}{v:V}{k:List Int}(h:eX H v k) (s:ae H H'):eX H' v k:=let ⟨t,e,g⟩:=h;⟨t,e,s _ _ g⟩
theorem N9 {f:Addr}{fd:FuncData}(F:aJ K "all_hits" "all_hits" rY f fd) (G:Gs mg) (D1:Def P w K mg base 8 "hits_by_move" ["board", "one", "other"] nB):aE P w K mg base aH 9 f fd ["board", "lay"] vq:=by
 refine F.ok rN (fun vs H Q E h=> ?_) (fun ak A outer s H vs Q E hr h=> ?_)
 ·obtain⟨x,y,wd,hg,xs,rfl,_⟩:=h
  rfl
 ·obtain⟨x,y,wd,hg,xs,rfl,la,q⟩:=h
  refine⟨_,Ze (Zp (i:=2) rN.nd rfl (Or.inl rfl) (Zj D1 hr (Za (pv 0) (Za (pv 1) (Za (pv 1) Zb)))))
   (Zk (Zz (Zm Uh rfl G.sorted boot_sorted (Za (Yk ["right", "up", "many"] 3 [] (Q3 (pv 2))
    (fun C s H fp=>show PG (aT _ _ _ C s H fp) _ (mE K 2 (eU (mE K 2 (eU (dc 0) (eU (dc 1) mF))) (eU (dc 2) mF))) from Z7 rfl (Zo (Z7 rfl (Zo (pb 0) (Zo (pb 1) ZT))) (Zo (pb 2) ZT))) (fun C s H fp=>YH)
    (fun C s H fp D=>ZK rfl (ZA (Za (pv 0) (Za (pv 1) (Za (pv 2) Zb)))))) Zb)))),?_⟩
  refine Zq (ZE ⟨_,rfl,_,rfl,_,rfl,x,y,y,wd,hg,xs,xs,rfl,la,la,fun d H1 kvs s1 n1 e1 hm=>Zu ?_⟩)
  dsimp only[List.set]
  refine⟨_,rfl,d,kvs,rfl,e1,fun o=> ?_⟩
  have x2:aq d H1 (upd H1 d (.aW o (.dT kvs))):=aq.upd
  have e2:upd H1 d (.aW o (.dT kvs)) d=some (.aW o (.dT kvs)):=Zc
  generalize upd H1 d (HO.aW o (.dT kvs))=H2 at x2 e2
  have AV:ae H H2:=fun b u h=>x2 _ _ (s1 _ _ h) (Zd h n1)
  have lk:kvs.length≤144:=by
   have a:=hm.len
   have b:=JM xs
   have c:=la.2.2.len
   have:=la.1.2.2.1
   have:∀(l:List (Int×Int)),(allM l (az xs)).length=l.length*(az xs).length:=fun l=>by
    unfold allM
    induction l with
    |nil=>simp
    |cons a t ih=>rw[List.flatMap_cons,List.length_append,ih,List.length_map,List.length_cons,Nat.add_mul];omega
   rw[this]at a
   exact Nat.le_trans a (Nat.le_trans (Nat.mul_le_mul (by omega:(az xs).length≤12) (by omega:(az xs).length≤12)) (by decide))
  refine Rz (kvs:=kvs) (o:=o) (d:=d) (fun i ys σ H'=> ∃v0 v1 v2,σ=[v0,v1,v2]∧ae H2 H'∧Paired (eX H') ys ((kvs.take i).map U.de)∧ys.length≤i) ⟨_,_,_,rfl,ae.refl _,.nil,Nat.zero_le _⟩ (fun i ys σ H' ⟨_,_,_,_,s',_⟩=>s' _ _ e2) ?_ ?_
  ·rintro i k yv T a ys σ H' hk hT ha ⟨v0,v1,v2,rfl,s',pr,ln⟩
   have hi:i<kvs.length:=(List.getElem?_eq_some_iff.mp hk).1
   obtain⟨p,hp,r,cq,ek,ev,pos,et⟩:=hm.de (List.mem_of_getElem? hk)
   have ek:k=cZ p r:=ek
   have ev:yv=.int (aG xs xs (r.1 - p.1) (r.2 - p.2):Int):=ev
   subst ek ev
   have sT:=Zf (o:=.par [V.ref a,.int (aG xs xs (r.1 - p.1) (r.2 - p.2):Int)]) hT
   have eT:upd H' T (.par [V.ref a,.int (aG xs xs (r.1 - p.1) (r.2 - p.2):Int)]) T=some (.par [V.ref a,.int (aG xs xs (r.1 - p.1) (r.2 - p.2):Int)]):=Zc
   have qp:H' a=some (.tup [.int (r.1 - p.1),.int (r.2 - p.2)]):=ha
   generalize upd H' T (HO.par [V.ref a,.int (aG xs xs (r.1 - p.1) (r.2 - p.2):Int)])=H4 at sT eT
   refine⟨T,_,rfl,ao.Bj eT,rfl,_,_,rfl,⟨a,_,rfl,ao.of (sT _ _ qp),rfl,_,_,rfl,_,_,rfl,rfl,_,_,rfl,rfl,?_⟩⟩
   dsimp only[List.set]
   refine⟨_,rfl,_,rfl,_,rfl,(by show 3≤sizeLine;decide),fun t ht=> ⟨by rw[sizeLine_eq];omega,?_⟩⟩
   have s5:=Zf (o:=.tup [V.int (r.1 - p.1),V.int (r.2 - p.2),.int (aG xs xs (r.1 - p.1) (r.2 - p.2):Int)]) ht
   refine⟨_,_,_,rfl,s'.trans (sT.trans s5),?_,by rw[List.length_append];simp;omega⟩
   rw[List.take_add_one,hk,List.map_append]
   refine Paired.snoc (Paired.dj pr fun v q h=>JJ h (sT.trans s5)) ?_
   show eX _ _ (U.de (cZ p r,V.int (aG xs xs (r.1 - p.1) (r.2 - p.2):Int)))
   rw[et]
   exact⟨t,rfl,Zc⟩
  ·rintro ys σ H' ⟨v0,v1,v2,rfl,s',pr,ln⟩ L hL
   rw[List.take_length]at pr
   have sL:=Zf (o:=.lst ys) hL
   have eL:upd H' L (.lst ys) L=some (.lst ys):=Zc
   generalize upd H' L (HO.lst ys)=H5 at sL eL
   refine⟨L,ys,kvs.map U.de,rfl,ah.of eL,Paired.dj pr fun v q h=>JJ h sL,fun k hk=> ?_,by omega,fun q' kQ sP nq pm rise Hn=> ?_⟩
   ·obtain⟨kv,gz,rfl⟩:=List.mem_map.mp hk
    unfold U.de
    simp
   ·have ek:=Qx (pm.trans (hm.yr la.2.2 la.2.2)) rise
    subst ek
    have s6:=Zf (o:=.lst kQ) nq
    have nn:H q'=none:=by
     cases h:H q' with
     |none=>rfl
     |some u=>rw[(AV.trans (s'.trans sL)) _ _ h]at nq;cases nq
    exact q q' _ kQ (AV.trans (s'.trans (sL.trans s6))) nn Zc (Paired.dj Hn fun v q h=>JJ h s6)
def ja (K:PySem.W.Frag) (cB cL:Addr):Sp:=fun vs H _ E=> ∃x y z C,vs=[x,y,z]∧(kP K cB cL H x y C∨∃wd hg xs,cf H x y wd hg xs∧kP K cB cL H x z C)∧∀e H',ae H H'→E (.ref e) (some C) H'
theorem OX {f:Addr}{fd:FuncData}(F:aJ K "hits_by_move" "hits_by_move" rX f fd) (D1:Def P w K mg base 7 "points" ["board", "lay"] rB) (R1:bA P w K mg base 7 "points" ["board", "lay"] (fU K cB cL)):aE P w K mg base (bE P w) 8 f fd ["board", "one", "other"] (ja K cB cL):=by
 refine F.iF fW (fun vs H Q E h=> ?_) (fun ak A outer s H vs Q E hr h=> ?_)
 ·obtain⟨x,y,z,C,rfl,_⟩:=h
  rfl
 ·obtain⟨x,y,z,C,rfl,b |⟨wd,hg,xs,la,b⟩,q⟩:=h
  ·refine⟨_,Ze (Zp (i:=3) fW.nd rfl (Or.inl rfl) (ZZ R1 hr (Za (pv 0) (Za (pv 1) Zb)))) ZC,?_⟩
   exact⟨_,rfl,_,rfl,x,y,C,rfl,b,q⟩
  ·refine⟨_,Ze (Zp (i:=3) fW.nd rfl (Or.inl rfl) (Zj D1 hr (Za (pv 0) (Za (pv 1) Zb))))
    (Ze (Zp (i:=4) fW.nd rfl (Or.inl rfl) (ZZ R1 hr (Za (pv 0) (Za (pv 2) Zb)))) ZC),?_⟩
   refine Zq (ZE ⟨_,rfl,_,rfl,x,y,wd,hg,xs,rfl,la,fun l1 H1 ps s1 n1 e1 fZ=>Zu ?_⟩)
   dsimp only[List.set]
   exact⟨_,rfl,_,rfl,x,z,C,rfl,b.same s1,fun e H' s'=>q e H' (s1.trans s')⟩
def SS (K:PySem.W.Frag) (cB cL cN:Addr) (H:Hp) (x y z a b:V) (C:Addr):Prop:=
 (kP K cB cL H x y C∨∃wd hg xs,cf H x y wd hg xs∧kP K cB cL H x z C)∨(C=cN∧∃wd hg xs ys,cf H x y wd hg xs∧cf H x z wd hg ys∧cj K H a∧cj K H b∧(whole a=false∨(whole a=true∧whole b=false)))
def rF (K:PySem.W.Frag) (cB cL cN:Addr):Sp:=fun vs H _ E=> ∃x y z a b C,vs=[x,y,z,a,b]∧SS K cB cL cN H x y z a b C∧∀e H',ae H H'→E (.ref e) (some C) H'
theorem OY {f:Addr}{fd:FuncData}(F:aJ K "hits_between" "hits_between" rW f fd) (D1:Def P w K mg base 8 "hits_by_move" ["board", "one", "other"] nB) (R1:bA P w K mg base 8 "hits_by_move" ["board", "one", "other"] (ja K cB cL)) (D2:Def P w K mg base 2 "need_whole" ["number"] (rC K)) (R2:bA P w K mg base 2 "need_whole" ["number"] (uY K cN)):aE P w K mg base (bE P w) 9 f fd ["board", "one", "other", "right", "up"] (rF K cB cL cN):=by
 refine F.iF nE (fun vs H Q E h=> ?_) (fun ak A outer s H vs Q E hr h=> ?_)
 ·obtain⟨x,y,z,a,b,C,rfl,_⟩:=h
  rfl
 ·obtain⟨x,y,z,a,b,C,rfl,bad |⟨rfl,wd,hg,xs,ys,la,lb,ta,tb,wh⟩,q⟩:=h
  ·refine⟨_,Ze (Zp (i:=5) nE.nd rfl (Or.inl rfl) (ZZ R1 hr (Za (pv 0) (Za (pv 1) (Za (pv 2) Zb))))) ZC,?_⟩
   exact⟨_,rfl,_,rfl,_,rfl,x,y,z,C,rfl,bad,q⟩
  ·rcases wh with wa |⟨wa,wb⟩
   ·refine⟨_,Ze (Zp (i:=5) nE.nd rfl (Or.inl rfl) (Zj D1 hr (Za (pv 0) (Za (pv 1) (Za (pv 2) Zb)))))
     (Ze (ZG (ZZ R2 (hr.mono (by decide)) (Za (pv 3) Zb))) ZC),?_⟩
    refine Zq (ZE ⟨_,rfl,_,rfl,_,rfl,x,y,z,wd,hg,xs,ys,rfl,la,lb,fun d H1 kvs s1 n1 e1 hm=>Zu ?_⟩)
    dsimp only[List.set]
    exact⟨_,rfl,a,rfl,s1.gO ta,wa,fun e H' s'=>q e H' (s1.trans s')⟩
   ·refine⟨_,Ze (Zp (i:=5) nE.nd rfl (Or.inl rfl) (Zj D1 hr (Za (pv 0) (Za (pv 1) (Za (pv 2) Zb)))))
     (Ze (ZG (Zj D2 (hr.mono (by decide)) (Za (pv 3) Zb)))
     (Ze (ZG (ZZ R2 (hr.mono (by decide)) (Za (pv 4) Zb))) ZC)),?_⟩
    refine Zq (ZE ⟨_,rfl,_,rfl,_,rfl,x,y,z,wd,hg,xs,ys,rfl,la,lb,fun d H1 kvs s1 n1 e1 hm=>Zu ?_⟩)
    dsimp only[List.set]
    refine Zq ⟨_,rfl,a,rfl,s1.gO ta,wa,?_⟩
    try dsimp only
    exact⟨_,rfl,b,rfl,s1.gO tb,wb,fun e H' s'=>q e H' (s1.trans s')⟩
theorem OW {f:Addr}{fd:FuncData}(F:aJ K "all_hits" "all_hits" rY f fd) (R1:bA P w K mg base 8 "hits_by_move" ["board", "one", "other"] (ja K cB cL)):aE P w K mg base (bE P w) 9 f fd ["board", "lay"] (fU K cB cL):=by
 refine F.iF rN (fun vs H Q E h=> ?_) (fun ak A outer s H vs Q E hr h=> ?_)
 ·obtain⟨x,y,C,rfl,_⟩:=h
  rfl
 ·obtain⟨x,y,C,rfl,bad,q⟩:=h
  refine⟨_,Ze (Zp (i:=2) rN.nd rfl (Or.inl rfl) (ZZ R1 hr (Za (pv 0) (Za (pv 1) (Za (pv 1) Zb))))) ZC,?_⟩
  exact⟨_,rfl,_,rfl,_,rfl,x,y,y,C,rfl,.inl bad,q⟩
end
section
variable {P:Program}{w:World}{K:PySem.W.Frag}{mg:Str→Option Value}{base:Heap}
abbrev vJ:Stmt:=top 46
def vg:Sp:=fun vs H Q _=> ∃(l m:Addr) (xs ys:List V) (a b:Int),vs=[.ref l,.ref m,.int a,.int b]∧H l=some (.tup xs)∧H m=some (.tup ys)∧mP xs∧mP ys∧xs.length≤12∧Q (.int (aG xs ys a b:Int)) H
theorem rL:br ["_law_one", "_law_other", "_law_right_here", "_law_up", "_law_found", "_law_line"] ["_law_one", "_law_other", "_law_right_here", "_law_up"] (ay vJ):=⟨rfl,rfl,rfl,by decide+kernel,rfl,by decide+kernel,by decide+kernel⟩
theorem Oc {f:Addr}{fd:FuncData}(F:aJ K "_law_hits" "_law_hits" vJ f fd) (G:Gs mg):aE P w K mg base aH 1 f fd ["_law_one", "_law_other", "_law_right_here", "_law_up"] vg:=by
 refine F.ok rL (fun vs H Q E h=> ?_) (fun ak A outer s H vs Q E hr h=> ?_)
 ·obtain⟨l,m,xs,ys,a,b,rfl,_⟩:=h
  rfl
 ·obtain⟨l,m,xs,ys,a,b,rfl,hl,hm,rx,ry,len,q⟩:=h
  refine⟨_,Ze (Zp (i:=4) rL.nd rfl (Or.inl rfl) Zi)
   (Ze (Yj PassesOwn.never rfl (ZW rfl G.range (Za (Zm Zv rfl G.len boot_len (Za (pv 0) Zb)) Zb)) (Zy (i:=5) rL.nd rfl (Or.inl rfl))
    (Zk (Z2 (PW.pt (W4 (Ja (YK (ZL Yg (pv 0) (pv 5) (fun _ _=>rfl)))) (JL (Q5 yP DP Zi (Zn ZU (pv 5) (pv 2)) (Zm Zv rfl G.len boot_len (Za (pv 1) Zb))))))
     (Zk (Zp (i:=4) rL.nd rfl (Or.inl rfl) (Zn ZU (pv 4) (Ya QA rfl G.int boot_int (Za (YT (Pa (YK (ZL Yg (pv 1) (Zn ZU (pv 5) (pv 2)) (fun _ _=>rfl)))) (YS (YJ JC (ZL Yg (pv 1) (Zn ZU (pv 5) (pv 2)) (fun _ _=>rfl)) (Zn ZU (ZL Yg (pv 0) (pv 5) (fun _ _=>rfl)) (pv 3)) (cY _)))) Zb))))) ZH)))
   (Zk (Zz (pv 4)))),?_⟩
  refine Zq (ZE (Zu ?_))
  dsimp only[List.set]
  refine Zq ⟨_,rfl,l,xs,rfl,.inr (ao.of hl),(xs.length:Int),rfl,by omega,by omega,?_⟩
  refine Yc (n:=((xs.length:Int)).toNat) (fun i σ H'=> ∃v5,σ=[some (.ref l),some (.ref m),some (.int a),some (.int b),some (.int (cF xs ys a b i:Int)),v5]∧H'=H) ⟨_,rfl,rfl⟩ ?_ ?_
  ·rintro i σ H' hi ⟨v5,rfl,rfl⟩
   rw[Int.zero_add]
   refine Zu ?_
   dsimp only[List.set]
   have qa:i<xs.length:=by omega
   have ei:eE xs (i:Int)=some xs[i]:=ZS (List.getElem?_eq_getElem qa)
   have ri:rowAt xs i=lh xs[i]:=by unfold rowAt;rw[List.getElem?_eq_getElem qa];rfl
   have skip:dB xs ys a b i=false→∃v5,([some (.ref l),some (.ref m),some (.int a),some (.int b),some (.int (cF xs ys a b i:Int)),some (.int (i:Int))]:L2.St)=[some (.ref l),some (.ref m),some (.int a),some (.int b),some (.int (cF xs ys a b (i+1):Int)),v5]∧H'=H':=fun h=>by
    have e:cF xs ys a b (i+1)=cF xs ys a b i:=by
     show cF xs ys a b i+(if dB xs ys a b i=true then 1 else 0)=_
     rw[h,if_neg Bool.false_ne_true,Nat.add_zero]
    exact⟨some (.int (i:Int)),by rw[e],rfl⟩
   refine⟨_,rfl,_,rfl,l,xs,_,_,rfl,rfl,ao.of hl,ei,_,rfl,?_⟩
   rcases rx xs[i] (List.getElem_mem qa) with nj |⟨r,nj⟩
   ·rw[nj]
    exact aR (aR (skip (by unfold dB;rw[ri,nj];rfl)))
   ·rw[nj]
    have hA:dB xs ys a b i=(decide (0≤(i:Int)+a)&&decide ((i:Int)+a<ys.length)&&decide (rowAt ys ((i:Int)+a).toNat=some (r+b))):=by unfold dB;rw[ri,nj];rfl
    refine bh ⟨_,rfl,_,rfl,_,_,rfl,rfl,_,_,rfl,rfl,_,rfl,?_⟩
    by_cases h1:0≤(i:Int)+a
    ·rw[decide_eq_true h1]
     refine bh ⟨_,rfl,m,ys,rfl,.inr (ao.of hm),_,_,rfl,rfl,_,rfl,?_⟩
     by_cases h2:(i:Int)+a<ys.length
     ·rw[decide_eq_true h2]
      have hk:((i:Int)+a).toNat<ys.length:=by omega
      have ek:eE ys ((i:Int)+a)=some ys[((i:Int)+a).toNat]:=by
       have:=ZS (List.getElem?_eq_getElem hk)
       rw[Int.toNat_of_nonneg h1]at this
       exact this
      have rk:rowAt ys ((i:Int)+a).toNat=lh ys[((i:Int)+a).toNat]:=by unfold rowAt;rw[List.getElem?_eq_getElem hk];rfl
      refine bh (ZE ⟨_,rfl,_,rfl,_,rfl,_,rfl,_,_,rfl,rfl,m,ys,_,_,rfl,rfl,ao.of hm,ek,?_⟩)
      have put:∀t:Bool,t=dB xs ys a b i→∃v5,(([some (.ref l),some (.ref m),some (.int a),some (.int b),some (.int (cF xs ys a b i:Int)),some (.int (i:Int))]:L2.St).set 4 (some (.int ((cF xs ys a b i:Int)+if t=true then 1 else 0))))=[some (.ref l),some (.ref m),some (.int a),some (.int b),some (.int (cF xs ys a b (i+1):Int)),v5]∧H'=H':=fun t e=>by
       refine⟨some (.int (i:Int)),?_,rfl⟩
       have e':((cF xs ys a b (i+1):Nat):Int)=(cF xs ys a b i:Int)+if t=true then 1 else 0:=by
        show((cF xs ys a b i+(if dB xs ys a b i=true then 1 else 0):Nat):Int)=_
        rw[e]
        split<;>simp
       rw[e']
       rfl
      rw[decide_eq_true h1,decide_eq_true h2]at hA
      rcases ry ys[((i:Int)+a).toNat] (List.getElem_mem hk) with nk |⟨r',nk⟩
      ·rw[nk]
       refine⟨_,rfl,aR (.inr ⟨_,rfl,_,_,rfl,rfl,Zu (put false ?_)⟩)⟩
       rw[hA,rk,nk]
       rfl
      ·rw[nk]
       have S8:=nk▸rk
       rw[nk]at ek
       refine⟨_,rfl,bh ⟨_,rfl,_,rfl,_,rfl,_,_,rfl,rfl,m,ys,_,_,rfl,rfl,ao.of hm,ek,_,rfl,_,rfl,l,xs,_,_,rfl,rfl,ao.of hl,ei,_,rfl,r,b,by rw[nj],rfl,?_⟩⟩
       refine⟨rfl,.inr ⟨_,rfl,_,_,rfl,rfl,Zu (put _ ?_)⟩⟩
       rw[hA,rk,nk]
       show decide (V.int r'=V.int (r+b))=(true&&true&&decide (some r'=some (r+b)))
       by_cases z:r'=r+b
       ·rw[z];simp
       ·rw[decide_eq_false fun h=>z (by cases h;rfl),decide_eq_false fun h=>z (by cases h;rfl)];rfl
     ·rw[decide_eq_false h2]
      exact aR (skip (by rw[hA,decide_eq_false h2,Bool.and_false,Bool.false_and]))
    ·rw[decide_eq_false h1]
     exact aR ⟨_,rfl,aR (skip (by rw[hA,decide_eq_false h1,Bool.false_and,Bool.false_and]))⟩
  ·rintro σ H' ⟨v5,rfl,rfl⟩
   refine⟨_,rfl,?_⟩
   rw[Int.toNat_natCast]
   exact q
abbrev nF:Stmt:=top 47
def uT (K:PySem.W.Frag):Sp:=fun vs H Q _=> ∃(q:Addr),vs=[.ref q]∧bz H q∧∀v H',aq q H H'→bz H' q→cj K H' v→whole v=false→v≠.ref q→Q v H'
theorem GK:br ["_law_state_here"] ["_law_state_here"] (ay nF):=⟨rfl,rfl,rfl,by decide+kernel,rfl,by decide+kernel,by decide+kernel⟩
def wu:List Expr:=match bM nF with | [.Return (some (.Subscript (.List es _) _ _)) _]=>es |_=> []
def HF (a:List Expr):List Stmt:=match bM nF with
 | [.Return (some (.Subscript (.List _ p1) z p2)) p3]=> [.Return (some (.Subscript (.List a p1) z p2)) p3]
 |_=> []
theorem PY:bM nF=HF wu:=by kernel_rfl
def pA:List Lit:=[.sc .af,.sc (.bl true),.sc (.bl false),.sc (.str "0"),.tup [.int 0],.lst [.int 1],.dZ,.sc (.str "1")]
theorem OU:litsOf wu=some pA:=by kernel_rfl
theorem OV {H:Hp}{v:V}{l:Lit}(hl:l∈pA) (h:fw H v l):cj K H v∧whole v=false:=by
 have hp:jf l=true:=List.all_eq_true.mp (show pA.all jf=true by decide+kernel) l hl
 refine⟨(Uc hp h).1,?_⟩
 simp only[pA,List.mem_cons,List.not_mem_nil,or_false]at hl
 rcases hl with rfl |rfl |rfl |rfl |rfl |rfl |rfl |rfl
 ·rw[show v=_ from h];rfl
 ·rw[show v=_ from h];rfl
 ·rw[show v=_ from h];rfl
 ·rw[show v=_ from h];rfl
 ·obtain⟨a,rfl,_⟩:=h;rfl
 ·obtain⟨a,rfl,_⟩:=h;rfl
 ·obtain⟨a,rfl,_⟩:=h;rfl
 ·rw[show v=_ from h];rfl
theorem O5 {f:Addr}{fd:FuncData}(F:aJ K "_law_no_whole" "_law_no_whole" nF f fd) (D1:Def P w K mg base 1 "_law_take" ["_law_state_here", "_law_many"] i9):aE P w K mg base aH 2 f fd ["_law_state_here"] (uT K):=by
 refine F.ok GK (fun vs H Q E h=> ?_) (fun ak A outer s H vs Q E hr h=> ?_)
 ·obtain⟨q,rfl,_⟩:=h
  rfl
 ·obtain⟨q,rfl,st,k⟩:=h
  rw[PY]
  have i1:=OU
  generalize wu=es at i1
  refine⟨_,Zk (Zz (ZL ZM (ZB (Y3 (ls:=pA) i1)) (Zj D1 hr (Za (pv 0) (Za Zi Zb))) (fun _ _=>rfl))),?_⟩
  refine fun S H3 sA pr nr=> ?_
  have lS:S.length=8:=Paired.length pr
  refine⟨by rw[lS];decide,fun L hL=> ?_⟩
  have s4:=Zf (o:=.lst S) hL
  have e4:upd H3 L (.lst S) L=some (.lst S):=Zc
  obtain⟨u0,v0,kC,_⟩:=id st
  have tX:=sA _ _ kC
  have Ib:L≠q:=fun z=>by rw[z,tX]at hL;cases hL
  generalize upd H3 L (HO.lst S)=H4 at s4 e4
  have cV:=(st.same sA).same s4
  refine⟨_,rfl,q,8,rfl,cV,by decide,by decide,fun r o h0 h8 fe=> ?_⟩
  have x5:aq q H4 (upd H4 q o):=aq.upd
  have aA:r.toNat<S.length:=by rw[lS];omega
  have gb:=List.getElem?_eq_getElem aA
  have kj:=ZS gb
  rw[Int.toNat_of_nonneg h0]at kj
  refine⟨L,_,_,_,rfl,rfl,ah.of (x5 _ _ e4 Ib),kj,?_⟩
  have cw:S[r.toNat]∈S:=List.getElem_mem aA
  generalize S[r.toNat]=v at cw
  obtain⟨l,hl,la⟩:=Yw pr cw
  have nv:v≠.ref q:=fun z=>by
   have:=nr q (by rw[←z];exact cw)
   rw[kC]at this
   cases this
  obtain⟨pt,wv⟩:=OV (K:=K) hl la
  exact k v _ (fun b u h n=>x5 _ _ ((sA.trans s4) _ _ h) n) fe (Jh (s4.gO pt) x5 nv) wv nv
end
def ir (wd hg:Int) (xs ys:List V) (M:Int):Prop:=(∀i j:Nat,i< (2*wd - 1).toNat→j< (2*hg - 1).toNat→(aG xs ys (1 - wd+i) (1 - hg+j):Int)≤M)∧(M=0∨∃i j:Nat,i< (2*wd - 1).toNat∧j< (2*hg - 1).toNat∧M=(aG xs ys (1 - wd+i) (1 - hg+j):Int))
theorem ir.uniq {wd hg:Int}{xs ys:List V}{M N:Int}(a:ir wd hg xs ys M) (b:ir wd hg xs ys N):M=N:=by
 have nn:∀{M:Int},ir wd hg xs ys M→0≤M:=fun h=>by
  rcases h.2 with e |⟨i,j,_,_,e⟩<;>omega
 have le:∀{M N:Int},ir wd hg xs ys M→ir wd hg xs ys N→M≤N:=fun h k=>by
  rcases h.2 with e |⟨i,j,hi,hj,e⟩
  ·rw[e];exact nn k
  ·rw[e];exact k.1 i j hi hj
 exact Int.le_antisymm (le a b) (le b a)
theorem Rc {kvs:List (List Key×V)}{xs ys:List V}{wd hg:Int}(h:HM kvs (allM (az xs) (az ys))) (lx:cI wd hg xs) (ly:cI wd hg ys):
  ∃ns:List Int,kvs.map (·.2)=ns.map V.int∧(ns=[]→ir wd hg xs ys 0)∧∀M∈ns,(∀a∈ns,a≤M)→ir wd hg xs ys M:=by
 refine⟨kvs.map fun kv=> ((cK (allM (az xs) (az ys)) kv.1:Nat):Int),?_,?_,?_⟩
 ·rw[List.map_map]
  exact List.map_congr_left fun kv hk=>h.at_ hk
 ·intro e
  have e':kvs=[]:=List.map_eq_nil_iff.mp e
  have pm:=h.yr lx ly
  rw[e']at pm
  have e2:eF wd hg xs ys=[]:=List.nil_perm.mp pm
  refine⟨fun i j hi hj=> ?_,.inl rfl⟩
  by_cases z:0<aG xs ys (1 - wd+i) (1 - hg+j)
  ·have:[1 - wd+i,1 - hg+j,(aG xs ys (1 - wd+i) (1 - hg+j):Int)]∈eF wd hg xs ys:=Yy.mpr ⟨i,j,hi,hj,z,rfl⟩
   rw[e2]at this
   cases this
  ·omega
 ·intro M hM hle
  have pm:=h.yr lx ly
  have Fp:∀kv∈kvs,∃i j:Nat,i< (2*wd - 1).toNat∧j< (2*hg - 1).toNat∧((cK (allM (az xs) (az ys)) kv.1:Nat):Int)=(aG xs ys (1 - wd+i) (1 - hg+j):Int):=fun kv hk=>by
   have m:U.de kv∈eF wd hg xs ys:=pm.mem_iff.mp (List.mem_map.mpr ⟨kv,hk,rfl⟩)
   obtain⟨i,j,hi,hj,_,e⟩:=Yy.mp m
   refine⟨i,j,hi,hj,?_⟩
   have e2:=h.at_ hk
   unfold U.de at e
   rw[e2]at e
   have:=congrArg List.getLast? e
   simpa using this
  refine⟨fun i j hi hj=> ?_,.inr ?_⟩
  ·by_cases z:0<aG xs ys (1 - wd+i) (1 - hg+j)
   ·have m:[1 - wd+i,1 - hg+j,(aG xs ys (1 - wd+i) (1 - hg+j):Int)]∈eF wd hg xs ys:=Yy.mpr ⟨i,j,hi,hj,z,rfl⟩
    obtain⟨kv,hk,e⟩:=List.mem_map.mp (pm.mem_iff.mpr m)
    have e2:=h.at_ hk
    unfold U.de at e
    rw[e2]at e
    have e3:((cK (allM (az xs) (az ys)) kv.1:Nat):Int)=(aG xs ys (1 - wd+i) (1 - hg+j):Int):=by
     have:=congrArg List.getLast? e
     simpa using this
    rw[←e3]
    exact hle _ (List.mem_map.mpr ⟨kv,hk,rfl⟩)
   ·obtain⟨kv,hk,e⟩:=List.mem_map.mp hM
    have e:((cK (allM (az xs) (az ys)) kv.1:Nat):Int)=M:=e
    omega
  ·obtain⟨kv,hk,e⟩:=List.mem_map.mp hM
   obtain⟨i,j,hi,hj,e2⟩:=Fp kv hk
   exact⟨i,j,hi,hj,by rw[←e];exact e2⟩
def c2 (n:Nat):Int:=(n:Int)*((n:Int) - 1)/2
theorem OC (n:Nat):c2 (n+1)=c2 n+n:=by
 unfold c2
 have e:(((n+1:Nat):Int))*(((n+1:Nat):Int) - 1)=(n:Int)*((n:Int) - 1)+(n:Int)*2:=by
  have h1:((n+1:Nat):Int)=(n:Int)+1:=by omega
  rw[h1,Int.add_sub_cancel,Int.add_mul,Int.mul_sub]
  omega
 rw[e,Int.add_mul_ediv_right _ _ (by decide)]
def cn (S:List (Int×Int)) (g:Int×Int):Nat:=S.countP fun u=>decide (u=g)
def jd (S:List (Int×Int)):Nat→Int
 |0=>0
 |t+1=>jd S t+match S[t]? with
  |some v=> (cn (S.take t) v:Int)
  |none=>0
theorem Ek {α:Type}(f g:α→Int):∀G:List α,(G.map fun x=>f x+g x).sum=(G.map f).sum+(G.map g).sum
 | []=>rfl
 |x::r=>by simp only[List.map_cons,List.sum_cons,Ek f g r];omega
theorem JT {α:Type} :∀G:List α,(G.map fun _=> (0:Int)).sum=0
 | []=>rfl
 |x::r=>by simp only[List.map_cons,List.sum_cons,JT r];rfl
theorem El {v:Int×Int}{c:Int} :∀{G:List (Int×Int)},G.Nodup→v∈G→(G.map fun g=>if g=v then c else 0).sum=c
 | [],_,h=>by cases h
 |x::r,nd,h=>by
  rw[List.map_cons,List.sum_cons]
  have Bt:=List.nodup_cons.mp nd
  by_cases z:x=v
  ·rw[if_pos z]
   have:(r.map fun g=>if g=v then c else 0)=r.map fun _=> (0:Int):=List.map_congr_left fun g hg=>if_neg fun e=>Bt.1 (by rw[z,←e];exact hg)
   rw[this,JT]
   omega
  ·rw[if_neg z,El Bt.2 ((List.mem_cons.mp h).resolve_left fun e=>z e.symm)]
   omega
theorem Uw {G S:List (Int×Int)}(nd:G.Nodup) (hS:∀v∈S,v∈G):∀n,n≤S.length→jd S n=(G.map fun g=>c2 (cn (S.take n) g)).sum
 |0,_=>by
  have:(G.map fun g=>c2 (cn (S.take 0) g))=G.map fun _=> (0:Int):=List.map_congr_left fun g _=>rfl
  rw[this,JT]
  rfl
 |n+1,h=>by
  have hn:n<S.length:=h
  have ev:=List.getElem?_eq_getElem hn
  have e1:jd S (n+1)=jd S n+(cn (S.take n) S[n]:Int):=by
   show jd S n+(match S[n]? with |some v=> (cn (S.take n) v:Int) |none=>0)=_
   rw[ev]
  rw[e1,Uw nd hS n (Nat.le_of_lt hn)]
  have e2:(G.map fun g=>c2 (cn (S.take (n+1)) g))=G.map fun g=>c2 (cn (S.take n) g)+(if g=S[n] then (cn (S.take n) S[n]:Int) else 0):=List.map_congr_left fun g _=>by
   rw[List.take_add_one,ev]
   show c2 (List.countP _ (S.take n++[S[n]]))=_
   rw[List.countP_append]
   by_cases z:g=S[n]
   ·rw[if_pos z,z]
    rw[show List.countP (fun u=>decide (u=S[n])) [S[n]]=1 by simp]
    exact OC _
   ·rw[if_neg z,show List.countP (fun u=>decide (u=g)) [S[n]]=0 by simp[Ne.symm z],Int.add_zero]
    rfl
  rw[e2,Ek,El nd (hS _ (List.getElem_mem hn))]
def kT (q:iW):Int×Int:=(q.1,q.2.1)
def cs (l:List iW) (a b:Int):Nat:=l.countP fun q=>decide (kT q=(a,b))
def mt (xs:List V) (l o:Nat) (b:Int):Bool:=match rowAt xs l with
 |some r=>decide (rowAt xs o=some (r+b))
 |none=>false
theorem yK (xs:List V) (o a:Nat) (b:Int) (ha:0<a):∀j,j≤o→cs (eK xs o j) a b=if a≤o∧o - a<j∧mt xs (o - a) o b=true then 1 else 0
 |0,_=>by rw[if_neg (by omega)];rfl
 |j+1,h=>by
  rw[YG]
  unfold cs
  rw[List.countP_append]
  have ih:=yK xs o a b ha j (by omega)
  unfold cs at ih
  rw[ih]
  by_cases z:a≤o∧o - a=j
  ·have n1:¬(a≤o∧o - a<j∧mt xs (o - a) o b=true):=by omega
   rw[if_neg n1,z.2,Nat.zero_add]
   have e:eO xs o j=(rowAt xs j).bind fun a=> (rowAt xs o).map fun b=> ((o:Int) - j,b - a,(j:Int),(o:Int)):=rfl
   rw[e]
   unfold mt
   cases hr:rowAt xs j with
   |none=>rw[if_neg (by simp)];rfl
   |some r=>
    cases ho:rowAt xs o with
    |none=>rw[if_neg (by simp)];rfl
    |some r'=>
     have e2:(Option.map (fun b=> ((o:Int) - j,b - r,(j:Int),(o:Int))) (some r')).toList=[((o:Int) - j,r' - r,(j:Int),(o:Int))]:=rfl
     simp only[Option.bind_some,Option.map_some,Option.toList_some,List.countP_cons,List.countP_nil]
     unfold kT
     by_cases y:r'=r+b
     ·rw[if_pos (by simp only[decide_eq_true_eq,Prod.mk.injEq];omega),if_pos ⟨z.1,by omega,by rw[y];simp⟩]
     ·rw[if_neg (by simp only[decide_eq_true_eq,Prod.mk.injEq];omega),if_neg (by simp;omega)]
  ·have e0:List.countP (fun q=>decide (kT q=((a:Int),b))) (eO xs o j).toList=0:=by
    cases hs:eO xs o j with
    |none=>rfl
    |some q=>
     have e:eO xs o j=(rowAt xs j).bind fun a=> (rowAt xs o).map fun b=> ((o:Int) - j,b - a,(j:Int),(o:Int)):=rfl
     rw[e,Option.bind_eq_some_iff]at hs
     obtain⟨r,_,hs⟩:=hs
     obtain⟨r',_,rfl⟩:=Option.map_eq_some_iff.mp hs
     simp only[Option.toList_some,List.countP_cons,List.countP_nil]
     rw[if_neg]
     unfold kT
     simp only[decide_eq_true_eq,Prod.mk.injEq]
     omega
   rw[e0,Nat.add_zero]
   by_cases y:a≤o∧o - a<j∧mt xs (o - a) o b=true
   ·rw[if_pos y,if_pos ⟨y.1,by omega,y.2.2⟩]
   ·rw[if_neg y,if_neg fun t=>y ⟨t.1,by omega,t.2.2⟩]
theorem DU (l m:List iW) (a b:Int):cs (l++m) a b=cs l a b+cs m a b:=List.countP_append
theorem yR (xs:List V) (a:Nat) (b:Int) (ha:0<a):∀n,n≤a→cs (ck xs n) a b=0
 |0,_=>rfl
 |n+1,h=>by rw[ZN,DU,yR xs a b ha n (by omega),yK xs n a b ha n (Nat.le_refl _),if_neg (by omega)]
theorem PL {xs:List V}{a m:Nat}{b:Int}(h:m+a<xs.length):dB xs xs a b m=mt xs m (m+a) b:=by
 unfold dB mt
 cases rowAt xs m with
 |none=>rfl
 |some r=>
  show(decide (0≤(m:Int)+a)&&decide ((m:Int)+a<xs.length)&&decide (rowAt xs ((m:Int)+a).toNat=some (r+b)))=_
  rw[decide_eq_true (show 0≤(m:Int)+a by omega),decide_eq_true (show(m:Int)+a<xs.length by omega),show((m:Int)+a).toNat=m+a by omega]
  rfl
theorem Ep (xs:List V) (a:Nat) (b:Int) (ha:0<a):∀m,m+a≤xs.length→cs (ck xs (m+a)) a b=cF xs xs a b m
 |0,_=>by rw[Nat.zero_add,yR xs a b ha a (Nat.le_refl _)];rfl
 |m+1,h=>by
  rw[show m+1+a=m+a+1 by omega,ZN,DU,Ep xs a b ha m (by omega),yK xs (m+a) a b ha _ (Nat.le_refl _)]
  show _=cF xs xs a b m+(if dB xs xs a b m=true then 1 else 0)
  rw[PL (by omega),show m+a - a=m by omega]
  by_cases z:mt xs m (m+a) b=true
  ·rw[if_pos ⟨by omega,by omega,z⟩,if_pos z]
  ·rw[if_neg fun t=>z t.2.2,if_neg z]
theorem Wf (xs:List V) (a:Nat) (b:Int) (n:Nat) (h:xs.length≤n+a):∀k,cF xs xs a b (n+k)=cF xs xs a b n
 |0=>rfl
 |k+1=>by
  show cF xs xs a b (n+k)+(if dB xs xs a b (n+k)=true then 1 else 0)=_
  rw[Wf xs a b n h k,if_neg,Nat.add_zero]
  unfold dB
  cases rowAt xs (n+k) with
  |none=>exact Bool.false_ne_true
  |some r=>
   show ¬((decide (0≤((n+k:Nat):Int)+a)&&decide (((n+k:Nat):Int)+a<xs.length)&&decide (rowAt xs (((n+k:Nat):Int)+a).toNat=some (r+b)))=true)
   rw[decide_eq_false (show ¬(((n+k:Nat):Int)+a<xs.length) by omega),Bool.and_false,Bool.false_and]
   exact Bool.false_ne_true
theorem Pe (xs:List V) (a:Int) (b:Int) (ha:0<a):cs (ck xs xs.length) a b=aG xs xs a b:=by
 obtain⟨n,rfl⟩:=Int.eq_ofNat_of_zero_le (Int.le_of_lt ha)
 have hn:0<n:=by omega
 by_cases z:n≤xs.length
 ·have e:=Ep xs n b hn (xs.length - n) (by omega)
  rw[show xs.length - n+n=xs.length by omega]at e
  rw[e]
  have f:=Wf xs n b (xs.length - n) (by omega) n
  rw[show xs.length - n+n=xs.length by omega]at f
  exact f.symm
 ·rw[yR xs n b hn _ (by omega)]
  have f:=Wf xs n b 0 (by omega) xs.length
  rw[Nat.zero_add]at f
  exact f.symm
def jr (k:List Int):Option Int:=match k with
 | [a,_,n]=>if 0<a then some (n*(n - 1)/2) else none
 |_=>none
def sN (wd hg:Int) (xs:List V):Int:=((eF wd hg xs xs).filterMap jr).sum
def kq (la lb:Int) (nb:Nat) (n:Nat):List (Int×Int):=(List.range n).flatMap fun(i:Nat)=> (List.range nb).map fun(j:Nat)=> (la+(i:Int),lb+(j:Int))
theorem UF {la lb:Int}{nb n:Nat}{g:Int×Int} :g∈kq la lb nb n↔∃i j:Nat,i<n∧j<nb∧g=(la+i,lb+j):=by
 unfold kq
 rw[List.mem_flatMap]
 constructor
 ·rintro⟨i,hi,h⟩
  obtain⟨j,hj,rfl⟩:=List.mem_map.mp h
  exact⟨i,j,List.mem_range.mp hi,List.mem_range.mp hj,rfl⟩
 ·rintro⟨i,j,hi,hj,rfl⟩
  exact⟨i,List.mem_range.mpr hi,List.mem_map.mpr ⟨j,List.mem_range.mpr hj,rfl⟩⟩
theorem WS (la lb:Int) (nb n:Nat):kq la lb nb (n+1)=kq la lb nb n++(List.range nb).map fun(j:Nat)=> (la+(n:Int),lb+(j:Int)):=by
 unfold kq
 rw[List.range_succ,List.flatMap_append]
 simp
theorem Ew (la lb:Int) (nb:Nat):∀n,(kq la lb nb n).Nodup
 |0=>List.nodup_nil
 |n+1=>by
  rw[WS]
  refine List.nodup_append.mpr ⟨Ew la lb nb n,?_,?_⟩
  ·refine List.nodup_iff_pairwise_ne.mpr (List.pairwise_map.mpr ((List.nodup_iff_pairwise_ne.mp List.nodup_range).imp fun {i j} h e=>h ?_))
   have:=congrArg Prod.snd e
   simp only at this
   omega
  ·intro x hx y hy e
   obtain⟨i,j,hi,_,rfl⟩:=UF.mp hx
   obtain⟨j',_,rfl⟩:=List.mem_map.mp hy
   have:=congrArg Prod.fst e
   simp only at this
   omega
def wt (xs:List V) (g:Int×Int):Int:=if 0<g.1 then c2 (aG xs xs g.1 g.2) else 0
theorem Eh (xs:List V) (a lo:Int):∀n,((gN xs xs a lo n).filterMap jr).sum=(((List.range n).map fun(j:Nat)=> (a,lo+(j:Int))).map (wt xs)).sum
 |0=>rfl
 |n+1=>by
  rw[WG,List.filterMap_append,List.sum_append,Eh xs a lo n,List.range_succ,List.map_append,List.map_append,List.sum_append]
  refine congrArg _ ?_
  show _=wt xs (a,lo+n)+0
  rw[Int.add_zero]
  unfold wt
  by_cases z:0<aG xs xs a (lo+n)
  ·rw[if_pos z]
   by_cases p:0<a
   ·have e:jr [a,lo+n,(aG xs xs a (lo+n):Int)]=some (c2 (aG xs xs a (lo+n))):=by
     show(if 0<a then some ((aG xs xs a (lo+n):Int)*((aG xs xs a (lo+n):Int) - 1)/2) else none)=_
     rw[if_pos p]
     rfl
    rw[List.filterMap_cons_some e,if_pos p]
    simp
   ·have e:jr [a,lo+n,(aG xs xs a (lo+n):Int)]=none:=if_neg p
    rw[List.filterMap_cons_none e,if_neg p]
    rfl
  ·rw[if_neg z]
   have h0:aG xs xs a (lo+n)=0:=by omega
   show(0:Int)=_
   simp only[h0]
   split<;>rfl
theorem Et (xs:List V) (la lb:Int) (nb:Nat):∀n,((ju xs xs la lb nb n).filterMap jr).sum=((kq la lb nb n).map (wt xs)).sum
 |0=>rfl
 |n+1=>by rw[Jz,List.filterMap_append,List.sum_append,Et xs la lb nb n,Eh,WS,List.map_append,List.sum_append]
theorem Ur {xs:List V}{q:iW} :∀{n:Nat},q∈ck xs n→∃l o:Nat,l<o∧o<n∧∃r r',rowAt xs l=some r∧rowAt xs o=some r'∧q=((o:Int) - l,r' - r,(l:Int),(o:Int)):=fun {n} h=>by
 unfold ck eK at h
 obtain⟨o,ho,h⟩:=List.mem_flatMap.mp h
 obtain⟨l,hl,h⟩:=List.mem_filterMap.mp h
 unfold eO at h
 obtain⟨r,hr,h⟩:=Option.bind_eq_some_iff.mp h
 obtain⟨r',cq,rfl⟩:=Option.map_eq_some_iff.mp h
 exact⟨l,o,List.mem_range.mp hl,List.mem_range.mp ho,r,r',hr,cq,rfl⟩
def fB (xs:List V):List (Int×Int):=(ck xs xs.length).map kT
theorem Pr (xs:List V) (g:Int×Int):cn (fB xs) g=if 0<g.1 then aG xs xs g.1 g.2 else 0:=by
 have e:cn (fB xs) g=cs (ck xs xs.length) g.1 g.2:=by
  unfold cn fB cs
  rw[List.countP_map]
  rfl
 rw[e]
 by_cases z:0<g.1
 ·rw[if_pos z,Pe xs g.1 g.2 z]
 ·rw[if_neg z]
  refine List.countP_eq_zero.mpr fun q hq=> ?_
  obtain⟨l,o,pT,_,r,r',_,_,rfl⟩:=Ur hq
  unfold kT
  intro t
  have t:=of_decide_eq_true t
  have t1:(o:Int) - l=g.1:=congrArg Prod.fst t
  omega
theorem PR {wd hg:Int}{xs:List V}(ly:cI wd hg xs) (w1:1≤wd) (g1:1≤hg):sN wd hg xs=jd (fB xs) (fB xs).length:=by
 have hS:∀v∈fB xs,v∈kq (1 - wd) (1 - hg) (2*hg - 1).toNat (2*wd - 1).toNat:=fun v hv=>by
  obtain⟨q,hq,rfl⟩:=List.mem_map.mp hv
  obtain⟨l,o,pT,ho,r,r',hr,cq,rfl⟩:=Ur hq
  have len:=ly.len
  have p1:=ud ly (W2.mpr ⟨by omega,by omega,by rw[Int.toNat_natCast];exact hr⟩:(((l:Nat):Int),r)∈az xs)
  have p2:=ud ly (W2.mpr ⟨by omega,by omega,by rw[Int.toNat_natCast];exact cq⟩:(((o:Nat):Int),r')∈az xs)
  refine UF.mpr ⟨((o:Int) - l - (1 - wd)).toNat,(r' - r - (1 - hg)).toNat,?_,?_,?_⟩
  ·simp only at p1 p2;omega
  ·simp only at p1 p2;omega
  ·simp only at p1 p2
   show((o:Int) - l,r' - r)=_
   rw[Prod.mk.injEq]
   omega
 rw[Uw (Ew _ _ _ _) hS _ (Nat.le_refl _),List.take_length]
 unfold sN eF
 rw[Et]
 refine congrArg _ (List.map_congr_left fun g _=> ?_)
 rw[Pr]
 unfold wt
 split
 ·rfl
 ·rfl
theorem QI (xs ys:List V) (a b:Int):aG xs ys a b≤(az xs).length:=by
 have key:∀n,cF xs ys a b n≤(pf xs n).length:=fun n=>by
  induction n with
  |zero=>exact Nat.le_refl _
  |succ n ih=>
   show cF xs ys a b n+(if dB xs ys a b n=true then 1 else 0)≤_
   rw[WI,List.length_append]
   refine Nat.add_le_add ih ?_
   unfold dB
   cases e:rowAt xs n with
   |none=>exact Nat.le_refl _
   |some r=>
    have le:∀c:Bool,(if c=true then 1 else 0)≤1:=by decide
    exact le _
 exact key xs.length
section
variable {P:Program}{w:World}{K:PySem.W.Frag}{mg:Str→Option Value}{base:Heap}
abbrev rS:Stmt:=top 32
def oV:Sp:=fun vs H Q _=> ∃x y z wd hg xs ys,vs=[x,y,z]∧cf H x y wd hg xs∧cf H x z wd hg ys∧∀(M:Int) (H':Hp),ae H H'→ir wd hg xs ys M→Q (.int M) H'
theorem AA:br ["board", "one", "other"] ["board", "one", "other"] (ay rS):=⟨rfl,rfl,rfl,by decide+kernel,rfl,by decide+kernel,by decide+kernel⟩
theorem Of {f:Addr}{fd:FuncData}(F:aJ K "most_hits" "most_hits" rS f fd) (G:Gs mg) (D1:Def P w K mg base 8 "hits_by_move" ["board", "one", "other"] nB):aE P w K mg base aH 9 f fd ["board", "one", "other"] oV:=by
 refine F.ok AA (fun vs H Q E h=> ?_) (fun ak A outer s H vs Q E hr h=> ?_)
 ·obtain⟨x,y,z,wd,hg,xs,ys,rfl,_⟩:=h
  rfl
 ·obtain⟨x,y,z,wd,hg,xs,ys,rfl,la,lb,q⟩:=h
  refine⟨_,Zk (Zz (EE rfl rfl G.max (Ya YY rfl G.list boot_list (Za (WK (Zj D1 hr (Za (pv 0) (Za (pv 1) (Za (pv 2) Zb))))) Zb)))),?_⟩
  refine⟨_,rfl,_,rfl,_,rfl,x,y,z,wd,hg,xs,ys,rfl,la,lb,fun d H1 kvs s1 n1 e1 hm=> ⟨d,kvs,rfl,e1,fun v hv=> ?_⟩⟩
  have s2:=Zf (o:=jF v d) hv
  have e2:upd H1 v (jF v d) v=some (jF v d):=Zc
  generalize upd H1 v (jF v d)=H2 at s2 e2
  refine⟨v,d,kvs,rfl,e2,s2 _ _ e1,fun l hl=> ?_⟩
  obtain⟨ns,M4,h0,hM⟩:=Rc hm la.2.2 lb.2.2
  have s3:=Zf (o:=.lst (kvs.map (·.2))) hl
  have e3:upd H2 l (.lst (kvs.map (·.2))) l=some (.lst (kvs.map (·.2))):=Zc
  generalize upd H2 l (HO.lst (kvs.map (·.2)))=H3 at s3 e3
  rw[M4]at e3
  have nH:=s1.trans (s2.trans s3)
  exact⟨l,ns,rfl,ah.of e3,fun e=>q 0 H3 nH (h0 e),fun M cw hle=>q M H3 nH (hM M cw hle)⟩
abbrev rV:Stmt:=top 33
def oW:Sp:=fun vs H Q _=> ∃x y wd hg xs,vs=[x,y]∧cf H x y wd hg xs∧∀(H':Hp),ae H H'→Q (.int (sN wd hg xs)) H'
theorem AB:br ["board", "lay"] ["board", "lay"] (ay rV):=⟨rfl,rfl,rfl,by decide+kernel,rfl,by decide+kernel,by decide+kernel⟩
theorem Ox {H:Hp}{ts:List V}{wd hg:Int}{xs ys:List V}(pr:Paired (eX H) ts (eF wd hg xs ys)) {i:Nat}{v:V}(h:ts[i]? =some v):∃(t:Addr) (a b:Int) (n:Nat),v=.ref t∧H t=some (.tup [.int a,.int b,.int n])∧(eF wd hg xs ys)[i]? =some [a,b,(n:Int)]∧n=aG xs ys a b∧n≤xs.length:=by
 obtain⟨k,hk,t,rfl,ht⟩:=Y7 pr h
 obtain⟨i',j',_,_,_,rfl⟩:=Yy.mp (List.mem_of_getElem? hk)
 exact⟨t,_,_,_,rfl,ht,hk,rfl,Nat.le_trans (QI xs ys _ _) (JM xs)⟩
theorem Ol {wd hg:Int}{xs ys:List V}(w1:1≤wd) (w2:wd≤12) (g1:1≤hg) (g2:hg≤12):(eF wd hg xs ys).length≤529:=by
 have b:=US xs ys (1 - wd) (1 - hg) (2*hg - 1).toNat (2*wd - 1).toNat
 have:(2*wd - 1).toNat*(2*hg - 1).toNat≤23*23:=Nat.mul_le_mul (by omega) (by omega)
 exact Nat.le_trans b this
theorem Qg {α:Type}{f:List Int→Option α}{ks:List (List Int)}{i:Nat}{k:List Int}(h:ks[i]? =some k):(ks.take (i+1)).filterMap f=(ks.take i).filterMap f++(f k).toList:=by
 rw[List.take_add_one,h,List.filterMap_append]
 refine congrArg _ ?_
 show List.filterMap f [k]=_
 cases e:f k with
 |none=>rw[List.filterMap_cons_none e];rfl
 |some v=>rw[List.filterMap_cons_some e];rfl
theorem Pk {α:Type}(f:List Int→Option α) (ks:List (List Int)) (i:Nat):((ks.take i).filterMap f).length≤i:=Nat.le_trans (List.length_filterMap_le _ _) (by rw[List.length_take];exact Nat.min_le_left _ _)
theorem Oe {f:Addr}{fd:FuncData}(F:aJ K "like_many" "like_many" rV f fd) (G:Gs mg) (D1:Def P w K mg base 9 "all_hits" ["board", "lay"] vq):aE P w K mg base aH 10 f fd ["board", "lay"] oW:=by
 refine F.ok AB (fun vs H Q E h=> ?_) (fun ak A outer s H vs Q E hr h=> ?_)
 ·obtain⟨x,y,wd,hg,xs,rfl,_⟩:=h
  rfl
 ·obtain⟨x,y,wd,hg,xs,rfl,la,q⟩:=h
  refine⟨_,Zk (Zz (Zm Wk rfl G.sum boot_sum (Za (Yk ["right", "up", "many"] 3 [] (Z6 (Zj D1 hr (Za (pv 0) (Za (pv 1) Zb))))
    (fun C s H fp=>show PG (aT _ _ _ C s H fp) _ (mE K 3 (eU (dc 0) (eU (dc 1) (eU (dc 2) mF)))) from Z7 rfl (Zo (pb 0) (Zo (pb 1) (Zo (pb 2) ZT)))) (fun C s H fp=>Yp (ZX ui (pv 0) Zi (cY _)))
    (fun C s H fp D=>ZK rfl (Zn JO (Zn YL (pv 2) (Zn Z0 (pv 2) Zi)) Zi))) Zb))),?_⟩
  obtain⟨_,w1,w2,g1,g2⟩:=id la.1
  have len:=la.2.2.len
  refine⟨_,rfl,_,rfl,x,y,wd,hg,xs,rfl,la,fun L H1 ts s1 n1 e1 fZ=> ⟨L,rfl,⟨_,ah.of e1⟩,?_⟩⟩
  have al:=Ol (xs:=xs) (ys:=xs) w1 w2 g1 g2
  have lt:ts.length≤529:=by rw[Paired.length fZ];exact al
  refine Yt (xs:=ts) (fun i ys σ H'=>ys=(((eF wd hg xs xs).take i).filterMap jr).map V.int∧ae H1 H'∧∃a b c,σ=[a,b,c]) ⟨rfl,ae.refl _,none,none,none,rfl⟩ (fun i ys σ H' _ ⟨_,s',_⟩=>ah.of (s' _ _ e1)) ?_ ?_
  ·rintro i v ys σ H' hv ⟨rfl,s',a0,b0,c0,rfl⟩
   have hi:=(List.getElem?_eq_some_iff.mp hv).1
   obtain⟨t,a,b,n,rfl,ht,hk,_,hn⟩:=Ox fZ hv
   have fl:=Pk jr (eF wd hg xs xs) i
   refine⟨t,_,rfl,ao.of (s' _ _ ht),rfl,_,_,rfl,_,_,rfl,_,_,rfl,rfl,?_⟩
   dsimp only[List.set]
   refine⟨_,rfl,_,_,rfl,rfl,_,rfl,?_⟩
   rw[Qg hk]
   have ef:jr [a,b,(n:Int)]=if 0<a then some ((n:Int)*((n:Int) - 1)/2) else none:=rfl
   rw[ef]
   by_cases z:0<a
   ·rw[decide_eq_true z,if_pos z,List.map_append]
    exact bh ⟨_,rfl,_,rfl,_,_,rfl,rfl,_,_,rfl,rfl,.inl ⟨by omega,by omega⟩,_,_,rfl,rfl,⟨by decide,by decide⟩,by rw[List.length_map,sizeLine_eq];omega,rfl,s',_,_,_,rfl⟩
   ·rw[decide_eq_false z,if_neg z,List.map_append]
    exact aR ⟨by simp,s',_,_,_,rfl⟩
  rintro ys σ H' ⟨rfl,s',a0,b0,c0,rfl⟩ L' Mp
  rw[Paired.length fZ,List.take_length]
  have sL:=Zf (o:=.lst (((eF wd hg xs xs).filterMap jr).map V.int)) Mp
  exact⟨L',_,rfl,ah.of Zc,q _ (s1.trans (s'.trans sL))⟩
theorem O2 {cB cL:Addr}{f:Addr}{fd:FuncData}(F:aJ K "most_hits" "most_hits" rS f fd) (G:Gs mg) (R1:bA P w K mg base 8 "hits_by_move" ["board", "one", "other"] (ja K cB cL)):aE P w K mg base (bE P w) 9 f fd ["board", "one", "other"] (ja K cB cL):=by
 refine F.iF AA (fun vs H Q E h=> ?_) (fun ak A outer s H vs Q E hr h=> ?_)
 ·obtain⟨x,y,z,C,rfl,_⟩:=h
  rfl
 ·obtain⟨x,y,z,C,rfl,bad,q⟩:=h
  refine⟨_,Zk (Zz (EE rfl rfl G.max (Ya YY rfl G.list boot_list (Za (WK (ZZ R1 hr (Za (pv 0) (Za (pv 1) (Za (pv 2) Zb))))) Zb)))),?_⟩
  exact⟨_,rfl,_,rfl,_,rfl,x,y,z,C,rfl,bad,q⟩
theorem O1 {cB cL:Addr}{f:Addr}{fd:FuncData}(F:aJ K "like_many" "like_many" rV f fd) (G:Gs mg) (R1:bA P w K mg base 9 "all_hits" ["board", "lay"] (fU K cB cL)):aE P w K mg base (bE P w) 10 f fd ["board", "lay"] (fU K cB cL):=by
 refine F.iF AB (fun vs H Q E h=> ?_) (fun ak A outer s H vs Q E hr h=> ?_)
 ·obtain⟨x,y,C,rfl,_⟩:=h
  rfl
 ·obtain⟨x,y,C,rfl,bad,q⟩:=h
  refine⟨_,Zk (Zz (Zm Wk rfl G.sum boot_sum (Za (Yk ["right", "up", "many"] 3 [] (Z6 (ZZ R1 hr (Za (pv 0) (Za (pv 1) Zb))))
    (fun C s H fp=>show PG (aT _ _ _ C s H fp) _ (mE K 3 (eU (dc 0) (eU (dc 1) (eU (dc 2) mF)))) from Z7 rfl (Zo (pb 0) (Zo (pb 1) (Zo (pb 2) ZT)))) (fun C s H fp=>Yp (ZX ui (pv 0) Zi (cY _)))
    (fun C s H fp D=>ZK rfl (Zn JO (Zn YL (pv 2) (Zn Z0 (pv 2) Zi)) Zi))) Zb))),?_⟩
  exact⟨_,rfl,_,rfl,x,y,C,rfl,bad,q⟩
def Hd (K:PySem.W.Frag):List V→Hp→VK→Prop:=fun xs H Q=> ∃(p:Addr) (ys:List V),xs=[.ref p]∧(ah K H p ys∨ao K H p ys)∧Q (.int ys.length) H
theorem Ey (xs:List V):∀n,(ck xs n).length≤n*n
 |0=>Nat.zero_le _
 |n+1=>by
  rw[ZN,List.length_append]
  have a:=Ey xs n
  have b:(eK xs n n).length≤n:=by
   unfold eK
   exact Nat.le_trans (List.length_filterMap_le _ _) (by rw[List.length_range];exact Nat.le_refl _)
  rw[Nat.add_mul,Nat.mul_add]
  omega
def jG (g:Int×Int):List Int:=[g.1,g.2]
theorem Px (ys:List V) (t:Nat) (h:t≤ys.length):gD ys none (some (t:Int))=ys.take t:=by
 unfold gD
 rw[HT.vK,HT.o9,List.drop_zero,Nat.sub_zero,Nat.min_eq_left h]
abbrev nG:Stmt:=top 49
def vf:Sp:=fun vs H Q _=> ∃(a:Addr) (xs:List V),vs=[.ref a]∧H a=some (.tup xs)∧mP xs∧xs.length≤12∧∀(H':Hp),ae H H'→Q (.int (jd (fB xs) (fB xs).length)) H'
abbrev vv:Scope:= {kind:=.function,names:=[(".0",.local),("_law_at",.cell),("len",.globalImplicit),("_law_some",.free)],isGenerator:=false,isCoroutine:=false}
theorem AD:br ["_law_lay_here", "_law_some"] ["_law_lay_here"] (ay nG):=⟨rfl,rfl,rfl,by decide+kernel,rfl,by decide+kernel,by decide+kernel⟩
theorem Od {f:Addr}{fd:FuncData}(F:aJ K "_law_like_many" "_law_like_many" nG f fd) (G:Gs mg) (D1:Def P w K mg base 1 "_law_steps" ["_law_lay_here"] (rE K)):aE P w K mg base aH 2 f fd ["_law_lay_here"] vf:=by
 refine F.ok AD (fun vs H Q E h=> ?_) (fun ak A outer s H vs Q E hr h=> ?_)
 ·obtain⟨a,xs,rfl,_⟩:=h
  rfl
 ·obtain⟨a,xs,rfl,ha,ok,len,q⟩:=h
  have hu:=Nat.lt_of_succ_lt (UN hr)
  refine⟨_,Ze (Zp (i:=1) AD.nd rfl (Or.inr rfl) (Yk ["_law_step", "_law_line", "_law_other"] 3 [] (Z6 (Zj D1 hr (Za (pv 0) Zb)))
    (fun C s H fp=>show PG (aT _ _ _ C s H fp) _ (mE K 3 (eU (dc 0) (eU (dc 1) (eU (dc 2) mF)))) from Z7 rfl (Zo (pb 0) (Zo (pb 1) (Zo (pb 2) ZT)))) (fun C s H fp=>YH)
    (fun C s H fp D=>ZK rfl (pv 0))))
   (Zk (Zz (Zm Wk rfl G.sum boot_sum (Za (QZ "_law_at" ["_law_at", "_law_some"] 1 [1] (ZW rfl G.range (Za (Zm Zv rfl G.len boot_len (Za (pv 1) Zb)) Zb))
    (fun C s H fp=>Zy (i:=0) (show(["_law_at", "_law_some"]:List Str).Nodup by decide) rfl (Or.inr rfl)) (fun C s H fp=>YH)
    (fun C' s' H' yf D=>ZK rfl (Zm (show cU (dJ (bD aH P w K mg base ["_law_lay_here", "_law_some"] "_law_like_many" (ay nG) f ak A outer s H E).cX ["_law_at", "_law_some"] vv "_law_at" C' s' H' yf) (.builtin "len") (Hd K) from Zv) rfl G.len boot_len (Za
     (Yk ["_law_one", "_law_some", "_law_at"] 1 [1,0] (show PI (dJ (bD aH P w K mg base ["_law_lay_here", "_law_some"] "_law_like_many" (ay nG) f ak A outer s H E).cX ["_law_at", "_law_some"] vv "_law_at" C' s' H' yf) _ _ (BK K _) from Z6 (YE (show uk (dJ (bD aH P w K mg base ["_law_lay_here", "_law_some"] "_law_like_many" (ay nG) f ak A outer s H E).cX ["_law_at", "_law_some"] vv "_law_at" C' s' H' yf) (AZ K) from Qf) (pv 1) Y2 (Y1 (pv 0)))) (fun C s H fp=>pb 0)
      (fun C s H fp=>Yp (ZX (show bg (aT _ _ _ C s H fp) (compareOp .Eq) (AY K false) from P6 hu) (pv 0) (ZL (show qN (aT _ _ _ C s H fp) (wg K) from ZM) (pv 1) (pv 2) (fun _ _=>rfl)) (cY _)))
      (fun C s H fp D=>ZK rfl (pv 0))) Zb)))) Zb)))),?_⟩
  refine Zq (ZE ⟨_,rfl,a,xs,rfl,ao.of ha,ha,ok,len,fun l H1 rs s1 n1 e1 fZ=> ⟨l,rfl,⟨_,ah.of e1⟩,?_⟩⟩)
  have ll:(ck xs xs.length).length≤144:=Nat.le_trans (Ey xs _) (Nat.le_trans (Nat.mul_le_mul len len) (by decide))
  have lr:rs.length=(ck xs xs.length).length:=Paired.length fZ
  refine Yt (xs:=rs) (fun i ys σ H'=>Paired (eX H') ys (((ck xs xs.length).take i).map fun q=>jG (kT q))∧ae H1 H'∧ys.length≤i∧∃a b c,σ=[a,b,c]) ⟨.nil,ae.refl _,Nat.zero_le _,none,none,none,rfl⟩ (fun i ys σ H' _ ⟨_,s',_⟩=>ah.of (s' _ _ e1)) ?_ ?_
  ·rintro i v ys σ H' hv ⟨pr,s',ln,a0,b0,c0,rfl⟩
   have hi:=(List.getElem?_eq_some_iff.mp hv).1
   obtain⟨k,hk,t,t',rfl,ht,nR⟩:=Y7 fZ hv
   refine⟨t,_,rfl,ao.of (s' _ _ ht),rfl,_,_,rfl,_,_,rfl,_,_,rfl,rfl,?_⟩
   dsimp only[List.set]
   refine⟨_,rfl,by rw[sizeLine_eq];omega,?_,s',by rw[List.length_append];exact Nat.succ_le_succ ln,_,_,_,rfl⟩
   rw[List.take_add_one,hk,List.map_append]
   exact Paired.snoc pr ⟨t',rfl,s' _ _ nR⟩
  rintro ys σ H2 ⟨pr,s2,ln,a0,b0,c0,rfl⟩ L hL
  rw[lr,List.take_length]at pr
  have sL:=Zf (o:=.lst ys) hL
  have eL:upd H2 L (.lst ys) L=some (.lst ys):=Zc
  generalize upd H2 L (HO.lst ys)=H3 at sL eL
  refine Zu ?_
  dsimp only[List.set]
  have je:Paired (eX H3) ys ((fB xs).map jG):=by
   unfold fB
   rw[List.map_map]
   exact Paired.dj pr fun v k h=>JJ h sL
  have ly:ys.length=(fB xs).length:=by rw[Paired.length je,List.length_map]
  have lS:(fB xs).length≤144:=by unfold fB;rw[List.length_map];exact ll
  generalize fB xs=S at je ly lS q
  have at':∀{i:Nat}{v:V},ys[i]? =some v→∃g,S[i]? =some g∧eX H3 v (jG g):=fun {i v} hv=>by
   obtain⟨k,hk,tp⟩:=Y7 je hv
   rw[List.getElem?_map]at hk
   obtain⟨g,hg,rfl⟩:=Option.map_eq_some_iff.mp hk
   exact⟨g,hg,tp⟩
  refine⟨_,rfl,L,ys,rfl,.inl (ah.of eL),_,rfl,by omega,by omega,?_⟩
  refine YN (n:=ys.length) (fun t zs σ H'=> (∃ns:List Int,zs=ns.map V.int∧ns.sum=jd S t∧ns.length=t)∧ae H3 H'∧∃v0,σ=[v0,some (.ref L)]) ⟨⟨[],rfl,rfl,rfl⟩,ae.refl _,none,rfl⟩ ?_ ?_
  ·rintro t zs σ H' ht ⟨⟨ns,rfl,hs,hl⟩,s',v0,rfl⟩
   rw[Int.zero_add]
   refine Zu ?_
   dsimp only[List.set]
   have BR:t<ys.length:=by omega
   obtain⟨g,hg,tg,MV,KC⟩:=at' (List.getElem?_eq_getElem BR)
   refine⟨_,rfl,_,rfl,_,rfl,L,ys,rfl,ah.of (s' _ _ eL),fun p hp=> ⟨p,rfl,⟨_,ah.of Zc⟩,?_⟩⟩
   rw[Px ys t (by omega)]
   have s4:=Zf (o:=.lst (ys.take t)) hp
   have e4:upd H' p (.lst (ys.take t)) p=some (.lst (ys.take t)):=Zc
   generalize upd H' p (HO.lst (ys.take t))=H4 at s4 e4
   refine Yt (xs:=ys.take t) (fun i us σ gG=>us.length=cn (S.take i) g∧us.length≤i∧ae H4 gG∧∃v,σ=[v,some (.ref L),some (.int (t:Int))]) ⟨rfl,Nat.zero_le _,ae.refl _,none,rfl⟩ (fun i us σ gG _ ⟨_,_,dh,_⟩=>ah.of (dh _ _ e4)) ?_ ?_
   ·rintro i v us σ gG hv ⟨hc,lu,dh,v1,rfl⟩
    have hi:i<t:=by
     have:=(List.getElem?_eq_some_iff.mp hv).1
     rw[List.length_take]at this
     omega
    rw[List.getElem?_take_of_lt hi]at hv
    obtain⟨g',xx,Fq,rfl,KA⟩:=at' hv
    refine Zu ?_
    dsimp only[List.set]
    have sA:=s'.trans (s4.trans dh)
    refine⟨_,rfl,_,rfl,_,rfl,L,ys,_,_,rfl,rfl,ah.of (sA _ _ eL),ZS (List.getElem?_eq_getElem BR),Fq,tg,_,_,rfl,MV,sA _ _ KA,sA _ _ KC,rfl,rfl,_,rfl,?_⟩
    have e5:cn (S.take (i+1)) g=cn (S.take i) g+if g'=g then 1 else 0:=by
     rw[List.take_add_one,xx]
     show List.countP _ (S.take i++[g'])=_
     rw[List.countP_append]
     refine congrArg _ ?_
     by_cases z:g'=g
     ·rw[if_pos z];simp[z]
     ·rw[if_neg z];simp[z]
    by_cases z:g'=g
    ·have z':decide ((jG g').map V.int=(jG g).map V.int)=true:=decide_eq_true (by rw[z])
     rw[z']
     exact bh ⟨_,rfl,by rw[sizeLine_eq];omega,by rw[List.length_append,e5,if_pos z,hc];rfl,by rw[List.length_append];exact Nat.succ_le_succ lu,dh,_,rfl⟩
    ·have z':decide ((jG g').map V.int=(jG g).map V.int)=false:=decide_eq_false fun t=>z (by
      unfold jG at t
      simp only[List.map_cons,List.map_nil,List.cons.injEq,V.int.injEq,and_true]at t
      exact Prod.ext t.1 t.2)
     rw[z']
     exact aR ⟨by rw[e5,if_neg z];exact hc,by omega,dh,_,rfl⟩
   rintro us σ H5 ⟨hc,lu,s5,v1,rfl⟩ p2 da
   have s6:=Zf (o:=.lst us) da
   rw[List.length_take,Nat.min_eq_left (by omega)]at hc
   refine⟨p2,us,rfl,.inl (ah.of Zc),by rw[List.length_map,sizeLine_eq];omega,⟨ns++[(us.length:Int)],by rw[List.map_append];rfl,?_,by rw[List.length_append,hl];rfl⟩,s'.trans (s4.trans (s5.trans s6)),_,rfl⟩
   show(ns++[(us.length:Int)]).sum=jd S t+(match S[t]? with |some v=> (cn (S.take t) v:Int) |none=>0)
   rw[hg,List.sum_append,hs,hc]
   simp
  rintro zs σ H6 ⟨⟨ns,rfl,hs,hl⟩,s6,v0,rfl⟩ p6 KZ
  have s7:=Zf (o:=.lst (ns.map V.int)) KZ
  refine⟨p6,ns,rfl,ah.of Zc,?_⟩
  rw[hs,ly]
  exact q _ (s1.trans (s2.trans (sL.trans (s6.trans s7))))
end
def iV (H:Hp) (v:V):Prop:=∃(t:Addr) (a b:Int),v=.ref t∧H t=some (.tup [.int a,.int b])
theorem iV.same {H H':Hp}{v:V}(h:iV H v) (s:ae H H'):iV H' v:=let ⟨t,a,b,e,g⟩:=h;⟨t,a,b,e,s _ _ g⟩
theorem iV.x {H H':Hp}{p:Addr}{zs:List V}{v:V}(h:iV H v) (s:aq p H H') (e:H p=some (.lst zs)):iV H' v:=let ⟨t,a,b,ev,g⟩:=h;⟨t,a,b,ev,s _ _ g (Z4 g e (by intro z;cases z))⟩
def uj (wd hg:Int) (xs ys:List V) (n:Nat) (M:Int):Prop:=(∀i j:Nat,i<n→j< (2*hg - 1).toNat→(aG xs ys (1 - wd+i) (1 - hg+j):Int)≤M)∧(M=0∨∃i j:Nat,i<n∧j< (2*hg - 1).toNat∧M=(aG xs ys (1 - wd+i) (1 - hg+j):Int))
theorem uj.succ {wd hg:Int}{xs ys:List V}{n:Nat}{M N:Int}(h:uj wd hg xs ys n M) (m:N∈M::((List.range (2*hg - 1).toNat).map fun(j:Nat)=> (aG xs ys (1 - wd+n) (1 - hg+j):Int))) (le:∀a∈M::((List.range (2*hg - 1).toNat).map fun(j:Nat)=> (aG xs ys (1 - wd+n) (1 - hg+j):Int)),a≤N):uj wd hg xs ys (n+1) N:=by
 refine⟨fun i j hi hj=> ?_,?_⟩
 ·rcases Nat.lt_succ_iff_lt_or_eq.mp hi with z |rfl
  ·exact Int.le_trans (h.1 i j z hj) (le M List.mem_cons_self)
  ·exact le _ (List.mem_cons_of_mem _ (List.mem_map.mpr ⟨j,List.mem_range.mpr hj,rfl⟩))
 ·rcases List.mem_cons.mp m with rfl |m
  ·rcases h.2 with e |⟨i,j,hi,hj,e⟩
   ·exact .inl e
   ·exact .inr ⟨i,j,by omega,hj,e⟩
  ·obtain⟨j,hj,e⟩:=List.mem_map.mp m
   exact .inr ⟨n,j,by omega,List.mem_range.mp hj,e.symm⟩
section
variable {P:Program}{w:World}{K:PySem.W.Frag}{mg:Str→Option Value}{base:Heap}
abbrev vF:Stmt:=top 50
def uS:Sp:=fun vs H Q _=> ∃(p b l m:Addr) (wd hg:Int) (xs ys:List V),vs=[.ref p,.ref b,.ref l,.ref m]∧bz H p∧fb H (.ref b) wd hg∧H l=some (.tup xs)∧H m=some (.tup ys)∧cI wd hg xs∧cI wd hg ys∧∀H',aq p H H'→bz H' p→Q (.bl true) H'
abbrev HZ:List Str:=["_law_state_here", "_law_board_here", "_law_one", "_law_other", "_law_wide", "_law_high", "_law_peak", "_law_right_here", "_law_far", "_law_goes", "_law_turn", "_law_up"]
theorem gL:br HZ ["_law_state_here", "_law_board_here", "_law_one", "_law_other"] (ay vF):=⟨rfl,rfl,rfl,by decide+kernel,rfl,by decide+kernel,by decide+kernel⟩
theorem Oh {f:Addr}{fd:FuncData}(F:aJ K "_law_right" "_law_right" vF f fd) (G:Gs mg) (zf:Def P w K mg base 1 "_law_take" ["_law_state_here", "_law_many"] i9) (EV:Def P w K mg base 1 "_law_hits" ["_law_one", "_law_other", "_law_right_here", "_law_up"] vg)
  (SF:Def P w K mg base 9 "hits_between" ["board", "one", "other", "right", "up"] rG) (zg:Def P w K mg base 9 "most_hits" ["board", "one", "other"] oV) (zh:Def P w K mg base 10 "like_many" ["board", "lay"] oW) (SE:Def P w K mg base 2 "_law_like_many" ["_law_lay_here"] vf) (S1:Def P w K mg base 1 "_law_same" ["_law_found", "_law_due"] (uR Rl)):
  aE P w K mg base aH 11 f fd ["_law_state_here", "_law_board_here", "_law_one", "_law_other"] uS:=by
 refine F.ok gL (fun vs H Q E h=> ?_) (fun ak A outer s H vs Q E hr h=> ?_)
 ·obtain⟨p,b,l,m,wd,hg,xs,ys,rfl,_⟩:=h
  rfl
 ·obtain⟨p,b,l,m,wd,hg,xs,ys,rfl,st,bd,hl,hm,lx,ly,q⟩:=h
  refine⟨_,Ze (Ju (pv 1) (Z7 rfl (Zo (Zy (i:=4) gL.nd rfl (Or.inl rfl)) (Zo (Zy (i:=5) gL.nd rfl (Or.inl rfl)) ZT))))
   (Ze (Zp (i:=6) gL.nd rfl (Or.inl rfl) Zi)
   (Ze (Yj PassesOwn.never rfl (WJ rfl G.range (Za (Zn Z0 Zi (pv 4)) (Za (pv 4) Zb))) (Zy (i:=7) gL.nd rfl (Or.inr rfl))
    (Zk (Zp (i:=6) gL.nd rfl (Or.inl rfl) (Zm QC rfl G.max boot_max (Za (Zn YM (ZB (Za (pv 6) Zb))
     (Yk ["_law_up", "_law_one", "_law_other", "_law_right_here"] 1 [2,3,7] (WJ rfl G.range (Za (Zn Z0 Zi (pv 5)) (Za (pv 5) Zb))) (fun C s H fp=>pb 0) (fun C s H fp=>YH)
      (fun C s H fp D=>ZK rfl (Zj EV (hr.mono (by decide)) (Za (pv 1) (Za (pv 2) (Za (pv 3) (Za (pv 0) Zb)))))))) Zb)))))
   (Ze (Z2 (PW.pt (DR (Yi (Z3 (Zj S1 (hr.mono (by decide)) (Za (Zj zg (hr.mono (by decide)) (Za (pv 1) (Za (pv 2) (Za (pv 3) Zb)))) (Za (pv 6) Zb)))))
    (Ed (Yi (Z3 (Zj S1 (hr.mono (by decide)) (Za (Zj zh hr (Za (pv 1) (Za (pv 2) Zb))) (Za (Zj SE (hr.mono (by decide)) (Za (pv 2) Zb)) Zb)))))))) ZC ZH)
   (Ze (Zp (i:=8) gL.nd rfl (Or.inl rfl) (Zn ZU (Zn W7 Zi Zi) (Zj zf (hr.mono (by decide)) (Za (pv 0) (Za (Zn W7 Zi Zi) Zb)))))
   (Ze (Zp (i:=9) gL.nd rfl (Or.inl rfl) (ZB (Za (ZA (Za Zi (Za Zi Zb))) (Za (ZA (Za (pv 8) (Za Zi Zb))) (Za (ZA (Za Zi (Za (Zn Z0 Zi (pv 8)) Zb)))
    (Za (ZA (Za (Zn Z0 Zi (pv 8)) (Za Zi Zb))) (Za (ZA (Za Zi (Za (pv 8) Zb))) (Za (ZA (Za (Zn Z0 Zi (pv 4)) (Za (Zn Z0 (pv 5) Zi) Zb))) Zb))))))))
   (Ze (Yj PassesOwn.never rfl (ZW rfl G.range (Za Zi Zb)) (Zy (i:=10) gL.nd rfl (Or.inl rfl))
    (Zk (ZG (Yv PySem.F.plainAttrs_list PySem.F.slot_list_append PySem.F.type_list_append ZO (pv 9) (Za (ZA
     (Za (Zn Z0 (Zj zf (hr.mono (by decide)) (Za (pv 0) (Za (Zn ZU (Zn YL Zi (pv 4)) Zi) Zb))) (pv 4)) (Za (Zn Z0 (Zj zf (hr.mono (by decide)) (Za (pv 0) (Za (Zn ZU (Zn YL Zi (pv 5)) Zi) Zb))) (pv 5)) Zb))) Zb)))))
   (Ze (Yj PassesOwn.never rfl (Z6 (pv 9)) (Z7 rfl (Zo (Zy (i:=7) gL.nd rfl (Or.inr rfl)) (Zo (Zy (i:=11) gL.nd rfl (Or.inl rfl)) ZT)))
    (Zk (Z2 (Yi (Z3 (Zj S1 (hr.mono (by decide)) (Za (Zj SF (hr.mono (by decide)) (Za (pv 1) (Za (pv 2) (Za (pv 3) (Za (pv 7) (Za (pv 11) Zb)))))) (Za (Zj EV (hr.mono (by decide)) (Za (pv 2) (Za (pv 3) (Za (pv 7) (Za (pv 11) Zb))))) Zb))))) ZC ZH)))
   (Zk (Zz WL))))))))),?_⟩
  obtain⟨b',eb,hb⟩:=ZI bd.1
  cases eb
  obtain⟨_,w1,w2,g1,g2⟩:=id bd
  obtain⟨u0,v0,ep,_⟩:=id st
  have Bo:l≠p:=Z4 hl ep (by intro z;cases z)
  have Bm:m≠p:=Z4 hm ep (by intro z;cases z)
  have Bu:b≠p:=Z4 hb ep (by intro z;cases z)
  have BF:∀{H':Hp},H' b=some (.tup [.int wd,.int hg])→H' l=some (.tup xs)→cf H' (.ref b) (.ref l) wd hg xs:=fun h1 h2=> ⟨⟨Zr h1,bd.2⟩,Zr h2,lx⟩
  have BE:∀{H':Hp},H' b=some (.tup [.int wd,.int hg])→H' m=some (.tup ys)→cf H' (.ref b) (.ref m) wd hg ys:=fun h1 h2=> ⟨⟨Zr h1,bd.2⟩,Zr h2,ly⟩
  have Ts:=lx.len
  have Tr:=ly.len
  have wj:=lx.ok
  have Bi:=ly.ok
  refine Zq (ZE ⟨_,rfl,b,_,rfl,ao.of hb,rfl,_,_,rfl,_,_,rfl,rfl,?_⟩)
  dsimp only[List.set]
  refine Zq (ZE (Zu ?_))
  dsimp only[List.set]
  refine Zq ⟨_,rfl,_,_,rfl,rfl,_,rfl,1 - wd,wd,rfl,⟨by omega,by omega,by omega,by omega⟩,?_⟩
  refine Yc (lo:=1 - wd) (n:=(wd - (1 - wd)).toNat) (fun i σ H'=> ∃(M:Int) (v7:Option V),σ=[some (.ref p),some (.ref b),some (.ref l),some (.ref m),some (.int wd),some (.int hg),some (.int M),v7,none,none,none,none]∧ae H H'∧uj wd hg xs ys i M) ⟨0,none,rfl,ae.refl _,(fun i j hi=>absurd hi (Nat.not_lt_zero _)),.inl rfl⟩ ?_ ?_
  ·rintro i σ H1 hi ⟨M,v7,rfl,s1,tp⟩
   refine Zu ?_
   dsimp only[List.set]
   refine ZE ⟨_,rfl,(by show 1≤sizeLine;decide),fun L1 ig=> ?_⟩
   have u1:=Zf (o:=.lst [V.int M]) ig
   have e1:upd H1 L1 (.lst [V.int M]) L1=some (.lst [V.int M]):=Zc
   generalize upd H1 L1 (HO.lst [V.int M])=H2 at u1 e1
   refine⟨_,rfl,_,_,rfl,rfl,_,rfl,1 - hg,hg,rfl,⟨by omega,by omega,by omega,by omega⟩,?_⟩
   refine YN (lo:=1 - hg) (n:=(hg - (1 - hg)).toNat) (fun j zs σ H'=>zs=((List.range j).map fun(k:Nat)=> (aG xs ys (1 - wd+i) (1 - hg+k):Int)).map V.int∧ae H2 H'∧∃v0,σ=[v0,some (.ref l),some (.ref m),some (.int (1 - wd+i))]) ⟨rfl,ae.refl _,none,rfl⟩ ?_ ?_
   ·rintro j zs σ H' hj ⟨rfl,s',v0,rfl⟩
    refine Zu ?_
    dsimp only[List.set]
    have sA:=s1.trans (u1.trans s')
    refine⟨_,rfl,_,rfl,_,rfl,_,rfl,l,m,xs,ys,_,_,rfl,sA _ _ hl,sA _ _ hm,wj,Bi,by omega,by rw[List.length_map,List.length_map,List.length_range,sizeLine_eq];omega,?_,s',_,rfl⟩
    rw[List.range_succ,List.map_append,List.map_append]
    rfl
   rintro zs σ H3 ⟨rfl,s3,v0,rfl⟩ L3 mz
   have u3:=Zf (o:=.lst (((List.range (hg - (1 - hg)).toNat).map fun(k:Nat)=> (aG xs ys (1 - wd+i) (1 - hg+k):Int)).map V.int)) mz
   have e3:upd H3 L3 (.lst (((List.range (hg - (1 - hg)).toNat).map fun(k:Nat)=> (aG xs ys (1 - wd+i) (1 - hg+k):Int)).map V.int)) L3=some (.lst (((List.range (hg - (1 - hg)).toNat).map fun(k:Nat)=> (aG xs ys (1 - wd+i) (1 - hg+k):Int)).map V.int)):=Zc
   generalize upd H3 L3 (HO.lst (((List.range (hg - (1 - hg)).toNat).map fun(k:Nat)=> (aG xs ys (1 - wd+i) (1 - hg+k):Int)).map V.int))=H4 at u3 e3
   refine⟨L1,L3,[V.int M],_,rfl,rfl,(s3.trans u3) _ _ e1,e3,(by rw[List.length_map,List.length_map,List.length_range,sizeLine_eq];show 1+_≤_;omega),fun L4 iP=> ?_⟩
   have u4:=Zf (o:=.lst ([V.int M]++((List.range (hg - (1 - hg)).toNat).map fun(k:Nat)=> (aG xs ys (1 - wd+i) (1 - hg+k):Int)).map V.int)) iP
   refine⟨L4,M::((List.range (hg - (1 - hg)).toNat).map fun(k:Nat)=> (aG xs ys (1 - wd+i) (1 - hg+k):Int)),rfl,ah.of Zc,List.cons_ne_nil _ _,fun N hN le=>Zu ?_⟩
   dsimp only[List.set]
   rw[show(hg - (1 - hg)).toNat=(2*hg - 1).toNat by omega]at hN le
   exact⟨N,_,rfl,s1.trans (u1.trans (s3.trans (u3.trans u4))),tp.succ hN le⟩
  rintro σ H1 ⟨M,v7,rfl,s1,tp⟩
  try dsimp only
  have top:ir wd hg xs ys M:=by
   rw[show(wd - (1 - wd)).toNat=(2*wd - 1).toNat by omega]at tp
   exact tp
  have la:∀{H':Hp},ae H H'→cf H' (.ref b) (.ref l) wd hg xs:=fun s'=>BF (s' _ _ hb) (s' _ _ hl)
  have lc:∀{H':Hp},ae H H'→cf H' (.ref b) (.ref m) wd hg ys:=fun s'=>BE (s' _ _ hb) (s' _ _ hm)
  refine Zq ⟨_,rfl,_,rfl,_,rfl,.ref b,.ref l,.ref m,wd,hg,xs,ys,rfl,la s1,lc s1,fun M' H2 s2 t2=> ⟨_,rfl,_,_,rfl,.inl ⟨_,rfl,by rw[t2.uniq top]⟩,fun H3 s3=> ⟨true,rfl,aR ?_⟩⟩⟩
  have nH:=s1.trans (s2.trans s3)
  refine⟨_,rfl,_,rfl,.ref b,.ref l,wd,hg,xs,rfl,la nH,fun H4 s4=> ⟨_,rfl,l,xs,rfl,(nH.trans s4) _ _ hl,wj,by omega,fun H5 s5=> ⟨_,_,rfl,.inl ⟨_,rfl,by rw[PR lx w1 g1]⟩,fun H6 s6=> ⟨true,rfl,aR (YZ ?_)⟩⟩⟩⟩
  try dsimp only
  have pe:=nH.trans (s4.trans (s5.trans s6))
  have gu:=st.same pe
  refine Zq (ZE ⟨_,_,rfl,rfl,⟨by decide,by decide,by decide⟩,_,rfl,_,_,rfl,rfl,⟨by decide,by decide,by decide⟩,p,10^(9:Int).toNat,rfl,gu,by decide,by decide,fun rf of Tc Tb nu=> ⟨_,_,rfl,rfl,Zu ?_⟩⟩)
  dsimp only[List.set]
  have x7:aq p H6 (upd H6 p of):=aq.upd
  generalize upd H6 p of=H7 at nu x7
  generalize (10:Int)^(39:Int).toNat+rf=iR
  have xO:=x7 _ _ (pe _ _ hb) Bu
  have TN:=x7 _ _ (pe _ _ hl) Bo
  have Co:=x7 _ _ (pe _ _ hm) Bm
  have zM:aq p H H7:=fun b u h n=>x7 _ _ (pe _ _ h) n
  have kS:∀{H:Hp}{t:Addr} (a b:Int),H t=none→ae H (upd H t (.tup [V.int a,V.int b]))∧upd H t (.tup [V.int a,V.int b]) t=some (.tup [V.int a,V.int b]):=fun a b h=> ⟨Zf h,Zc⟩
  refine Zq (ZE ⟨(by show 2≤sizeLine;decide),fun t1 h1=> ?_⟩)
  obtain⟨y1,f1⟩:=kS 0 0 h1
  generalize upd H7 t1 (HO.tup [V.int 0,V.int 0])=G1 at y1 f1
  refine⟨_,rfl,(by show 2≤sizeLine;decide),fun t2 h2=> ?_⟩
  obtain⟨y2,f2⟩:=kS iR 0 h2
  generalize upd G1 t2 (HO.tup [V.int iR,V.int 0])=G2 at y2 f2
  refine⟨_,rfl,_,_,rfl,rfl,(by show 2≤sizeLine;decide),fun t3 h3=> ?_⟩
  obtain⟨y3,f3⟩:=kS 0 (0 - iR) h3
  generalize upd G2 t3 (HO.tup [V.int 0,V.int (0 - iR)])=G3 at y3 f3
  refine⟨_,rfl,_,_,rfl,rfl,(by show 2≤sizeLine;decide),fun t4 h4=> ?_⟩
  obtain⟨y4,f4⟩:=kS (0 - iR) 0 h4
  generalize upd G3 t4 (HO.tup [V.int (0 - iR),V.int 0])=G4 at y4 f4
  refine⟨_,rfl,(by show 2≤sizeLine;decide),fun t5 h5=> ?_⟩
  obtain⟨y5,f5⟩:=kS 0 iR h5
  generalize upd G4 t5 (HO.tup [V.int 0,V.int iR])=G5 at y5 f5
  refine⟨_,rfl,_,_,rfl,rfl,_,rfl,_,_,rfl,rfl,(by show 2≤sizeLine;decide),fun t6 h6=> ?_⟩
  obtain⟨y6,f6⟩:=kS (1 - wd) (hg - 1) h6
  generalize upd G5 t6 (HO.tup [V.int (1 - wd),V.int (hg - 1)])=G6 at y6 f6
  refine⟨(by show 6≤sizeLine;decide),fun A1 qB=>Zu ?_⟩
  dsimp only[List.set]
  have zF:=y5.trans y6
  have zG:=y4.trans zF
  have zH:=y3.trans zG
  have qV:=y2.trans zH
  have zY:∀v∈[V.ref t1,V.ref t2,V.ref t3,V.ref t4,V.ref t5,V.ref t6],iV G6 v:=fun v hv=>by
   simp only[List.mem_cons,List.not_mem_nil,or_false]at hv
   rcases hv with rfl |rfl |rfl |rfl |rfl |rfl
   ·exact⟨t1,_,_,rfl,qV _ _ f1⟩
   ·exact⟨t2,_,_,rfl,zH _ _ f2⟩
   ·exact⟨t3,_,_,rfl,zG _ _ f3⟩
   ·exact⟨t4,_,_,rfl,zF _ _ f4⟩
   ·exact⟨t5,_,_,rfl,y6 _ _ f5⟩
   ·exact⟨t6,_,_,rfl,f6⟩
  generalize xw:[V.ref t1,V.ref t2,V.ref t3,V.ref t4,V.ref t5,V.ref t6]=gs at zY ⊢
  have Iz:gs.length=6:=by rw[←xw];rfl
  have y8:=Zf (o:=.lst gs) qB
  have f8:upd G6 A1 (.lst gs) A1=some (.lst gs):=Zc
  generalize upd G6 A1 (HO.lst gs)=G8 at y8 f8
  have zJ:=y1.trans (qV.trans y8)
  have rn:=nu.same zJ
  have sv:A1≠p:=by
   obtain⟨u,v,e,_⟩:=id nu
   exact fun z=>by rw[z,(y1.trans qV) _ _ e]at qB;cases qB
  have Fc:aq p H G8:=fun b u h n=>zJ _ _ (zM _ _ h n)
  have MA:H A1=none:=by
   cases h:H A1 with
   |none=>rfl
   |some u=>rw[(y1.trans qV) _ _ (zM _ _ h sv)]at qB;cases qB
  refine Zq ⟨6,rfl,by decide,by decide,?_⟩
  refine Yc (fun j σ H'=> ∃(v10:Option V) (ko:List V),σ=[some (.ref p),some (.ref b),some (.ref l),some (.ref m),some (.int wd),some (.int hg),some (.int M),v7,some (.int iR),some (.ref A1),v10,none]∧aq p H H'∧bz H' p∧H' A1=some (.lst ko)∧(∀v∈ko,iV H' v)∧ko.length=6+j) ⟨none,gs,rfl,Fc,rn,f8,(fun v hv=> (zY v hv).same y8),by rw[Iz]⟩ ?_ ?_
  ·rintro j σ H9 hj ⟨v10,ko,rfl,x9,cP,e9,tw9,wI⟩
   refine Zu ?_
   dsimp only[List.set]
   refine⟨_,rfl,.inl ⟨rfl,_,ah.of e9⟩,_,rfl,_,rfl,_,_,rfl,rfl,.inl ⟨by decide,by decide⟩,_,_,rfl,rfl,p,2*wd+1,rfl,cP,by omega,by omega,fun ra oa Tg Tf rp=> ?_⟩
   have xa:aq p H9 (upd H9 p oa):=aq.upd
   obtain⟨u9,v9,qE,_⟩:=id cP
   generalize upd H9 p oa=kN at rp xa
   refine⟨_,rfl,_,_,rfl,rfl,_,rfl,_,rfl,_,_,rfl,rfl,.inl ⟨by decide,by decide⟩,_,_,rfl,rfl,p,2*hg+1,rfl,rp,by omega,by omega,fun rb ob Te Td Am=> ?_⟩
   have xb:aq p kN (upd kN p ob):=aq.upd
   obtain⟨zV,SV,M3,_⟩:=id rp
   generalize upd kN p ob=mT at Am xb
   refine⟨_,rfl,_,_,rfl,rfl,(by show 2≤sizeLine;decide),fun t ht=> ?_⟩
   obtain⟨yt,ft⟩:=kS (ra - wd) (rb - hg) ht
   generalize upd mT t (HO.tup [V.int (ra - wd),V.int (rb - hg)])=zd at yt ft
   have e12:=yt _ _ (xb _ _ (xa _ _ e9 sv) sv)
   refine⟨A1,ko,.ref t,rfl,rfl,e12,by rw[wI,sizeLine_eq];omega,?_⟩
   have Fb:aq p H zd:=fun b u h n=>yt _ _ (xb _ _ (xa _ _ (x9 _ _ h n) n) n)
   have xL:aq A1 zd (upd zd A1 (.lst (ko++[V.ref t]))):=aq.upd
   obtain⟨Fm,Fg,MZ,Hi⟩:=Am.same yt
   refine⟨_,_,rfl,?_,⟨Fm,Fg,by rw[Zh (Ne.symm sv)];exact MZ,Hi⟩,Zc,fun v hv=> ?_,by rw[List.length_append,wI];rfl⟩
   ·intro b u h n
    rw[Zh (Zd h MA)]
    exact Fb _ _ h n
   ·rcases List.mem_append.mp hv with h |h
    ·have Gk:=(tw9 v h).x xa qE
     have Gj:=Gk.x xb M3
     exact(Gj.same yt).x xL e12
    ·rw[List.mem_singleton.mp h]
     exact iV.x ⟨t,_,_,rfl,ft⟩ xL e12
  rintro σ H9 ⟨v10,ko,rfl,x9,cP,e9,tw9,wI⟩
  try dsimp only
  have CJ:=x9 _ _ hb Bu
  have Cu:=x9 _ _ hl Bo
  have Cn:=x9 _ _ hm Bm
  refine Zq ⟨_,rfl,A1,rfl,⟨_,ah.of e9⟩,?_⟩
  refine YV (xs:=ko) (fun i σ H'=> ∃v7 v11,σ=[some (.ref p),some (.ref b),some (.ref l),some (.ref m),some (.int wd),some (.int hg),some (.int M),v7,some (.int iR),some (.ref A1),v10,v11]∧ae H9 H') ⟨_,_,rfl,ae.refl _⟩ (fun i σ H' _ ⟨_,_,_,s⟩=>ah.of (s _ _ e9)) ?_ ?_
  ·rintro i v σ H' hv ⟨Ff,v11,rfl,s'⟩
   obtain⟨t,a,c,rfl,ht⟩:=tw9 v (List.mem_of_getElem? hv)
   refine⟨t,_,rfl,ao.of (s' _ _ ht),rfl,_,_,rfl,_,_,rfl,rfl,?_⟩
   dsimp only[List.set]
   refine⟨_,rfl,_,rfl,_,rfl,_,rfl,_,rfl,.ref b,.ref l,.ref m,wd,hg,xs,ys,a,c,rfl,BF (s' _ _ CJ) (s' _ _ Cu),BE (s' _ _ CJ) (s' _ _ Cn),fun Vf vY=> ?_⟩
   refine⟨_,rfl,_,rfl,_,rfl,_,rfl,l,m,xs,ys,a,c,rfl,(s'.trans vY) _ _ Cu,(s'.trans vY) _ _ Cn,wj,Bi,by omega,?_⟩
   exact⟨_,_,rfl,.inl ⟨_,rfl,rfl⟩,fun H5 s5=> ⟨true,rfl,aR (YZ ⟨_,_,rfl,s'.trans (vY.trans s5)⟩)⟩⟩
  ·rintro σ H' ⟨Ff,v11,rfl,s'⟩
   exact q H' (fun b u h n=>s' _ _ (x9 _ _ h n)) (cP.same s')
end
end U
namespace L2
open PySem PySem.Spec PyProof.Rows SeqAt
section
variable {X:Cx}
def gq (H:Hp) (v:V) (k:List Int):Prop:=∃l:Addr,v=.ref l∧H l=some (.lst (k.map V.int))
theorem gq.same {H H':Hp}{v:V}{k:List Int}(h:gq H v k) (s:ae H H'):gq H' v k:=let ⟨l,e,h1⟩:=h;⟨l,e,s _ _ h1⟩
theorem N6 {pins:List (Addr×Obj)}{σ:St}{H:Hp}{s:Shared}{x y:V}{u v:Value}{k:List Int}(A:Around) (hu:A.units<cLine) (I:Inv X pins σ H s) (hx:gq H x k) (hy:gq H y k) (ru:RelV x u) (rv:RelV y v):EqAt A s u v true:=by
 obtain⟨a,rfl,ha⟩:=hx
 obtain⟨b,rfl,hb⟩:=hy
 cases ru
 cases rv
 by_cases CN:a=b
 ·subst CN
  exact EqAt.same _
 ·obtain⟨us,r1,p1,_⟩:=I.list (ah.of ha)
  obtain⟨vs,r2,p2,_⟩:=I.list (ah.of hb)
  have l1:=r1.length
  have l2:=r2.length
  have z:=RcAt.lists (A:=A) (s:=s) (e:=fun j=>k.getD j 0==k.getD j 0) p1.isList p2.isList (by simp;omega) hu (fun j h1 h2=>by
   obtain⟨t1,e1⟩:=WQ r1 j (by simpa using h1)
   obtain⟨t2,e2⟩:=WQ r2 j (by simpa using h2)
   rw[show us.toArray[j]=us[j]'(by simpa using h1) by simp,show vs.toArray[j]=vs[j]'(by simpa using h2) by simp,e1,e2]
   exact EqAt.int_int _ _ _ _)
  have e:(List.range us.toArray.size).all (fun j=>k.getD j 0==k.getD j 0)=true:=by simp
  rw[e]at z
  exact EqAt.of_refs CN z
def G0 (K:PySem.W.Frag) (r:Bool):R2:=fun x y H Q=> ∃(a b:Addr) (xs ys:List V) (ks:List (List Int)),x=.ref a∧y=.ref b∧ah K H a xs∧ah K H b ys∧Paired (gq H) xs ks∧Paired (gq H) ys ks∧Q (.bl r) H
theorem OR {pins:List (Addr×Obj)}{σ:St}{H:Hp}{s:Shared}{xs ys:List V}{ks:List (List Int)}{us vs:List Value}(A:Around) (hu:A.units<cLine) (I:Inv X pins σ H s) (p1:Paired (gq H) xs ks) (p2:Paired (gq H) ys ks) (r1:Vals xs us) (r2:Vals ys vs):∀j (h1:j<us.toArray.size) (h2:j<vs.toArray.size),EqAt A s us.toArray[j] vs.toArray[j] true:=fun j h1 h2=>by
 have l1:=r1.length
 have l2:=r2.length
 have k1:j<xs.length:=by simp at h1;omega
 have k2:j<ys.length:=by simp at h2;omega
 obtain⟨k,hk,e⟩:=Y7 p1 (List.getElem?_eq_getElem k1)
 obtain⟨k',aY,e'⟩:=Y7 p2 (List.getElem?_eq_getElem k2)
 rw[hk]at aY
 cases aY
 obtain⟨u,wY,ru⟩:=r1.get (List.getElem?_eq_getElem k1)
 obtain⟨v,Kt,rv⟩:=r2.get (List.getElem?_eq_getElem k2)
 have e1:us.toArray[j]=u:=by simpa using (List.getElem?_eq_some_iff.mp wY).2
 have e2:vs.toArray[j]=v:=by simpa using (List.getElem?_eq_some_iff.mp Kt).2
 rw[e1,e2]
 exact N6 A hu I e e' ru rv
theorem P7 (hu:X.A.units+1<cLine):bg X (compareOp .NotEq) (G0 X.K false):=by
 intro pins s σ H x y u v Q I rx ry h
 obtain⟨a,b,xs,ys,ks,rfl,rfl,ha,hb,p1,p2,q⟩:=h
 cases rx
 cases ry
 obtain⟨us,r1,l1,_⟩:=I.list ha
 obtain⟨vs,r2,l2,_⟩:=I.list hb
 have hsz:us.toArray.size=vs.toArray.size:=by have:=r1.length;have:=r2.length;have:=Paired.length p1;have:=Paired.length p2;simp at *;omega
 refine RcNeAt.lists (e:=fun _=>true) l1.isList l2.isList hsz (Nat.lt_of_succ_lt hu) (OR X.A.in1 hu I p1 p2 r1 r2) _ _ _ _ ?_
 have e:(List.range us.toArray.size).all (fun _=>true)=true:=by simp
 rw[e]
 exact⟨.bl false,H,I,rfl,q⟩
end
end L2
namespace U
open PySem L2 PyProof.Rows PyProof.Rows.fP
theorem jc.x {p:Addr}{H H':Hp}{y:V}(h:jc H y) (s:aq p H H') (st:bz H p):jc H' y:=by
 obtain⟨u,v,e,_⟩:=st
 rcases h with h |⟨b,z,rfl,h |h,hz⟩
 ·exact .inl h
 ·exact .inr ⟨b,z,rfl,.inl (s _ _ h fun q=>by rw[q,e]at h;cases h),hz⟩
 ·exact .inr ⟨b,z,rfl,.inr (s _ _ h fun q=>by rw[q,e]at h;cases h),hz⟩
theorem kF.x {p:Addr}{H H':Hp}{v:V}(h:kF p H v) (s:aq p H H') (st:bz H p):kF p H' v:=by
 have aa:=id st
 obtain⟨u,w,e,_⟩:=st
 rcases h with h |⟨a,xs,rfl,hl,h |⟨n,h⟩,hy⟩ |⟨a,rfl,h⟩
 ·exact .inl h
 ·exact .inr (.inl ⟨a,xs,rfl,hl,.inl (s _ _ h fun q=>by rw[q,e]at h;cases h),fun y m=> (hy y m).x s aa⟩)
 ·exact .inr (.inl ⟨a,xs,rfl,hl,.inr ⟨n,s _ _ h n⟩,fun y m=> (hy y m).x s aa⟩)
 ·exact .inr (.inr ⟨a,rfl,s _ _ h fun q=>by rw[q,e]at h;cases h⟩)
section
variable {K:PySem.W.Frag}
def Th (K:PySem.W.Frag) (p:Addr) (H:Hp) (v:V):Prop:=fq K H v∧kF p H v
theorem Th.x {p:Addr}{H H':Hp}{v:V}(t:Th K p H v) (s:aq p H H') (st:bz H p):Th K p H' v:=by
 have h2:=t.2.x s st
 obtain⟨u,w,e,_⟩:=id st
 refine⟨yQ t.1 s ⟨fun z=> ?_,fun xs ex y hy z=> ?_⟩,h2⟩
 ·subst z
  rcases t.2 with h |⟨a,xs,z,_,h |⟨n,_⟩,_⟩ |⟨a,z,h⟩
  ·cases h
  ·cases z;rw[e]at h;cases h
  ·cases z;exact n rfl
  ·cases z;rw[e]at h;cases h
 ·subst z
  rcases t.2 with h |⟨a,ys,rfl,_,h,lT⟩ |⟨a,rfl,h⟩
  ·cases v with
   |ref a=>cases h
   |_=>cases ex
  ·rcases h with h |⟨_,h⟩
   ·rw[Zr h]at ex
    cases ex
    rcases lT _ hy with h' |⟨b,z,hz,h' |h',_⟩
    ·cases h'
    ·cases hz;rw[e]at h';cases h'
    ·cases hz;rw[e]at h';cases h'
   ·have e0:aZ H (.ref a)=none:=by rw[Zx,h];rfl
    rw[e0]at ex;cases ex
  ·have e0:aZ H (.ref a)=none:=by rw[Zx,h];rfl
   rw[e0]at ex;cases ex
theorem bB.x {p:Addr}{wd hg:Int}{H H':Hp}{v:V}(b:bB K p wd hg H v) (s:aq p H H') (st:bz H p):bB K p wd hg H' v:=by
 have t:Th K p H v:=⟨b.1.1,b.2⟩
 have t':=t.x s st
 obtain⟨u,w,e,_⟩:=id st
 refine⟨⟨t'.1,?_⟩,t'.2⟩
 rw[Je b.1.1.1 s fun z=> ?_]
 ·exact b.1.2
 ·subst z
  rcases b.2 with h |⟨a,xs,z,_,h |⟨n,_⟩,_⟩ |⟨a,z,h⟩
  ·cases h
  ·cases z;rw[e]at h;cases h
  ·cases z;exact n rfl
  ·cases z;rw[e]at h;cases h
theorem UZ {p:Addr}{H H':Hp}{v:V}(b:gH K H v∧iX p H v) (s:aq p H H'):gH K H' v∧iX p H' v:=⟨DY b.1 s b.2,Qv b.1.1.1 s b.2.1 b.2⟩
end
theorem U8 {p L:Addr}{H H1:Hp}{o:HO}(x:aq p H H1) (n:H L=none):aq p H (upd H1 L o):=fun b u h nb=>by
 rw[Zh (Zd h n)]
 exact x b u h nb
section
variable {Y:Cx}{cS fR:Addr}{kf:Nat}
theorem Q9 {pins:List (Addr×Obj)}{σ:L2.St}{H:Hp}{s:Shared}{f C:Addr}{iC:Nat}{q:Str}{params:Arguments}{bd:Expr}{scope:Scope}{cl:List (Str×Addr)}{Q:VK}{N:List Str}{ws:List V}{Pre:Hp→Prop}
  (hR:∀b',Def Y.prog Y.w Y.K Y.mg b' (kf+2) "_law_refused" ["_law_call"] (nA Y.prog Y.w Y.K Y.mg b' cS (kf+1))) (room:bR (kf+2) Y.A) (mR:Y.mg "_law_refused" =some (.ref fR))
  (LS:yZ params bd scope N) (I:Inv Y pins σ H s) (hl:jB H f q params bd scope cl) (hlen:ws.length=N.length) (mh:∀(i:Nat) x v,N[i]? =some x→ws[i]? =some v→uw Y cl x v H s) (nU:∀z c,cl.lookup z=some c→(z,NameKind.free)∈scope.names)
  (Lv:∀a b c,cl.lookup a=some c→cl.lookup b=some c→a=b) (hi:iC=0∨iC=1∨iC=2) (M:mS Y.K Y.mg cS C iC) (bad:jD Y kf C f q bd scope cl N ws Pre) (pre:Pre H) (hq:∀l H',ae H H'→H l=none→H' l=some (.lst [.int (iC:Int)])→Q (.ref l) H'):
  wpAny (model Y.prog Y.w) Y.A (call (.ref fR) [.ref f]) (EP Y pins σ Q) Y.xe s:=by
 obtain⟨bf,st,e0,bU⟩:=I.rebase
 obtain⟨pm,cc,ct,hf,hc⟩:=hl
 have T:Cells bf scope cl N ws:=⟨hlen,fun u hu=>by
   rcases hu with hu |hu
   ·exact absurd rfl (LS.ji _ (PySem.mem_of_lookup hu))
   ·exact LS.only _ (PySem.mem_of_lookup hu) rfl,fun i a v h1 h2=>by
   obtain⟨ax,ux,lx,⟨ox,gx,dx⟩,rx,nx,fx⟩:=mh i a v h1 h2
   exact⟨LS.free a (List.mem_of_getElem? h1),ax,ux,lx,⟨ox,bU _ _ gx nx fx,dx⟩,rx⟩,fun u c h=>LS.only _ (nU u c h) rfl,Lv⟩
 have FL:aE Y.prog Y.w Y.K Y.mg bf (bE Y.prog Y.w) (kf+1) f (PySem.W.kla_fn "<lambda>" q params bd scope cl pm (.ref cc) ct) []
   (fun vs H2 Q2 E2=> (vs=[]∧H2 f=some (nM f q params bd scope cl pm cc ct)∧H2 cc=some (gE cc q))∧Pre H2∧∀e H',ae H2 H'→E2 (.ref e) (some C) H'):=by
  refine OL (k:=kf) T LS.kind LS.co LS.gen LS.ji (fun vs H2 Q2 E2 h=>h.1) fun A outer s2 H2 Q2 E2 eQ h=> ?_
  exact bad bf cc A outer s2 H2 Q2 E2 eQ h.2.1 h.2.2
 obtain⟨TY,MR,FR,cw,hk,hb⟩:=hR bf
 rw[mR]at cw
 cases cw
 refine wpAny_call (codeAny_mono (FR.run Y.A Y.stack s H ⟨[.ref f],[]⟩ [.ref f] [.ref f] Q E0 room e0 (hb s [.ref f] I.bW rfl) (.cons rfl .nil)
  ⟨f,_,_,C,iC,rfl,hi,M,fun h ag=> ?_,FL,fun s2=> .of_eq (LS.bind q cl pm cc ct),fun Q' E' hE=> ⟨⟨rfl,hf,hc⟩,pre,hE⟩,hq⟩) fun r s' h=> ?_)
 ·have z:h.get? f=some _:=(ag f _ hf).1
  exact⟨_,_,_,_,z⟩
 ·cases r with
  |error e=>exact h.elim
  |ok fl=>
   cases fl with
   |ret u=>exact I.after h
   |next=>exact False.elim h
   |brk=>exact False.elim h
   |cont=>exact False.elim h
end
section
variable {X:Cx}{cS c P fR:Addr}{kf:Nat}
theorem Pp {pins:List (Addr×Obj)}{σ:L2.St}{H:Hp}{s:Shared}{N':List Str}{scope AF:Scope}{C:Addr}{s0:Shared}{H0:Hp}{fp:List Addr}{x:Str}{v:V}{p0:List (Addr×Obj)}{jE:L2.St}(I0:Inv X p0 jE H0 s0) (hf:∀b∈fp,bI X p0 H0 b) (c0:uw X (bQ AF X.env) x v H0 s0) (hk:X.env.scope.names.lookup x=some .cell)
  (J:Inv (aT X N' scope C s0 H0 fp) pins σ H s):uw (aT X N' scope C s0 H0 fp) (bQ AF X.env) x v H s:=by
 obtain⟨c,u,h1,⟨o,h2,h3⟩,h4,h5,h6⟩:=c0
 have u0:Un (aS X.stack) fp H0 H s0.heap s.heap:=J.base
 have Bq:c∉fp:=fun hm=>by
  obtain⟨a,ha⟩:=I0.ok.has x (.inl hk)
  have e1:=(Yh h1).1
  rw[ha]at e1
  have z:c=a:=e1
  subst z
  obtain⟨_,_,_,_,f4,_⟩:=hf c hm
  exact f4 x c ha rfl
 exact⟨c,u,h1,⟨o,u0.keep c o h2 h5 h6 Bq,h3⟩,h4,u0.free c o h2 h5 Bq,h6⟩
structure EX (X:Cx) (cS:Addr) (kf:Nat) (jE:L2.St) (H:Hp) (f:Addr) (iC:Nat) (params:Arguments) (bd:Expr) (scope:Scope) (N:List Str) (idx:List Nat) (ws:List V) (C:Addr) (Pre:Hp→Prop):Prop where
 ls:yZ params bd scope N
 hN:idx.length=N.length
 ln:∀(k:Nat) x i,N[k]? =some x→idx[k]? =some i→LN X x i
 Km:ws.length=idx.length
 lP:∀(k i:Nat) v,idx[k]? =some i→ws[k]? =some v→jE[i]? =some (some v)
 fr:∀z∈scope.names,z.2=.free→X.env.kindOf z.1=some .cell∨X.env.kindOf z.1=some .free
 lam:jB H f (lq X) params bd scope (bQ scope X.env)
 hi:iC=0∨iC=1∨iC=2
 mr:mS X.K X.mg cS C iC
 body:jD X kf C f (lq X) bd scope (bQ scope X.env) N ws Pre
 pre:Pre H
def FU (X:Cx) (cS:Addr) (kf:Nat) (jE:L2.St):TE:=fun σ H Q=> ∃f iC,σ[0]? =some (some (.ref f))∧(∃params bd scope N idx ws C Pre,EX X cS kf jE H f iC params bd scope N idx ws C Pre)∧∀l H',ae H H'→H l=none→H' l=some (.lst [.int (iC:Int)])→Q (.ref l) H'
theorem Qa {N':List Str}{bs:Scope}{B:Addr}{s0:Shared}{H0:Hp}{fp:List Addr}{p0:List (Addr×Obj)}{jE:L2.St}{p p' pos:Pos}{cn:Str}
  (hR:∀b',Def X.prog X.w X.K X.mg b' (kf+2) "_law_refused" ["_law_call"] (nA X.prog X.w X.K X.mg b' cS (kf+1))) (room:bR (kf+2) X.A) (mR:X.mg "_law_refused" =some (.ref fR)) (kR:PySem.W.keepIn X.K (.ref fR)=true) (I0:Inv X p0 jE H0 s0) (hf:∀b∈fp,bI X p0 H0 b)
  (hg:Gl (aT X N' bs B s0 H0 fp) "_law_refused") (hv:PE (aT X N' bs B s0 H0 fp) (.Name cn p') (jH 0)):
  PE (aT X N' bs B s0 H0 fp) (.Call (.Name "_law_refused" p) [.Name cn p'] [] pos) (FU X cS kf jE):=by
 intro pins s σ H Q J h
 obtain⟨f,iC,lP,⟨params,bd,scope,N,idx,ws,C,Pre,ask⟩,q⟩:=h
 refine wpAny_Call_Name_kw (Jl J hg mR ?_ (by decide))
 have ha:PA (aT X N' bs B s0 H0 fp) [.Name cn p'] _:=Za hv Zb
 refine PySem.W.callWith_K (h₀:=X.base) J.ok.mod.nO kR (ar (ha pos pins s σ H (fun vs H1=>vs=[.ref f]∧H1=H) J ⟨_,lP,rfl,rfl⟩) fun us s3 ⟨vs,H1,J1,r,ev,eh⟩=> ⟨J1.bW,?_⟩) rfl rfl
 subst ev eh
 obtain⟨u,rfl,ru⟩:=vals1 r
 cases ru
 refine Q9 (Y:=aT X N' bs B s0 H0 fp) (kf:=kf) hR room mR ask.ls J1 ask.lam (by rw[ask.Km,ask.hN]) (fun i x v h1 h2=> ?_) (fun z c h=>Oq h) (fun a b c h1 h2=> ?_) ask.hi ask.mr ask.body ask.pre q
 ·have hi:i<idx.length:=by
   have:=(List.getElem?_eq_some_iff.mp h1).1
   rw[ask.hN]
   exact this
  have ei:=List.getElem?_eq_getElem hi
  have n:=ask.ln i x _ h1 ei
  exact Pp I0 hf (Pq I0 n.nx (ask.lP i _ v ei h2) n.kx n.fx (PySem.mem_of_lookup (ask.ls.free x (List.mem_of_getElem? h1)))) n.kx J1
 obtain⟨e1,m1⟩:=Yh h1
 obtain⟨e2,m2⟩:=Yh h2
 obtain⟨c1,g1⟩:=I0.ok.has a (ask.fr _ m1 rfl)
 obtain⟨c2,g2⟩:=I0.ok.has b (ask.fr _ m2 rfl)
 rw[g1]at e1
 rw[g2]at e2
 have z1:c1=c2:=by
  have y1:_=c1:=e1
  have y2:_=c2:=e2
  rw[←y1,←y2]
 subst z1
 exact I0.ok.inj _ _ _ g1 g2
def yD (fn x y:Str) (p1 p2 p3 p4:Pos):Expr:=.Call (.Name fn p1) [.Name x p2,.Name y p3] [] p4
theorem DD {k':Nat}{fn x y:Str}{ps:List Str}{sp:Sp}{scope:Scope}{C f:Addr}{q:Str}{cl:List (Str×Addr)}{vx vy:V}{p1 p2 p3 p4:Pos}(aY:k'≤kf) (hU:∀b',bA X.prog X.w X.K X.mg b' k' fn ps sp) (gl:scope.names.lookup fn=some .globalImplicit)
  (kx:scope.names.lookup x=some .free) (ky:scope.names.lookup y=some .free) (dx:(x==("__debug__" :Str))=false) (dy:(y==("__debug__" :Str))=false)
  (ex:(x==("__classdict__" :Str))=false) (ey:(y==("__classdict__" :Str))=false) (gg:(fn==("__debug__" :Str))=false):
  jD X kf C f q (yD fn x y p1 p2 p3 p4) scope cl [x,y] [vx,vy] (mQ sp [vx,vy] C):=by
 intro bf cc A outer s2 H2 Q2 E2 hr pre hE
 obtain⟨g,fd,F,hg,hk,hb⟩:=hU bf
 refine⟨_,Yq (X:=eC X.prog X.w X.K X.mg bf [x,y] q scope f (.ref cc) cl A outer s2 H2 E2) F (hr.mono aY) gl hg hk hb .nil (E:=E2) (lF (X:=eC X.prog X.w X.K X.mg bf [x,y] q scope f (.ref cc) cl A outer s2 H2 E2) (fun e s' z=>z) rfl rfl rfl)
  (Za (ZF (i:=0) rfl (.inr (.inr kx)) dx ex) (Za (ZF (i:=1) rfl (.inr (.inr ky)) dy ey) Zb)) gg,?_⟩
 exact⟨vx,rfl,vy,rfl,pre Q2 E2 hE⟩
def DA (fn x y z:Str) (p1 p2 p3 p4 p5 p6 p7:Pos):Expr:=.Call (.Name fn p1) [.Name x p2,.Name y p3,.Name y p4,.Name z p5,.Name z p6] [] p7
theorem NH {k':Nat}{fn x y z:Str}{ps:List Str}{sp:Sp}{scope:Scope}{C f:Addr}{q:Str}{cl:List (Str×Addr)}{vx vy vz:V}{p1 p2 p3 p4 p5 p6 p7:Pos}(aY:k'≤kf) (hU:∀b',bA X.prog X.w X.K X.mg b' k' fn ps sp) (gl:scope.names.lookup fn=some .globalImplicit)
  (kx:scope.names.lookup x=some .free) (dx:(x==("__debug__" :Str))=false) (ex:(x==("__classdict__" :Str))=false) (ky:scope.names.lookup y=some .free) (dy:(y==("__debug__" :Str))=false) (ey:(y==("__classdict__" :Str))=false) (kz:scope.names.lookup z=some .free) (dz:(z==("__debug__" :Str))=false) (ez:(z==("__classdict__" :Str))=false) (gg:(fn==("__debug__" :Str))=false):
  jD X kf C f q (DA fn x y z p1 p2 p3 p4 p5 p6 p7) scope cl [x,y,z] [vx,vy,vz] (mQ sp [vx,vy,vy,vz,vz] C):=by
 intro bf cc A outer s2 H2 Q2 E2 hr pre hE
 obtain⟨g,fd,F,hg,hk,hb⟩:=hU bf
 refine⟨_,Yq (X:=eC X.prog X.w X.K X.mg bf [x,y,z] q scope f (.ref cc) cl A outer s2 H2 E2) F (hr.mono aY) gl hg hk hb .nil (E:=E2) (lF (X:=eC X.prog X.w X.K X.mg bf [x,y,z] q scope f (.ref cc) cl A outer s2 H2 E2) (fun e s' z=>z) rfl rfl rfl)
  (Za (ZF (i:=0) rfl (.inr (.inr kx)) dx ex) (Za (ZF (i:=1) rfl (.inr (.inr ky)) dy ey) (Za (ZF (i:=1) rfl (.inr (.inr ky)) dy ey) (Za (ZF (i:=2) rfl (.inr (.inr kz)) dz ez) (Za (ZF (i:=2) rfl (.inr (.inr kz)) dz ez) Zb))))) gg,?_⟩
 exact⟨vx,rfl,vy,rfl,vy,rfl,vz,rfl,vz,rfl,pre Q2 E2 hE⟩
def Dz (fn x y:Str) (p1 p2 p3 p4 p5:Pos):Expr:=.Call (.Name fn p1) [.Name x p2,.Name y p3,.Name y p4] [] p5
theorem NG {k':Nat}{fn x y:Str}{ps:List Str}{sp:Sp}{scope:Scope}{C f:Addr}{q:Str}{cl:List (Str×Addr)}{vx vy:V}{p1 p2 p3 p4 p5:Pos}(aY:k'≤kf) (hU:∀b',bA X.prog X.w X.K X.mg b' k' fn ps sp) (gl:scope.names.lookup fn=some .globalImplicit)
  (kx:scope.names.lookup x=some .free) (dx:(x==("__debug__" :Str))=false) (ex:(x==("__classdict__" :Str))=false) (ky:scope.names.lookup y=some .free) (dy:(y==("__debug__" :Str))=false) (ey:(y==("__classdict__" :Str))=false) (gg:(fn==("__debug__" :Str))=false):
  jD X kf C f q (Dz fn x y p1 p2 p3 p4 p5) scope cl [x,y] [vx,vy] (mQ sp [vx,vy,vy] C):=by
 intro bf cc A outer s2 H2 Q2 E2 hr pre hE
 obtain⟨g,fd,F,hg,hk,hb⟩:=hU bf
 refine⟨_,Yq (X:=eC X.prog X.w X.K X.mg bf [x,y] q scope f (.ref cc) cl A outer s2 H2 E2) F (hr.mono aY) gl hg hk hb .nil (E:=E2) (lF (X:=eC X.prog X.w X.K X.mg bf [x,y] q scope f (.ref cc) cl A outer s2 H2 E2) (fun e s' z=>z) rfl rfl rfl)
  (Za (ZF (i:=0) rfl (.inr (.inr kx)) dx ex) (Za (ZF (i:=1) rfl (.inr (.inr ky)) dy ey) (Za (ZF (i:=1) rfl (.inr (.inr ky)) dy ey) Zb))) gg,?_⟩
 exact⟨vx,rfl,vy,rfl,vy,rfl,pre Q2 E2 hE⟩
def yC (fn x y u z:Str) (p1 p2 p3 p4 p5 p6 p7:Pos):Expr:=.Call (.Name fn p1) [.Name x p2,.Name y p3,.Name u p4,.Name z p5,.Name z p6] [] p7
theorem DC {k':Nat}{fn x y u z:Str}{ps:List Str}{sp:Sp}{scope:Scope}{C f:Addr}{q:Str}{cl:List (Str×Addr)}{vx vy vu vz:V}{p1 p2 p3 p4 p5 p6 p7:Pos}(aY:k'≤kf) (hU:∀b',bA X.prog X.w X.K X.mg b' k' fn ps sp) (gl:scope.names.lookup fn=some .globalImplicit)
  (kx:scope.names.lookup x=some .free) (dx:(x==("__debug__" :Str))=false) (ex:(x==("__classdict__" :Str))=false) (ky:scope.names.lookup y=some .free) (dy:(y==("__debug__" :Str))=false) (ey:(y==("__classdict__" :Str))=false) (ku:scope.names.lookup u=some .free) (du:(u==("__debug__" :Str))=false) (eu:(u==("__classdict__" :Str))=false) (kz:scope.names.lookup z=some .free) (dz:(z==("__debug__" :Str))=false) (ez:(z==("__classdict__" :Str))=false) (gg:(fn==("__debug__" :Str))=false):
  jD X kf C f q (yC fn x y u z p1 p2 p3 p4 p5 p6 p7) scope cl [x,y,u,z] [vx,vy,vu,vz] (mQ sp [vx,vy,vu,vz,vz] C):=by
 intro bf cc A outer s2 H2 Q2 E2 hr pre hE
 obtain⟨g,fd,F,hg,hk,hb⟩:=hU bf
 refine⟨_,Yq (X:=eC X.prog X.w X.K X.mg bf [x,y,u,z] q scope f (.ref cc) cl A outer s2 H2 E2) F (hr.mono aY) gl hg hk hb .nil (E:=E2) (lF (X:=eC X.prog X.w X.K X.mg bf [x,y,u,z] q scope f (.ref cc) cl A outer s2 H2 E2) (fun e s' z=>z) rfl rfl rfl)
  (Za (ZF (i:=0) rfl (.inr (.inr kx)) dx ex) (Za (ZF (i:=1) rfl (.inr (.inr ky)) dy ey) (Za (ZF (i:=2) rfl (.inr (.inr ku)) du eu) (Za (ZF (i:=3) rfl (.inr (.inr kz)) dz ez) (Za (ZF (i:=3) rfl (.inr (.inr kz)) dz ez) Zb))))) gg,?_⟩
 exact⟨vx,rfl,vy,rfl,vu,rfl,vz,rfl,vz,rfl,pre Q2 E2 hE⟩
def yA (fn x y z:Str) (p1 p2 p3 p4 p5:Pos):Expr:=.Call (.Name fn p1) [.Name x p2,.Name y p3,.Name z p4] [] p5
theorem DB {k':Nat}{fn x y z:Str}{ps:List Str}{sp:Sp}{scope:Scope}{C f:Addr}{q:Str}{cl:List (Str×Addr)}{vx vy vz:V}{p1 p2 p3 p4 p5:Pos}(aY:k'≤kf) (hU:∀b',bA X.prog X.w X.K X.mg b' k' fn ps sp) (gl:scope.names.lookup fn=some .globalImplicit)
  (kx:scope.names.lookup x=some .free) (dx:(x==("__debug__" :Str))=false) (ex:(x==("__classdict__" :Str))=false) (ky:scope.names.lookup y=some .free) (dy:(y==("__debug__" :Str))=false) (ey:(y==("__classdict__" :Str))=false) (kz:scope.names.lookup z=some .free) (dz:(z==("__debug__" :Str))=false) (ez:(z==("__classdict__" :Str))=false) (gg:(fn==("__debug__" :Str))=false):
  jD X kf C f q (yA fn x y z p1 p2 p3 p4 p5) scope cl [x,y,z] [vx,vy,vz] (mQ sp [vx,vy,vz] C):=by
 intro bf cc A outer s2 H2 Q2 E2 hr pre hE
 obtain⟨g,fd,F,hg,hk,hb⟩:=hU bf
 refine⟨_,Yq (X:=eC X.prog X.w X.K X.mg bf [x,y,z] q scope f (.ref cc) cl A outer s2 H2 E2) F (hr.mono aY) gl hg hk hb .nil (E:=E2) (lF (X:=eC X.prog X.w X.K X.mg bf [x,y,z] q scope f (.ref cc) cl A outer s2 H2 E2) (fun e s' z=>z) rfl rfl rfl)
  (Za (ZF (i:=0) rfl (.inr (.inr kx)) dx ex) (Za (ZF (i:=1) rfl (.inr (.inr ky)) dy ey) (Za (ZF (i:=2) rfl (.inr (.inr kz)) dz ez) Zb))) gg,?_⟩
 exact⟨vx,rfl,vy,rfl,vz,rfl,pre Q2 E2 hE⟩
def Dy (fn x y z:Str) (p1 p2 p3 p4 p5 p6 p7:Pos):Expr:=.Call (.Name fn p1) [.Name x p2,.Name y p3,.Name y p4,.Name z p5,.Constant (.int 0) 0 p6] [] p7
theorem NF {k':Nat}{fn x y z:Str}{ps:List Str}{sp:Sp}{scope:Scope}{C f:Addr}{q:Str}{cl:List (Str×Addr)}{vx vy vz:V}{p1 p2 p3 p4 p5 p6 p7:Pos}(aY:k'≤kf) (hU:∀b',bA X.prog X.w X.K X.mg b' k' fn ps sp) (gl:scope.names.lookup fn=some .globalImplicit)
  (kx:scope.names.lookup x=some .free) (dx:(x==("__debug__" :Str))=false) (ex:(x==("__classdict__" :Str))=false) (ky:scope.names.lookup y=some .free) (dy:(y==("__debug__" :Str))=false) (ey:(y==("__classdict__" :Str))=false) (kz:scope.names.lookup z=some .free) (dz:(z==("__debug__" :Str))=false) (ez:(z==("__classdict__" :Str))=false) (gg:(fn==("__debug__" :Str))=false):
  jD X kf C f q (Dy fn x y z p1 p2 p3 p4 p5 p6 p7) scope cl [x,y,z] [vx,vy,vz] (mQ sp [vx,vy,vy,vz,.int 0] C):=by
 intro bf cc A outer s2 H2 Q2 E2 hr pre hE
 obtain⟨g,fd,F,hg,hk,hb⟩:=hU bf
 refine⟨_,Yq (X:=eC X.prog X.w X.K X.mg bf [x,y,z] q scope f (.ref cc) cl A outer s2 H2 E2) F (hr.mono aY) gl hg hk hb .nil (E:=E2) (lF (X:=eC X.prog X.w X.K X.mg bf [x,y,z] q scope f (.ref cc) cl A outer s2 H2 E2) (fun e s' z=>z) rfl rfl rfl)
  (Za (ZF (i:=0) rfl (.inr (.inr kx)) dx ex) (Za (ZF (i:=1) rfl (.inr (.inr ky)) dy ey) (Za (ZF (i:=1) rfl (.inr (.inr ky)) dy ey) (Za (ZF (i:=2) rfl (.inr (.inr kz)) dz ez) (Za Zi Zb))))) gg,?_⟩
 exact⟨vx,rfl,vy,rfl,vy,rfl,vz,rfl,pre Q2 E2 hE⟩
def Dx (fn x y z:Str) (p1 p2 p3 p4 p5 p6 p7:Pos):Expr:=.Call (.Name fn p1) [.Name x p2,.Name y p3,.Name y p4,.Constant (.int 0) 0 p5,.Name z p6] [] p7
theorem ND {k':Nat}{fn x y z:Str}{ps:List Str}{sp:Sp}{scope:Scope}{C f:Addr}{q:Str}{cl:List (Str×Addr)}{vx vy vz:V}{p1 p2 p3 p4 p5 p6 p7:Pos}(aY:k'≤kf) (hU:∀b',bA X.prog X.w X.K X.mg b' k' fn ps sp) (gl:scope.names.lookup fn=some .globalImplicit)
  (kx:scope.names.lookup x=some .free) (dx:(x==("__debug__" :Str))=false) (ex:(x==("__classdict__" :Str))=false) (ky:scope.names.lookup y=some .free) (dy:(y==("__debug__" :Str))=false) (ey:(y==("__classdict__" :Str))=false) (kz:scope.names.lookup z=some .free) (dz:(z==("__debug__" :Str))=false) (ez:(z==("__classdict__" :Str))=false) (gg:(fn==("__debug__" :Str))=false):
  jD X kf C f q (Dx fn x y z p1 p2 p3 p4 p5 p6 p7) scope cl [x,y,z] [vx,vy,vz] (mQ sp [vx,vy,vy,.int 0,vz] C):=by
 intro bf cc A outer s2 H2 Q2 E2 hr pre hE
 obtain⟨g,fd,F,hg,hk,hb⟩:=hU bf
 refine⟨_,Yq (X:=eC X.prog X.w X.K X.mg bf [x,y,z] q scope f (.ref cc) cl A outer s2 H2 E2) F (hr.mono aY) gl hg hk hb .nil (E:=E2) (lF (X:=eC X.prog X.w X.K X.mg bf [x,y,z] q scope f (.ref cc) cl A outer s2 H2 E2) (fun e s' z=>z) rfl rfl rfl)
  (Za (ZF (i:=0) rfl (.inr (.inr kx)) dx ex) (Za (ZF (i:=1) rfl (.inr (.inr ky)) dy ey) (Za (ZF (i:=1) rfl (.inr (.inr ky)) dy ey) (Za Zi (Za (ZF (i:=2) rfl (.inr (.inr kz)) dz ez) Zb))))) gg,?_⟩
 exact⟨vx,rfl,vy,rfl,vy,rfl,vz,rfl,pre Q2 E2 hE⟩
def jA (X:Cx) (H:Hp) (v:V) (b:Expr×Scope):Prop:=∃f:Addr,v=.ref f∧jB H f (lq X) bH b.1 b.2 (bQ b.2 X.env)
theorem jA.same {H H':Hp}{v:V}{b:Expr×Scope}(h:jA X H v b) (s:ae H H'):jA X H' v b:=by
 obtain⟨f,e,l⟩:=h
 exact⟨f,e,l.same s⟩
theorem jA.x {H H':Hp}{v:V}{b:Expr×Scope}{p:Addr}{o:HO}(h:jA X H v b) (s:aq p H H') (hp:H p=some o) (ho:∀F,o≠.ext F):jA X H' v b:=by
 obtain⟨f,e,pm,c,ct,h1,h2⟩:=h
 exact⟨f,e,pm,c,ct,s _ _ h1 (fun z=>by rw[z,hp]at h1;cases h1;exact ho _ rfl),s _ _ h2 (fun z=>by rw[z,hp]at h2;cases h2;exact ho _ rfl)⟩
structure kI (X:Cx) (P L:Addr) (H0 H:Hp) (bs:List (Expr×Scope)):Prop where
 sx:aq P H0 H
 fr:H0 L=none
 tb:TabAt H P (lq X)
 ls:∃vs,H L=some (.lst vs)∧Paired (jA X H) vs bs
theorem kI.lst {L:Addr}{H0 H:Hp}{bs:List (Expr×Scope)}(h:kI X P L H0 H bs):∃vs,H L=some (.lst vs)∧vs.length=bs.length:=by
 obtain⟨vs,hL,pr⟩:=h.ls
 exact⟨vs,hL,Paired.length pr⟩
theorem kI.cb {L:Addr}{H0 H H1:Hp}{bs:List (Expr×Scope)}{vs:List V}(h:kI X P L H0 H bs) (hv:H L=some (.lst vs)) (s1:aq P H H1):H1 L=some (.lst vs):=by
 obtain⟨tp,yl,_⟩:=h.tb
 exact s1 _ _ hv fun z=>by rw[z,yl]at hv;cases hv
theorem kI.app {L f:Addr}{H0 H H1:Hp}{bs:List (Expr×Scope)}{bd:Expr}{sc:Scope}{vs:List V}(h:kI X P L H0 H bs) (hv:H L=some (.lst vs)) (s1:aq P H H1) (t1:TabAt H1 P (lq X)) (l1:jB H1 f (lq X) bH bd sc (bQ sc X.env)):kI X P L H0 (upd H1 L (.lst (vs++[.ref f]))) (bs++[(bd,sc)]):=by
 have ig:=h.cb hv s1
 obtain⟨sx,fr,tb,kQ,hL,pr⟩:=h
 rw[hv]at hL
 cases hL
 obtain⟨tp,yl,_⟩:=id tb
 have x2:aq L H1 (upd H1 L (.lst (vs++[.ref f]))):=aq.upd
 have p1:Paired (jA X (upd H1 L (.lst (vs++[.ref f])))) vs bs:=Paired.dj pr fun v b h=> (h.x s1 yl (fun _ z=>by cases z)).x x2 ig (fun _ z=>by cases z)
 exact⟨U8 (sx.trans s1) fr,fr,DT t1 x2 ig (fun _ z=>by cases z) (fun _ z=>by cases z),_,Zc,Paired.snoc p1 (jA.x (b:=(bd,sc)) ⟨f,rfl,l1⟩ x2 ig (fun _ z=>by cases z))⟩
theorem Qn {H0 H1:Hp}{L f:Addr}{bd:Expr}{sc:Scope}(tb:TabAt H0 P (lq X)) (s1:aq P H0 H1) (t1:TabAt H1 P (lq X)) (l1:jB H1 f (lq X) bH bd sc (bQ sc X.env)) (hL:H1 L=none):kI X P L H0 (upd H1 L (.lst [.ref f])) [(bd,sc)]:=by
 obtain⟨S4,MU,_⟩:=id t1
 have s2:=Zf (o:=.lst [V.ref f]) hL
 have Ic:L≠P:=fun z=>by rw[z,MU]at hL;cases hL
 have fr:H0 L=none:=by
  cases h:H0 L with
  |none=>rfl
  |some u=>rw[s1 _ _ h Ic]at hL;cases hL
 exact⟨s1.trans s2.x,fr,YQ t1 s2,_,Zc,.cons ⟨f,rfl,l1.same s2⟩ .nil⟩
end
theorem lsN {bd:Expr}{N:List Str}{scope:Scope}(h:(decide (scope.kind=.function)&& !scope.isCoroutine&& !scope.isGenerator&&scope.names.all (fun z=>z.2 !=.cell)&&scope.names.all (fun u=>u.2 !=.free||N.contains u.1)&&N.all (fun x=>scope.names.lookup x==some .free))=true):yZ bH bd scope N:=by
 simp only[Bool.and_eq_true,Bool.not_eq_true',decide_eq_true_eq,beq_iff_eq,List.all_eq_true,bne_iff_ne,ne_eq,Bool.or_eq_true,List.contains_iff_mem]at h
 obtain⟨⟨⟨⟨⟨h1,h2⟩,h3⟩,h4⟩,h5⟩,h6⟩:=h
 exact⟨h1,h2,h3,h4,fun u hu e=> (h5 u hu).resolve_left fun z=>z e,h6,fun _ _ _ _ _=>rfl⟩
theorem pj {σ:L2.St}{i j l:Nat}{a b c:V}(h1:σ[i]? =some (some a)) (h2:σ[j]? =some (some b)) (h3:σ[l]? =some (some c)):∀(k i':Nat) v,[i,j,l][k]? =some i'→[a,b,c][k]? =some v→σ[i']? =some (some v):=fun k i' v e1 e2=>by
 match k,e1,e2 with
 |0,e1,e2=>cases e1;cases e2;exact h1
 |1,e1,e2=>cases e1;cases e2;exact h2
 |2,e1,e2=>cases e1;cases e2;exact h3
 |k+3,e1,e2=>simp at e1
theorem pE {X:Cx}{x y z:Str}{i j l:Nat}(h1:LN X x i) (h2:LN X y j) (h3:LN X z l):∀(k:Nat) u m,[x,y,z][k]? =some u→[i,j,l][k]? =some m→LN X u m:=fun k u m e1 e2=>by
 match k,e1,e2 with
 |0,e1,e2=>cases e1;cases e2;exact h1
 |1,e1,e2=>cases e1;cases e2;exact h2
 |2,e1,e2=>cases e1;cases e2;exact h3
 |k+3,e1,e2=>simp at e1
theorem wG {X:Cx}{x y:Str}{i j:Nat}(a:LN X x i) (b:LN X y j):∀(k:Nat) u m,([x,y]:List Str)[k]? =some u→([i,j]:List Nat)[k]? =some m→LN X u m
 |0,_,_,h1,h2=>by cases h1;cases h2;exact a
 |1,_,_,h1,h2=>by cases h1;cases h2;exact b
 |k+2,_,_,h1,h2=>by simp at h1
theorem at2 {σ:L2.St}{x y:V}{i j:Nat}(a:σ[i]? =some (some x)) (b:σ[j]? =some (some y)):∀(k m:Nat) (v:V),([i,j]:List Nat)[k]? =some m→([x,y]:List V)[k]? =some v→σ[m]? =some (some v)
 |0,_,_,h1,h2=>by cases h1;cases h2;exact a
 |1,_,_,h1,h2=>by cases h1;cases h2;exact b
 |k+2,_,_,h1,h2=>by simp at h1
theorem Qd {K:PySem.W.Frag}{H:Hp}{P:Addr}{ps:Array Value}{y:V}(t:cj K H y) (h:H P=some (.cg ps)):y≠.ref P:=fun z=>by
 obtain⟨T,ty⟩:=t
 subst z
 cases ty with
 |lst e=>rw[h]at e;cases e
 |aW e=>rw[h]at e;cases e
 |tup e=>rw[h]at e;cases e
 |dK e=>rw[h]at e;cases e
 |dT e=>rw[h]at e;cases e
def uD:List (List Int):=[[0],[0],[0],[1],[1],[1],[1],[1],[2],[2]]
theorem BC {X:Cx}{x y z t:Str}{i j l m:Nat}(a:LN X x i) (b:LN X y j) (c:LN X z l) (d:LN X t m):∀(k:Nat) u n,([x,y,z,t]:List Str)[k]? =some u→([i,j,l,m]:List Nat)[k]? =some n→LN X u n
 |0,_,_,h1,h2=>by cases h1;cases h2;exact a
 |1,_,_,h1,h2=>by cases h1;cases h2;exact b
 |2,_,_,h1,h2=>by cases h1;cases h2;exact c
 |3,_,_,h1,h2=>by cases h1;cases h2;exact d
 |k+4,_,_,h1,h2=>by simp at h1
theorem Bc {σ:L2.St}{x y z t:V}{i j l m:Nat}(a:σ[i]? =some (some x)) (b:σ[j]? =some (some y)) (c:σ[l]? =some (some z)) (d:σ[m]? =some (some t)):∀(k n:Nat) (v:V),([i,j,l,m]:List Nat)[k]? =some n→([x,y,z,t]:List V)[k]? =some v→σ[n]? =some (some v)
 |0,_,_,h1,h2=>by cases h1;cases h2;exact a
 |1,_,_,h1,h2=>by cases h1;cases h2;exact b
 |2,_,_,h1,h2=>by cases h1;cases h2;exact c
 |3,_,_,h1,h2=>by cases h1;cases h2;exact d
 |k+4,_,_,h1,h2=>by simp at h1
abbrev mG (ns:List (Str×NameKind)):Scope:= {kind:=.function,names:=ns,isGenerator:=false,isCoroutine:=false}
abbrev sA:Scope:=mG [("_law_bad",.free),("_law_none",.free),("_law_odd",.free),("hits_between",.globalImplicit)]
abbrev sB:Scope:=mG [("_law_bad",.free),("_law_none",.free),("most_hits",.globalImplicit)]
abbrev sC:Scope:=mG [("_law_bad",.free),("_law_none",.free),("like_many",.globalImplicit)]
abbrev sD:Scope:=mG [("_law_bad",.free),("_law_board_here",.free),("_law_lay_here",.free),("_law_odd",.free),("hits_between",.globalImplicit)]
abbrev sF:Scope:=mG [("_law_bad",.free),("_law_board_here",.free),("_law_lay_here",.free),("most_hits",.globalImplicit)]
abbrev sH:Scope:=mG [("_law_bad",.free),("_law_board_here",.free),("like_many",.globalImplicit)]
abbrev sI:Scope:=mG [("_law_board_here",.free),("_law_lay_here",.free),("_law_odd",.free),("hits_between",.globalImplicit)]
section
variable {P:Program}{w:World}{K:PySem.W.Frag}{mg:Str→Option Value}{base:Heap}
abbrev bV:Stmt:=top 51
def vc (K:PySem.W.Frag) (Pt:Addr):Sp:=fun vs H Q _=> ∃(a:Addr) (ns:List Int),vs=[.ref a]∧fo K H a ns∧ns.length≤63∧H Pt=some (.cg #[])∧∀H',Q (.bl true) H'
abbrev fI:List Str:=["_law_script", "_law_k", "_law_state_here", "_law_none", "_law_odd", "_law_board_here", "_law_lay_here", "_law_grown_here", "_law_bad", "_law_one", "_law_other", "_law_calls"]
theorem gw:br fI ["_law_script"] (ay bV):=⟨rfl,rfl,rfl,by decide+kernel,rfl,by decide+kernel,by decide+kernel⟩
structure uq (K:PySem.W.Frag) (H:Hp) (vn vo vb:V) (b l:Addr) (wd hg:Int) (xs:List V):Prop where
 bn:gH K H vn
 po:cj K H vo
 bl:i0 K wd hg H vb
 hb:H b=some (.tup [.int wd,.int hg])
 el:H l=some (.tup xs)
theorem uq.xt {H H':Hp}{vn vo vb:V}{b l Pt:Addr}{wd hg:Int}{xs:List V}{tp:Array Value}(h:uq K H vn vo vb b l wd hg xs) (s:aq Pt H H') (hp:H Pt=some (.cg tp)):uq K H' vn vo vb b l wd hg xs:=
 ⟨DY h.bn s (WN h.bn.1 hp),Jh h.po s (Qd h.po hp),Om h.bl s (WN h.bl.1 hp),s _ _ h.hb (fun z=>by have e:=h.hb;rw[z,hp]at e;cases e),s _ _ h.el (fun z=>by have e:=h.el;rw[z,hp]at e;cases e)⟩
theorem N5:cI 4 4 [V.int 0,.int 1,.int 2,.int 3]:=⟨rfl,by decide+kernel,by decide+kernel⟩
theorem N0:cI 1 1 [V.af]:=⟨rfl,by decide+kernel,by decide+kernel⟩
theorem OQ:cI 1 1 [V.int 0]:=⟨rfl,by decide+kernel,by decide+kernel⟩
theorem Iw:sN 4 4 [V.int 0,.int 1,.int 2,.int 3]=4:=by decide+kernel
theorem Oj:ir 1 1 [V.af] [V.int 0] 0:=⟨fun i j hi hj=>by
 have e1:i=0:=by omega
 have e2:j=0:=by omega
 subst e1 e2
 decide+kernel,.inl rfl⟩
theorem OZ {f c Pt fR cS cB cL cN:Addr}{oc:Value}{od an:Option Addr}{kV doc pm ct:Value}{fg:Array (Option Value)}
  (lk:K.lookup f=some ⟨oc,od,.func (PySem.W.fnOf "law" "law" (eV bV) (bM bV) (ay bV) .none kV doc pm an (.ref c) ct),fg⟩) (cG:PySem.W.codeIn K (.ref c) "law" =true) (G:Gs mg)
  (Sw:Def P w K mg base 2 "_law_state" ["_law_script", "_law_k"] (uQ K)) (SD:Def P w K mg base 2 "_law_no_board" ["_law_state_here"] (uV K)) (Sy:Def P w K mg base 2 "_law_no_whole" ["_law_state_here"] (uT K)) (SJ:Def P w K mg base 2 "_law_board" ["_law_state_here", "_law_upto"] vm)
  (Dl:Def P w K mg base 2 "_law_lay" ["_law_state_here", "_law_board_here"] (vk K)) (SH:Def P w K mg base 3 "_law_grown" ["_law_state_here", "_law_board_here"] (vh K)) (Sz:Def P w K mg base 2 "_law_no_lay" ["_law_state_here", "_law_board_here", "_law_lay_here"] (uU K))
  (Sx:Def P w K mg base 11 "_law_right" ["_law_state_here", "_law_board_here", "_law_one", "_law_other"] uS) (zg:Def P w K mg base 9 "most_hits" ["board", "one", "other"] oV) (zh:Def P w K mg base 10 "like_many" ["board", "lay"] oW)
  (hR:∀b',Def P w K mg b' 12 "_law_refused" ["_law_call"] (nA P w K mg b' cS 11)) (hH:∀b',bA P w K mg b' 9 "hits_between" ["board", "one", "other", "right", "up"] (rF K cB cL cN)) (hM:∀b',bA P w K mg b' 9 "most_hits" ["board", "one", "other"] (ja K cB cL)) (CT:∀b',bA P w K mg b' 10 "like_many" ["board", "lay"] (fU K cB cL))
  (mR:mg "_law_refused" =some (.ref fR)) (kR:PySem.W.keepIn K (.ref fR)=true)
  (M0:mS K mg cS cB 0) (M1:mS K mg cS cL 1) (M2:mS K mg cS cN 2) (hC:PySem.W.CodeHd base c Pt)
  (xK:∃bm ob,mg "__builtins__" =some (.ref bm)∧bm≠builtinsNs∧base.get? bm=some ob∧ob.cls=.type "module" ∧ob.dict=some builtinsNs∧ob.data=.plain):
  aE P w K mg base aH 13 f (PySem.W.fnOf "law" "law" (eV bV) (bM bV) (ay bV) .none kV doc pm an (.ref c) ct) ["_law_script"] (vc K Pt):=by
 refine yM lk cG gw (fun vs H Q E h=> ?_) (fun A outer s H vs Q E hr h=> ?_)
 ·obtain⟨a,ns,rfl,_⟩:=h
  rfl
 ·obtain⟨a,ns,rfl,As,pQ,KD,q⟩:=h
  have C:LCtx (bD aH P w K mg base fI "law" (ay bV) f (.ref c) A outer s H E).cX cS c Pt fR 10:=⟨⟨rfl,hC,xK⟩,hR,hr,mR,kR⟩
  have n3:LN (bD aH P w K mg base fI "law" (ay bV) f (.ref c) A outer s H E).cX "_law_none" 3:=⟨rfl,rfl,rfl⟩
  have n4:LN (bD aH P w K mg base fI "law" (ay bV) f (.ref c) A outer s H E).cX "_law_odd" 4:=⟨rfl,rfl,rfl⟩
  have n5:LN (bD aH P w K mg base fI "law" (ay bV) f (.ref c) A outer s H E).cX "_law_board_here" 5:=⟨rfl,rfl,rfl⟩
  have n6:LN (bD aH P w K mg base fI "law" (ay bV) f (.ref c) A outer s H E).cX "_law_lay_here" 6:=⟨rfl,rfl,rfl⟩
  have n8:LN (bD aH P w K mg base fI "law" (ay bV) f (.ref c) A outer s H E).cX "_law_bad" 8:=⟨rfl,rfl,rfl⟩
  have tj:=UN hr
  have Tx:=Nat.lt_of_succ_lt tj
  have main:∃t,eY (bD aH P w K mg base fI "law" (ay bV) f (.ref c) A outer s H E).cX (bM bV) t∧t {nx:=fun _ H'=>Q .af H',rt:=Q} (start fI [.ref a]) H:=by
   refine⟨_,(Ze (Yj PassesOwn.never rfl (ZW rfl G.range (Za (Zm (WV rfl) rfl G.max boot_max (Za Zi (Za (Zm (QD rfl) rfl G.min boot_min (Za (Zm Zv rfl G.len boot_len (Za (pv 0) Zb)) (Za Zi Zb))) Zb))) Zb)) (Zy (i:=1) gw.nd rfl (Or.inl rfl)) (Ze (Zp (i:=2) gw.nd rfl (Or.inl rfl) (Zj Sw (hr.mono (by decide)) (Za (pv 0) (Za (pv 1) Zb))))
   (Ze (Ju (ZA (Za (Zj SD (hr.mono (by decide)) (Za (pv 2) Zb)) (Za (Zj Sy (hr.mono (by decide)) (Za (pv 2) Zb)) Zb))) (Z7 rfl (Zo (Zy (i:=3) gw.nd rfl (Or.inr rfl)) (Zo (Zy (i:=4) gw.nd rfl (Or.inr rfl)) ZT))))
   (Ze (Zp (i:=5) gw.nd rfl (Or.inr rfl) (Zj SJ (hr.mono (by decide)) (Za (pv 2) (Za Zi Zb))))
   (Ze (Zp (i:=6) gw.nd rfl (Or.inr rfl) (Zj Dl (hr.mono (by decide)) (Za (pv 2) (Za (pv 5) Zb))))
   (Ze (Zp (i:=7) gw.nd rfl (Or.inl rfl) (Zj SH (hr.mono (by decide)) (Za (pv 2) (Za (pv 5) Zb))))
   (Ze (Zp (i:=8) gw.nd rfl (Or.inr rfl) (Zj Sz (hr.mono (by decide)) (Za (pv 2) (Za (pv 5) (Za (pv 6) Zb)))))
   (Ze (Yj PassesOwn.never rfl (Z6 (ZB (Za (ZA (Za (pv 6) (Za (pv 7) Zb))) (Za (ZA (Za (pv 7) (Za (pv 6) Zb))) (Za (ZA (Za (pv 6) (Za (pv 6) Zb))) Zb))))) (Z7 rfl (Zo (Zy (i:=9) gw.nd rfl (Or.inl rfl)) (Zo (Zy (i:=10) gw.nd rfl (Or.inl rfl)) ZT))) (Zk (Z2 (Yi (Z3 (Zj Sx (hr.mono (by decide)) (Za (pv 2) (Za (pv 5) (Za (pv 9) (Za (pv 10) Zb))))))) ZC ZH)))
   (Ze (Zp (i:=11) gw.nd rfl (Or.inl rfl) (ZB (Za (YC (params:=bH) (body:=DA "hits_between" "_law_none" "_law_bad" "_law_odd" _ _ _ _ _ _ _) (scope:=sA) C.lam rfl (Yb (by kernel_rfl))) Zb)))
   (Ze (ZG (Yv PySem.F.plainAttrs_list PySem.F.slot_list_append PySem.F.type_list_append ZO (pv 11) (Za (YC (params:=bH) (body:=Dz "most_hits" "_law_none" "_law_bad" _ _ _ _ _) (scope:=sB) C.lam rfl (Yb (by kernel_rfl))) Zb)))
   (Ze (ZG (Yv PySem.F.plainAttrs_list PySem.F.slot_list_append PySem.F.type_list_append ZO (pv 11) (Za (YC (params:=bH) (body:=yD "like_many" "_law_none" "_law_bad" _ _ _ _) (scope:=sC) C.lam rfl (Yb (by kernel_rfl))) Zb)))
   (Ze (ZG (Yv PySem.F.plainAttrs_list PySem.F.slot_list_append PySem.F.type_list_append ZO (pv 11) (Za (YC (params:=bH) (body:=yC "hits_between" "_law_board_here" "_law_bad" "_law_lay_here" "_law_odd" _ _ _ _ _ _ _) (scope:=sD) C.lam rfl (Yb (by kernel_rfl))) Zb)))
   (Ze (ZG (Yv PySem.F.plainAttrs_list PySem.F.slot_list_append PySem.F.type_list_append ZO (pv 11) (Za (YC (params:=bH) (body:=yC "hits_between" "_law_board_here" "_law_lay_here" "_law_bad" "_law_odd" _ _ _ _ _ _ _) (scope:=sD) C.lam rfl (Yb (by kernel_rfl))) Zb)))
   (Ze (ZG (Yv PySem.F.plainAttrs_list PySem.F.slot_list_append PySem.F.type_list_append ZO (pv 11) (Za (YC (params:=bH) (body:=yA "most_hits" "_law_board_here" "_law_bad" "_law_lay_here" _ _ _ _ _) (scope:=sF) C.lam rfl (Yb (by kernel_rfl))) Zb)))
   (Ze (ZG (Yv PySem.F.plainAttrs_list PySem.F.slot_list_append PySem.F.type_list_append ZO (pv 11) (Za (YC (params:=bH) (body:=yA "most_hits" "_law_board_here" "_law_lay_here" "_law_bad" _ _ _ _ _) (scope:=sF) C.lam rfl (Yb (by kernel_rfl))) Zb)))
   (Ze (ZG (Yv PySem.F.plainAttrs_list PySem.F.slot_list_append PySem.F.type_list_append ZO (pv 11) (Za (YC (params:=bH) (body:=yD "like_many" "_law_board_here" "_law_bad" _ _ _ _) (scope:=sH) C.lam rfl (Yb (by kernel_rfl))) Zb)))
   (Ze (ZG (Yv PySem.F.plainAttrs_list PySem.F.slot_list_append PySem.F.type_list_append ZO (pv 11) (Za (YC (params:=bH) (body:=Dy "hits_between" "_law_board_here" "_law_lay_here" "_law_odd" _ _ _ _ _ _ _) (scope:=sI) C.lam rfl (Yb (by kernel_rfl))) Zb)))
   (Ze (ZG (Yv PySem.F.plainAttrs_list PySem.F.slot_list_append PySem.F.type_list_append ZO (pv 11) (Za (YC (params:=bH) (body:=Dx "hits_between" "_law_board_here" "_law_lay_here" "_law_odd" _ _ _ _ _ _ _) (scope:=sI) C.lam rfl (Yb (by kernel_rfl))) Zb)))
   (Zk (Z2 (ZX (P7 tj) (Q0 ["_law_call"] 1 [] (Z6 (pv 11)) (fun C s H fp=>pb 0) (fun C s H fp=>YH) (fun pins σ B s H fp D I0 hf=>ZK rfl (Qa (kf:=10) C.hR C.room C.mR C.kR I0 hf rfl (pv 0)))) (Zn YM (Zn YM (Zn yT (ZB (Za (ZB (Za Zi Zb)) Zb)) Zi) (Zn yT (ZB (Za (ZB (Za Zi Zb)) Zb)) Zi)) (Zn yT (ZB (Za (ZB (Za Zi Zb)) Zb)) Zi)) (cY _)) ZC ZH))))))))))))))))))))
   (Zk (Zz (YT (YJ JC (Zj zh (hr.mono (by decide)) (Za (ZA (Za Zi (Za Zi Zb))) (Za (ZA (Za Zi (Za Zi (Za Zi (Za Zi Zb))))) Zb))) Zi (cY _)) (YS (YJ JC (Zj zg (hr.mono (by decide)) (Za (ZA (Za Zi (Za Zi Zb))) (Za (ZA (Za YI Zb)) (Za (ZA (Za Zi Zb)) Zb)))) Zi (cY _))))))),?_⟩
   have Fz:TabAt H Pt (lq (bD aH P w K mg base fI "law" (ay bV) f (.ref c) A outer s H E).cX):=⟨#[],KD,trivial,fun pos cv z=>by cases z⟩
   refine Zq ?_
   refine⟨_,rfl,a,_,rfl,.inl As.sq,_,_,rfl,_,_,rfl,_,rfl,(by rw[List.length_map];split<;>split<;>omega),(by rw[List.length_map];split<;>split<;>omega),?_⟩
   refine Yc (fun i σ H'=> ∃s1 s2 s3 s4 s5 s6 s7 s8 s9 dC dg,σ=[some (.ref a),s1,s2,s3,s4,s5,s6,s7,s8,s9,dC,dg]∧fo K H' a ns∧TabAt H' Pt (lq (bD aH P w K mg base fI "law" (ay bV) f (.ref c) A outer s H E).cX)) ⟨_,_,_,_,_,_,_,_,_,_,_,rfl,As,Fz⟩ ?_ ?_
   ·rintro i σ H0 hi ⟨q1,q2,q3,q4,q5,q6,q7,q8,q9,Hk,A8,rfl,Ar,Fy⟩
    rw[Int.zero_add]
    refine Zu ?_
    dsimp only[List.set]
    refine Zq (ZE ⟨_,rfl,_,rfl,a,ns,i,rfl,Ar.sq,fun p H1 np k1 aw=>Zu ?_⟩)
    dsimp only[List.set]
    have Aq:=Ar.same k1
    have Aa:=YQ Fy k1
    have step:∀{Ha Hb:Hp},aq p Ha Hb→bz Ha p→fo K Ha a ns→TabAt Ha Pt (lq (bD aH P w K mg base fI "law" (ay bV) f (.ref c) A outer s H E).cX)→fo K Hb a ns∧TabAt Hb Pt (lq (bD aH P w K mg base fI "law" (ay bV) f (.ref c) A outer s H E).cX):=fun x st sc tb=>by
     obtain⟨u,v,e,_⟩:=st
     exact⟨sc.x x e (fun _ _ z=>by cases z),DT tb x e (fun _ z=>by cases z) (fun _ z=>by cases z)⟩
    refine Zq (ZE ⟨_,rfl,p,rfl,aw,fun vn H2 x2 aj bn nn=> ⟨_,rfl,p,rfl,aj,fun vo H3 x3 aK po wo no=> ⟨(by show 2≤sizeLine;decide),fun tq Kz=> ?_⟩⟩⟩)
    obtain⟨GD,Fx⟩:=step x2 aw Aq Aa
    obtain⟨GC,Fw⟩:=step x3 aj GD Fx
    have NO:=UZ ⟨bn,nn⟩ x3
    have s4:=Zf (o:=.tup [vn,vo]) Kz
    have e4:upd H3 tq (.tup [vn,vo]) tq=some (.tup [vn,vo]):=Zc
    generalize upd H3 tq (HO.tup [vn,vo])=H4 at s4 e4
    refine⟨tq,_,rfl,ao.of e4,rfl,_,_,rfl,_,_,rfl,rfl,?_⟩
    dsimp only[List.set]
    have cV:=aK.same s4
    have NN:=UZ NO s4.x
    have Ht:=s4.gO po
    refine Zq (ZE ⟨_,rfl,p,12,rfl,cV,by decide,by decide,fun b H5 wd hg w1 w2 g1 g2 x5 fe CL nb=>Zu ?_⟩)
    dsimp only[List.set]
    obtain⟨GB,Fv⟩:=step x5 cV (GC.same s4) (YQ Fw s4)
    have NM:=UZ NN x5
    have Hs:=Jh Ht x5 no
    have iU:∀{H':Hp},H' b=some (.tup [V.int wd,V.int hg])→fb H' (.ref b) wd hg:=fun h=> ⟨Zr h,w1,w2,g1,g2⟩
    refine Zq (ZE ⟨_,rfl,_,rfl,p,b,wd,hg,rfl,fe,iU CL,fun l H6 xs x6 gu el nl ly=>Zu ?_⟩)
    dsimp only[List.set]
    obtain⟨GA,Fu⟩:=step x6 fe GB Fv
    have NL:=UZ NM x6
    have Hr:=Jh Hs x6 no
    have xP:=x6 _ _ CL nb
    refine Zq (ZE ⟨_,rfl,_,rfl,p,b,wd,hg,rfl,gu,iU xP,fun g H7 gs x7 nu eg ng By _=>Zu ?_⟩)
    dsimp only[List.set]
    obtain⟨Gz,Ft⟩:=step x7 gu GA Fu
    have NK:=UZ NL x7
    have Hq:=Jh Hr x7 no
    have xO:=x7 _ _ xP nb
    have Dp:=x7 _ _ el nl
    refine Zq (ZE ⟨_,rfl,_,rfl,_,rfl,p,b,l,wd,hg,xs,rfl,nu,iU xO,Dp,ly,fun vb H8 x8 rn NB=>Zu ?_⟩)
    dsimp only[List.set]
    obtain⟨Gy,Fs⟩:=step x8 nu Gz Ft
    have NJ:=UZ NK x8
    have Ho:=Jh Hq x8 no
    have CK:=x8 _ _ xO nb
    have qF:=x8 _ _ Dp nl
    have Dq:=x8 _ _ eg ng
    refine Zq ⟨_,rfl,_,rfl,(by show 2≤sizeLine;decide),fun t1 h1=> ?_⟩
    have z1:=Zf (o:=.tup [V.ref l,V.ref g]) h1
    have sV:upd H8 t1 (.tup [V.ref l,V.ref g]) t1=some (.tup [V.ref l,V.ref g]):=Zc
    generalize upd H8 t1 (HO.tup [V.ref l,V.ref g])=B1 at z1 sV
    refine⟨_,rfl,_,rfl,(by show 2≤sizeLine;decide),fun t2 h2=> ?_⟩
    have z2:=Zf (o:=.tup [V.ref g,V.ref l]) h2
    have sU:upd B1 t2 (.tup [V.ref g,V.ref l]) t2=some (.tup [V.ref g,V.ref l]):=Zc
    generalize upd B1 t2 (HO.tup [V.ref g,V.ref l])=B2 at z2 sU
    refine⟨_,rfl,_,rfl,(by show 2≤sizeLine;decide),fun t3 h3=> ?_⟩
    have z3:=Zf (o:=.tup [V.ref l,V.ref l]) h3
    have sR:upd B2 t3 (.tup [V.ref l,V.ref l]) t3=some (.tup [V.ref l,V.ref l]):=Zc
    generalize upd B2 t3 (HO.tup [V.ref l,V.ref l])=B3 at z3 sR
    refine⟨(by show 3≤sizeLine;decide),fun M xS=> ⟨M,rfl,⟨_,ah.of Zc⟩,?_⟩⟩
    have z4:=Zf (o:=.lst [V.ref t1,V.ref t2,V.ref t3]) xS
    have e9:upd B3 M (.lst [V.ref t1,V.ref t2,V.ref t3]) M=some (.lst [V.ref t1,V.ref t2,V.ref t3]):=Zc
    generalize upd B3 M (HO.lst [V.ref t1,V.ref t2,V.ref t3])=H9 at z4 e9
    have s9:=z1.trans (z2.trans (z3.trans z4))
    have cP:=rn.same s9
    obtain⟨u9,v9,qE,_⟩:=id cP
    have Ia:M≠p:=by
     obtain⟨u,v,e,_⟩:=id rn
     exact fun z=>by rw[z,(z1.trans (z2.trans z3)) _ _ e]at xS;cases xS
    have each:∀v∈[V.ref t1,V.ref t2,V.ref t3],∃(t y y':Addr) (ys bJ:List V),v=.ref t∧t≠p∧H9 t=some (.tup [.ref y,.ref y'])∧H9 y=some (.tup ys)∧H9 y'=some (.tup bJ)∧y≠p∧y'≠p∧cI wd hg ys∧cI wd hg bJ:=fun v hv=>by
     simp only[List.mem_cons,List.not_mem_nil,or_false]at hv
     rcases hv with rfl |rfl |rfl
     ·have k:=(z2.trans (z3.trans z4)) _ _ sV
      exact⟨t1,l,g,xs,gs,rfl,Z4 k qE (by intro z;cases z),k,s9 _ _ qF,s9 _ _ Dq,nl,ng,ly,By⟩
     ·have k:=(z3.trans z4) _ _ sU
      exact⟨t2,g,l,gs,xs,rfl,Z4 k qE (by intro z;cases z),k,s9 _ _ Dq,s9 _ _ qF,ng,nl,By,ly⟩
     ·have k:=z4 _ _ sR
      exact⟨t3,l,l,xs,xs,rfl,Z4 k qE (by intro z;cases z),k,s9 _ _ qF,s9 _ _ qF,nl,nl,ly,ly⟩
    refine YV (xs:=[V.ref t1,V.ref t2,V.ref t3]) (fun j σ H'=> ∃w9 qW,σ=[some (.ref a),some (.int (i:Int)),some (.ref p),some vn,some vo,some (.ref b),some (.ref l),some (.ref g),some vb,w9,qW,A8]∧aq p H9 H'∧bz H' p) ⟨_,_,rfl,fun _ _ h _=>h,cP⟩ (fun j σ H' _ ⟨_,_,_,x,_⟩=>ah.of (x _ _ e9 Ia)) ?_ ?_
    ·rintro j v σ H' hv ⟨w9,qW,rfl,x',aa⟩
     obtain⟨t,y,y',ys,bJ,rfl,nt,et,ey,MS,ny,HE,Ir,Iq⟩:=each v (List.mem_of_getElem? hv)
     refine⟨t,_,rfl,ao.of (x' _ _ et nt),rfl,_,_,rfl,_,_,rfl,rfl,?_⟩
     dsimp only[List.set]
     have gk:=x' _ _ (s9 _ _ CK) nb
     refine⟨_,rfl,_,rfl,_,rfl,_,rfl,p,b,y,y',wd,hg,ys,bJ,rfl,aa,iU gk,x' _ _ ey ny,x' _ _ MS HE,Ir,Iq,fun gG Fd kU=> ⟨true,rfl,aR (YZ ?_)⟩⟩
     exact⟨_,_,rfl,fun b u h n=>Fd _ _ (x' _ _ h n) n,kU⟩
    rintro σ kN ⟨w9,qW,rfl,mY,rp⟩
    try dsimp only
    obtain⟨GF,uK⟩:=step mY cP (Gy.same s9) (YQ Fs s9)
    have NP:=UZ (UZ NJ s9.x) mY
    have Hu:=Jh (s9.gO Ho) mY no
    have NC:=(NB.same s9).x mY cP
    have Mf:=mY _ _ (s9 _ _ CK) nb
    have M6:=mY _ _ (s9 _ _ qF) nl
    have Lm:uq K kN vn vo vb b l wd hg xs:=⟨NP.1,Hu,NC.1,Mf,M6⟩
    refine Zq (ZE ⟨uK,fun oj So GQ _ FK IP=> ⟨(by show 1≤sizeLine;decide),fun L hL=>Zu ?_⟩⟩)
    have m1:=Qn uK GQ FK IP hL
    generalize upd So L (.lst [V.ref oj])=oE at m1
    dsimp only[List.set]
    obtain⟨cA,ig,sV⟩:=m1.lst
    refine Zq ⟨_,rfl,.inl ⟨rfl,_,ah.of ig⟩,m1.tb,fun Df Sm AO _ FI IL=> ⟨L,cA,.ref Df,rfl,rfl,m1.cb ig AO,(by rw[sV,sizeLine_eq];decide),?_⟩⟩
    have m2:=m1.app ig AO FI IL
    generalize upd Sm L (.lst (cA++[V.ref Df]))=oD at m2
    try dsimp only
    obtain⟨cO,qx,sU⟩:=m2.lst
    refine Zq ⟨_,rfl,.inl ⟨rfl,_,ah.of qx⟩,m2.tb,fun tR Sl AM _ FH IK=> ⟨L,cO,.ref tR,rfl,rfl,m2.cb qx AM,(by rw[sU,sizeLine_eq];decide),?_⟩⟩
    have m3:=m2.app qx AM FH IK
    generalize upd Sl L (.lst (cO++[V.ref tR]))=oC at m3
    try dsimp only
    obtain⟨zR,mz,sR⟩:=m3.lst
    refine Zq ⟨_,rfl,.inl ⟨rfl,_,ah.of mz⟩,m3.tb,fun De Sk AL _ FG IJ=> ⟨L,zR,.ref De,rfl,rfl,m3.cb mz AL,(by rw[sR,sizeLine_eq];decide),?_⟩⟩
    have m4:=m3.app mz AL FG IJ
    generalize upd Sk L (.lst (zR++[V.ref De]))=Ve at m4
    try dsimp only
    obtain⟨zQ,iP,IY⟩:=m4.lst
    refine Zq ⟨_,rfl,.inl ⟨rfl,_,ah.of iP⟩,m4.tb,fun Dd Sj AK _ FF II=> ⟨L,zQ,.ref Dd,rfl,rfl,m4.cb iP AK,(by rw[IY,sizeLine_eq];decide),?_⟩⟩
    have m5:=m4.app iP AK FF II
    generalize upd Sj L (.lst (zQ++[V.ref Dd]))=Vd at m5
    try dsimp only
    obtain⟨uF,oh,IW⟩:=m5.lst
    refine Zq ⟨_,rfl,.inl ⟨rfl,_,ah.of oh⟩,m5.tb,fun C8 Si AJ _ FE IH=> ⟨L,uF,.ref C8,rfl,rfl,m5.cb oh AJ,(by rw[IW,sizeLine_eq];decide),?_⟩⟩
    have m6:=m5.app oh AJ FE IH
    generalize upd Si L (.lst (uF++[V.ref C8]))=Vc at m6
    try dsimp only
    obtain⟨uE,xX,IV⟩:=m6.lst
    refine Zq ⟨_,rfl,.inl ⟨rfl,_,ah.of xX⟩,m6.tb,fun C7 Sg AI _ FD IG=> ⟨L,uE,.ref C7,rfl,rfl,m6.cb xX AI,(by rw[IV,sizeLine_eq];decide),?_⟩⟩
    have m7:=m6.app xX AI FD IG
    generalize upd Sg L (.lst (uE++[V.ref C7]))=Vb at m7
    try dsimp only
    obtain⟨zP,xW,IU⟩:=m7.lst
    refine Zq ⟨_,rfl,.inl ⟨rfl,_,ah.of xW⟩,m7.tb,fun C6 Sf AH _ FC IF=> ⟨L,zP,.ref C6,rfl,rfl,m7.cb xW AH,(by rw[IU,sizeLine_eq];decide),?_⟩⟩
    have m8:=m7.app xW AH FC IF
    generalize upd Sf L (.lst (zP++[V.ref C6]))=Va at m8
    try dsimp only
    obtain⟨zO,xV,IT⟩:=m8.lst
    refine Zq ⟨_,rfl,.inl ⟨rfl,_,ah.of xV⟩,m8.tb,fun C5 Se AG _ FA IE=> ⟨L,zO,.ref C5,rfl,rfl,m8.cb xV AG,(by rw[IT,sizeLine_eq];decide),?_⟩⟩
    have m9:=m8.app xV AG FA IE
    generalize upd Se L (.lst (zO++[V.ref C5]))=T9 at m9
    try dsimp only
    obtain⟨zN,xU,IS⟩:=m9.lst
    refine Zq ⟨_,rfl,.inl ⟨rfl,_,ah.of xU⟩,m9.tb,fun Dg Sn AQ _ FJ IM=> ⟨L,zN,.ref Dg,rfl,rfl,m9.cb xU AQ,(by rw[IS,sizeLine_eq];decide),?_⟩⟩
    have sJ:=m9.app xU AQ FJ IM
    generalize upd Sn L (.lst (zN++[V.ref Dg]))=Sd at sJ
    try dsimp only
    obtain⟨Aj,tU,z8,qX,CU,A9⟩:=sJ
    have lZ:qX.length=10:=Paired.length A9
    obtain⟨SY,Dm,_⟩:=id uK
    have Ll:=Lm.xt Aj Dm
    obtain⟨SX,MT,_⟩:=id z8
    refine⟨_,rfl,L,rfl,⟨qX,ah.of CU⟩,?_⟩
    refine Yt (xs:=qX) (fun j zs σ Hj=> ∃v0,σ=[v0]∧ae Sd Hj∧Paired (gq Hj) zs (uD.take j)) ⟨_,rfl,ae.refl _,.nil⟩ (fun j zs σ Hj _ ⟨_,_,s8,_⟩=>ah.of (s8 _ _ CU)) ?_ ?_
    ·rintro j v zs σ Hj hv ⟨v0,rfl,sj,ph⟩
     obtain⟨bb,cH,lm⟩:=Y7 A9 hv
     obtain⟨g',rfl,iG⟩:=lm.same sj
     have hj:j<qX.length:=(List.getElem?_eq_some_iff.mp hv).1
     have dG:=Ll.xt sj.x MT
     have nN:cf Hj (.ref b) (.ref l) wd hg xs:=⟨iU dG.hb,Zr dG.el,ly⟩
     have lz:zs.length≤10:=by rw[Paired.length ph,List.length_take];exact Nat.min_le_right _ _
     suffices h:∃iC,uD[j]? =some [((iC:Nat):Int)]∧∃params bd scope N idx ws C Pre,EX (bD aH P w K mg base fI "law" (ay bV) f (.ref c) A outer s H E).cX cS 10 [some (.ref a),some (.int (i:Int)),some (.ref p),some vn,some vo,some (.ref b),some (.ref l),some (.ref g),some vb,w9,qW,some (.ref L)] Hj g' iC params bd scope N idx ws C Pre by
      obtain⟨iC,ew,h⟩:=h
      refine⟨g',iC,rfl,h,fun l1 H9 s9 _ e9=> ⟨by rw[sizeLine_eq];omega,_,rfl,sj.trans s9,?_⟩⟩
      rw[List.take_add_one,ew]
      exact Paired.snoc (Paired.dj ph fun v q' h=>h.same s9) ⟨l1,rfl,e9⟩
     match j,cH,hj with
     |0,cH,_=>
      cases cH
      exact⟨0,rfl,bH,_,sA,_,[3,8,4],[vn,vb,vo],cB,_,⟨lsN (by kernel_rfl),rfl,pE n3 n8 n4,rfl,pj rfl rfl rfl,Yb (by kernel_rfl),iG,.inl rfl,M0,NH (by decide) hH rfl rfl (by decide) (by decide) rfl (by decide) (by decide) rfl (by decide) (by decide) (by decide),fun Q' E' hE=> ⟨vn,vb,vb,vo,vo,cB,rfl,.inl (.inl (.inl ⟨rfl,dG.bn⟩)),hE⟩⟩⟩
     |1,cH,_=>
      cases cH
      exact⟨0,rfl,bH,_,sB,_,[3,8],[vn,vb],cB,_,⟨lsN (by kernel_rfl),rfl,wG n3 n8,rfl,at2 rfl rfl,Yb (by kernel_rfl),iG,.inl rfl,M0,NG (by decide) hM rfl rfl (by decide) (by decide) rfl (by decide) (by decide) (by decide),fun Q' E' hE=> ⟨vn,vb,vb,cB,rfl,.inl (.inl ⟨rfl,dG.bn⟩),hE⟩⟩⟩
     |2,cH,_=>
      cases cH
      exact⟨0,rfl,bH,_,sC,_,[3,8],[vn,vb],cB,_,⟨lsN (by kernel_rfl),rfl,wG n3 n8,rfl,at2 rfl rfl,Yb (by kernel_rfl),iG,.inl rfl,M0,DD (Nat.le_refl _) CT rfl rfl rfl (by decide) (by decide) (by decide) (by decide) (by decide),fun Q' E' hE=> ⟨vn,vb,cB,rfl,.inl ⟨rfl,dG.bn⟩,hE⟩⟩⟩
     |3,cH,_=>
      cases cH
      exact⟨1,rfl,bH,_,sD,_,[5,8,6,4],[.ref b,vb,.ref l,vo],cL,_,⟨lsN (by kernel_rfl),rfl,BC n5 n8 n6 n4,rfl,Bc rfl rfl rfl rfl,Yb (by kernel_rfl),iG,.inr (.inl rfl),M1,DC (by decide) hH rfl rfl (by decide) (by decide) rfl (by decide) (by decide) rfl (by decide) (by decide) rfl (by decide) (by decide) (by decide),fun Q' E' hE=> ⟨.ref b,vb,.ref l,vo,vo,cL,rfl,.inl (.inl (.inr ⟨rfl,wd,hg,iU dG.hb,dG.bl⟩)),hE⟩⟩⟩
     |4,cH,_=>
      cases cH
      exact⟨1,rfl,bH,_,sD,_,[5,6,8,4],[.ref b,.ref l,vb,vo],cL,_,⟨lsN (by kernel_rfl),rfl,BC n5 n6 n8 n4,rfl,Bc rfl rfl rfl rfl,Yb (by kernel_rfl),iG,.inr (.inl rfl),M1,DC (by decide) hH rfl rfl (by decide) (by decide) rfl (by decide) (by decide) rfl (by decide) (by decide) rfl (by decide) (by decide) (by decide),fun Q' E' hE=> ⟨.ref b,.ref l,vb,vo,vo,cL,rfl,.inl (.inr ⟨wd,hg,xs,nN,.inr ⟨rfl,wd,hg,iU dG.hb,dG.bl⟩⟩),hE⟩⟩⟩
     |5,cH,_=>
      cases cH
      exact⟨1,rfl,bH,_,sF,_,[5,8,6],[.ref b,vb,.ref l],cL,_,⟨lsN (by kernel_rfl),rfl,pE n5 n8 n6,rfl,pj rfl rfl rfl,Yb (by kernel_rfl),iG,.inr (.inl rfl),M1,DB (by decide) hM rfl rfl (by decide) (by decide) rfl (by decide) (by decide) rfl (by decide) (by decide) (by decide),fun Q' E' hE=> ⟨.ref b,vb,.ref l,cL,rfl,.inl (.inr ⟨rfl,wd,hg,iU dG.hb,dG.bl⟩),hE⟩⟩⟩
     |6,cH,_=>
      cases cH
      exact⟨1,rfl,bH,_,sF,_,[5,6,8],[.ref b,.ref l,vb],cL,_,⟨lsN (by kernel_rfl),rfl,pE n5 n6 n8,rfl,pj rfl rfl rfl,Yb (by kernel_rfl),iG,.inr (.inl rfl),M1,DB (by decide) hM rfl rfl (by decide) (by decide) rfl (by decide) (by decide) rfl (by decide) (by decide) (by decide),fun Q' E' hE=> ⟨.ref b,.ref l,vb,cL,rfl,.inr ⟨wd,hg,xs,nN,.inr ⟨rfl,wd,hg,iU dG.hb,dG.bl⟩⟩,hE⟩⟩⟩
     |7,cH,_=>
      cases cH
      exact⟨1,rfl,bH,_,sH,_,[5,8],[.ref b,vb],cL,_,⟨lsN (by kernel_rfl),rfl,wG n5 n8,rfl,at2 rfl rfl,Yb (by kernel_rfl),iG,.inr (.inl rfl),M1,DD (Nat.le_refl _) CT rfl rfl rfl (by decide) (by decide) (by decide) (by decide) (by decide),fun Q' E' hE=> ⟨.ref b,vb,cL,rfl,.inr ⟨rfl,wd,hg,iU dG.hb,dG.bl⟩,hE⟩⟩⟩
     |8,cH,_=>
      cases cH
      exact⟨2,rfl,bH,_,sI,_,[5,6,4],[.ref b,.ref l,vo],cN,_,⟨lsN (by kernel_rfl),rfl,pE n5 n6 n4,rfl,pj rfl rfl rfl,Yb (by kernel_rfl),iG,.inr (.inr rfl),M2,NF (by decide) hH rfl rfl (by decide) (by decide) rfl (by decide) (by decide) rfl (by decide) (by decide) (by decide),fun Q' E' hE=> ⟨.ref b,.ref l,.ref l,vo,.int 0,cN,rfl,.inr ⟨rfl,wd,hg,xs,xs,nN,nN,dG.po,⟨_,.int 0⟩,.inl wo⟩,hE⟩⟩⟩
     |9,cH,_=>
      cases cH
      exact⟨2,rfl,bH,_,sI,_,[5,6,4],[.ref b,.ref l,vo],cN,_,⟨lsN (by kernel_rfl),rfl,pE n5 n6 n4,rfl,pj rfl rfl rfl,Yb (by kernel_rfl),iG,.inr (.inr rfl),M2,ND (by decide) hH rfl rfl (by decide) (by decide) rfl (by decide) (by decide) rfl (by decide) (by decide) (by decide),fun Q' E' hE=> ⟨.ref b,.ref l,.ref l,.int 0,vo,cN,rfl,.inr ⟨rfl,wd,hg,xs,xs,nN,nN,⟨_,.int 0⟩,dG.po,.inr ⟨rfl,wo⟩⟩,hE⟩⟩⟩
     |j+10,_,h=>omega
    rintro zs σ fT ⟨v0,rfl,lg,ph⟩ Z hZ
    rw[lZ]at ph
    have sZ:=Zf (o:=.lst zs) hZ
    have eZ:upd fT Z (.lst zs) Z=some (.lst zs):=Zc
    generalize upd fT Z (HO.lst zs)=iw at sZ eZ
    refine⟨(by show 1≤sizeLine;decide),fun a0 tO=> ⟨(by show 1≤sizeLine;decide),fun b0 og=> ?_⟩⟩
    have zE:=Zf (o:=.lst [V.int 0]) tO
    have zB:upd iw a0 (.lst [V.int 0]) a0=some (.lst [V.int 0]):=Zc
    generalize upd iw a0 (HO.lst [V.int 0])=DN at zE zB og ⊢
    have uB:=Zf (o:=.lst [V.ref a0]) og
    have zx:upd DN b0 (.lst [V.ref a0]) b0=some (.lst [V.ref a0]):=Zc
    generalize upd DN b0 (HO.lst [V.ref a0])=DH at uB zx
    refine⟨b0,3,_,rfl,rfl,zx,by decide,by decide,(by show 1*3≤sizeLine;decide),fun r0 w6=> ?_⟩
    rw[show(List.replicate (Int.toNat 3) [V.ref a0]).flatten=[V.ref a0,V.ref a0,V.ref a0] from rfl]
    have uA:=Zf (o:=.lst [V.ref a0,V.ref a0,V.ref a0]) w6
    have zu:upd DH r0 (.lst [V.ref a0,V.ref a0,V.ref a0]) r0=some (.lst [V.ref a0,V.ref a0,V.ref a0]):=Zc
    generalize upd DH r0 (HO.lst [V.ref a0,V.ref a0,V.ref a0])=A7 at uA zu
    refine⟨(by show 1≤sizeLine;decide),fun a1 Mh=> ⟨(by show 1≤sizeLine;decide),fun b1 ql=> ?_⟩⟩
    have qU:=Zf (o:=.lst [V.int 1]) Mh
    have zz:upd A7 a1 (.lst [V.int 1]) a1=some (.lst [V.int 1]):=Zc
    generalize upd A7 a1 (HO.lst [V.int 1])=DM at qU zz ql ⊢
    have oN:=Zf (o:=.lst [V.ref a1]) ql
    have zw:upd DM b1 (.lst [V.ref a1]) b1=some (.lst [V.ref a1]):=Zc
    generalize upd DM b1 (HO.lst [V.ref a1])=DG at oN zw
    refine⟨b1,5,_,rfl,rfl,zw,by decide,by decide,(by show 1*5≤sizeLine;decide),fun r1 pM=> ?_⟩
    rw[show(List.replicate (Int.toNat 5) [V.ref a1]).flatten=[V.ref a1,V.ref a1,V.ref a1,V.ref a1,V.ref a1] from rfl]
    have oJ:=Zf (o:=.lst [V.ref a1,V.ref a1,V.ref a1,V.ref a1,V.ref a1]) pM
    have zt:upd DG r1 (.lst [V.ref a1,V.ref a1,V.ref a1,V.ref a1,V.ref a1]) r1=some (.lst [V.ref a1,V.ref a1,V.ref a1,V.ref a1,V.ref a1]):=Zc
    generalize upd DG r1 (HO.lst [V.ref a1,V.ref a1,V.ref a1,V.ref a1,V.ref a1])=A6 at oJ zt
    refine⟨r0,r1,_,_,rfl,rfl,(qU.trans (oN.trans oJ)) _ _ zu,zt,(by show 8≤sizeLine;decide),fun e1 nZ=> ?_⟩
    have qT:=Zf (o:=.lst ([V.ref a0,V.ref a0,V.ref a0]++[V.ref a1,V.ref a1,V.ref a1,V.ref a1,V.ref a1])) nZ
    have zD:upd A6 e1 (.lst ([V.ref a0,V.ref a0,V.ref a0]++[V.ref a1,V.ref a1,V.ref a1,V.ref a1,V.ref a1])) e1=some (.lst ([V.ref a0,V.ref a0,V.ref a0]++[V.ref a1,V.ref a1,V.ref a1,V.ref a1,V.ref a1])):=Zc
    generalize upd A6 e1 (HO.lst ([V.ref a0,V.ref a0,V.ref a0]++[V.ref a1,V.ref a1,V.ref a1,V.ref a1,V.ref a1]))=K7 at qT zD
    refine⟨(by show 1≤sizeLine;decide),fun a2 Mg=> ⟨(by show 1≤sizeLine;decide),fun b2 CM=> ?_⟩⟩
    have oO:=Zf (o:=.lst [V.int 2]) Mg
    have zy:upd K7 a2 (.lst [V.int 2]) a2=some (.lst [V.int 2]):=Zc
    generalize upd K7 a2 (HO.lst [V.int 2])=DL at oO zy CM ⊢
    have mW:=Zf (o:=.lst [V.ref a2]) CM
    have zv:upd DL b2 (.lst [V.ref a2]) b2=some (.lst [V.ref a2]):=Zc
    generalize upd DL b2 (HO.lst [V.ref a2])=DF at mW zv
    refine⟨b2,2,_,rfl,rfl,zv,by decide,by decide,(by show 1*2≤sizeLine;decide),fun r2 eQ=> ?_⟩
    rw[show(List.replicate (Int.toNat 2) [V.ref a2]).flatten=[V.ref a2,V.ref a2] from rfl]
    have mV:=Zf (o:=.lst [V.ref a2,V.ref a2]) eQ
    have zr:upd DF r2 (.lst [V.ref a2,V.ref a2]) r2=some (.lst [V.ref a2,V.ref a2]):=Zc
    generalize upd DF r2 (HO.lst [V.ref a2,V.ref a2])=A5 at mV zr
    refine⟨e1,r2,_,_,rfl,rfl,(oO.trans (mW.trans mV)) _ _ zD,zr,(by show 10≤sizeLine;decide),fun e2 kg=> ?_⟩
    have oM:=Zf (o:=.lst (([V.ref a0,V.ref a0,V.ref a0]++[V.ref a1,V.ref a1,V.ref a1,V.ref a1,V.ref a1])++[V.ref a2,V.ref a2])) kg
    have zC:upd A5 e2 (.lst (([V.ref a0,V.ref a0,V.ref a0]++[V.ref a1,V.ref a1,V.ref a1,V.ref a1,V.ref a1])++[V.ref a2,V.ref a2])) e2=some (.lst (([V.ref a0,V.ref a0,V.ref a0]++[V.ref a1,V.ref a1,V.ref a1,V.ref a1,V.ref a1])++[V.ref a2,V.ref a2])):=Zc
    generalize upd A5 e2 (HO.lst (([V.ref a0,V.ref a0,V.ref a0]++[V.ref a1,V.ref a1,V.ref a1,V.ref a1,V.ref a1])++[V.ref a2,V.ref a2]))=K8 at oM zC
    have uC:=(zE.trans (uB.trans (uA.trans (qU.trans (oN.trans (oJ.trans (qT.trans (oO.trans (mW.trans (mV.trans oM))))))))))
    have p0:gq K8 (.ref a0) [0]:=⟨a0,rfl,(uB.trans (uA.trans (qU.trans (oN.trans (oJ.trans (qT.trans (oO.trans (mW.trans (mV.trans oM))))))))) _ _ zB⟩
    have p1:gq K8 (.ref a1) [1]:=⟨a1,rfl,(oN.trans (oJ.trans (qT.trans (oO.trans (mW.trans (mV.trans oM)))))) _ _ zz⟩
    have p2:gq K8 (.ref a2) [2]:=⟨a2,rfl,(mW.trans (mV.trans oM)) _ _ zy⟩
    refine⟨Z,e2,zs,([V.ref a0,V.ref a0,V.ref a0]++[V.ref a1,V.ref a1,V.ref a1,V.ref a1,V.ref a1]++[V.ref a2,V.ref a2]),uD,rfl,rfl,ah.of (uC _ _ eZ),ah.of zC,Paired.dj ph fun v q' h=>h.same (sZ.trans uC),.cons p0 (.cons p0 (.cons p0 (.cons p1 (.cons p1 (.cons p1 (.cons p1 (.cons p1 (.cons p2 (.cons p2 (.nil)))))))))),false,rfl,aR (YZ ?_)⟩
    try dsimp only
    have cW:=lg.trans (sZ.trans uC)
    have xA:aq Pt kN K8:=Aj.trans cW.x
    exact⟨_,_,_,_,_,_,_,_,_,_,_,rfl,GF.x xA Dm (fun _ _ z=>by cases z),YQ z8 cW⟩
   ·rintro σ H1 ⟨q1,q2,q3,q4,q5,q6,q7,q8,q9,Hk,A8,rfl,Aq,Aa⟩
    try dsimp only
    refine⟨(by show 2≤sizeLine;decide),fun t1 h1=> ?_⟩
    have u1:=Zf (o:=.tup [V.int 4,V.int 4]) h1
    have e1:upd H1 t1 (.tup [V.int 4,V.int 4]) t1=some (.tup [V.int 4,V.int 4]):=Zc
    generalize upd H1 t1 (HO.tup [V.int 4,V.int 4])=H2 at u1 e1
    refine⟨(by show 4≤sizeLine;decide),fun t2 h2=> ?_⟩
    have u2:=Zf (o:=.tup [V.int 0,V.int 1,V.int 2,V.int 3]) h2
    have e2:upd H2 t2 (.tup [V.int 0,V.int 1,V.int 2,V.int 3]) t2=some (.tup [V.int 0,V.int 1,V.int 2,V.int 3]):=Zc
    generalize upd H2 t2 (HO.tup [V.int 0,V.int 1,V.int 2,V.int 3])=H3 at u2 e2
    refine⟨.ref t1,.ref t2,4,4,_,rfl,⟨⟨Zr (u2 _ _ e1),by decide,by decide,by decide,by decide⟩,Zr e2,N5⟩,fun H4 s4=> ⟨rfl,?_⟩⟩
    rw[Iw]
    have zA:decide (V.int 4=V.int 4)=true:=decide_eq_true rfl
    rw[zA]
    refine⟨_,rfl,bh ?_⟩
    refine⟨(by show 2≤sizeLine;decide),fun t5 h5=> ?_⟩
    have u5:=Zf (o:=.tup [V.int 1,V.int 1]) h5
    have e5:upd H4 t5 (.tup [V.int 1,V.int 1]) t5=some (.tup [V.int 1,V.int 1]):=Zc
    generalize upd H4 t5 (HO.tup [V.int 1,V.int 1])=H5 at u5 e5
    refine⟨(by show 1≤sizeLine;decide),fun t6 h6=> ?_⟩
    have u6:=Zf (o:=.tup [V.af]) h6
    have e6:upd H5 t6 (.tup [V.af]) t6=some (.tup [V.af]):=Zc
    generalize upd H5 t6 (HO.tup [V.af])=H6 at u6 e6
    refine⟨(by show 1≤sizeLine;decide),fun t7 h7=> ?_⟩
    have u7:=Zf (o:=.tup [V.int 0]) h7
    have e7:upd H6 t7 (.tup [V.int 0]) t7=some (.tup [V.int 0]):=Zc
    generalize upd H6 t7 (HO.tup [V.int 0])=H7 at u7 e7
    refine⟨.ref t5,.ref t6,.ref t7,1,1,_,_,rfl,⟨⟨Zr ((u6.trans u7) _ _ e5),by decide,by decide,by decide,by decide⟩,Zr (u7 _ _ e6),N0⟩,⟨⟨Zr ((u6.trans u7) _ _ e5),by decide,by decide,by decide,by decide⟩,Zr e7,OQ⟩,fun M H8 s8 tM=> ⟨rfl,?_⟩⟩
    rw[tM.uniq Oj]
    exact q _
  obtain⟨t,ht,hq⟩:=main
  exact⟨t,ht.cX,hq⟩
end
end U
namespace U
open PySem L2 PyProof.Rows PySem.Spec
abbrev yc:List Str:=["isinstance", "int", "bool", "tuple", "list", "len", "all", "set", "range", "max", "min", "enumerate", "zip", "sorted", "sum", "ValueError"]
section
variable {P:Program}{w:World}{K:PySem.W.Frag}{mg:Str→Option Value}{base:Heap}
theorem NY {h:Heap}{t0:Tok}(KX:K.In h) (G:h.Ns mainGlobals mg) (e:yc.all (sk K)=true) (lo0:PySem.W.nsIn K mainGlobals "LONGEST_SIDE" =some (some (.int 12 t0))):Gs mg∧mg "ValueError" =none:=by
 have k:∀x∈yc,mg x=none:=fun x hx=>RK KX G (List.all_eq_true.mp e x hx)
 exact⟨⟨k _ (by simp),k _ (by simp),k _ (by simp),k _ (by simp),k _ (by simp),k _ (by simp),k _ (by simp),k _ (by simp),k _ (by simp),k _ (by simp),k _ (by simp),k _ (by simp),k _ (by simp),k _ (by simp),k _ (by simp),⟨t0,PySem.W.mg_of KX G lo0⟩⟩,k _ (by simp)⟩
def sQ (K:PySem.W.Frag) (C c:Value) (b:Bool):Bool:=match PySem.W.kitOne K C c with |some d=>d==b |none=>false
theorem DX {C c:Value}{b:Bool}(h:sQ K C c b=true):PySem.W.kitOne K C c=some b:=by
 unfold sQ at h
 split at h
 ·rename_i d q
  rw[q,beq_iff_eq.mp h]
 ·cases h
def Ik (K:PySem.W.Frag) (C:Addr) (iC:Nat):Bool:=(List.range 15).all fun i=>match PySem.W.nsIn K mainGlobals (Bn.getD i "") with |some (some (.ref c))=>sQ K (.ref C) (.ref c) (decide (i=iC)) |_=>false
def mroOk (K:PySem.W.Frag) (C:Addr) (b:Value):Bool:=match PySem.W.mroIn K C b with |some d=>d |none=>false
theorem UC {C:Addr}{b:Value}(h:mroOk K C b=true):PySem.W.mroIn K C b=some true:=by
 unfold mroOk at h
 split at h
 ·rename_i d q
  rw[q,h]
 ·cases h
def yk (K:PySem.W.Frag) (C c:Value):Bool:=match PySem.W.exmOne K C c with |some d=>d |none=>false
theorem PJ {C c:Value}(h:yk K C c=true):PySem.W.exmOne K C c=some true:=by
 unfold yk at h
 split at h
 ·rename_i d q
  rw[q,h]
 ·cases h
def qD (K:PySem.W.Frag) (cS C:Addr) (iC:Nat):Bool:=mroOk K C (.type "object")&&mroOk K C (.type "BaseException")&&(PySem.W.clsIn K C).isSome&&yk K (.ref C) (.ref cS)&&Ik K C iC&&sQ K (.ref C) (.type "ValueError") true&&PySem.W.excIn K C oo "ValueError.__new__"
theorem Ub {h:Heap}{cS C:Addr}{iC:Nat}(KX:K.In h) (G:h.Ns mainGlobals mg) (mv:mg "ValueError" =none) (ms:mg "StepError" =some (.ref cS)) (e:qD K cS C iC=true)
  (ga:PySem.W.findIn K (.ref C) "__getattribute__" =some (some (.builtin "BaseException.__getattribute__"))) (hook:PySem.W.findIn K (.ref C) "__getattr__" =some none) (cl:PySem.W.findIn K (.ref C) "__class__" =some (some (.builtin "object.__class__"))):mS K mg cS C iC∧PySem.W.excIn K C oo "ValueError.__new__" =true:=by
 unfold qD at e
 simp only[Bool.and_eq_true]at e
 obtain⟨⟨⟨⟨⟨⟨e1,e2⟩,e3⟩,e4⟩,e5⟩,e6⟩,e7⟩:=e
 refine⟨⟨⟨ga,hook,cl,UC e1,UC e2,e3⟩,ms,PJ e4,fun i hi=> ?_,mv,DX e6⟩,e7⟩
 have:=List.all_eq_true.mp e5 i (List.mem_range.mpr hi)
 split at this
 ·rename_i c q
  exact⟨c,PySem.W.mg_of KX G q,DX this⟩
 ·cases this
structure Exc (K:PySem.W.Frag) (mg:Str→Option Value) (nm:Str) (C:Addr):Prop where
 m:mg nm=some (.ref C)
 x:PySem.W.excIn K C oo "ValueError.__new__" =true
set_option maxHeartbeats 4000000 in
theorem ID {h:Heap}{fa c Pt f cS aB aL aN:Addr}{oc:Value}{od an:Option Addr}{kV doc pm ct:Value}{fg:Array (Option Value)}{t0:Tok}(KX:K.In h) (G:h.Ns mainGlobals mg) (hmg:mg "law" =some (.ref fa))
  (d0:bt K "is_whole" vA) (d1:bt K "is_whole_within" vw) (d2:bt K "need_whole" rR) (d3:bt K "is_tuple_of" vB) (d4:bt K "is_board" vX) (d5:bt K "need_board" rQ) (d6:bt K "is_lay" rT) (d7:bt K "need_lay" rP) (d8:bt K "points" rO) (d9:bt K "hits_by_move" rX) (Dv:bt K "hits_between" rW) (Du:bt K "all_hits" rY) (Dt:bt K "most_hits" rS) (Ds:bt K "like_many" rV) (Nu:bt K "_law_cell_at" vW) (Nt:bt K "_law_state" vD) (Nr:bt K "_law_take" vC) (aU:bt K "_law_refused" vG) (Nq:bt K "_law_board" vV) (Np:bt K "_law_no_board" kZ) (Nm:bt K "_law_lay" vU) (Nl:bt K "_law_steps" vI) (Nk:bt K "_law_unlike" vH) (Nj:bt K "_law_grown" vT) (Ni:bt K "_law_no_lay" kY) (Nh:bt K "_law_hits" vJ) (Ng:bt K "_law_no_whole" nF) (Nf:bt K "_law_same" vE) (Nd:bt K "_law_like_many" nG) (Nc:bt K "_law_right" vF)
  (l1:PySem.W.nsIn K mainGlobals "law" =some (some (.ref f))) (l2:K.lookup f=some ⟨oc,od,.func (PySem.W.fnOf "law" "law" (eV bV) (bM bV) (ay bV) .none kV doc pm an (.ref c) ct),fg⟩) (l3:PySem.W.codeIn K (.ref c) "law" =true) (l4:PySem.W.codeHdIn K c Pt=true)
  (g1:yc.all (sk K)=true) (lo0:PySem.W.nsIn K mainGlobals "LONGEST_SIDE" =some (some (.int 12 t0)))
  (eB:PySem.W.nsIn K mainGlobals "NoBoard" =some (some (.ref aB))) (eL:PySem.W.nsIn K mainGlobals "NoLay" =some (some (.ref aL))) (eN:PySem.W.nsIn K mainGlobals "NoNumber" =some (some (.ref aN))) (eS:PySem.W.nsIn K mainGlobals "StepError" =some (some (.ref cS)))
  (xB:qD K cS aB 0=true) (xL:qD K cS aL 1=true) (xN:qD K cS aN 2=true)
  (gaB:PySem.W.findIn K (.ref aB) "__getattribute__" =some (some (.builtin "BaseException.__getattribute__"))) (hoB:PySem.W.findIn K (.ref aB) "__getattr__" =some none) (clB:PySem.W.findIn K (.ref aB) "__class__" =some (some (.builtin "object.__class__")))
  (gaL:PySem.W.findIn K (.ref aL) "__getattribute__" =some (some (.builtin "BaseException.__getattribute__"))) (hoL:PySem.W.findIn K (.ref aL) "__getattr__" =some none) (clL:PySem.W.findIn K (.ref aL) "__class__" =some (some (.builtin "object.__class__")))
  (gaN:PySem.W.findIn K (.ref aN) "__getattribute__" =some (some (.builtin "BaseException.__getattribute__"))) (hoN:PySem.W.findIn K (.ref aN) "__getattr__" =some none) (clN:PySem.W.findIn K (.ref aN) "__class__" =some (some (.builtin "object.__class__"))):
  ∃fd:FuncData,(∀(s:Shared) (u:Value),BindsTo s fd ⟨[u],[]⟩ [("_law_script",u)])∧∀base:Heap,K.In base→base.Ns mainGlobals mg→qR mg base→aE P w K mg base aH 13 fa fd ["_law_script"] (vc K Pt):=by
 have e0:=hmg.symm.trans (PySem.W.mg_of KX G l1)
 cases e0
 obtain⟨gs,mv⟩:=NY KX G g1 lo0
 have ms:=PySem.W.mg_of KX G eS
 obtain⟨MB,yB⟩:=Ub KX G mv ms xB gaB hoB clB
 have T2:Exc K mg "NoBoard" aB:=⟨PySem.W.mg_of KX G eB,yB⟩
 obtain⟨ML,yL⟩:=Ub KX G mv ms xL gaL hoL clL
 have T1:Exc K mg "NoLay" aL:=⟨PySem.W.mg_of KX G eL,yL⟩
 obtain⟨MN,yN⟩:=Ub KX G mv ms xN gaN hoN clN
 have Dk:Exc K mg "NoNumber" aN:=⟨PySem.W.mg_of KX G eN,yN⟩
 have Dj:ze K mg aB aL:=⟨PySem.W.mg_of KX G eB,yB,PySem.W.mg_of KX G eL,yL⟩
 refine⟨PySem.W.fnOf "law" "law" (eV bV) (bM bV) (ay bV) .none kV doc pm an (.ref c) ct,fun s u=> .of_eq rfl,fun base kb nb bm=> ?_⟩
 have b0:∀{x:Str}{st:Stmt},(∀(kV doc pm:Value) (an:Option Addr) (ak ct:Value),bindArgs (PySem.W.fnOf x x (eV st) (bM st) (ay st) .none kV doc pm an ak ct) ⟨[],[]⟩=pure [])→kO x st []:=fun h kV doc pm an ak ct us hl=>match us,hl with | [],_=>h kV doc pm an ak ct
 have b1:∀{x a:Str}{st:Stmt},(∀(kV doc pm:Value) (an:Option Addr) (ak ct u:Value),bindArgs (PySem.W.fnOf x x (eV st) (bM st) (ay st) .none kV doc pm an ak ct) ⟨[u],[]⟩=pure [(a,u)])→kO x st [a]:=fun h kV doc pm an ak ct us hl=>match us,hl with | [u],_=>h kV doc pm an ak ct u
 have b2:∀{x a b:Str}{st:Stmt},(∀(kV doc pm:Value) (an:Option Addr) (ak ct u v:Value),bindArgs (PySem.W.fnOf x x (eV st) (bM st) (ay st) .none kV doc pm an ak ct) ⟨[u,v],[]⟩=pure [(a,u),(b,v)])→kO x st [a,b]:=fun h kV doc pm an ak ct us hl=>match us,hl with | [u,v],_=>h kV doc pm an ak ct u v
 have b3:∀{x a b c:Str}{st:Stmt},(∀(kV doc pm:Value) (an:Option Addr) (ak ct u v w:Value),bindArgs (PySem.W.fnOf x x (eV st) (bM st) (ay st) .none kV doc pm an ak ct) ⟨[u,v,w],[]⟩=pure [(a,u),(b,v),(c,w)])→kO x st [a,b,c]:=fun h kV doc pm an ak ct us hl=>match us,hl with | [u,v,w],_=>h kV doc pm an ak ct u v w
 have b4:∀{x a b c d:Str}{st:Stmt},(∀(kV doc pm:Value) (an:Option Addr) (ak ct u v w y:Value),bindArgs (PySem.W.fnOf x x (eV st) (bM st) (ay st) .none kV doc pm an ak ct) ⟨[u,v,w,y],[]⟩=pure [(a,u),(b,v),(c,w),(d,y)])→kO x st [a,b,c,d]:=fun h kV doc pm an ak ct us hl=>match us,hl with | [u,v,w,y],_=>h kV doc pm an ak ct u v w y
 have b5:∀{x a b c d e:Str}{st:Stmt},(∀(kV doc pm:Value) (an:Option Addr) (ak ct u v w y z:Value),bindArgs (PySem.W.fnOf x x (eV st) (bM st) (ay st) .none kV doc pm an ak ct) ⟨[u,v,w,y,z],[]⟩=pure [(a,u),(b,v),(c,w),(d,y),(e,z)])→kO x st [a,b,c,d,e]:=fun h kV doc pm an ak ct us hl=>match us,hl with | [u,v,w,y,z],_=>h kV doc pm an ak ct u v w y z
 have good:∀b':Heap,((Def P w K mg b' 9 "hits_between" ["board", "one", "other", "right", "up"] rG∧Def P w K mg b' 9 "most_hits" ["board", "one", "other"] oV)∧Def P w K mg b' 10 "like_many" ["board", "lay"] oW)∧bA P w K mg b' 9 "hits_between" ["board", "one", "other", "right", "up"] (rF K aB aL aN)∧bA P w K mg b' 9 "most_hits" ["board", "one", "other"] (ja K aB aL)∧bA P w K mg b' 10 "like_many" ["board", "lay"] (fU K aB aL):=fun b'=>by
  have D0:Def P w K mg b' 1 "is_whole" ["thing"] (oU K):=d0.to KX G (b1 fun _ _ _ _ _ _ _=>rfl) fun f fd F=>QW F gs
  have D1:Def P w K mg b' 2 "is_whole_within" ["thing", "least", "most"] (rq K):=d1.to KX G (b3 fun _ _ _ _ _ _ _ _ _=>rfl) fun f fd F=>RN F D0
  have D2:Def P w K mg b' 2 "need_whole" ["number"] (rC K):=d2.to KX G (b1 fun _ _ _ _ _ _ _=>rfl) fun f fd F=>Og F D0
  have D3:Def P w K mg b' 1 "is_tuple_of" ["thing", "many"] (rA K):=d3.to KX G (b2 fun _ _ _ _ _ _ _ _=>rfl) fun f fd F=>Rr F gs
  have D4:Def P w K mg b' 3 "is_board" ["thing"] (rH K):=d4.to KX G (b1 fun _ _ _ _ _ _ _=>rfl) fun f fd F=>Rk F gs D3 D1
  have D5:Def P w K mg b' 4 "need_board" ["board"] (uX K):=d5.to KX G (b1 fun _ _ _ _ _ _ _=>rfl) fun f fd F=>W9 F D4
  have D6:Def P w K mg b' 5 "is_lay" ["board", "thing"] (rD K):=d6.to KX G (b2 fun _ _ _ _ _ _ _ _=>rfl) fun f fd F=>O0 F gs D5 D3 D1
  have SK:Def P w K mg b' 6 "need_lay" ["board", "lay"] uW:=d7.to KX G (b2 fun _ _ _ _ _ _ _ _=>rfl) fun f fd F=>RD F D6
  have D7:Def P w K mg b' 7 "points" ["board", "lay"] rB:=d8.to KX G (b2 fun _ _ _ _ _ _ _ _=>rfl) fun f fd F=>RM F gs SK
  have D8:Def P w K mg b' 8 "hits_by_move" ["board", "one", "other"] nB:=d9.to KX G (b3 fun _ _ _ _ _ _ _ _ _=>rfl) fun f fd F=>Oa F D7
  have D9:Def P w K mg b' 9 "hits_between" ["board", "one", "other", "right", "up"] rG:=Dv.to KX G (b5 fun _ _ _ _ _ _ _ _ _ _ _=>rfl) fun f fd F=>Ob F D8 D2
  have SO:Def P w K mg b' 9 "all_hits" ["board", "lay"] vq:=Du.to KX G (b2 fun _ _ _ _ _ _ _ _=>rfl) fun f fd F=>N9 F gs D8
  have SN:Def P w K mg b' 9 "most_hits" ["board", "one", "other"] oV:=Dt.to KX G (b3 fun _ _ _ _ _ _ _ _ _=>rfl) fun f fd F=>Of F gs D8
  have SM:Def P w K mg b' 10 "like_many" ["board", "lay"] oW:=Ds.to KX G (b2 fun _ _ _ _ _ _ _ _=>rfl) fun f fd F=>Oe F gs SO
  have R2:bA P w K mg b' 2 "need_whole" ["number"] (uY K aN):=d2.iA KX G (b1 fun _ _ _ _ _ _ _=>rfl) fun f fd F=>O6 F Dk.m Dk.x D0
  have R5:bA P w K mg b' 4 "need_board" ["board"] (uZ K aB):=d5.iA KX G (b1 fun _ _ _ _ _ _ _=>rfl) fun f fd F=>Wu F gs Dj D4
  have R6:bA P w K mg b' 5 "is_lay" ["board", "thing"] (va K aB):=d6.iA KX G (b2 fun _ _ _ _ _ _ _ _=>rfl) fun f fd F=>P1 F R5
  have RY:bA P w K mg b' 6 "need_lay" ["board", "lay"] (fU K aB aL):=d7.iA KX G (b2 fun _ _ _ _ _ _ _ _=>rfl) fun f fd F=>UB F Dj R6 D6
  have R7:bA P w K mg b' 7 "points" ["board", "lay"] (fU K aB aL):=d8.iA KX G (b2 fun _ _ _ _ _ _ _ _=>rfl) fun f fd F=>RE F RY
  have R8:bA P w K mg b' 8 "hits_by_move" ["board", "one", "other"] (ja K aB aL):=d9.iA KX G (b3 fun _ _ _ _ _ _ _ _ _=>rfl) fun f fd F=>OX F D7 R7
  have R9:bA P w K mg b' 9 "hits_between" ["board", "one", "other", "right", "up"] (rF K aB aL aN):=Dv.iA KX G (b5 fun _ _ _ _ _ _ _ _ _ _ _=>rfl) fun f fd F=>OY F D8 R8 D2 R2
  have R3:bA P w K mg b' 9 "all_hits" ["board", "lay"] (fU K aB aL):=Du.iA KX G (b2 fun _ _ _ _ _ _ _ _=>rfl) fun f fd F=>OW F R8
  have R0:bA P w K mg b' 9 "most_hits" ["board", "one", "other"] (ja K aB aL):=Dt.iA KX G (b3 fun _ _ _ _ _ _ _ _ _=>rfl) fun f fd F=>O2 F gs R8
  have RZ:bA P w K mg b' 10 "like_many" ["board", "lay"] (fU K aB aL):=Ds.iA KX G (b2 fun _ _ _ _ _ _ _ _=>rfl) fun f fd F=>O1 F gs R3
  exact⟨⟨⟨D9,SN⟩,SM⟩,R9,R0,RZ⟩
 have hR:∀b':Heap,Def P w K mg b' 12 "_law_refused" ["_law_call"] (nA P w K mg b' cS 11):=fun b'=>aU.to KX G (b1 fun _ _ _ _ _ _ _=>rfl) fun f fd F=>O7 F gs
 have E1:Def P w K mg base 1 "_law_cell_at" ["_law_script", "_law_k"] (vp K):=Nu.to KX G (b2 fun _ _ _ _ _ _ _ _=>rfl) fun f fd F=>P0 F gs
 have E2:Def P w K mg base 2 "_law_state" ["_law_script", "_law_k"] (uQ K):=Nt.to KX G (b2 fun _ _ _ _ _ _ _ _=>rfl) fun f fd F=>Rq F gs E1
 have E3:Def P w K mg base 1 "_law_take" ["_law_state_here", "_law_many"] i9:=Nr.to KX G (b2 fun _ _ _ _ _ _ _ _=>rfl) fun f fd F=>P2 F
 have E4:Def P w K mg base 2 "_law_no_board" ["_law_state_here"] (uV K):=Np.to KX G (b1 fun _ _ _ _ _ _ _=>rfl) fun f fd F=>O3 F E3
 have E5:Def P w K mg base 2 "_law_board" ["_law_state_here", "_law_upto"] vm:=Nq.to KX G (b2 fun _ _ _ _ _ _ _ _=>rfl) fun f fd F=>Rm F E3
 have E6:Def P w K mg base 2 "_law_lay" ["_law_state_here", "_law_board_here"] (vk K):=Nm.to KX G (b2 fun _ _ _ _ _ _ _ _=>rfl) fun f fd F=>Rn F gs E3
 have E7:Def P w K mg base 2 "_law_no_lay" ["_law_state_here", "_law_board_here", "_law_lay_here"] (uU K):=Ni.to KX G (b3 fun _ _ _ _ _ _ _ _ _=>rfl) fun f fd F=>O4 F gs E3
 have E8:Def P w K mg base 2 "_law_no_whole" ["_law_state_here"] (uT K):=Ng.to KX G (b1 fun _ _ _ _ _ _ _=>rfl) fun f fd F=>O5 F E3
 have E9:Def P w K mg base 1 "_law_steps" ["_law_lay_here"] (rE K):=Nl.to KX G (b1 fun _ _ _ _ _ _ _=>rfl) fun f fd F=>RL F gs
 have Sv:Def P w K mg base 2 "_law_unlike" ["_law_lay_here"] ve:=Nk.to KX G (b1 fun _ _ _ _ _ _ _=>rfl) fun f fd F=>RC F E9
 have Su:Def P w K mg base 3 "_law_grown" ["_law_state_here", "_law_board_here"] (vh K):=Nj.to KX G (b2 fun _ _ _ _ _ _ _ _=>rfl) fun f fd F=>Ro F gs E3 Sv
 have Ss:Def P w K mg base 1 "_law_hits" ["_law_one", "_law_other", "_law_right_here", "_law_up"] vg:=Nh.to KX G (b4 fun _ _ _ _ _ _ _ _ _ _=>rfl) fun f fd F=>Oc F gs
 have S1:Def P w K mg base 1 "_law_same" ["_law_found", "_law_due"] (uR Rl):=Nf.to KX G (b2 fun _ _ _ _ _ _ _ _=>rfl) fun f fd F=>Rp F gs
 have Sq:Def P w K mg base 2 "_law_like_many" ["_law_lay_here"] vf:=Nd.to KX G (b1 fun _ _ _ _ _ _ _=>rfl) fun f fd F=>Od F gs E9
 have Sr:Def P w K mg base 11 "_law_right" ["_law_state_here", "_law_board_here", "_law_one", "_law_other"] uS:=Nc.to KX G (b4 fun _ _ _ _ _ _ _ _ _ _=>rfl) fun f fd F=>Oh F gs E3 Ss (good base).1.1.1 (good base).1.1.2 (good base).1.2 Sq S1
 obtain⟨fR,MR,M8,FR⟩:=id aU
 exact OZ l2 l3 gs E2 E4 E8 E5 E6 Su E7 Sr (good base).1.1.2 (good base).1.2 hR (fun b'=> (good b').2.1) (fun b'=> (good b').2.2.1) (fun b'=> (good b').2.2.2) (PySem.W.mg_of KX G M8) FR.kp MB ML MN (PySem.W.codeHd_of_K kb l4) bm
end
end U
theorem PySem.W.Fast.tw8001427041926288416:True:=⟨⟩
theorem PySem.W.Fast.tw3901591101829162016:True:=⟨⟩
theorem PySem.W.Fast.tw13623139802499301504:True:=⟨⟩
theorem PySem.W.Fast.tw6692276230886122656:True:=⟨⟩
theorem PySem.W.Fast.tw9363140465576066240:True:=⟨⟩
theorem PySem.W.Fast.tw17631287787135508768:True:=⟨⟩
theorem PySem.W.Fast.tw13480330869592456832:True:=⟨⟩
theorem PySem.W.Fast.tw1652227047354029824:True:=⟨⟩
theorem PySem.W.Fast.tw37159362019193600:True:=⟨⟩
theorem PySem.W.Fast.tw6525721499592064832:True:=⟨⟩
theorem PySem.W.Fast.tw8440054834424183616:True:=⟨⟩
theorem PySem.W.Fast.tw17865372491111984992:True:=⟨⟩
theorem PySem.W.Fast.tw2665097513550104480:True:=⟨⟩
theorem PySem.W.Fast.tw5772259334293065696:True:=⟨⟩
theorem PySem.W.Fast.tw5290097349328064609:True:=⟨⟩
theorem PySem.W.Fast.tw18028946931704744065:True:=⟨⟩
theorem PySem.W.Fast.tw5633061989444800641:True:=⟨⟩
theorem PySem.W.Fast.tw2089471136709778625:True:=⟨⟩
theorem PySem.W.Fast.tw5202986593307565313:True:=⟨⟩
theorem PySem.W.Fast.tw10019820952511757665:True:=⟨⟩
theorem PySem.W.Fast.tw16556221300784793121:True:=⟨⟩
theorem PySem.W.Fast.tw2895082365656767041:True:=⟨⟩
theorem PySem.W.Fast.tw317826690185643649:True:=⟨⟩
theorem PySem.W.Fast.tw8892082753826313953:True:=⟨⟩
theorem PySem.W.Fast.tw3765977865989123873:True:=⟨⟩
theorem PySem.W.Fast.tw9948659015456459617:True:=⟨⟩
theorem PySem.W.Fast.tw4319382591911629697:True:=⟨⟩
theorem PySem.W.Fast.tw18155896173614909377:True:=⟨⟩
theorem PySem.W.Fast.tw14568452344053839841:True:=⟨⟩
theorem PySem.W.Fast.tw5074351132390600673:True:=⟨⟩
theorem PySem.W.Fast.tw15298772787750431842:True:=⟨⟩
theorem PySem.W.Fast.tw9687869037165561986:True:=⟨⟩
theorem PySem.W.Fast.tw16777712378351176866:True:=⟨⟩
theorem PySem.W.Fast.tw898973598557787362:True:=⟨⟩
theorem PySem.W.Fast.tw12589621165536441570:True:=⟨⟩
theorem PySem.W.Fast.tw15952159407156036866:True:=⟨⟩
theorem PySem.W.Fast.tw2028992314999538082:True:=⟨⟩
theorem PySem.W.Fast.tw8481939896952553954:True:=⟨⟩
theorem PySem.W.Fast.tw3193125620241365474:True:=⟨⟩
theorem PySem.W.Fast.tw7577748333532834402:True:=⟨⟩
theorem PySem.W.Fast.tw1238949770445815394:True:=⟨⟩
theorem PySem.W.Fast.tw6875967399786355330:True:=⟨⟩
theorem PySem.W.Fast.tw5452398901274773186:True:=⟨⟩
theorem PySem.W.Fast.tw2611052343351890626:True:=⟨⟩
theorem PySem.W.Fast.tw6587596570004383426:True:=⟨⟩
theorem PySem.W.Fast.tw108930271977945858:True:=⟨⟩
theorem PySem.W.Fast.tw10731537392772337410:True:=⟨⟩
theorem PySem.W.Fast.tw10936160270516408066:True:=⟨⟩
theorem PySem.W.Fast.tw7370898002383156002:True:=⟨⟩
theorem PySem.W.Fast.tw8585153636857833282:True:=⟨⟩
theorem PySem.W.Fast.tw15903633573779507042:True:=⟨⟩
theorem PySem.W.Fast.tw13426511532815900546:True:=⟨⟩
theorem PySem.W.Fast.tw10584584161060858754:True:=⟨⟩
theorem PySem.W.Fast.tw7595355288770636706:True:=⟨⟩
theorem PySem.W.Fast.tw3089138486114644898:True:=⟨⟩
theorem PySem.W.Fast.tw4412154777131255714:True:=⟨⟩
theorem PySem.W.Fast.tw12066919824744938531:True:=⟨⟩
theorem PySem.W.Fast.tw5194261985349356611:True:=⟨⟩
theorem PySem.W.Fast.tw3011773065512548483:True:=⟨⟩
theorem PySem.W.Fast.tw17534340801045238019:True:=⟨⟩
theorem PySem.W.Fast.tw5003410101827277091:True:=⟨⟩
theorem PySem.W.Fast.tw13012330957627851075:True:=⟨⟩
theorem PySem.W.Fast.tw4971510244621218403:True:=⟨⟩
theorem PySem.W.Fast.tw12379543230824917667:True:=⟨⟩
theorem PySem.W.Fast.tw11718701287078489795:True:=⟨⟩
theorem PySem.W.Fast.tw8114597522217743107:True:=⟨⟩
theorem PySem.W.Fast.tw12499620042041760611:True:=⟨⟩
theorem PySem.W.Fast.tw6590525405152278435:True:=⟨⟩
theorem PySem.W.Fast.tw8976082229395144643:True:=⟨⟩
theorem PySem.W.Fast.tw14523346594573580356:True:=⟨⟩
theorem PySem.W.Fast.tw11976897585701929124:True:=⟨⟩
theorem PySem.W.Fast.tw1533965981155882180:True:=⟨⟩
theorem PySem.W.Fast.tw8010253579110832420:True:=⟨⟩
theorem PySem.W.Fast.tw9825932358631800260:True:=⟨⟩
theorem PySem.W.Fast.tw14689287118300870116:True:=⟨⟩
theorem PySem.W.Fast.tw9521850673608734212:True:=⟨⟩
theorem PySem.W.Fast.tw579388776811522884:True:=⟨⟩
theorem PySem.W.Fast.tw9447123544606689188:True:=⟨⟩
theorem PySem.W.Fast.tw3751522998394822628:True:=⟨⟩
theorem PySem.W.Fast.tw7980267592281464804:True:=⟨⟩
theorem PySem.W.Fast.tw12571116410626673669:True:=⟨⟩
theorem PySem.W.Fast.tw5815709689696768037:True:=⟨⟩
theorem PySem.W.Fast.tw12082160701514122341:True:=⟨⟩
theorem PySem.W.Fast.tw3015873561766081669:True:=⟨⟩
theorem PySem.W.Fast.tw15116114901556575493:True:=⟨⟩
theorem PySem.W.Fast.tw15899764213101983077:True:=⟨⟩
theorem PySem.W.Fast.tw4186115534409542117:True:=⟨⟩
theorem PySem.W.Fast.tw17454187734173769189:True:=⟨⟩
theorem PySem.W.Fast.tw8976987408600425221:True:=⟨⟩
theorem PySem.W.Fast.tw16188410374742804229:True:=⟨⟩
theorem PySem.W.Fast.tw12725327335783998309:True:=⟨⟩
theorem PySem.W.Fast.tw942622175743989605:True:=⟨⟩
theorem PySem.W.Fast.tw5191484893153682277:True:=⟨⟩
theorem PySem.W.Fast.tw6893482932651469797:True:=⟨⟩
theorem PySem.W.Fast.tw3902672401941923846:True:=⟨⟩
theorem PySem.W.Fast.tw14408589223884175398:True:=⟨⟩
theorem PySem.W.Fast.tw4317853950657812614:True:=⟨⟩
theorem PySem.W.Fast.tw1839138170759745670:True:=⟨⟩
theorem PySem.W.Fast.tw4592139486338983302:True:=⟨⟩
theorem PySem.W.Fast.tw14101674042327025126:True:=⟨⟩
theorem PySem.W.Fast.tw13749701821674335878:True:=⟨⟩
theorem PySem.W.Fast.tw17690377418634212391:True:=⟨⟩
theorem PySem.W.Fast.tw7494686858554611783:True:=⟨⟩
theorem PySem.W.Fast.tw5521535285521071175:True:=⟨⟩
theorem PySem.W.Fast.tw7716421050523160679:True:=⟨⟩
theorem PySem.W.Fast.tw13559791589467740263:True:=⟨⟩
theorem PySem.W.Fast.tw15779022411289170087:True:=⟨⟩
theorem PySem.W.Fast.tw3868473745323278503:True:=⟨⟩
theorem PySem.W.Fast.tw13300454212229379271:True:=⟨⟩
theorem PySem.W.Fast.tw16481543120517655815:True:=⟨⟩
theorem PySem.W.Fast.tw9392115228956683559:True:=⟨⟩
theorem PySem.W.Fast.tw6851852477107605895:True:=⟨⟩
theorem PySem.W.Fast.tw16679953209523933607:True:=⟨⟩
theorem PySem.W.Fast.tw16496116759344404103:True:=⟨⟩
theorem PySem.W.Fast.tw7962042776557384359:True:=⟨⟩
theorem PySem.W.Fast.tw3877401399563269863:True:=⟨⟩
theorem PySem.W.Fast.tw17966103295685852103:True:=⟨⟩
theorem PySem.W.Fast.tw10198258718400547848:True:=⟨⟩
theorem PySem.W.Fast.tw5807081130998261832:True:=⟨⟩
theorem PySem.W.Fast.tw16084977656355655784:True:=⟨⟩
theorem PySem.W.Fast.tw7859996154672348392:True:=⟨⟩
theorem PySem.W.Fast.tw4409020963266498856:True:=⟨⟩
theorem PySem.W.Fast.tw10810336116616572328:True:=⟨⟩
theorem PySem.W.Fast.tw8080497139336048200:True:=⟨⟩
theorem PySem.W.Fast.tw5894317918417313352:True:=⟨⟩
theorem PySem.W.Fast.tw7849662914518473384:True:=⟨⟩
theorem PySem.W.Fast.tw17318520617520496616:True:=⟨⟩
theorem PySem.W.Fast.tw11746820070658716681:True:=⟨⟩
theorem PySem.W.Fast.tw7306610058909015081:True:=⟨⟩
theorem PySem.W.Fast.tw16177891600853348425:True:=⟨⟩
theorem PySem.W.Fast.tw9651139297999191273:True:=⟨⟩
theorem PySem.W.Fast.tw16088559184188456457:True:=⟨⟩
theorem PySem.W.Fast.tw5742316325686993577:True:=⟨⟩
theorem PySem.W.Fast.tw16869928414421863113:True:=⟨⟩
theorem PySem.W.Fast.tw1311866848853233513:True:=⟨⟩
theorem PySem.W.Fast.tw14920851062408106985:True:=⟨⟩
theorem PySem.W.Fast.tw10059098861555987466:True:=⟨⟩
theorem PySem.W.Fast.tw3066956361671165994:True:=⟨⟩
theorem PySem.W.Fast.tw18106356263028935754:True:=⟨⟩
theorem PySem.W.Fast.tw9291376087525996682:True:=⟨⟩
theorem PySem.W.Fast.tw13359525783529603242:True:=⟨⟩
theorem PySem.W.Fast.tw1690836624850374890:True:=⟨⟩
theorem PySem.W.Fast.tw7045048223528014090:True:=⟨⟩
theorem PySem.W.Fast.tw13910976428810334570:True:=⟨⟩
theorem PySem.W.Fast.tw1199137292976771626:True:=⟨⟩
theorem PySem.W.Fast.tw12579014478967902762:True:=⟨⟩
theorem PySem.W.Fast.tw14374776789794356810:True:=⟨⟩
theorem PySem.W.Fast.tw3373740656718916234:True:=⟨⟩
theorem PySem.W.Fast.tw6263586893640330:True:=⟨⟩
theorem PySem.W.Fast.tw11409738963589395114:True:=⟨⟩
theorem PySem.W.Fast.tw8234818218469116650:True:=⟨⟩
theorem PySem.W.Fast.tw15143677038292975498:True:=⟨⟩
theorem PySem.W.Fast.tw1975789118042481610:True:=⟨⟩
theorem PySem.W.Fast.tw18281744973283165195:True:=⟨⟩
theorem PySem.W.Fast.tw13498348304820354123:True:=⟨⟩
theorem PySem.W.Fast.tw4204851702335795339:True:=⟨⟩
theorem PySem.W.Fast.tw11074295193335348491:True:=⟨⟩
theorem PySem.W.Fast.tw5432521440874044779:True:=⟨⟩
theorem PySem.W.Fast.tw10397103201704976779:True:=⟨⟩
theorem PySem.W.Fast.tw2418831669396731371:True:=⟨⟩
theorem PySem.W.Fast.tw8751312249441236491:True:=⟨⟩
theorem PySem.W.Fast.tw9613494731239395915:True:=⟨⟩
theorem PySem.W.Fast.tw10062460804968546027:True:=⟨⟩
theorem PySem.W.Fast.tw12035706369992504043:True:=⟨⟩
theorem PySem.W.Fast.tw386410950796147531:True:=⟨⟩
theorem PySem.W.Fast.tw3293405983087680363:True:=⟨⟩
theorem PySem.W.Fast.tw14670886067072489355:True:=⟨⟩
theorem PySem.W.Fast.tw203743993654819852:True:=⟨⟩
theorem PySem.W.Fast.tw17277798245144316012:True:=⟨⟩
theorem PySem.W.Fast.tw11232551135543238828:True:=⟨⟩
theorem PySem.W.Fast.tw6995965044992035052:True:=⟨⟩
theorem PySem.W.Fast.tw14143713030092325132:True:=⟨⟩
theorem PySem.W.Fast.tw6993104565011719436:True:=⟨⟩
theorem PySem.W.Fast.tw12086966632163040556:True:=⟨⟩
theorem PySem.W.Fast.tw17103901589822038444:True:=⟨⟩
theorem PySem.W.Fast.tw14408271888750394924:True:=⟨⟩
theorem PySem.W.Fast.tw5610344204006246988:True:=⟨⟩
theorem PySem.W.Fast.tw12137359795706656364:True:=⟨⟩
theorem PySem.W.Fast.tw12352011591969332940:True:=⟨⟩
theorem PySem.W.Fast.tw3792248977971396332:True:=⟨⟩
theorem PySem.W.Fast.tw16182467430096116620:True:=⟨⟩
theorem PySem.W.Fast.tw12893009913714854860:True:=⟨⟩
theorem PySem.W.Fast.tw3568918164851322989:True:=⟨⟩
theorem PySem.W.Fast.tw6582070157822643373:True:=⟨⟩
theorem PySem.W.Fast.tw1613994806236369133:True:=⟨⟩
theorem PySem.W.Fast.tw8797543400658947373:True:=⟨⟩
theorem PySem.W.Fast.tw13001756575952281997:True:=⟨⟩
theorem PySem.W.Fast.tw15328874135608193581:True:=⟨⟩
theorem PySem.W.Fast.tw6141816054656228973:True:=⟨⟩
theorem PySem.W.Fast.tw7110465725881585357:True:=⟨⟩
theorem PySem.W.Fast.tw16989694344314527661:True:=⟨⟩
theorem PySem.W.Fast.tw14538168538035255245:True:=⟨⟩
theorem PySem.W.Fast.tw3328323928280991758:True:=⟨⟩
theorem PySem.W.Fast.tw3336125044961781806:True:=⟨⟩
theorem PySem.W.Fast.tw13142607068100601006:True:=⟨⟩
theorem PySem.W.Fast.tw9741272378072813806:True:=⟨⟩
theorem PySem.W.Fast.tw8191341979439813998:True:=⟨⟩
theorem PySem.W.Fast.tw17400924139138162222:True:=⟨⟩
theorem PySem.W.Fast.tw17896849304201058894:True:=⟨⟩
theorem PySem.W.Fast.tw12668248439126993870:True:=⟨⟩
theorem PySem.W.Fast.tw12508049699096667183:True:=⟨⟩
theorem PySem.W.Fast.tw3120766644611162191:True:=⟨⟩
theorem PySem.W.Fast.tw3931258233629463727:True:=⟨⟩
theorem PySem.W.Fast.tw13386836939514672303:True:=⟨⟩
theorem PySem.W.Fast.tw12469906243566131471:True:=⟨⟩
theorem PySem.W.Fast.tw4444652773217931567:True:=⟨⟩
theorem PySem.W.Fast.tw14199274586835057007:True:=⟨⟩
theorem PySem.W.Fast.tw17215472221659334031:True:=⟨⟩
theorem PySem.W.Fast.tw8937203245941449167:True:=⟨⟩
theorem PySem.W.Fast.tw13468491208091959759:True:=⟨⟩
theorem PySem.W.Fast.tw17992114087554253647:True:=⟨⟩
theorem PySem.W.Fast.tw3200019665093782447:True:=⟨⟩
theorem PySem.W.Fast.tw12122873540988288943:True:=⟨⟩
theorem PySem.W.Fast.tw3536836802177954832:True:=⟨⟩
theorem PySem.W.Fast.tw7667476324104797232:True:=⟨⟩
theorem PySem.W.Fast.tw14718939861790916944:True:=⟨⟩
theorem PySem.W.Fast.tw820930649694940496:True:=⟨⟩
theorem PySem.W.Fast.tw14482999394070231472:True:=⟨⟩
theorem PySem.W.Fast.tw3147679088504258064:True:=⟨⟩
theorem PySem.W.Fast.tw3492147641574427312:True:=⟨⟩
theorem PySem.W.Fast.tw14740749203523205808:True:=⟨⟩
theorem PySem.W.Fast.tw6082522299955231440:True:=⟨⟩
theorem PySem.W.Fast.tw11849333423830406161:True:=⟨⟩
theorem PySem.W.Fast.tw6601663064483309617:True:=⟨⟩
theorem PySem.W.Fast.tw2039568484103305361:True:=⟨⟩
theorem PySem.W.Fast.tw13068991003483285713:True:=⟨⟩
theorem PySem.W.Fast.tw14635723427809817969:True:=⟨⟩
theorem PySem.W.Fast.tw3397697765594893713:True:=⟨⟩
theorem PySem.W.Fast.tw15383748704972218769:True:=⟨⟩
theorem PySem.W.Fast.tw4202123735674337713:True:=⟨⟩
theorem PySem.W.Fast.tw17358999241558135345:True:=⟨⟩
theorem PySem.W.Fast.tw12103404270628106929:True:=⟨⟩
theorem PySem.W.Fast.tw7911395227512244274:True:=⟨⟩
theorem PySem.W.Fast.tw5850863333643641970:True:=⟨⟩
theorem PySem.W.Fast.tw13216230785566020722:True:=⟨⟩
theorem PySem.W.Fast.tw3639275381792251026:True:=⟨⟩
theorem PySem.W.Fast.tw13309590814383546514:True:=⟨⟩
theorem PySem.W.Fast.tw3371985953782568306:True:=⟨⟩
theorem PySem.W.Fast.tw6036746673237765554:True:=⟨⟩
theorem PySem.W.Fast.tw1120831536237927890:True:=⟨⟩
theorem PySem.W.Fast.tw11069565561114373746:True:=⟨⟩
theorem PySem.W.Fast.tw13579535737058205394:True:=⟨⟩
theorem PySem.W.Fast.tw13762837561109077810:True:=⟨⟩
theorem PySem.W.Fast.tw4418191538284327794:True:=⟨⟩
theorem PySem.W.Fast.tw12568199513437278098:True:=⟨⟩
theorem PySem.W.Fast.tw2549835029450555282:True:=⟨⟩
theorem PySem.W.Fast.tw3274486475380345875:True:=⟨⟩
theorem PySem.W.Fast.tw2307250206316717139:True:=⟨⟩
theorem PySem.W.Fast.tw11607208905457392723:True:=⟨⟩
theorem PySem.W.Fast.tw91126688315244723:True:=⟨⟩
theorem PySem.W.Fast.tw1749865950707855699:True:=⟨⟩
theorem PySem.W.Fast.tw7200261739409309011:True:=⟨⟩
theorem PySem.W.Fast.tw4153572896041013619:True:=⟨⟩
theorem PySem.W.Fast.tw15907278760185819603:True:=⟨⟩
theorem PySem.W.Fast.tw16224775421209839091:True:=⟨⟩
theorem PySem.W.Fast.tw2954528842630616659:True:=⟨⟩
theorem PySem.W.Fast.tw9457929780821889779:True:=⟨⟩
theorem PySem.W.Fast.tw14876353604481824723:True:=⟨⟩
theorem PySem.W.Fast.tw8672272491745918931:True:=⟨⟩
theorem PySem.W.Fast.tw2935790584687567924:True:=⟨⟩
theorem PySem.W.Fast.tw5585595543343670452:True:=⟨⟩
theorem PySem.W.Fast.tw14394295132772778260:True:=⟨⟩
theorem PySem.W.Fast.tw13906218250755613044:True:=⟨⟩
theorem PySem.W.Fast.tw17832239332933117300:True:=⟨⟩
theorem PySem.W.Fast.tw8625945719305276820:True:=⟨⟩
theorem PySem.W.Fast.tw13728532239228772852:True:=⟨⟩
theorem PySem.W.Fast.tw10857721000877744692:True:=⟨⟩
theorem PySem.W.Fast.tw114349844632098452:True:=⟨⟩
theorem PySem.W.Fast.tw1569213623390167732:True:=⟨⟩
theorem PySem.W.Fast.tw5892527172230345396:True:=⟨⟩
theorem PySem.W.Fast.tw3342893311936331636:True:=⟨⟩
theorem PySem.W.Fast.tw2376522061918788500:True:=⟨⟩
theorem PySem.W.Fast.tw3277586028736842837:True:=⟨⟩
theorem PySem.W.Fast.tw7696093658481691029:True:=⟨⟩
theorem PySem.W.Fast.tw1141515193918583221:True:=⟨⟩
theorem PySem.W.Fast.tw6960145109911829973:True:=⟨⟩
theorem PySem.W.Fast.tw5077700166185305685:True:=⟨⟩
theorem PySem.W.Fast.tw3241071792118440533:True:=⟨⟩
theorem PySem.W.Fast.tw1292026382375288501:True:=⟨⟩
theorem PySem.W.Fast.tw15999473431979411349:True:=⟨⟩
theorem PySem.W.Fast.tw12562743293523883989:True:=⟨⟩
theorem PySem.W.Fast.tw9962826529413226550:True:=⟨⟩
theorem PySem.W.Fast.tw7677263132316828726:True:=⟨⟩
theorem PySem.W.Fast.tw6827918579002424438:True:=⟨⟩
theorem PySem.W.Fast.tw9563397710833351830:True:=⟨⟩
theorem PySem.W.Fast.tw7651086184018538710:True:=⟨⟩
theorem PySem.W.Fast.tw15823504497572706518:True:=⟨⟩
theorem PySem.W.Fast.tw15397552761860273558:True:=⟨⟩
theorem PySem.W.Fast.tw4485202665672868246:True:=⟨⟩
theorem PySem.W.Fast.tw9897410103029758358:True:=⟨⟩
theorem PySem.W.Fast.tw17013780321174081078:True:=⟨⟩
theorem PySem.W.Fast.tw7831191318672609942:True:=⟨⟩
theorem PySem.W.Fast.tw18443780544715323030:True:=⟨⟩
theorem PySem.W.Fast.tw6912339580007191318:True:=⟨⟩
theorem PySem.W.Fast.tw5569821336335554326:True:=⟨⟩
theorem PySem.W.Fast.tw4687778850264032022:True:=⟨⟩
theorem PySem.W.Fast.tw13725547941574470486:True:=⟨⟩
theorem PySem.W.Fast.tw15708180259231745910:True:=⟨⟩
theorem PySem.W.Fast.tw17977523688085460886:True:=⟨⟩
theorem PySem.W.Fast.tw13118840845720467350:True:=⟨⟩
theorem PySem.W.Fast.tw9106132890391755766:True:=⟨⟩
theorem PySem.W.Fast.tw2384050966340623447:True:=⟨⟩
theorem PySem.W.Fast.tw17912385448779367543:True:=⟨⟩
theorem PySem.W.Fast.tw8696583988172160151:True:=⟨⟩
theorem PySem.W.Fast.tw9112720494967827639:True:=⟨⟩
theorem PySem.W.Fast.tw7695362745183631575:True:=⟨⟩
theorem PySem.W.Fast.tw12983794000409367831:True:=⟨⟩
theorem PySem.W.Fast.tw5858332745210110359:True:=⟨⟩
theorem PySem.W.Fast.tw11748900087247836663:True:=⟨⟩
theorem PySem.W.Fast.tw15273819445437478519:True:=⟨⟩
theorem PySem.W.Fast.tw17840391340301522583:True:=⟨⟩
theorem PySem.W.Fast.tw11344240122352753431:True:=⟨⟩
theorem PySem.W.Fast.tw11924937277467025207:True:=⟨⟩
theorem PySem.W.Fast.tw1112112879514164023:True:=⟨⟩
theorem PySem.W.Fast.tw6404380848284248919:True:=⟨⟩
theorem PySem.W.Fast.tw1377963017401461623:True:=⟨⟩
theorem PySem.W.Fast.tw6450887007364516759:True:=⟨⟩
theorem PySem.W.Fast.tw12462407980427685815:True:=⟨⟩
theorem PySem.W.Fast.tw12546290762673126359:True:=⟨⟩
theorem PySem.W.Fast.tw15473750372354976920:True:=⟨⟩
theorem PySem.W.Fast.tw12377426897866166488:True:=⟨⟩
theorem PySem.W.Fast.tw3361367109222628632:True:=⟨⟩
theorem PySem.W.Fast.tw15566042295841504760:True:=⟨⟩
theorem PySem.W.Fast.tw11225323022724404760:True:=⟨⟩
theorem PySem.W.Fast.tw16380134723079767640:True:=⟨⟩
theorem PySem.W.Fast.tw16412472900117376664:True:=⟨⟩
theorem PySem.W.Fast.tw17257104418362439512:True:=⟨⟩
theorem PySem.W.Fast.tw15076254463044161400:True:=⟨⟩
theorem PySem.W.Fast.tw2788073931690048376:True:=⟨⟩
theorem PySem.W.Fast.tw1200874712871285752:True:=⟨⟩
theorem PySem.W.Fast.tw6809735307127139385:True:=⟨⟩
theorem PySem.W.Fast.tw3281405751854896249:True:=⟨⟩
theorem PySem.W.Fast.tw17363239465289269401:True:=⟨⟩
theorem PySem.W.Fast.tw18353910914504474809:True:=⟨⟩
theorem PySem.W.Fast.tw10427971870413298009:True:=⟨⟩
theorem PySem.W.Fast.tw15179435153415977465:True:=⟨⟩
theorem PySem.W.Fast.tw10079920791565012473:True:=⟨⟩
theorem PySem.W.Fast.tw7007815901831797401:True:=⟨⟩
theorem PySem.W.Fast.tw764383623934331673:True:=⟨⟩
theorem PySem.W.Fast.tw11717628774204523546:True:=⟨⟩
theorem PySem.W.Fast.tw11602047837676459034:True:=⟨⟩
theorem PySem.W.Fast.tw16061378657605937306:True:=⟨⟩
theorem PySem.W.Fast.tw12997820050636747002:True:=⟨⟩
theorem PySem.W.Fast.tw15356090271744929146:True:=⟨⟩
theorem PySem.W.Fast.tw4259166895292091770:True:=⟨⟩
theorem PySem.W.Fast.tw12600360051505017306:True:=⟨⟩
theorem PySem.W.Fast.tw12221254843214066170:True:=⟨⟩
theorem PySem.W.Fast.tw11576725651281389050:True:=⟨⟩
theorem PySem.W.Fast.tw9242060030512539194:True:=⟨⟩
theorem PySem.W.Fast.tw14425323063098659482:True:=⟨⟩
theorem PySem.W.Fast.tw8714783861837848250:True:=⟨⟩
theorem PySem.W.Fast.tw7131222346129500986:True:=⟨⟩
theorem PySem.W.Fast.tw17760356996315247450:True:=⟨⟩
theorem PySem.W.Fast.tw3376155771860967258:True:=⟨⟩
theorem PySem.W.Fast.tw13483296784967557179:True:=⟨⟩
theorem PySem.W.Fast.tw12551742264547786907:True:=⟨⟩
theorem PySem.W.Fast.tw1306857121467359483:True:=⟨⟩
theorem PySem.W.Fast.tw4393293816247141915:True:=⟨⟩
theorem PySem.W.Fast.tw15755107917823022619:True:=⟨⟩
theorem PySem.W.Fast.tw17136479892982877851:True:=⟨⟩
theorem PySem.W.Fast.tw14676268311042893531:True:=⟨⟩
theorem PySem.W.Fast.tw4288169898084691739:True:=⟨⟩
theorem PySem.W.Fast.tw17603802833996459835:True:=⟨⟩
theorem PySem.W.Fast.tw5822314831007580027:True:=⟨⟩
theorem PySem.W.Fast.tw6357950621893698459:True:=⟨⟩
theorem PySem.W.Fast.tw7237552272111349659:True:=⟨⟩
theorem PySem.W.Fast.tw11704012698530034619:True:=⟨⟩
theorem PySem.W.Fast.tw713805507702504379:True:=⟨⟩
theorem PySem.W.Fast.tw11206615922785029083:True:=⟨⟩
theorem PySem.W.Fast.tw14212947617205203996:True:=⟨⟩
theorem PySem.W.Fast.tw2878028396498486300:True:=⟨⟩
theorem PySem.W.Fast.tw14869173856166649948:True:=⟨⟩
theorem PySem.W.Fast.tw3207543870462862428:True:=⟨⟩
theorem PySem.W.Fast.tw12183523173988456604:True:=⟨⟩
theorem PySem.W.Fast.tw1591128254721244380:True:=⟨⟩
theorem PySem.W.Fast.tw6804898407759976828:True:=⟨⟩
theorem PySem.W.Fast.tw2093000242565029276:True:=⟨⟩
theorem PySem.W.Fast.tw7377343460199463388:True:=⟨⟩
theorem PySem.W.Fast.tw3750540085348710940:True:=⟨⟩
theorem PySem.W.Fast.tw1913175087444988476:True:=⟨⟩
theorem PySem.W.Fast.tw4565213013717804636:True:=⟨⟩
theorem PySem.W.Fast.tw6382027640624405116:True:=⟨⟩
theorem PySem.W.Fast.tw4796587153883202172:True:=⟨⟩
theorem PySem.W.Fast.tw8999993416236700316:True:=⟨⟩
theorem PySem.W.Fast.tw3419484923149899484:True:=⟨⟩
theorem PySem.W.Fast.tw11175081978503144188:True:=⟨⟩
theorem PySem.W.Fast.tw15345352600309511964:True:=⟨⟩
theorem PySem.W.Fast.tw10124002733284046684:True:=⟨⟩
theorem PySem.W.Fast.tw6976726107609581468:True:=⟨⟩
theorem PySem.W.Fast.tw12458038149629263836:True:=⟨⟩
theorem PySem.W.Fast.tw64871209523522556:True:=⟨⟩
theorem PySem.W.Fast.tw9751174708551253053:True:=⟨⟩
theorem PySem.W.Fast.tw11038103607611085885:True:=⟨⟩
theorem PySem.W.Fast.tw105147322328340605:True:=⟨⟩
theorem PySem.W.Fast.tw15616966867293716637:True:=⟨⟩
theorem PySem.W.Fast.tw18387825464340033757:True:=⟨⟩
theorem PySem.W.Fast.tw17202741331783912733:True:=⟨⟩
theorem PySem.W.Fast.tw819878510486834493:True:=⟨⟩
theorem PySem.W.Fast.tw2343771294132520349:True:=⟨⟩
theorem PySem.W.Fast.tw15001881371130234365:True:=⟨⟩
theorem PySem.W.Fast.tw4123944186150615581:True:=⟨⟩
theorem PySem.W.Fast.tw9882378740961536861:True:=⟨⟩
theorem PySem.W.Fast.tw4441097744312703262:True:=⟨⟩
theorem PySem.W.Fast.tw2237660721675765214:True:=⟨⟩
theorem PySem.W.Fast.tw12360946132299437534:True:=⟨⟩
theorem PySem.W.Fast.tw5343143433625919006:True:=⟨⟩
theorem PySem.W.Fast.tw13547052849447070558:True:=⟨⟩
theorem PySem.W.Fast.tw12585541233155766174:True:=⟨⟩
theorem PySem.W.Fast.tw18235000338866347103:True:=⟨⟩
theorem PySem.W.Fast.tw11643354450897825951:True:=⟨⟩
theorem PySem.W.Fast.tw14854252525244071071:True:=⟨⟩
theorem PySem.W.Fast.tw112427874148402431:True:=⟨⟩
theorem PySem.W.Fast.tw6148500035904794943:True:=⟨⟩
theorem PySem.W.Fast.tw3528240922179940703:True:=⟨⟩
theorem PySem.W.Fast.tw5387965202568128991:True:=⟨⟩
theorem PySem.W.Fast.tw5588270910965063167:True:=⟨⟩
theorem PySem.W.Fast.tw5013704181513700927:True:=⟨⟩
theorem PySem.W.Fast.tw338590124013472351:True:=⟨⟩
theorem PySem.W.Fast.tw17873399158277765791:True:=⟨⟩
theorem PySem.W.Fast.tw13862132133857513375:True:=⟨⟩
theorem PySem.W.Fast.tw7144708917647238019:True:=⟨⟩
set_option maxRecDepth 100000 in
set_option maxHeartbeats 0 in
theorem PySem.Challenge.cw_unlikesteps_k12_hits_of_two_lays_holds : PySem.Challenge.rw_unlikesteps_k12_hits_of_two_lays.Holds := by
 w_on; o_law; k_head; (case hw => w_witness2)
 k_fill
 refine U.Fe (l := PySem.Challenge.rw_unlikesteps_k12_hits_of_two_lays) (n := 63) (k := 13) (x := "_law_script") (Pts := [397]) (sp := fun K => U.vc K 397) rfl (by decide) rfl ⟨rfl, by decide, by decide, rfl⟩ (fun w h Y => PySem.W.km_in_of Y) ?hT9 ?hC9 ?hN9 ?F ?S
 case hT9 =>
  intro w h Y P hP
  simp only [List.mem_cons, List.not_mem_nil, or_false] at hP
  rcases hP with rfl
  ·exact PySem.W.km_tabs_of Y 397 (by simp)
 case hC9 =>
  intro w h X P hP
  simp only [List.mem_cons, List.not_mem_nil, or_false] at hP
  rcases hP with rfl
  ·exact ⟨399, PySem.W.codeHd_of_K X (by kernel_rfl)⟩
 case hN9 =>
  intro w P hP
  simp only [List.mem_cons, List.not_mem_nil, or_false] at hP
  rcases hP with rfl
  ·kernel_rfl
 case S => exact fun K H a ns hl hs hp => ⟨a, ns, rfl, hs, hl, hp _ (by simp), fun _ => rfl⟩
 case F =>
  intro w mg fa h KX G hmg
  refine' U.ID (c := 399) (Pt := 397) KX G hmg (U.bN ?a0 ?b0 ?c0 ?e0) (U.bN ?a1 ?b1 ?c1 ?e1) (U.bN ?a2 ?b2 ?c2 ?e2) (U.bN ?a3 ?b3 ?c3 ?e3) (U.bN ?a4 ?b4 ?c4 ?e4) (U.bN ?a5 ?b5 ?c5 ?e5) (U.bN ?a6 ?b6 ?c6 ?e6) (U.bN ?a7 ?b7 ?c7 ?e7) (U.bN ?a8 ?b8 ?c8 ?e8) (U.bN ?a9 ?b9 ?c9 ?e9) (U.bN ?a10 ?b10 ?c10 ?e10) (U.bN ?a11 ?b11 ?c11 ?e11) (U.bN ?a12 ?b12 ?c12 ?e12) (U.bN ?a13 ?b13 ?c13 ?e13) (U.bN ?a14 ?b14 ?c14 ?e14) (U.bN ?a15 ?b15 ?c15 ?e15) (U.bN ?a16 ?b16 ?c16 ?e16) (U.bN ?a17 ?b17 ?c17 ?e17) (U.bN ?a18 ?b18 ?c18 ?e18) (U.bN ?a19 ?b19 ?c19 ?e19) (U.bN ?a20 ?b20 ?c20 ?e20) (U.bN ?a21 ?b21 ?c21 ?e21) (U.bN ?a22 ?b22 ?c22 ?e22) (U.bN ?a23 ?b23 ?c23 ?e23) (U.bN ?a24 ?b24 ?c24 ?e24) (U.bN ?a25 ?b25 ?c25 ?e25) (U.bN ?a26 ?b26 ?c26 ?e26) (U.bN ?a27 ?b27 ?c27 ?e27) (U.bN ?a28 ?b28 ?c28 ?e28) (U.bN ?a29 ?b29 ?c29 ?e29) ?l1 ?l2 ?l3 ?l4 ?g1 ?lo0 ?eB ?eL ?eN ?eS ?xB ?xL ?xN ?gaB ?hoB ?clB ?gaL ?hoL ?clL ?gaN ?hoN ?clN
  (case a0 => k_is); (case b0 => k_is); (case c0 => k_is); (case e0 => k_is)
  (case a1 => k_is); (case b1 => k_is); (case c1 => k_is); (case e1 => k_is)
  (case a2 => k_is); (case b2 => k_is); (case c2 => k_is); (case e2 => k_is)
  (case a3 => k_is); (case b3 => k_is); (case c3 => k_is); (case e3 => k_is)
  (case a4 => k_is); (case b4 => k_is); (case c4 => k_is); (case e4 => k_is)
  (case a5 => k_is); (case b5 => k_is); (case c5 => k_is); (case e5 => k_is)
  (case a6 => k_is); (case b6 => k_is); (case c6 => k_is); (case e6 => k_is)
  (case a7 => k_is); (case b7 => k_is); (case c7 => k_is); (case e7 => k_is)
  (case a8 => k_is); (case b8 => k_is); (case c8 => k_is); (case e8 => k_is)
  (case a9 => k_is); (case b9 => k_is); (case c9 => k_is); (case e9 => k_is)
  (case a10 => k_is); (case b10 => k_is); (case c10 => k_is); (case e10 => k_is)
  (case a11 => k_is); (case b11 => k_is); (case c11 => k_is); (case e11 => k_is)
  (case a12 => k_is); (case b12 => k_is); (case c12 => k_is); (case e12 => k_is)
  (case a13 => k_is); (case b13 => k_is); (case c13 => k_is); (case e13 => k_is)
  (case a14 => k_is); (case b14 => k_is); (case c14 => k_is); (case e14 => k_is)
  (case a15 => k_is); (case b15 => k_is); (case c15 => k_is); (case e15 => k_is)
  (case a16 => k_is); (case b16 => k_is); (case c16 => k_is); (case e16 => k_is)
  (case a17 => k_is); (case b17 => k_is); (case c17 => k_is); (case e17 => k_is)
  (case a18 => k_is); (case b18 => k_is); (case c18 => k_is); (case e18 => k_is)
  (case a19 => k_is); (case b19 => k_is); (case c19 => k_is); (case e19 => k_is)
  (case a20 => k_is); (case b20 => k_is); (case c20 => k_is); (case e20 => k_is)
  (case a21 => k_is); (case b21 => k_is); (case c21 => k_is); (case e21 => k_is)
  (case a22 => k_is); (case b22 => k_is); (case c22 => k_is); (case e22 => k_is)
  (case a23 => k_is); (case b23 => k_is); (case c23 => k_is); (case e23 => k_is)
  (case a24 => k_is); (case b24 => k_is); (case c24 => k_is); (case e24 => k_is)
  (case a25 => k_is); (case b25 => k_is); (case c25 => k_is); (case e25 => k_is)
  (case a26 => k_is); (case b26 => k_is); (case c26 => k_is); (case e26 => k_is)
  (case a27 => k_is); (case b27 => k_is); (case c27 => k_is); (case e27 => k_is)
  (case a28 => k_is); (case b28 => k_is); (case c28 => k_is); (case e28 => k_is)
  (case a29 => k_is); (case b29 => k_is); (case c29 => k_is); (case e29 => k_is)
  (case l1 => k_is)
  (case l2 => k_is)
  (case l3 => k_is)
  (case l4 => kernel_rfl)
  (case g1 => kernel_rfl)
  (case lo0 => k_is)
  (case eB => k_is)
  (case eL => k_is)
  (case eN => k_is)
  (case eS => k_is)
  (case xB => kernel_rfl)
  (case xL => kernel_rfl)
  (case xN => kernel_rfl)
  (case gaB => k_is)
  (case hoB => k_is)
  (case clB => k_is)
  (case gaL => k_is)
  (case hoL => k_is)
  (case clL => k_is)
  (case gaN => k_is)
  (case hoN => k_is)
  (case clN => k_is)
