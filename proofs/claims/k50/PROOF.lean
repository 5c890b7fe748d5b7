import PyProof.Rows.All
import Wide.All
import OpenK.AllK
import Wide.FinOn
import Lean
import PyProof.EqAt
import PyProof.EqKinds
import PyProof.TupleCall
import PyProof.NeKinds
import PyProof.Rows.SortWalk
import PyProof.Rows.SortRuns
import KE.KMinKey
import PyProof.IsRules
import PySem.SetOps
import PyProof.SetScanFacts
import PyProof.TupleKey
import PyProof.SetKind
import PyProof.Rows.SetFrom
import KE.KRevSl
import PyProof.Rows.SumAny
import PyProof.EnumMake
import PyProof.SeqI3
import PyProof.TupleOfGen
import PyProof.ListRange
import PyProof.CollectIter
import PySem.Challenge.RW_unlikesteps_k50_the_most_points
set_option Elab.async false
set_option linter.all false
set_option maxRecDepth 100000
set_option maxHeartbeats 0
namespace L2
open PySem PySem.Spec PyProof.Rows
abbrev Key:=Sum Int Str
def AO:Key→Value→Bool
 | .inl k,v=>Value.isInt k v
 | .inr x,v=>Value.isStrOf x v
def HX (w:World):Key→Int
 | .inl k=>hashInt k
 | .inr x=>hashStr w x
theorem ZN:∀{k:Key}{v:Value},AO k v=true→(∃i t,k=Sum.inl i∧v=Value.int i t)∨(∃x t,k=Sum.inr x∧v=Value.str x t)
 | .inl i,v,h=>by
  obtain⟨t,e⟩:=Value.isInt_shape (k:=i) (v:=v) h
  exact .inl ⟨i,t,rfl,e⟩
 | .inr x,v,h=>by
  obtain⟨t,e⟩:=Value.isStrOf_shape (x:=x) (v:=v) h
  exact .inr ⟨x,t,rfl,e⟩
theorem Nh (a b:Int):decide ((Sum.inl a:Key)=Sum.inl b)=(a==b):=by
 by_cases e:a=b
 ·subst e;simp
 ·have h:¬(Sum.inl a:Key)=Sum.inl b:=fun q=>e (Sum.inl.inj q)
  rw[decide_eq_false h]
  exact(beq_eq_false_iff_ne.mpr e).symm
theorem Nk (a b:Str):decide ((Sum.inr a:Key)=Sum.inr b)=decide (a=b):=by
 by_cases e:a=b
 ·subst e;simp
 ·have h:¬(Sum.inr a:Key)=Sum.inr b:=fun q=>e (Sum.inr.inj q)
  rw[decide_eq_false h,decide_eq_false e]
theorem Ni (a:Int) (b:Str):decide ((Sum.inl a:Key)=Sum.inr b)=false:=decide_eq_false (fun q=>nomatch q)
theorem Nj (a:Str) (b:Int):decide ((Sum.inr a:Key)=Sum.inl b)=false:=decide_eq_false (fun q=>nomatch q)
def AB (prog:Program) (w:World):PySem.KeyKind prog w Key where
 is:=AO
 hash:=HX w
 inj:=fun v a b ha hb=>by
  rcases ZN ha with ⟨i,t,rfl,rfl⟩ |⟨x,t,rfl,rfl⟩
  ·rcases ZN hb with ⟨j,u,rfl,e⟩ |⟨y,u,rfl,e⟩
   ·injection e with e1 _;rw[e1]
   ·exact nomatch e
  ·rcases ZN hb with ⟨j,u,rfl,e⟩ |⟨y,u,rfl,e⟩
   ·exact nomatch e
   ·injection e with e1 _;rw[e1]
 byValue:=fun k v h=>by
  rcases ZN h with ⟨i,t,rfl,rfl⟩ |⟨x,t,rfl,rfl⟩<;>rfl
 pyHash:=fun hv h=>by
  rcases ZN hv with ⟨i,t,rfl,rfl⟩ |⟨x,t,rfl,rfl⟩
  ·exact wpAny_pyHash_int h
  ·exact wpAny_pyHash_str h
 eqBool:=fun hu hv h=>by
  rcases ZN hu with ⟨i,t,rfl,rfl⟩ |⟨x,t,rfl,rfl⟩
  ·rcases ZN hv with ⟨j,u,rfl,rfl⟩ |⟨y,u,rfl,rfl⟩
   ·rw[Nh]at h;exact wpAny_eqBool_int h
   ·rw[Ni]at h;exact SeqAt.EqAt.int_str i t y u _ _ _ _ h
  ·rcases ZN hv with ⟨j,u,rfl,rfl⟩ |⟨y,u,rfl,rfl⟩
   ·rw[Nj]at h;exact SeqAt.EqAt.str_int x t j u _ _ _ _ h
   ·rw[Nk]at h;exact wpAny_eqBool_str h
 «strs» :=fun k x t v h=>by
  rcases ZN h with ⟨i,u,rfl,e⟩ |⟨y,u,rfl,e⟩
  ·exact nomatch e
  ·injection e with e1 _
   subst e1
   cases v<;>rfl
inductive V where
 |af |bl (b:Bool) |int (i:Int) |str (x:Str) |gK (b:Array UInt8) |iE (b:UInt64) |ref (a:Addr) |ty (n:String)
 deriving DecidableEq
def RelV:V→Value→Prop
 | .af,u=>u=Value.none
 | .bl b,u=>u=Value.bool b
 | .int i,u=> ∃t,u=Value.int i t
 | .str x,u=> ∃t,u=Value.str x t
 | .gK b,u=> ∃t,u=Value.bytes b t
 | .iE b,u=> ∃t,u=Value.float b t
 | .ref a,u=>u=Value.ref a
 | .ty n,u=>u=Value.type n
abbrev Vals:List V→List Value→Prop:=Paired RelV
theorem Vals.length {xs:List V}{us:List Value}(r:Vals xs us):xs.length=us.length:=Paired.length r
theorem Vals.get:∀{xs:List V}{us:List Value}{i:Nat}{x:V},Vals xs us→xs[i]? =some x→∃u,us[i]? =some u∧RelV x u
 |_,_,_,_,.nil,e=>by simp at e
 |_,_,0,_,.cons r _,e=>by simp at e;subst e;exact⟨_,rfl,r⟩
 |_,_,i+1,x,.cons _ t,e=>by
  obtain⟨u,h1,h2⟩:=Vals.get (i:=i) (x:=x) t (by simpa using e)
  exact⟨u,by simpa using h1,h2⟩
theorem Vals.set {x:V}{u:Value}(r:RelV x u):∀{xs:List V}{us:List Value}(i:Nat),Vals xs us→Vals (xs.set i x) (us.set i u)
 |_,_,_,.nil=> .nil
 |_,_,0,.cons _ t=> .cons r t
 |_,_,i+1,.cons q t=> .cons q (Vals.set r i t)
theorem Vals.append:∀{xs ys:List V}{us ws:List Value},Vals xs us→Vals ys ws→Vals (xs++ys) (us++ws)
 |_,_,_,_,.nil,s=>s
 |_,_,_,_,.cons r t,s=> .cons r (Vals.append t s)
theorem Vals.take:∀{xs:List V}{us:List Value}(n:Nat),Vals xs us→Vals (xs.take n) (us.take n)
 |_,_,0,_=> .nil
 |_,_,_+1,.nil=> .nil
 |_,_,n+1,.cons r t=> .cons r (Vals.take n t)
theorem Vals.drop:∀{xs:List V}{us:List Value}(n:Nat),Vals xs us→Vals (xs.drop n) (us.drop n)
 |_,_,0,r=>r
 |_,_,_+1,.nil=> .nil
 |_,_,n+1,.cons _ t=>Vals.drop n t
def ym:Option V→Option Value→Prop
 |some v,some u=>RelV v u
 |none,none=>True
 |_,_=>False
def KV {κ:Type} :List (κ×V)→List (κ×Value)→Prop:=Paired fun(p:κ×V) (q:κ×Value)=>p.1=q.1∧RelV p.2 q.2
def kV:Key→V
 | .inl i=> .int i
 | .inr x=> .str x
inductive HO where
  |lst (xs:List V)
  |tup (xs:List V)
  |par (xs:List V)
  |dK (bX:List (Key×V)) |dT (bX:List (List Key×V))
  |set (S:Int→Bool) (n:Nat)
  |ins (C dx:Addr) (fs:List (Str×V))
  |own (x:Addr)
  |xd (fs:List (Str×V))
  |met (f x:Addr)
  |rC (lo hi:Int)
  |cA (o:Obj) (u:HO)
  |bO (ps:Array Value)
  |ext (φ:Heap→Prop)
abbrev Hp:=Addr→Option HO
def upd (H:Hp) (a:Addr) (o:HO):Hp:=fun b=>if b=a then some o else H b
theorem Zc {H:Hp}{a:Addr}{o:HO} :upd H a o a=some o:=by unfold upd;rw[if_pos rfl]
theorem Zf {H:Hp}{a b:Addr}{o:HO}(h:b≠a):upd H a o b=H b:=by unfold upd;rw[if_neg h]
theorem JF {H:Hp}{a b:Addr}{o u:HO}(h:H a=some o) (h':H b=some u) (d:o≠u):a≠b:=by
 intro e;subst e;rw[h]at h';exact d (Option.some.inj h')
theorem Zg {H:Hp}{a b:Addr}{o:HO}(h:H a=some o) (h':H b=none):a≠b:=by
 intro e;subst e;rw[h]at h';cases h'
section
variable (P:Program) (w:World)
def cb (H:Hp) (h:Heap) (a:Addr):HO→Prop
 | .lst xs=>xs.length≤sizeLine∧∃(its:List Value) (n:Nat),Vals xs its∧h.get? a=some {cls:=.type "list",data:=.seq its.toArray n}
 | .tup xs=>xs.length≤sizeLine∧∃its:List Value,Vals xs its∧IsTup h a its.toArray∧∃o,h.get? a=some o∧o.dict=none
 | .par xs=>xs.length≤sizeLine∧∃its:List Value,Vals xs its∧IsTup h a its.toArray
 | .dK bX=>bX.length≤sizeLine∧(a==sysModules)=false∧∃vs,KV bX vs∧h.DictOf (AB P w) a vs
 | .dT bX=>bX.length≤sizeLine∧(a==sysModules)=false∧∃xs:List (List Key×Addr×Value),
   Paired (fun(p:List Key×V) (q:List Key×Addr×Value)=>p.1=q.1∧H q.2.1=some (.tup (p.1.map kV))∧RelV p.2 q.2.2) bX xs∧
   ∃o es ep,h.get? a=some o∧o.ExactDict∧o.data=.dict es ep∧es.toList=xs.map (entryOfKey (tupleKind (AB P w)))∧(xs.map (·.1)).Nodup
 | .set S n=>h.SetOf (intKind P w) a S n
 | .ins C dx fs=>H dx=some (.own a)∧fs.length≤1000∧dx≠a∧h.get? a=some (PySem.W.instObj C dx)∧
   ∃mA,h.Ns1 dx mA∧(∀f,ym (fs.lookup f) (mA f))∧PySem.Within mA (fs.map (·.1))
 | .own _=> ∃o,h.get? a=some o
 | .xd fs=> ∃mA,h.Ns1 a mA∧∀f,ym (fs.lookup f) (mA f)
 | .rC lo hi=> ∃t u v,h.get? a=some {cls:=.type "range",data:=.fields #[.int lo t,.int hi u,.int 1 v]}
 | .cA o u=>h.get? a=some o∧cb H h a u
 | .bO ps=>h.get? a=some {cls:=.none,data:=.fields ps}
 | .met f x=>h.get? a=some (PySem.W.methodObj (.ref f) (.ref x))
 | .ext φ=>φ h∧(∃o,h.get? a=some o)∧∀h1 h2:Heap,φ h1→(∀o,h1.get? a=some o→h2.get? a=some o)→φ h2
def bM (H:Hp) (h:Heap):Prop:=∀a o,H a=some o→cb P w H h a o
end
section
variable {P:Program}{w:World}{H H':Hp}{h h':Heap}{a:Addr}{o:HO}
theorem cb.lt (x:cb P w H h a o):a<h.objs.size:=by
 cases o with
 |lst xs=>obtain⟨_,_,_,_,e⟩:=x;exact Heap.lt_size e
 |tup xs=>obtain⟨_,_,_,p,_⟩:=x;exact p.lt
 |par xs=>obtain⟨_,_,_,p⟩:=x;exact p.lt
 |dK bX=>obtain⟨_,_,_,_,o,_,_,e,_⟩:=x;exact Heap.lt_size e
 |dT bX=>obtain⟨_,_,_,_,o,_,_,e,_⟩:=x;exact Heap.lt_size e
 |set S n=>obtain⟨o,_,_,_,e,_⟩:=x;exact Heap.lt_size e
 |ins C dx fs=>obtain⟨_,_,_,e,_⟩:=x;exact Heap.lt_size e
 |own y=>obtain⟨_,e⟩:=x;exact Heap.lt_size e
 |xd fs=>obtain⟨_,⟨_,_,_,e,_⟩,_⟩:=x;exact Heap.lt_size e
 |rC lo hi=>obtain⟨_,_,_,e⟩:=x;exact Heap.lt_size e
 |cA ob u=>obtain⟨e,_⟩:=x;exact Heap.lt_size e
 |bO ps=>exact Heap.lt_size (show h.get? a=some _ from x)
 |met f y=>exact Heap.lt_size (show h.get? a=some _ from x)
 |ext φ=>obtain⟨_,⟨_,e⟩,_⟩:=x;exact Heap.lt_size e
theorem Paired.br {α β:Type}{F G:α→β→Prop} :∀{jU:List α}{jT:List β},Paired F jU jT→(∀a b,F a b→G a b)→Paired G jU jT
 |_,_,.nil,_=> .nil
 |_,_,.cons r t,f=> .cons (f _ _ r) (Paired.br t f)
theorem cb.bE (x:cb P w H h a o) (k:∀b u,(b=a∨H b=some (.own a))→h.get? b=some u→h'.get? b=some u)
  (ho:∀b,H b=some (.own a)→H' b=some (.own a)) (ht:∀b xs,H b=some (.tup xs)→H' b=some (.tup xs)):cb P w H' h' a o:=by
 induction o with
 |lst xs=>obtain⟨z,its,n,r,e⟩:=x;exact⟨z,its,n,r,k _ _ (.inl rfl) e⟩
 |tup xs=>obtain⟨z,its,r,⟨ob,e,c⟩,o2,e2,c2⟩:=x;exact⟨z,its,r,⟨ob,k _ _ (.inl rfl) e,c⟩,o2,k _ _ (.inl rfl) e2,c2⟩
 |par xs=>obtain⟨z,its,r,ob,e,c⟩:=x;exact⟨z,its,r,ob,k _ _ (.inl rfl) e,c⟩
 |dK bX=>obtain⟨z,y,vs,r,ob,es,ep,e,c⟩:=x;exact⟨z,y,vs,r,ob,es,ep,k _ _ (.inl rfl) e,c⟩
 |dT bX=>
  obtain⟨z,y,xs,r,ob,es,ep,e,c⟩:=x
  exact⟨z,y,xs,Paired.br r fun p q z=> ⟨z.1,ht _ _ z.2.1,z.2.2⟩,ob,es,ep,k _ _ (.inl rfl) e,c⟩
 |set S n=>obtain⟨ob,es,ep,t,e,c⟩:=x;exact⟨ob,es,ep,t,k _ _ (.inl rfl) e,c⟩
 |ins C dx fs=>
  obtain⟨d,z,ne,e,mA,⟨od,es,ep,e2,c⟩,r⟩:=x
  exact⟨ho _ d,z,ne,k _ _ (.inl rfl) e,mA,⟨od,es,ep,k _ _ (.inr d) e2,c⟩,r⟩
 |own y=>obtain⟨ob,e⟩:=x;exact⟨ob,k _ _ (.inl rfl) e⟩
 |xd fs=>obtain⟨mA,⟨od,es,ep,e,c⟩,r⟩:=x;exact⟨mA,⟨od,es,ep,k _ _ (.inl rfl) e,c⟩,r⟩
 |rC lo hi=>obtain⟨t,u,v,e⟩:=x;exact⟨t,u,v,k _ _ (.inl rfl) e⟩
 |cA ob u ih=>obtain⟨e,q⟩:=x;exact⟨k _ _ (.inl rfl) e,ih q⟩
 |bO ps=>
  have e:h.get? a=some {cls:=.none,data:=.fields ps} :=x
  show h'.get? a=some {cls:=.none,data:=.fields ps}
  exact k a _ (.inl rfl) e
 |met f y=>
  have e:h.get? a=some (PySem.W.methodObj (.ref f) (.ref y)):=x
  show h'.get? a=some (PySem.W.methodObj (.ref f) (.ref y))
  exact k a _ (.inl rfl) e
 |ext φ=>obtain⟨p,⟨o,e⟩,st⟩:=x;exact⟨st _ _ p fun o q=>k _ _ (.inl rfl) q,⟨o,k _ _ (.inl rfl) e⟩,st⟩
theorem bM.lt (x:bM P w H h) (e:H a=some o):a<h.objs.size:=(x a o e).lt
theorem bM.fresh (x:bM P w H h) (e:h.objs.size≤a):H a=none:=by
 cases q:H a with
 |none=>rfl
 |some u=>exact absurd (Nat.lt_of_lt_of_le (x.lt q) e) (Nat.lt_irrefl _)
theorem bM.kept (x:bM P w H h) (k:∀b u,h.get? b=some u→h'.get? b=some u):bM P w H h':=fun a o e=>
 (x a o e).bE (fun b u _ q=>k b u q) (fun _ q=>q) fun _ _ q=>q
theorem bM.laid (x:bM P w H h) (k:∀b u,h.get? b=some u→h'.get? b=some u) (hp:h.objs.size≤a) (new:cb P w (upd H a o) h' a o):bM P w (upd H a o) h':=fun b u e=>by
 have hn:=x.fresh hp
 by_cases hb:b=a
 ·subst hb;rw[Zc]at e;cases e;exact new
 ·rw[Zf hb]at e
  exact(x b u e).bE (fun c v _ q=>k c v q) (fun c q=>by rw[Zf (Zg q hn)];exact q) fun c xs q=>by rw[Zf (Zg q hn)];exact q
end
def Rd (H:Hp) (a:Addr) (u:HO):Prop:=H a=some u∨∃o,H a=some (.cA o u)
theorem Rd.ok {P:Program}{w:World}{H:Hp}{h:Heap}{a:Addr}{u:HO}(r:Rd H a u) (x:bM P w H h):cb P w H h a u:=by
 rcases r with r |⟨o,r⟩
 ·exact x a u r
 ·obtain⟨_,q⟩:=x a _ r
  exact q
def tY:Option HO→Prop
 |some (.lst _)=>True
 |some (.dK _)=>True
 |some (.dT _)=>True
 |some (.set _ _)=>True
 |some (.ins _ _ _)=>True
 |some (.ext _)=>True
 |_=>False
section
variable {P:Program}{w:World}{H:Hp}{h h':Heap}{x e:Addr}{o':HO}
theorem bM.write (ok:bM P w H h) (mu:tY (H x)) (he:e=x∨H e=some (.own x)) (k:∀b u,b≠e→h.get? b=some u→h'.get? b=some u) (nK:∃u,h'.get? e=some u)
  (new:cb P w (upd H x o') h' x o'):bM P w (upd H x o') h':=fun b u q=>by
 have Am:∀c y,H c=some (.own y)→c≠x:=fun c y r z=>by subst z;rw[r]at mu;exact mu
 have GV:∀c xs,H c=some (.tup xs)→c≠x:=fun c xs r z=>by subst z;rw[r]at mu;exact mu
 by_cases hb:b=x
 ·subst hb;rw[Zc]at q;cases q;exact new
 ·rw[Zf hb]at q
  by_cases iY:b=e
  ·have q':H b=some (.own x):=by
    rcases he with z |z
    ·exact absurd (iY.trans z) hb
    ·rw[iY];exact z
   rw[q]at q';cases q'
   obtain⟨v,hv⟩:=nK
   exact⟨v,by rw[iY];exact hv⟩
  ·refine(ok b u q).bE (fun c v hc r=>k c v ?_ r) (fun c r=>by rw[Zf (Am c b r)];exact r) fun c xs r=>by rw[Zf (GV c xs r)];exact r
   rcases hc with rfl |hc
   ·exact iY
   ·rintro rfl
    rcases he with z |z
    ·exact Am c b hc z
    ·rw[hc]at z;cases z;exact hb rfl
end
structure Un (fs ex:List Addr) (H H':Hp) (h h':Heap):Prop where
 keep:∀b o,h.get? b=some o→H b=none→b∉fs→b∉ex→h'.get? b=some o
 slot:∀b o,h.get? b=some o→H b=none→b∈fs→b∉ex→∃sl,h'.get? b=some {o with slots:=sl}
 free:∀b o,h.get? b=some o→H b=none→b∉ex→H' b=none
 there:∀b o,h.get? b=some o→b∉ex→∃o',h'.get? b=some o'
 fI:∀b xs,H b=some (.tup xs)→H' b=some (.tup xs)
 fE:∀b o u,H b=some (.cA o u)→H' b=some (.cA o u)
 fo:∀b ps,H b=some (.bO ps)→∃more,H' b=some (.bO (ps++more))
section
variable {fs B8 ex SO:List Addr}{H H1 H2:Hp}{h h1 h2 h':Heap}{a x e:Addr}{o:HO}
theorem Un.any (u:Un fs ex H H1 h h1) {b:Addr}{ob:Obj}(q:h.get? b=some ob) (n:H b=none) (hx:b∉ex):∃sl,h1.get? b=some {ob with slots:=sl} :=by
 by_cases hb:b∈fs
 ·exact u.slot b ob q n hb hx
 ·exact⟨ob.slots,u.keep b ob q n hb hx⟩
theorem Un.kept (k:∀b u,h.get? b=some u→h'.get? b=some u):Un fs ex H H h h':=
 ⟨fun b ob q _ _ _=>k b ob q,fun b ob q _ _ _=> ⟨ob.slots,k b ob q⟩,fun _ _ _ n _=>n,fun b ob q _=> ⟨ob,k b ob q⟩,fun _ _ q=>q,fun _ _ _ q=>q,fun _ ps q=> ⟨#[],by rw[q];simp⟩⟩
theorem Un.refl:Un fs ex H H h h:=Un.kept fun _ _ q=>q
theorem Un.laid (k:∀b u,h.get? b=some u→h'.get? b=some u) (hp:h.objs.size≤a) (hn:H a=none):Un fs ex H (upd H a o) h h' where
 keep:=fun b u q _ _ _=>k b u q
 slot:=fun b u q _ _ _=> ⟨u.slots,k b u q⟩
 free:=fun b u q n _=>by rw[Zf (Nat.ne_of_lt (Nat.lt_of_lt_of_le (Heap.lt_size q) hp))];exact n
 there:=fun b u q _=> ⟨u,k b u q⟩
 fI:=fun b xs q=>by rw[Zf (Zg q hn)];exact q
 fE:=fun b u xs q=>by rw[Zf (Zg q hn)];exact q
 fo:=fun b ps q=> ⟨#[],by rw[Zf (Zg q hn),q];simp⟩
theorem Un.write (mu:tY (H x)) (he:e=x∨H e=some (.own x)) (k:∀b u,b≠e→h.get? b=some u→h'.get? b=some u) (nK:∃u,h'.get? e=some u):Un fs ex H (upd H x o) h h':=by
 have hx:∀b,H b=none→b≠x:=fun b n z=>by subst z;rw[n]at mu;exact mu
 have hb:∀b,H b=none→b≠e:=fun b n z=>by
  subst z
  rcases he with r |r
  ·exact hx b n r
  ·rw[n]at r;cases r
 have hm:∀b u,H b=some u→¬tY (some u)→b≠x:=fun b u q nm z=>by subst z;rw[q]at mu;exact nm mu
 refine⟨fun b u q n _ _=>k b u (hb b n) q,fun b u q n _ _=> ⟨u.slots,k b u (hb b n) q⟩,fun b u q n _=>by rw[Zf (hx b n)];exact n,fun b u q _=> ?_,
  fun b xs q=>by rw[Zf (hm b _ q fun z=>z)];exact q,fun b u xs q=>by rw[Zf (hm b _ q fun z=>z)];exact q,fun b ps q=> ⟨#[],by rw[Zf (hm b _ q fun z=>z),q];simp⟩⟩
 by_cases iY:b=e
 ·subst iY;exact nK
 ·exact⟨u,k b u iY q⟩
end
def bQ (h:Heap) (H:Hp):List Addr:=(List.range h.objs.size).filter fun a=> (H a).isSome
def gD (h:Heap) (H:Hp):Heap:=PySem.W.hideAll h (bQ h H)
theorem W0 (h:Heap) (H:Hp):(gD h H).objs.size=h.objs.size:=PySem.W.hideAll_size _ _
theorem Du {h:Heap}{H:Hp}{b:Addr}{o:Obj}(e:h.get? b=some o) (n:H b=none):(gD h H).get? b=some o:=
 PySem.W.hideAll_get _ e fun hm=>by
  have q:(H b).isSome=true:=(List.mem_filter.mp hm).2
  rw[n]at q;simp at q
theorem DT {h:Heap}{H:Hp}{b:Addr}{o:Obj}(e:(gD h H).get? b=some o):h.get? b=some o∧H b=none:=by
 have e':h.get? b=some o:=PySem.W.of_hideAll (bQ h H) e
 refine⟨e',?_⟩
 cases q:H b with
 |none=>rfl
 |some x=>
  have hm:b∈bQ h H:=List.mem_filter.mpr ⟨List.mem_range.mpr (Heap.lt_size e'),by simp[q]⟩
  have z:(gD h H).get? b=none:=PySem.W.hideAll_none (bQ h H) hm
  rw[z]at e;cases e
def MZ (g h:Heap) (L:Addr):List (Addr×Obj):=(List.range h.objs.size).filterMap fun a=>if a=L∨(g.get? a).isSome=true then none else (h.get? a).map fun o=> (a,o)
def rest (g h:Heap) (L d:Addr):List (Addr×Obj):=(MZ g h L).filter fun p=>decide (p.1≠d)
structure Mod (K:PySem.W.Frag) (mg:Str→Option Value) (base:Heap):Prop where
 nB:K.In base
 glob:base.Ns mainGlobals mg
 blt:∃mb,base.Ns builtinsNs mb∧∀x:Str,x≠ "__name__" →mb x=bootBuiltins x
 nolimit:base.NoLimit
structure Cx where
 prog:Program
 w:World
 K:PySem.W.Frag
 mg:Str→Option Value
 base:Heap
 A:Around
 N:List Str
 bW:Shared
 jK:Hp
 env:Env
 outer:List Env
 stack:List Env
 ex:List Addr
 fn:Str→Bool
 calm:Bool
 pn:List (Addr×Obj)
 xe:Value→Shared→Prop
def aT (l:List Env):List Addr:=l.filterMap (·.frame)
abbrev Cx.fs (X:Cx):List Addr:=aT X.outer
def qh (sc:Scope) (x:Str):Prop:=sc.names.lookup x=some .local∨sc.names.lookup x=some .cell∨sc.names.lookup x=some .free
def Loc (sc:Scope) (x:Str):Prop:=sc.names.lookup x=some .local∨sc.names.lookup x=some .cell
def Look (env:Env) (h:Heap) (m:Str→Option Value) (x:Str) (u:Value):Prop:=
 (env.kindOf x=some .local∧m x=some u)∨((env.kindOf x=some .cell∨env.kindOf x=some .free)∧∃c,env.cells.lookup x=some c∧h.IsCell c (some u))
structure Cx.Ok (X:Cx):Prop where
 mod:Mod X.K X.mg X.base
 kind:X.env.scope.kind=.function
 glob:X.env.globals=mainGlobals
 blt:X.env.builtins=builtinsNs
 above:X.bW.heap.objs.size≤X.env.locals
 inj:∀x y c,X.env.cells.lookup x=some c→X.env.cells.lookup y=some c→x=y
 has:∀x,(X.env.kindOf x=some .cell∨X.env.kindOf x=some .free)→∃c,X.env.cells.lookup x=some c
 ko:∀x c,X.fn x=true→X.env.cells.lookup x=some c→X.bW.heap.objs.size≤c
 hd:X.calm=true→X.A.handled=none
 frames:X.A.frames=some X.stack
 mL:X.stack=X.outer∨(X.stack=X.env::X.outer∧X.env.frame=some X.env.locals)
 nP:∀b∈X.ex,b≠X.env.locals∧∀x c,X.env.cells.lookup x=some c→c≠b
 bs:∀b o,X.base.get? b=some o→X.bW.heap.get? b=some o∧X.jK b=none
 i7:X.base.objs.size≤X.bW.heap.objs.size
 kT:∀b o,X.base.get? b=some o→b∉X.ex
 lZ:∀b∈X.ex,b∉X.fs
 dR:X.bW.heap.FunFrames X.base X.outer
 gG:∀b∈X.fs,X.jK b=none
structure Inv (X:Cx) (pins:List (Addr×Obj)) (σ:List (Option V)) (H:Hp) (s:Shared):Prop where
 ok:X.Ok
 os:s.os=X.bW.os
 bare:AllBare s.gens
 base:Un X.fs X.ex X.jK H X.bW.heap s.heap
 loc:∃m,s.heap.Ns X.env.locals m∧∀(i:Nat) (x:Str) (v:V),X.N[i]? =some x→σ[i]? =some (some v)→qh X.env.scope x→∃u,RelV v u∧Look X.env s.heap m x u
 cell:∀x c,X.env.cells.lookup x=some c→∃v,s.heap.IsCell c v
 free:H X.env.locals=none
 fF:∀x c,X.env.cells.lookup x=some c→H c=none
 pin:∀p∈X.pn++pins,s.heap.get? p.1=some p.2∧H p.1=none∧p.1≠X.env.locals∧p.1∉X.fs∧∀v,p.2.data≠.cell v
 ah:bM X.prog X.w H s.heap
 len:σ.length=X.N.length
section
variable {X:Cx}{pins:List (Addr×Obj)}{σ:List (Option V)}{H H':Hp}{s:Shared}{h':Heap}
theorem Cx.Ok.GZ (ok:X.Ok) {b:Addr}{o:Obj}(e:X.base.get? b=some o):b∉X.fs:=fun hb=>by
 have:=(ok.dR.mem hb).1
 rw[e]at this;cases this
theorem Inv.bs (I:Inv X pins σ H s):∀b o,X.base.get? b=some o→s.heap.get? b=some o∧H b=none:=fun b o e=>
 ⟨I.base.keep b o (I.ok.bs b o e).1 (I.ok.bs b o e).2 (I.ok.GZ e) (I.ok.kT b o e),I.base.free b o (I.ok.bs b o e).1 (I.ok.bs b o e).2 (I.ok.kT b o e)⟩
theorem Inv.bk (I:Inv X pins σ H s):∀b o,X.base.get? b=some o→s.heap.get? b=some o:=fun b o e=> (I.bs b o e).1
theorem Inv.mod (I:Inv X pins σ H s):Mod X.K X.mg X.base:=I.ok.mod
theorem Inv.cG (I:Inv X pins σ H s):X.K.In s.heap:=I.ok.mod.nB.keeps I.bk
theorem Inv.lt (I:Inv X pins σ H s):X.env.locals<s.heap.objs.size:=let ⟨_,hn,_⟩:=I.loc;hn.lt
theorem Inv.sz (I:Inv X pins σ H s):X.bW.heap.objs.size≤s.heap.objs.size:=Nat.le_trans I.ok.above (Nat.le_of_lt I.lt)
theorem Inv.GX (I:Inv X pins σ H s) {a:Addr}(h:s.heap.objs.size≤a):a∉X.fs:=fun hb=>by
 obtain⟨_,o,ho,_⟩:=I.ok.dR.mem hb
 exact absurd (Nat.lt_of_lt_of_le (Heap.lt_size ho) (Nat.le_trans I.sz h)) (Nat.lt_irrefl _)
theorem Inv.gJ (I:Inv X pins σ H s):∀x c,X.env.cells.lookup x=some c→c≠X.env.locals:=fun x c e z=>by
 obtain⟨v,o,ho,hd⟩:=I.cell x c e
 obtain⟨m,⟨o',es,ep,cw,lN,_⟩,_⟩:=I.loc
 rw[z,cw]at ho;cases ho;rw[lN]at hd;cases hd
theorem Inv.dR (I:Inv X pins σ H s):s.heap.FunFrames X.base X.outer:=by
 have all:∀(l:List Env),(∀b∈aT l,b∈X.fs)→X.bW.heap.FunFrames X.base l→s.heap.FunFrames X.base l:=by
  intro l
  induction l with
  |nil=>intro _ _;trivial
  |cons env r ih=>
   intro hs hl
   obtain⟨hk,⟨L,o,hf,hn,ho,hd⟩,hr⟩:=hl
   have hL:L∈X.fs:=hs L (by unfold aT;rw[List.filterMap_cons,hf];exact List.mem_cons_self)
   obtain⟨sl,e⟩:=I.base.slot L o ho (I.ok.gG L hL) hL fun z=>I.ok.lZ L z hL
   exact⟨hk,⟨L,_,hf,hn,e,hd⟩,ih (fun b hb=>hs b (by unfold aT;rw[List.filterMap_cons,hf];exact List.mem_cons_of_mem _ hb)) hr⟩
 exact all X.outer (fun _ hb=>hb) I.ok.dR
theorem Inv.stack (I:Inv X pins σ H s):s.heap.FunFrames X.base X.stack:=by
 rcases I.ok.mL with e |⟨e,hf⟩
 ·rw[e];exact I.dR
 ·rw[e]
  obtain⟨m,hn,_⟩:=I.loc
  refine .cons (by rw[I.ok.kind];decide) hf hn ?_ I.dR
  exact Heap.get?_none_of_le (Nat.le_trans I.ok.i7 I.ok.above)
theorem Inv.qG (I:Inv X pins σ H s):∀b∈aT X.stack,b∈X.env.locals::X.fs:=fun b hb=>by
 rcases I.ok.mL with e |⟨e,hf⟩
 ·rw[e]at hb;exact List.mem_cons_of_mem _ hb
 ·rw[e]at hb
  unfold aT at hb
  rw[List.filterMap_cons,hf]at hb
  exact hb
theorem Inv.oo (I:Inv X pins σ H s):∀b∈aT X.stack,H b=none:=fun b hb=>by
 rcases List.mem_cons.mp (I.qG b hb) with e |hb
 ·rw[e];exact I.free
 ·obtain⟨_,o,ho,_⟩:=I.ok.dR.mem hb
  exact I.base.free b o ho (I.ok.gG b hb) fun z=>I.ok.lZ b z hb
theorem Inv.step {g':Array GenState}{t':Nat}{d':Drawn}{ch:List Addr}(I:Inv X pins σ H s)
  (iW:∀b∈ch,(b∈X.ex∨X.bW.heap.objs.size≤b)∧b≠X.env.locals∧(∀x c,X.env.cells.lookup x=some c→c≠b)∧∀p∈X.pn++pins,p.1≠b)
  (keep:∀b o,b≠X.env.locals→b∉X.fs→b∉ch→s.heap.get? b=some o→H b=none→h'.get? b=some o)
  (slot:∀b o,b≠X.env.locals→b∈X.fs→b∉ch→s.heap.get? b=some o→H b=none→∃sl,h'.get? b=some {o with slots:=sl}) (free:∀b o,b∉ch→s.heap.get? b=some o→H b=none→H' b=none)
  (there:∀b o,b∉ch→s.heap.get? b=some o→∃o',h'.get? b=some o')
  (fI:∀b xs,H b=some (.tup xs)→H' b=some (.tup xs)) (fE:∀b o u,H b=some (.cA o u)→H' b=some (.cA o u)) (fo:∀b ps,H b=some (.bO ps)→∃more,H' b=some (.bO (ps++more)))
  (ns:∀m,s.heap.Ns X.env.locals m→h'.Ns X.env.locals m) (ah:bM X.prog X.w H' h') (hg:AllBare g'):
  Inv X pins σ H' {s with heap:=h',gens:=g',drawn:=d',toks:=t'} :=by
 have kU:∀b o,X.bW.heap.get? b=some o→b≠X.env.locals:=fun b o e=>Nat.ne_of_lt (Nat.lt_of_lt_of_le (Heap.lt_size e) I.ok.above)
 have gq:∀b o,X.bW.heap.get? b=some o→b∉X.ex→b∉ch:=fun b o e hx hb=>by
  rcases (iW b hb).1 with z |z
  ·exact hx z
  ·exact absurd (Nat.lt_of_lt_of_le (Heap.lt_size e) z) (Nat.lt_irrefl _)
 have cellK:∀x c,X.env.cells.lookup x=some c→∀v,s.heap.IsCell c v→h'.IsCell c v:=fun x c e v ⟨o,ho,hd⟩=>by
  have oR:c∉ch:=fun z=> (iW c z).2.2.1 x c e rfl
  by_cases hc:c∈X.fs
  ·obtain⟨sl,q⟩:=slot c o (I.gJ x c e) hc oR ho (I.fF x c e)
   exact⟨_,q,hd⟩
  ·exact⟨o,keep c o (I.gJ x c e) hc oR ho (I.fF x c e),hd⟩
 refine⟨I.ok,I.os,hg,⟨fun b o e n hb hx=> ?_,fun b o e n hb hx=> ?_,fun b o e n hx=> ?_,fun b o e hx=> ?_,fun b xs e=>fI b xs (I.base.fI b xs e),fun b o xs e=>fE b o xs (I.base.fE b o xs e),fun b ps e=> ?_⟩,?_,fun x c e=> ?_,?_,fun x c e=> ?_,fun p hp=> ?_,ah,I.len⟩
 ·exact keep b o (kU b o e) hb (gq b o e hx) (I.base.keep b o e n hb hx) (I.base.free b o e n hx)
 ·obtain⟨sl,e1⟩:=I.base.slot b o e n hb hx
  obtain⟨Ft,e2⟩:=slot b _ (kU b o e) hb (gq b o e hx) e1 (I.base.free b o e n hx)
  exact⟨Ft,e2⟩
 ·obtain⟨o',e1⟩:=I.base.there b o e hx
  exact free b o' (gq b o e hx) e1 (I.base.free b o e n hx)
 ·obtain⟨o',e1⟩:=I.base.there b o e hx
  exact there b o' (gq b o e hx) e1
 ·obtain⟨m1,e1⟩:=I.base.fo b ps e
  obtain⟨m2,e2⟩:=fo b _ e1
  exact⟨m1++m2,by rw[e2,Array.append_assoc]⟩
 ·obtain⟨m,hn,hl⟩:=I.loc
  refine⟨m,ns m hn,fun i x v e1 e2 e3=> ?_⟩
  obtain⟨u,r,l⟩:=hl i x v e1 e2 e3
  refine⟨u,r,?_⟩
  rcases l with l |⟨k,c,e,z⟩
  ·exact .inl l
  ·exact .inr ⟨k,c,e,cellK x c e _ z⟩
 ·obtain⟨v,z⟩:=I.cell x c e
  exact⟨v,cellK x c e v z⟩
 ·obtain⟨m,⟨o,_,_,ho,_⟩,_⟩:=I.loc
  exact free _ o (fun z=> (iW _ z).2.1 rfl) ho I.free
 ·obtain⟨v,o,ho,hd⟩:=I.cell x c e
  exact free c o (fun z=> (iW c z).2.2.1 x c e rfl) ho (I.fF x c e)
 ·obtain⟨e,n,ne,nf,d⟩:=I.pin p hp
  have oR:p.1∉ch:=fun z=> (iW p.1 z).2.2.2 p hp rfl
  exact⟨keep p.1 p.2 ne nf oR e n,free p.1 p.2 oR e n,ne,nf,d⟩
theorem Inv.un {t':Nat}(I:Inv X pins σ H s) (u:Un X.fs [] H H' s.heap h') (ah:bM X.prog X.w H' h'):Inv X pins σ H' {s with heap:=h',toks:=t'} :=by
 obtain⟨m,⟨o,es,ep,ho,r⟩,_⟩:=id I.loc
 obtain⟨sl,hL⟩:=u.any ho I.free (by simp)
 exact I.step (g':=s.gens) (d':=s.drawn) (ch:=[]) (fun _ z=>nomatch z) (fun b o _ hb _ e n=>u.keep b o e n hb (by simp)) (fun b o _ hb _ e n=>u.slot b o e n hb (by simp)) (fun b o _ e n=>u.free b o e n (by simp)) (fun b o _ e=>u.there b o e (by simp)) u.fI u.fE u.fo (fun m' hm=>by
  obtain⟨o',fj,xD,cw,r'⟩:=hm
  rw[ho]at cw;cases cw
  exact⟨_,fj,xD,hL,r'⟩) ah I.bare
theorem Inv.call {g':Array GenState}{t':Nat}{d':Drawn}{ch:List Addr}(I:Inv X pins σ H s) (u:Un (aT X.stack) ch H H' s.heap h') (ah:bM X.prog X.w H' h') (hg:AllBare g')
  (iW:∀b∈ch,(b∈X.ex∨X.bW.heap.objs.size≤b)∧b≠X.env.locals∧(∀x c,X.env.cells.lookup x=some c→c≠b)∧∀p∈X.pn++pins,p.1≠b):
  Inv X pins σ H' {s with heap:=h',gens:=g',drawn:=d',toks:=t'} :=by
 obtain⟨m,⟨o,es,ep,ho,r⟩,_⟩:=id I.loc
 obtain⟨sl,hL⟩:=u.any ho I.free fun z=> (iW _ z).2.1 rfl
 exact I.step (ch:=ch) iW (fun b o hL hb hc e n=>u.keep b o e n (fun z=> (List.mem_cons.mp (I.qG b z)).elim hL hb) hc) (fun b o _ _ hc e n=>u.any e n hc) (fun b o hc e n=>u.free b o e n hc) (fun b o hc e=>u.there b o e hc) u.fI u.fE u.fo (fun m' hm=>by
  obtain⟨o',fj,xD,cw,r'⟩:=hm
  rw[ho]at cw;cases cw
  exact⟨_,fj,xD,hL,r'⟩) ah hg
theorem Inv.turned {t':Nat}{it:Addr}(I:Inv X pins σ H s) (k:∀b o,b≠it→s.heap.get? b=some o→h'.get? b=some o) (hn:H it=none) (hL:it≠X.env.locals)
  (h1:it∈X.ex∨X.bW.heap.objs.size≤it) (h2:∀x c,X.env.cells.lookup x=some c→c≠it) (h3:∀p∈X.pn++pins,p.1≠it):Inv X pins σ H {s with heap:=h',toks:=t'} :=by
 have As:∀b u,H b=some u→b≠it:=fun b u e z=>by rw[z,hn]at e;cases e
 refine I.step (g':=s.gens) (d':=s.drawn) (ch:=[it]) (fun b hb=> ?_) (fun b o _ _ hc e _=>k b o (fun z=>hc (by simp[z])) e) (fun b o _ _ hc e _=> ⟨o.slots,k b o (fun z=>hc (by simp[z])) e⟩) (fun _ _ _ _ n=>n)
  (fun b o hc e=> ⟨o,k b o (fun z=>hc (by simp[z])) e⟩) (fun _ _ e=>e) (fun _ _ _ e=>e) (fun b ps e=> ⟨#[],by rw[e];simp⟩) (fun m hm=> ?_) (fun b u e=> ?_) I.bare
 ·have e:b=it:=by simpa using hb
  subst e
  exact⟨h1,hL,h2,h3⟩
 ·obtain⟨o,es,ep,ho,r⟩:=hm
  exact⟨o,es,ep,k _ o (Ne.symm hL) ho,r⟩
 ·refine(I.ah b u e).bE (fun c v hc q=>k c v ?_ q) (fun _ q=>q) fun _ _ q=>q
  rcases hc with z |z
  ·rw[z];exact As b u e
  ·exact As c _ z
theorem Inv.tok (I:Inv X pins σ H s) (t:Nat):Inv X pins σ H {s with toks:=t} :=I.un (h':=s.heap) (t':=t) Un.refl I.ah
theorem Inv.kept {t':Nat}(I:Inv X pins σ H s) (k:∀b u,s.heap.get? b=some u→h'.get? b=some u):Inv X pins σ H {s with heap:=h',toks:=t'} :=I.un (Un.kept k) (I.ah.kept k)
theorem Inv.laid {a:Addr}{o:HO}{t':Nat}(I:Inv X pins σ H s) (k:∀b u,s.heap.get? b=some u→h'.get? b=some u) (hp:s.heap.objs.size≤a) (new:cb X.prog X.w (upd H a o) h' a o):
  Inv X pins σ (upd H a o) {s with heap:=h',toks:=t'} :=I.un (Un.laid k hp (I.ah.fresh hp)) (I.ah.laid k hp new)
theorem Inv.write {x e:Addr}{o:HO}{t':Nat}(I:Inv X pins σ H s) (mu:tY (H x)) (he:e=x∨H e=some (.own x)) (k:∀b u,b≠e→s.heap.get? b=some u→h'.get? b=some u) (nK:∃u,h'.get? e=some u)
  (new:cb X.prog X.w (upd H x o) h' x o):Inv X pins σ (upd H x o) {s with heap:=h',toks:=t'} :=I.un (Un.write mu he k nK) (I.ah.write mu he k nK new)
theorem Inv.Ac {Ad:List (Addr×Obj)}(I:Inv X pins σ H s) (h:∀p∈Ad,s.heap.get? p.1=some p.2∧H p.1=none∧p.1≠X.env.locals∧p.1∉X.fs∧∀v,p.2.data≠.cell v):Inv X Ad σ H s:=
 ⟨I.ok,I.os,I.bare,I.base,I.loc,I.cell,I.free,I.fF,fun p hp=> (List.mem_append.mp hp).elim (fun z=>I.pin p (List.mem_append_left _ z)) (h p),I.ah,I.len⟩
theorem Wa {N:List Str}(hN:N.Nodup) {i j:Nat}{x:Str}(a:N[i]? =some x) (b:N[j]? =some x):i=j:=by
 obtain⟨h1,e1⟩:=List.getElem?_eq_some_iff.mp a
 obtain⟨h2,e2⟩:=List.getElem?_eq_some_iff.mp b
 exact(List.getElem_inj hN).mp (e1.trans e2.symm)
theorem WM {M:Model}{A:Around}{E:Value→Shared→Prop}{i:Nat}{x:Str}{v:V}{u:Value}{Q:Unit→Shared→Prop}(I:Inv X pins σ H s) (hN:X.N.Nodup) (hi:X.N[i]? =some x) (hx:Loc X.env.scope x) (r:RelV v u)
  (h:∀s',Inv X pins (σ.set i (some v)) H s'→(∃a,Heap.SameBut a s.heap s'.heap∧(a=X.env.locals∨X.env.cells.lookup x=some a))→Q () s') (hf:X.fn x=true∨X.env.scope.names.lookup x=some .local:=by first |exact .inl rfl |exact .inr rfl |assumption):wpAny M A (storeName X.env x u) Q E s:=by
 obtain⟨m,hn,hl⟩:=id I.loc
 have w6:(X.env.scope.kind==.class||(X.env.scope.kind==.module&&X.env.locals !=X.env.globals))=false:=by rw[I.ok.kind];rfl
 have Br:i<σ.length:=by rw[I.len];exact(List.getElem?_eq_some_iff.mp hi).1
 have gJ:=I.gJ
 have tracked:∀{a:Addr}{h':Heap},(∃o,s.heap.get? a=some o∧H a=none)→Heap.SameBut a s.heap h'→bM X.prog X.w H h':=fun {a h'} ha hs b ob e=>by
  obtain⟨_,_,Bu⟩:=ha
  refine(I.ah b ob e).bE (fun c w' hc q=> (hs.2 c ?_).trans q) (fun _ q=>q) fun _ _ q=>q
  rintro rfl
  rcases hc with rfl |hc
  ·rw[Bu]at e;cases e
  ·rw[Bu]at hc;cases hc
 rcases hx with hk |hk
 ·refine wpAny_storeName_local hk hn (fun h' pI hs=> ?_) w6
  obtain⟨oL,_,_,pF,_⟩:=id hn
  refine h _ ⟨I.ok,I.os,I.bare,⟨fun b o e n hb hx=> ?_,fun b o e n hb hx=> ?_,I.base.free,fun b o e hx=> ?_,I.base.fI,I.base.fE,I.base.fo⟩,⟨_,pI,fun j y v' e1 e2 e3=> ?_⟩,fun y c e=> ?_,I.free,I.fF,fun p hp=> ?_,tracked ⟨oL,pF,I.free⟩ hs,by simpa using I.len⟩ ⟨_,hs,.inl rfl⟩
  ·exact(hs.2 b (Nat.ne_of_lt (Nat.lt_of_lt_of_le (Heap.lt_size e) I.ok.above))).trans (I.base.keep b o e n hb hx)
  ·obtain⟨sl,e1⟩:=I.base.slot b o e n hb hx
   exact⟨sl,(hs.2 b (Nat.ne_of_lt (Nat.lt_of_lt_of_le (Heap.lt_size e) I.ok.above))).trans e1⟩
  ·obtain⟨o',e1⟩:=I.base.there b o e hx
   exact⟨o',(hs.2 b (Nat.ne_of_lt (Nat.lt_of_lt_of_le (Heap.lt_size e) I.ok.above))).trans e1⟩
  ·by_cases hj:j=i
   ·subst hj
    rw[hi]at e1;cases e1
    rw[List.getElem?_set_self Br]at e2
    cases e2
    exact⟨u,r,.inl ⟨hk,by simp⟩⟩
   ·rw[List.getElem?_set_ne (Ne.symm hj)]at e2
    obtain⟨u',r',q⟩:=hl j y v' e1 e2 e3
    refine⟨u',r',?_⟩
    rcases q with ⟨k,e⟩ |⟨k,c,e,z⟩
    ·refine .inl ⟨k,?_⟩
     have:y≠x:=fun e=>hj (Wa hN e1 (e▸hi))
     simp[this,e]
    ·exact .inr ⟨k,c,e,z.sameBut hs (gJ y c e)⟩
  ·obtain⟨w',z⟩:=I.cell y c e
   exact⟨w',z.sameBut hs (gJ y c e)⟩
  ·obtain⟨e,n,ne,nf,d⟩:=I.pin p hp
   exact⟨(hs.2 p.1 ne).trans e,n,ne,nf,d⟩
 ·have eD:X.fn x=true:=by
   rcases hf with z |z
   ·exact z
   ·rw[z]at hk;cases hk
  obtain⟨c,hc⟩:=I.ok.has x (.inl hk)
  obtain⟨w',z⟩:=I.cell x c hc
  refine wpAny_storeName_cell I.ok.kind hk hc z (fun h' bj hs=> ?_)
  obtain⟨oc,Bc,Kj⟩:=id z
  refine h {s with heap:=h'} ⟨I.ok,I.os,I.bare,⟨fun b o e n hb hx=> ?_,fun b o e n hb hx=> ?_,I.base.free,fun b o e hx=> ?_,I.base.fI,I.base.fE,I.base.fo⟩,⟨m,hn.sameBut hs (Ne.symm (gJ x c hc)),fun j y v' e1 e2 e3=> ?_⟩,fun y c' e=> ?_,I.free,I.fF,fun p hp=> ?_,tracked ⟨oc,Bc,I.fF x c hc⟩ hs,by simpa using I.len⟩ ⟨c,hs,.inr hc⟩
  ·exact(hs.2 b (Nat.ne_of_lt (Nat.lt_of_lt_of_le (Heap.lt_size e) (I.ok.ko x c eD hc)))).trans (I.base.keep b o e n hb hx)
  ·obtain⟨sl,e1⟩:=I.base.slot b o e n hb hx
   exact⟨sl,(hs.2 b (Nat.ne_of_lt (Nat.lt_of_lt_of_le (Heap.lt_size e) (I.ok.ko x c eD hc)))).trans e1⟩
  ·obtain⟨o',e1⟩:=I.base.there b o e hx
   exact⟨o',(hs.2 b (Nat.ne_of_lt (Nat.lt_of_lt_of_le (Heap.lt_size e) (I.ok.ko x c eD hc)))).trans e1⟩
  ·by_cases hj:j=i
   ·subst hj
    rw[hi]at e1;cases e1
    rw[List.getElem?_set_self Br]at e2
    cases e2
    exact⟨u,r,.inr ⟨.inl hk,c,hc,bj⟩⟩
   ·rw[List.getElem?_set_ne (Ne.symm hj)]at e2
    obtain⟨u',r',q⟩:=hl j y v' e1 e2 e3
    refine⟨u',r',?_⟩
    rcases q with q |⟨k,c',e,z'⟩
    ·exact .inl q
    ·refine .inr ⟨k,c',e,z'.sameBut hs ?_⟩
     rintro rfl
     exact hj (Wa hN e1 (I.ok.inj _ _ _ e hc▸hi))
  ·by_cases iX:c'=c
   ·subst iX;exact⟨_,bj⟩
   ·obtain⟨w2,z2⟩:=I.cell y c' e
    exact⟨w2,z2.sameBut hs iX⟩
  ·obtain⟨e,n,ne,nf,d⟩:=I.pin p hp
   refine⟨(hs.2 p.1 ?_).trans e,n,ne,nf,d⟩
   intro q
   rw[q,Bc]at e
   have q':oc=p.2:=Option.some.inj e
   exact d w' (by rw[←q'];exact Kj)
theorem Y7 {M:Model}{A:Around}{E:Value→Shared→Prop}{i:Nat}{x:Str}{v:V}{u:Value}{Q:Unit→Shared→Prop}(I:Inv X pins σ H s) (hN:X.N.Nodup) (hi:X.N[i]? =some x) (hx:Loc X.env.scope x) (r:RelV v u)
  (h:∀s',Inv X pins (σ.set i (some v)) H s'→Q () s') (hf:X.fn x=true∨X.env.scope.names.lookup x=some .local:=by first |exact .inl rfl |exact .inr rfl |assumption):wpAny M A (storeName X.env x u) Q E s:=
 WM I hN hi hx r (fun s' I' _=>h s' I') hf
theorem Inv.CA {s':Shared}{ch:List Addr}(I:Inv X pins σ H s) (ho:s'.os=s.os) (u:Un (aT X.stack) ch H H' s.heap s'.heap) (ah:bM X.prog X.w H' s'.heap) (hg:AllBare s'.gens)
  (iW:∀b∈ch,(b∈X.ex∨X.bW.heap.objs.size≤b)∧b≠X.env.locals∧(∀x c,X.env.cells.lookup x=some c→c≠b)∧∀p∈X.pn++pins,p.1≠b):Inv X pins σ H' s':=by
 obtain⟨h',g',d',t',o'⟩:=s'
 have e:o'=s.os:=ho
 subst e
 exact I.call (g':=g') (t':=t') (d':=d') u ah hg iW
end
abbrev XK:=Value→Option Addr→Hp→Prop
abbrev St:=List (Option V)
abbrev VK:=V→Hp→Prop
abbrev TE:=St→Hp→VK→Prop
abbrev TT:=St→Hp→(Bool→Hp→Prop)→Prop
abbrev TA:=St→Hp→(List V→Hp→Prop)→Prop
structure Ends where
 nx:St→Hp→Prop
 rt:VK
 bk:St→Hp→Prop:=fun _ _=>False
 ct:St→Hp→Prop:=fun _ _=>False
abbrev TS:=Ends→St→Hp→Prop
def EP (X:Cx) (pins:List (Addr×Obj)) (σ:St) (Q:VK) (u:Value) (s':Shared):Prop:=∃v H',Inv X pins σ H' s'∧RelV v u∧Q v H'
def TP (X:Cx) (pins:List (Addr×Obj)) (σ:St) (Q:Bool→Hp→Prop) (b:Bool) (s':Shared):Prop:=∃H',Inv X pins σ H' s'∧Q b H'
def AP (X:Cx) (pins:List (Addr×Obj)) (σ:St) (Q:List V→Hp→Prop) (us:List Value) (s':Shared):Prop:=∃vs H',Inv X pins σ H' s'∧Vals vs us∧Q vs H'
def SP (X:Cx) (pins:List (Addr×Obj)) (D:Ends) (f:Flow) (s':Shared):Prop:=
 match f with
 | .next=> ∃aj H',Inv X pins aj H' s'∧D.nx aj H'
 | .brk=> ∃aj H',Inv X pins aj H' s'∧D.bk aj H'
 | .cont=> ∃aj H',Inv X pins aj H' s'∧D.ct aj H'
 | .ret u=> ∃v aj H',Inv X pins aj H' s'∧RelV v u∧D.rt v H'
def PE (X:Cx) (e:Expr) (t:TE):Prop:=
 ∀(pins:List (Addr×Obj)) (s:Shared) (σ:St) (H:Hp) (Q:VK),Inv X pins σ H s→t σ H Q→wpAny (model X.prog X.w) X.A (eval e X.env) (EP X pins σ Q) X.xe s
def PT (X:Cx) (e:Expr) (t:TT):Prop:=
 ∀(pins:List (Addr×Obj)) (s:Shared) (σ:St) (H:Hp) (Q:Bool→Hp→Prop),Inv X pins σ H s→t σ H Q→wpAny (model X.prog X.w) X.A (isTrue e X.env (eval e X.env)) (TP X pins σ Q) X.xe s
def PW (X:Cx) (e:Expr) (t:TT):Prop:=
 ∀(whole:Sem Value) (pins:List (Addr×Obj)) (s:Shared) (σ:St) (H:Hp) (Q:Bool→Hp→Prop),Inv X pins σ H s→t σ H Q→wpAny (model X.prog X.w) X.A (isTrue e X.env whole) (TP X pins σ Q) X.xe s
theorem PW.pt {X:Cx}{e:Expr}{t:TT}(h:PW X e t):PT X e t:=h _
def PA (X:Cx) (es:List Expr) (t:TA):Prop:=
 ∀(pos:Pos) (pins:List (Addr×Obj)) (s:Shared) (σ:St) (H:Hp) (Q:List V→Hp→Prop),Inv X pins σ H s→t σ H Q→wpAny (model X.prog X.w) X.A (spliced (backTo pos (starEach es X.env))) (AP X pins σ Q) X.xe s
def PS (X:Cx) (st:Stmt) (t:TS):Prop:=
 ∀(pins:List (Addr×Obj)) (s:Shared) (σ:St) (H:Hp) (D:Ends),Inv X pins σ H s→t D σ H→wpAny (model X.prog X.w) X.A (exec st X.env) (SP X pins D) X.xe s
def eQ (X:Cx) (st:List Stmt) (t:TS):Prop:=
 ∀(pins:List (Addr×Obj)) (s:Shared) (σ:St) (H:Hp) (D:Ends),Inv X pins σ H s→t D σ H→wpAny (model X.prog X.w) X.A (execs st X.env) (SP X pins D) X.xe s
theorem au {α:Type}{t:Sem α}{Q Q':α→Shared→Prop}{M:Model}{A:Around}{E:Value→Shared→Prop}{s:Shared}(h:wpAny M A t Q E s) (hQ:∀a s,Q a s→Q' a s):wpAny M A t Q' E s:=wpAny_mono h hQ fun _ _ x=>x
section
variable {X:Cx}
def oh (i:Nat):TE:=fun σ H Q=> ∃v,σ[i]? =some (some v)∧Q v H
def tC (v:V):TE:=fun _ H Q=>Q v H
theorem Jr {i:Nat}{x:Str}{pos:Pos}(hN:X.N[i]? =some x) (hv:qh X.env.scope x) (hd:(x==("__debug__" :Str))=false:=by decide) (cQ:(x==("__classdict__" :Str))=false:=by decide):PE X (.Name x pos) (oh i):=by
 intro pins s σ H Q I h
 obtain⟨v,e,h⟩:=h
 obtain⟨m,hn,hl⟩:=I.loc
 obtain⟨u,r,l⟩:=hl i x v hN e hv
 have fin:EP X pins σ Q u s:=⟨v,H,I,r,h⟩
 rcases l with ⟨hk,hm⟩ |⟨hk,c,hc,kc⟩
 ·exact wpAny_Name (wpAny_loadName_local I.ok.kind hk hn hm fin) hd
 ·rcases hk with hk |hk
  ·exact wpAny_Name (wpAny_loadName_cell I.ok.kind hk hc kc fin) hd
  ·exact wpAny_Name (wpAny_loadName_free I.ok.kind hk hc kc fin cQ) hd
theorem Zi {i j pos} :PE X (.Constant (.int i) j pos) (tC (.int i)):=fun _ _ _ H _ I h=>wpAny_Constant_int ⟨.int i,H,I.tok _,⟨_,rfl⟩,h⟩
theorem WR {b j pos} :PE X (.Constant (.bool b) j pos) (tC (.bl b)):=fun _ _ _ H _ I h=>Constant_bool ⟨.bl b,H,I,rfl,h⟩
theorem Yr {j pos} :PE X (.Constant .none j pos) (tC .af):=fun _ _ _ H _ I h=>Constant_none ⟨.af,H,I,rfl,h⟩
theorem Yd {x j pos} :PE X (.Constant (.str x) j pos) (tC (.str x)):=fun _ _ _ H _ I h=>Calls.Constant_str ⟨.str x,H,I.tok _,⟨_,rfl⟩,h⟩
def Gl (X:Cx) (x:Str):Prop:=X.env.kindOf x=some .globalImplicit
theorem Jg {E:Value→Shared→Prop}{pins:List (Addr×Obj)}{s:Shared}{σ:St}{H:Hp}{x:Str}{u:Value}{pos:Pos}{Q:Value→Shared→Prop}(I:Inv X pins σ H s) (hg:Gl X x) (hm:X.mg x=some u) (h:Q u s)
  (hd:(x==("__debug__" :Str))=false:=by decide):wpAny (model X.prog X.w) X.A (eval (.Name x pos) X.env) Q E s:=
 Calls.Name_function_global I.ok.kind hg (Calls.loadGlobal_global (by rw[I.ok.glob];exact I.mod.glob.keeps I.bk) hm h) hd
theorem Ym {E:Value→Shared→Prop}{pins:List (Addr×Obj)}{s:Shared}{σ:St}{H:Hp}{x:Str}{u:Value}{pos:Pos}{Q:Value→Shared→Prop}(I:Inv X pins σ H s) (hg:Gl X x) (hm:X.mg x=none) (hv:bootBuiltins x=some u) (h:Q u s)
  (hn:x≠ "__name__" :=by decide) (hd:(x==("__debug__" :Str))=false:=by decide):wpAny (model X.prog X.w) X.A (eval (.Name x pos) X.env) Q E s:=by
 obtain⟨mb,h1,h2⟩:=I.mod.blt
 exact Calls.Name_function_global I.ok.kind hg (Calls.loadGlobal_builtin (by rw[I.ok.glob];exact I.mod.glob.keeps I.bk) hm (by rw[I.ok.blt];exact h1.keeps I.bk) ((h2 x hn).trans hv) h) hd
theorem Z7 {x:Str}{v:V}{u:Value}{pos:Pos}(hg:Gl X x) (hm:X.mg x=some u) (r:RelV v u) (hd:(x==("__debug__" :Str))=false:=by decide):PE X (.Name x pos) (tC v):=
 fun _ _ _ H _ I h=>Jg I hg hm ⟨v,H,I,r,h⟩ hd
theorem ZJ {x:Str}{v:V}{u:Value}{pos:Pos}(hg:Gl X x) (hm:X.mg x=none) (hv:bootBuiltins x=some u) (r:RelV v u) (hn:x≠ "__name__" :=by decide) (hd:(x==("__debug__" :Str))=false:=by decide):PE X (.Name x pos) (tC v):=
 fun _ _ _ H _ I h=>Ym I hg hm hv ⟨v,H,I,r,h⟩ hn hd
variable {a b:Expr}{ta tb:TE}{pos:Pos}
def PC (X:Cx) (op:CmpOp) (a b:Expr) (t:TE):Prop:=
 ∀(pins:List (Addr×Obj)) (s:Shared) (σ:St) (H:Hp) (Q:VK),Inv X pins σ H s→t σ H Q→
  wpAny (model X.prog X.w) X.A (eval a X.env) (fun v aJ=>wpAny (model X.prog X.w) X.A (eval b X.env) (fun u mK=>wpAny (model X.prog X.w) X.A (compareOp op v u) (EP X pins σ Q) X.xe mK) X.xe aJ) X.xe s
theorem Ap (b:Expr) {op:CmpOp}(h:op≠.In) (h2:op≠.NotIn):behindInMarks op b=false:=by
 have e1:(op==CmpOp.In)=false:=by cases op<;>first |rfl |exact absurd rfl h
 have e2:(op==CmpOp.NotIn)=false:=by cases op<;>first |rfl |exact absurd rfl h2
 cases b<;>simp[behindInMarks,e1,e2]
def EW (ta:TE):TE:=fun σ H Q=>ta σ H fun x H1=>Q (.bl (decide (x=.af))) H1
def EM (ta:TE):TE:=fun σ H Q=>ta σ H fun x H1=>Q (.bl (!decide (x=.af))) H1
theorem RelV.Ao {x:V}{v:Value}(r:RelV x v):(v==Value.none)=decide (x=.af):=by
 cases x with
 |af=>cases r;rfl
 |bl _=>cases r;rfl
 |int _=>obtain⟨t,rfl⟩:=r;rfl
 |str _=>obtain⟨t,rfl⟩:=r;rfl
 |gK _=>obtain⟨t,rfl⟩:=r;rfl
 |iE _=>obtain⟨t,rfl⟩:=r;rfl
 |ref _=>cases r;rfl
 |ty _=>cases r;rfl
theorem Js {j pos'} (ha:PE X a ta):PC X .Is a (.Constant .none j pos') (EW ta):=by
 intro pins s σ H Q I h
 refine au (ha pins s σ H _ I h) fun v s1 ⟨x,H1,I1,r1,q1⟩=> ?_
 exact Constant_none (is_none_gen ⟨.bl _,H1,I1,by rw[r1.Ao];rfl,q1⟩)
theorem Ut {j pos'} (ha:PE X a ta):PC X .IsNot a (.Constant .none j pos') (EM ta):=by
 intro pins s σ H Q I h
 refine au (ha pins s σ H _ I h) fun v s1 ⟨x,H1,I1,r1,q1⟩=> ?_
 exact Constant_none (isnot_none_gen ⟨.bl _,H1,I1,by rw[r1.Ao];rfl,q1⟩)
def tB (t:TE):TT:=fun σ H Q=>t σ H fun x H1=> ∃c,x=.bl c∧Q c H1
theorem yd {op:CmpOp}{t:TE}(h:PC X op a b t) (h1:behindInMarks op b=false:=by first |exact Ap _ (by decide) (by decide) |rfl):PE X (.Compare a [op] [b] pos) t:=fun pins s σ H Q I hw=>wpAny_Compare1 (h pins s σ H Q I hw) h1
theorem Jp {op:CmpOp}{t:TE}(h:PC X op a b t) (h1:behindInMarks op b=false:=by first |exact Ap _ (by decide) (by decide) |rfl):PT X (.Compare a [op] [b] pos) (tB t):=by
 intro pins s σ H Q I hw
 refine wpAny_isTrue_Compare1 (au (h pins s σ H _ I hw) fun v s1 h1=>au h1 fun u s2 h2=>au h2 fun c s3 ⟨x,H1,I1,r1,q1⟩=> ?_) h1
 obtain⟨d,rfl,q⟩:=q1
 cases r1
 exact wpAny_truthy_bool ⟨H1,I1,q⟩
theorem ZZ {e:Expr}{t:TE}(h:PE X e t) (he:∀whole,isTrue e X.env whole=(do let v ←whole;standAt e.pos;holding [v] (truthy v)):=by intro _;rfl):PT X e (tB t):=by
 intro pins s σ H Q I hw
 refine isTrue_plain (au (h pins s σ H _ I hw) fun v s1 ⟨x,H1,I1,r1,q1⟩=> ?_) (he _)
 obtain⟨d,rfl,q⟩:=q1
 cases r1
 exact wpAny_truthy_bool ⟨H1,I1,q⟩
variable {tA qE:TT}{rest:List Expr}
def Fj (t u:TT):TT:=fun σ H Q=>t σ H fun c H1=>if c=true then u σ H1 Q else Q false H1
def EK (t u:TT):TT:=fun σ H Q=>t σ H fun c H1=>if c=true then Q true H1 else u σ H1 Q
def EN (t:TT):TT:=fun σ H Q=>t σ H fun c H1=>Q (!c) H1
theorem NW (ha:PT X a tA):PW X (.BoolOp .And [a] pos) tA:=by
 intro wh pins s σ H Q I h
 refine isTrue_and (au (ha pins s σ H Q I h) fun c s1 e=> ?_)
 cases c with
 |true=>exact isTrue_and_nil e
 |false=>exact e
theorem Jo (ha:PT X a tA):PW X (.BoolOp .Or [a] pos) tA:=by
 intro wh pins s σ H Q I h
 refine isTrue_or (au (ha pins s σ H Q I h) fun c s1 e=> ?_)
 cases c with
 |false=>exact isTrue_or_nil e
 |true=>exact e
theorem Oz (ha:PT X a tA) (hb:PW X (.BoolOp .And (b::rest) pos) qE):PW X (.BoolOp .And (a::b::rest) pos) (Fj tA qE):=by
 intro wh pins s σ H Q I h
 refine isTrue_and (au (ha pins s σ H _ I h) fun c s1 ⟨H1,I1,q1⟩=> ?_)
 cases c with
 |true=>exact hb wh pins s1 σ H1 Q I1 q1
 |false=>exact⟨H1,I1,q1⟩
theorem WP (ha:PT X a tA) (hb:PW X (.BoolOp .Or (b::rest) pos) qE):PW X (.BoolOp .Or (a::b::rest) pos) (EK tA qE):=by
 intro wh pins s σ H Q I h
 refine isTrue_or (au (ha pins s σ H _ I h) fun c s1 ⟨H1,I1,q1⟩=> ?_)
 cases c with
 |true=>exact⟨H1,I1,q1⟩
 |false=>exact hb wh pins s1 σ H1 Q I1 q1
theorem Yp (ha:PT X a tA):PT X (.UnaryOp .Not a pos) (EN tA):=by
 intro pins s σ H Q I h
 exact isTrue_not (ha pins s σ H (fun c H1=>Q (!c) H1) I h)
def Fi (ta tb:TE):TE:=fun σ H Q=>ta σ H fun x H1=> ∃c,x=.bl c∧if c=true then tb σ H1 Q else Q (.bl false) H1
def EL (ta:TE):TE:=fun σ H Q=>ta σ H fun x H1=> ∃c,x=.bl c∧Q (.bl (!c)) H1
theorem Yq {op}{t:TE}(h:PE X a t):PE X (.BoolOp op [a] pos) t:=fun pins s σ H Q I hw=>BoolOp_one (h pins s σ H Q I hw)
theorem Yj (ha:PE X a ta) (hb:PE X (.BoolOp .And (b::rest) pos) tb):PE X (.BoolOp .And (a::b::rest) pos) (Fi ta tb):=by
 intro pins s σ H Q I h
 refine BoolOp_and (au (ha pins s σ H _ I h) fun v s1 ⟨x,H1,I1,r1,q1⟩=> ?_)
 obtain⟨c,rfl,q1⟩:=q1
 cases r1
 refine wpAny_truthy_bool ?_
 cases c with
 |true=>exact hb pins s1 σ H1 Q I1 q1
 |false=>exact⟨.bl false,H1,I1,rfl,q1⟩
theorem Ow (ha:PE X a ta):PE X (.UnaryOp .Not a pos) (EL ta):=by
 intro pins s σ H Q I h
 refine UnaryOp_ (au (ha pins s σ H _ I h) fun v s1 ⟨x,H1,I1,r1,q1⟩=> ?_)
 obtain⟨c,rfl,q1⟩:=q1
 cases r1
 exact not_of (wpAny_truthy_bool ⟨.bl (!c),H1,I1,rfl,q1⟩)
end
def ag (K:PySem.W.Frag) (H:Hp) (a:Addr) (xs:List V):Prop:=
 Rd H a (.lst xs)∨
  ∃(o:Obj) (its:Array Value) (n:Nat),K.lookup a=some o∧o.cls=.type "list" ∧o.dict=none∧o.data=.seq its n∧its.size≤sizeLine∧Vals xs its.toList
def ai (K:PySem.W.Frag) (H:Hp) (a:Addr) (xs:List V):Prop:=
 Rd H a (.tup xs)∨
  (∃(o:Obj) (its:Array Value) (n:Nat),K.lookup a=some o∧o.cls=.type "tuple" ∧o.data=.seq its n∧its.size≤sizeLine∧Vals xs its.toList)∨H a=some (.par xs)
def M0:Value→Option V
 | .none=>some .af
 | .bool b=>some (.bl b)
 | .int i _=>some (.int i)
 | .str x _=>some (.str x)
 | .bytes b _=>some (.gK b)
 | .float b _=>some (.iE b)
 | .ref a=>some (.ref a)
 | .type n=>some (.ty n)
 |_=>none
theorem RelV.abs {x:V}{u:Value}(r:RelV x u):M0 u=some x:=by
 cases x with
 |af=>cases r;rfl
 |bl _=>cases r;rfl
 |int _=>obtain⟨t,rfl⟩:=r;rfl
 |str _=>obtain⟨t,rfl⟩:=r;rfl
 |gK _=>obtain⟨t,rfl⟩:=r;rfl
 |iE _=>obtain⟨t,rfl⟩:=r;rfl
 |ref _=>cases r;rfl
 |ty _=>cases r;rfl
theorem RelV.inj {x y:V}{u:Value}(r:RelV x u) (q:RelV y u):x=y:=Option.some.inj (r.abs.symm.trans q.abs)
theorem Vals.inj:∀{xs ys:List V}{us:List Value},Vals xs us→Vals ys us→xs=ys
 |_,_,_,.nil,.nil=>rfl
 |_,_,_,.cons r t,.cons r' t'=>by rw[r.inj r',Vals.inj t t']
section
variable {X:Cx}{pins:List (Addr×Obj)}{σ:St}{H:Hp}{s:Shared}{a:Addr}{xs ys:List V}
theorem ag.of {K:PySem.W.Frag}(h:H a=some (.lst xs)):ag K H a xs:=.inl (.inl h)
theorem ai.of {K:PySem.W.Frag}(h:H a=some (.tup xs)):ai K H a xs:=.inl (.inl h)
theorem ai.nh {K:PySem.W.Frag}(h:H a=some (.par xs)):ai K H a xs:=.inr (.inr h)
theorem Inv.list (I:Inv X pins σ H s) (h:ag X.K H a xs):∃its:List Value,Vals xs its∧PlainL s.heap a its.toArray∧xs.length≤sizeLine:=by
 rcases h with h |⟨o,its,n,hk,hc,hd,hs,hz,r⟩
 ·obtain⟨z,its,n,r,e⟩:=h.ok I.ah
  exact⟨its,r,⟨_,n,e,rfl,rfl,rfl⟩,z⟩
 ·refine⟨its.toList,r,⟨o,n,I.cG a o hk,hc,hd,by simpa using hs⟩,?_⟩
  have e:=r.length
  simp only[Array.length_toList]at e
  omega
theorem Inv.tuple (I:Inv X pins σ H s) (h:ai X.K H a xs):∃its:List Value,Vals xs its∧IsTup s.heap a its.toArray∧xs.length≤sizeLine:=by
 rcases h with h |⟨o,its,n,hk,hc,hs,hz,r⟩ |h
 ·obtain⟨z,its,r,p,_⟩:=h.ok I.ah
  exact⟨its,r,p,z⟩
 rotate_left
 ·obtain⟨z,its,r,p⟩:=(show cb X.prog X.w H s.heap a (.par xs) from I.ah a _ h)
  exact⟨its,r,p,z⟩
 ·refine⟨its.toList,r,⟨o,I.cG a o hk,hc,n,by simpa using hs⟩,?_⟩
  have e:=r.length
  simp only[Array.length_toList]at e
  omega
theorem Inv.rP (I:Inv X pins σ H s) (h:ag X.K H a xs) (h':ag X.K H a ys):xs=ys:=by
 obtain⟨its,r,⟨o,n,e,_,_,d⟩,_⟩:=I.list h
 obtain⟨its',r',⟨o',n',e',_,_,d'⟩,_⟩:=I.list h'
 rw[e]at e';cases e'
 rw[d]at d'
 injection d' with d1 _
 have:its=its':=by simpa using congrArg Array.toList d1
 subst this
 exact r.inj r'
theorem Inv.qC (I:Inv X pins σ H s) (h:ai X.K H a xs) (h':ai X.K H a ys):xs=ys:=by
 obtain⟨its,r,⟨o,e,_,n,d⟩,_⟩:=I.tuple h
 obtain⟨its',r',⟨o',e',_,n',d'⟩,_⟩:=I.tuple h'
 rw[e]at e';cases e'
 rw[d]at d'
 injection d' with d1 _
 have:its=its':=by simpa using congrArg Array.toList d1
 subst this
 exact r.inj r'
end
abbrev Cx.fY (X:Cx) (E:Value→Shared→Prop):Cx:= {X with xe:=E}
abbrev Cx.ft (X:Cx):Cx:=X.fY fun _ _=>False
theorem Cx.Ok.fY {X:Cx}(ok:X.Ok) (E:Value→Shared→Prop):(X.fY E).Ok:=
 ⟨ok.mod,ok.kind,ok.glob,ok.blt,ok.above,ok.inj,ok.has,ok.ko,ok.hd,ok.frames,ok.mL,ok.nP,ok.bs,ok.i7,ok.kT,ok.lZ,ok.dR,ok.gG⟩
theorem Cx.Ok.jg {X:Cx}{E:Value→Shared→Prop}(ok:(X.fY E).Ok):X.Ok:=
 ⟨ok.mod,ok.kind,ok.glob,ok.blt,ok.above,ok.inj,ok.has,ok.ko,ok.hd,ok.frames,ok.mL,ok.nP,ok.bs,ok.i7,ok.kT,ok.lZ,ok.dR,ok.gG⟩
section
variable {X:Cx}{pins:List (Addr×Obj)}{σ:St}{H:Hp}{s:Shared}{E:Value→Shared→Prop}
theorem Inv.fY (I:Inv X pins σ H s) (E:Value→Shared→Prop):Inv (X.fY E) pins σ H s:=⟨I.ok.fY E,I.os,I.bare,I.base,I.loc,I.cell,I.free,I.fF,I.pin,I.ah,I.len⟩
theorem Inv.jg (I:Inv (X.fY E) pins σ H s):Inv X pins σ H s:=⟨I.ok.jg,I.os,I.bare,I.base,I.loc,I.cell,I.free,I.fF,I.pin,I.ah,I.len⟩
theorem SP.jg {D:Ends}{f:Flow}{s':Shared}(h:SP (X.fY E) pins D f s'):SP X pins D f s':=by
 cases f with
 |next=>obtain⟨aj,H',I,q⟩:=h;exact⟨aj,H',I.jg,q⟩
 |brk=>obtain⟨aj,H',I,q⟩:=h;exact⟨aj,H',I.jg,q⟩
 |cont=>obtain⟨aj,H',I,q⟩:=h;exact⟨aj,H',I.jg,q⟩
 |ret u=>obtain⟨v,aj,H',I,r,q⟩:=h;exact⟨v,aj,H',I.jg,r,q⟩
theorem eQ.ft {st:List Stmt}{t:TS}(h:eQ X.ft st t):eQ X st t:=fun pins s σ H D I hw=>
 wpAny_mono (h pins s σ H D (I.fY _) hw) (fun _ _ q=>q.jg) fun _ _ z=>False.elim z
end
section
variable {X:Cx}{st:Stmt}{rest:List Stmt}{t u:TS}{e:Expr}{te:TE}{pos:Pos}
def yZ:TS:=fun D σ H=>D.nx σ H
def iL (t u:TS):TS:=fun D σ H=>t {D with nx:=u D} σ H
theorem ZG:eQ X [] yZ:=fun _ _ σ H _ I h=>wpAny_execs_nil ⟨σ,H,I,h⟩
theorem Ze (h1:PS X st t) (h2:eQ X rest u):eQ X (st::rest) (iL t u):=by
 intro pins s σ H D I h
 refine wpAny_execs_cons (au (h1 pins s σ H {D with nx:=u D} I h) fun f s1 q=> ?_)
 cases f with
 |next=>
  obtain⟨aj,H',I',q⟩:=q
  exact h2 pins s1 aj H' D I' q
 |ret v=>exact q
 |brk=>exact q
 |cont=>exact q
theorem Zk (h1:PS X st t):eQ X [st] t:=by
 intro pins s σ H D I h
 refine wpAny_execs_cons (au (h1 pins s σ H D I h) fun f s1 q=> ?_)
 cases f with
 |next=>exact wpAny_execs_nil q
 |ret v=>exact q
 |brk=>exact q
 |cont=>exact q
theorem Inv.quiet {pins:List (Addr×Obj)}{σ:St}{H:Hp}{s:Shared}(I:Inv X pins σ H s):interactive X.env=false:=by simp[interactive,I.ok.kind]
def Fd (te:TE):TS:=fun D σ H=>te σ H fun _ H1=>D.nx σ H1
theorem Zx (he:PE X e te) (hs:swapsWith e none pos.line X.env=pure false:=by rfl):PS X (.Expr e pos) (Fd te):=by
 intro pins s σ H D I h
 exact wpAny_Expr_any (au (he pins s σ H _ I h) fun v s1 ⟨x,H1,I1,r1,q1⟩=> ⟨σ,H1,I1,q1⟩) I.quiet hs
def uq (te:TE):TS:=fun D σ H=>te σ H D.rt
theorem Zs (he:PE X e te):PS X (.Return (some e) pos) (uq te):=by
 intro pins s σ H D I h
 exact wpAny_Return_some (au (he pins s σ H _ I h) fun v s1 ⟨x,H1,I1,r1,q1⟩=> ⟨x,σ,H1,I1,r1,q1⟩)
def EX (c:TT) (t u:TS):TS:=fun D σ H=>c σ H fun b H1=>if b=true then t D σ H1 else u D σ H1
theorem ZW {c:Expr}{a b:List Stmt}{tc:TT}(hc:PT X c tc) (ha:eQ X a t) (hb:eQ X b u):PS X (.If c a b pos) (EX tc t u):=by
 intro pins s σ H D I h
 refine wpAny_If (au (hc pins s σ H _ I h) fun d s1 ⟨H1,I1,q1⟩=> ?_)
 cases d with
 |true=>exact ha pins s1 σ H1 D I1 q1
 |false=>exact hb pins s1 σ H1 D I1 q1
def ER:TS:=fun _ _ _=>False
theorem Zw {Fo:List Stmt} :eQ X Fo ER:=fun _ _ _ _ _ _ h=>h.elim
end
abbrev TG:=V→St→Hp→(St→Hp→Prop)→Prop
abbrev mh:=List V→St→Hp→(St→Hp→Prop)→Prop
def PG (X:Cx) (target:Expr) (t:TG):Prop:=
 ∀(pins:List (Addr×Obj)) (s:Shared) (σ:St) (H:Hp) (v:V) (u:Value) (Q:St→Hp→Prop),Inv X pins σ H s→RelV v u→t v σ H Q→
  wpAny (model X.prog X.w) X.A (assign target X.env u) (fun _ s'=> ∃aj H',Inv X pins aj H' s'∧Q aj H') X.xe s
def tW (X:Cx) (ts:List Expr) (t:mh):Prop:=
 ∀(pins:List (Addr×Obj)) (s:Shared) (σ:St) (H:Hp) (vs:List V) (us:List Value) (Q:St→Hp→Prop),Inv X pins σ H s→Vals vs us→t vs σ H Q→
  wpAny (model X.prog X.w) X.A (assignInOrder ((assignEach ts X.env).map (·.2)) us) (fun _ s'=> ∃aj H',Inv X pins aj H' s'∧Q aj H') X.xe s
abbrev yh:=V→V→V→Hp→(Hp→Prop)→Prop
def DW (X:Cx) (t:yh):Prop:=
 ∀(pins:List (Addr×Obj)) (s:Shared) (σ:St) (H:Hp) (o i v:V) (ov iv u:Value) (Q:Hp→Prop),Inv X pins σ H s→RelV o ov→RelV i iv→RelV v u→t o i v H Q→
  wpAny (model X.prog X.w) X.A (setItem ov iv u) (fun _ s'=> ∃H',Inv X pins σ H' s'∧Q H') X.xe s
section
variable {X:Cx}{pos:Pos}
def bT (i:Nat):TG:=fun v σ H Q=>Q (σ.set i (some v)) H
theorem ZY {i:Nat}{x:Str}(hN:X.N.Nodup) (hi:X.N[i]? =some x) (hx:Loc X.env.scope x) (hf:X.fn x=true∨X.env.scope.names.lookup x=some .local:=by first |exact .inl rfl |exact .inr rfl |assumption):PG X (.Name x pos) (bT i):=by
 intro pins s σ H v u Q I r h
 exact wpAny_assign_Name (Y7 I hN hi hx r (fun s' I'=> ⟨_,H,I',h⟩) hf)
def iB:mh:=fun vs σ H Q=>vs=[]∧Q σ H
def cI (t:TG) (u:mh):mh:=fun vs σ H Q=> ∃v r,vs=v::r∧t v σ H fun aj H'=>u r aj H' Q
theorem ZU:tW X [] iB:=by
 intro pins s σ H vs us Q I r h
 obtain⟨e,h⟩:=h
 subst e
 cases r
 exact assignInOrder_nil ⟨σ,H,I,h⟩
theorem Zp {e:Expr}{es:List Expr}{t:TG}{u:mh}(h1:PG X e t) (h2:tW X es u)
  (hs:(assignEach (e::es) X.env).map (·.2)=assign e X.env::(assignEach es X.env).map (·.2):=by rfl):tW X (e::es) (cI t u):=by
 intro pins s σ H vs us Q I r h
 obtain⟨v,vr,e1,h⟩:=h
 subst e1
 cases r with
 |cons r rr=>
  rw[hs]
  refine assignInOrder_cons (au (h1 pins s σ H _ _ _ I r h) fun _ s1 ⟨Ek,H1,I1,q1⟩=> ?_)
  exact h2 pins s1 Ek H1 _ _ Q I1 rr q1
def iA (K:PySem.W.Frag) (n:Nat) (t:mh):TG:=fun v σ H Q=> ∃a xs,v=.ref a∧ai K H a xs∧xs.length=n∧t xs σ H Q
theorem Z5 {es:List Expr}{k:Nat}{t:mh}{n:Nat}(hc:X.calm=true) (h:tW X es t)
  (hn:(assignEach es X.env).length=n:=by rfl) (jw:(assignEach es X.env).findIdx? (·.1)=none:=by rfl):PG X (.Tuple es k pos) (iA X.K n t):=by
 intro pins s σ H v u Q I r hw
 obtain⟨a,xs,e1,hq,hl,hw⟩:=hw
 subst e1
 cases r
 obtain⟨its,rv,ht,hz⟩:=I.tuple hq
 refine assign_Tuple_tuple (I.ok.hd hc) ht (by simp[hn,←hl,rv.length]) jw fun h' hx=> ?_
 have I1:Inv X pins σ H {s with heap:=h'} :=I.kept (t':=s.toks) fun b o e=>hx b o (Nat.ne_of_lt (Heap.lt_size e)) e
 exact h pins _ σ H xs _ Q I1 (by simpa using rv) hw
def LL (to ti:TE) (t:yh):TG:=fun v σ H Q=>to σ H fun o H1=>ti σ H1 fun i H2=>t o i v H2 fun H3=>Q σ H3
theorem CU {o i:Expr}{to ti:TE}{t:yh}(ho:PE X o to) (hi:PE X i ti) (hs:DW X t)
    (ha:∀v,assign (.Subscript o i pos) X.env v=(do
      let ov ←holding [v] (eval o X.env)
      let iv ←holding [v,ov] (eval i X.env)
      standAt pos
      holding [v,ov,iv] (setItem ov iv v)
      release [v,ov,iv] []):=by intro _;rfl):PG X (.Subscript o i pos) (LL to ti t):=by
  intro pins s σ H v u Q I r h
  rw[ha]
  refine wpAny_bind (wpAny_holding (au (ho pins s σ H _ I h) fun ov s1 ⟨x,H1,I1,r1,q1⟩=> ?_))
  refine wpAny_bind (wpAny_holding (au (hi pins s1 σ H1 _ I1 q1) fun iv s2 ⟨y,H2,I2,r2,q2⟩=> ?_))
  refine wpAny_bind (wpAny_standAt (wpAny_bind (wpAny_holding (au (hs pins s2 σ H2 x y v ov iv u _ I2 r1 r2 r q2) fun _ s3 ⟨H3,I3,q3⟩=> ?_))))
  exact wpAny_release ⟨σ,H3,I3,q3⟩
def qF (te:TE) (g:TG):TS:=fun D σ H=>te σ H fun x H1=>g x σ H1 D.nx
theorem Uq {tg e:Expr}{te:TE}{g:TG}(he:PE X e te) (hg:PG X tg g) (hs:swapsWithSole [tg] e pos.line X.env=pure false:=by rfl) (hw:swappedStores [tg] e X.env=pure none:=by rfl)
  (h1:(assignEach [tg] X.env).map (·.2)=[assign tg X.env]:=by rfl):PS X (.Assign [tg] e pos) (qF te g):=by
 intro pins s σ H D I h
 refine wpAny_Assign_stores (au (he pins s σ H _ I h) fun v s1 ⟨x,H1,I1,r1,q1⟩=> ?_) hs hw
 rw[h1]
 exact au (hg pins s1 σ H1 x v _ I1 r1 q1) fun _ s2 q=>q
theorem ZA {i:Nat}{x:Str}{e:Expr}{te:TE}{pos':Pos}(hN:X.N.Nodup) (hi:X.N[i]? =some x) (hx:Loc X.env.scope x) (he:PE X e te) (hs:swapsWith e (some (.Name x pos')) pos.line X.env=pure false:=by rfl) (hf:X.fn x=true∨X.env.scope.names.lookup x=some .local:=by first |exact .inl rfl |exact .inr rfl |assumption):
  PS X (.Assign [.Name x pos'] e pos) (qF te (bT i)):=by
 intro pins s σ H D I h
 refine wpAny_Assign_Name (au (he pins s σ H _ I h) fun v s1 ⟨y,H1,I1,r1,q1⟩=> ?_) hs
 exact Y7 I1 hN hi hx r1 (fun s2 I2=> ⟨_,H1,I2,q1⟩) hf
end
structure It where
 go:Nat→Hp→Prop
 mD:Nat→Hp→V→Hp→Prop
 stop:Nat→Hp→Prop
def bV (X:Cx) (pins:List (Addr×Obj)) (H:Hp) (b:Addr):Prop:=
 H b=none∧b≠X.env.locals∧b∉X.fs∧(b∈X.ex∨X.bW.heap.objs.size≤b)∧(∀x c,X.env.cells.lookup x=some c→c≠b)∧∀p∈X.pn++pins,p.1≠b
theorem Inv.kh {X:Cx}{pins:List (Addr×Obj)}{σ:St}{H H':Hp}{s:Shared}{b:Addr}(I:Inv X pins σ H s) (hb:s.heap.objs.size≤b) (hn:H' b=none):bV X pins H' b:=by
 refine⟨hn,Nat.ne_of_gt (Nat.lt_of_lt_of_le I.lt hb),I.GX hb,.inr (Nat.le_trans I.sz hb),fun x c e z=> ?_,fun p hp z=> ?_⟩
 ·obtain⟨v,q⟩:=I.cell x c e
  exact absurd (Nat.lt_of_lt_of_le q.lt (by rw[z];exact hb)) (Nat.lt_irrefl _)
 ·exact absurd (Nat.lt_of_lt_of_le (Heap.lt_size (I.pin p hp).1) (by rw[z];exact hb)) (Nat.lt_irrefl _)
structure Turn (P:Program) (w:World) (K:PySem.W.Frag) (tg:Expr) (J:It) (fp:List Addr) (it:Addr) (tn:Nat→Heap→Prop):Prop where
 mem:it∈fp
 obj:∀i h,tn i h→∀b∈fp,∃o,h.get? b=some o∧∀v,o.data≠.cell v
 keep:∀i h h',tn i h→(∀b∈fp,∀o,h.get? b=some o→h'.get? b=some o)→tn i h'
 item:∀(X:Cx),X.prog=P→X.w=w→X.K=K→X.calm=true→∀(i:Nat) (pins:List (Addr×Obj)) (s:Shared) (σ:St) (H:Hp) (E:Value→Shared→Prop),Inv X pins σ H s→(∀b∈fp,bV X pins H b)→tn i s.heap→J.go i H→
  wpAny (model P w) X.A (pyNext (.ref it)) (fun r s1=> ∃u,r=some u∧
   wpAny (model P w) X.A (letOwnedTupleGo tg (.ref it) u) (fun _ s2=> ∃x H',Inv X pins σ H' s2∧RelV x u∧J.mD i H x H'∧tn (i+1) s2.heap∧∀b∈fp,H' b=none) E s1) E s
 done:∀(X:Cx),X.prog=P→X.w=w→X.K=K→X.calm=true→∀(i:Nat) (pins:List (Addr×Obj)) (s:Shared) (σ:St) (H:Hp) (E:Value→Shared→Prop),Inv X pins σ H s→(∀b∈fp,bV X pins H b)→tn i s.heap→J.stop i H→
  wpAny (model P w) X.A (pyNext (.ref it)) (fun r s1=>r=none∧Inv X pins σ H s1) E s
 self:∀(A:Around) (i:Nat) (s:Shared) (Q:Value→Shared→Prop) (E:Value→Shared→Prop),tn i s.heap→Q (.ref it) s→wpAny (model P w) A (pyIter (.ref it)) Q E s
abbrev TI:=St→Hp→(It→Hp→Prop)→Prop
def DX (X:Cx) (pins:List (Addr×Obj)) (σ:St) (tg:Expr) (R:It→Hp→Prop) (jW:Value) (s2:Shared):Prop:=
 ∃(it:Addr) (fp:List Addr) (tn:Nat→Heap→Prop) (J:It) (H':Hp),jW=.ref it∧Inv X pins σ H' s2∧Turn X.prog X.w X.K tg J fp it tn∧tn 0 s2.heap∧(∀b∈fp,bV X pins H' b)∧R J H'
def PI (X:Cx) (tg iter:Expr) (wi:TI):Prop:=
 ∀(pins:List (Addr×Obj)) (s:Shared) (σ:St) (H:Hp) (R:It→Hp→Prop),Inv X pins σ H s→wi σ H R→
  wpAny (model X.prog X.w) X.A (eval iter X.env) (fun v s1=>wpAny (model X.prog X.w) X.A (pyIter v) (DX X pins σ tg R) X.xe s1) X.xe s
theorem yc {M:Model}{A:Around}{E:Value→Shared→Prop}{s:Shared}{tg:Expr}{it:Addr}{u:Value}{o:Obj}{n:String}{vs:Array Value}{Q:Unit→Shared→Prop}(ho:s.heap.get? it=some o) (hc:o.cls=.type n) (hd:o.data=.fields vs)
    (hn:["enumerate", "zip", "dict_itemiterator", "dict_reverseitemiterator", "odict_iterator", "itertools.zip_longest", "itertools.pairwise"].contains n=false) (hQ:Q () s):wpAny M A (letOwnedTupleGo tg (.ref it) u) Q E s:=by
  unfold letOwnedTupleGo
  cases tg<;>first
    |exact wpAny_pure hQ
    |(cases u<;>first
        |exact wpAny_pure hQ
        |(refine wpAny_bind (wpAny_load ho ?_)
          rw[hc,hd]
          show wpAny M A (if (["enumerate", "zip", "dict_itemiterator", "dict_reverseitemiterator", "odict_iterator", "itertools.zip_longest", "itertools.pairwise"].contains n&&vs[0]? ==some (rawInt _))=true then _ else _) Q E s
          rw[if_neg (by intro h;rw[hn,Bool.false_and]at h;cases h)]
          exact wpAny_pure hQ))
def nV (K:PySem.W.Frag) (a:Addr):It:=
 ⟨fun i H=> ∃xs x,ag K H a xs∧xs[i]? =some x,fun i H x H'=>H'=H∧∀xs,ag K H a xs→xs[i]? =some x,fun i H=> ∃xs,ag K H a xs∧xs.length≤i⟩
def yt (K:PySem.W.Frag) (a:Addr):It:=
 ⟨fun i H=> ∃xs x,ai K H a xs∧xs[i]? =some x,fun i H x H'=>H'=H∧∀xs,ai K H a xs→xs[i]? =some x,fun i H=> ∃xs,ai K H a xs∧xs.length≤i⟩
def mz (lo:Int) (n:Nat):It:=⟨fun i _=>i<n,fun i H x H'=>H'=H∧x=.int (lo+i),fun i _=>n≤i⟩
theorem PJ {P:Program}{w:World}{K:PySem.W.Frag}{tg:Expr}(a it:Addr):Turn P w K tg (nV K a) [it] it (fun i h=>h.IsListIter it a i) where
 mem:=by simp
 obj:=fun i h st b hb=>by
  have e:b=it:=by simpa using hb
  subst e
  obtain⟨o,e,c,d⟩:=st
  exact⟨o,e,fun v z=>by rw[d]at z;cases z⟩
 keep:=fun i h h' st k=>st.at fun o e=>k it (by simp) o e
 item:=by
  intro X hP hw hK hc i pins s σ H E I hf st hg
  subst hP hw hK
  obtain⟨xs,x,hq,hx⟩:=hg
  obtain⟨its,rv,p,hz⟩:=I.list hq
  obtain⟨u,hu,ru⟩:=rv.get hx
  obtain⟨f0,f1,f2,f3,f4,f5⟩:=hf it (by simp)
  refine wpAny_pyNext_list_item st p.isList (x:=u) (by simpa using hu) fun h' aa sb=> ?_
  have I1:Inv X pins σ H {s with heap:=h'} :=I.turned (t':=s.toks) (fun b o hb e=> (sb.2 b hb).trans e) f0 f1 f3 f4 f5
  obtain⟨o,e,c,d⟩:=id aa
  exact⟨u,rfl,yc (s:= {s with heap:=h'}) e c d (by decide) ⟨x,H,I1,ru,⟨rfl,fun ys hy=>by rw[I.rP hy hq];exact hx⟩,aa,fun b hb=> (hf b hb).1⟩⟩
 done:=by
  intro X hP hw hK hc i pins s σ H E I hf st hg
  subst hP hw hK
  obtain⟨xs,hq,hx⟩:=hg
  obtain⟨its,rv,p,hz⟩:=I.list hq
  obtain⟨f0,f1,f2,f3,f4,f5⟩:=hf it (by simp)
  have hl:=rv.length
  exact wpAny_pyNext_list_end (I.ok.hd hc) st p.isList (by simp;omega) fun h' eb=> ⟨rfl,I.turned (t':=s.toks) (fun b o hb e=>eb b o hb e) f0 f1 f3 f4 f5⟩
 self:=fun _ _ _ _ _ st h=>wpAny_pyIter_listiter st h
theorem Qy {P:Program}{w:World}{K:PySem.W.Frag}{tg:Expr}(a it:Addr):Turn P w K tg (yt K a) [it] it (fun i h=>h.IsTupleIter it a i) where
 mem:=by simp
 obj:=fun i h st b hb=>by
  have e:b=it:=by simpa using hb
  subst e
  obtain⟨o,e,c,d⟩:=st
  exact⟨o,e,fun v z=>by rw[d]at z;cases z⟩
 keep:=fun i h h' st k=>st.at fun o e=>k it (by simp) o e
 item:=by
  intro X hP hw hK hc i pins s σ H E I hf st hg
  subst hP hw hK
  obtain⟨xs,x,hq,hx⟩:=hg
  obtain⟨its,rv,p,hz⟩:=I.tuple hq
  obtain⟨u,hu,ru⟩:=rv.get hx
  obtain⟨f0,f1,f2,f3,f4,f5⟩:=hf it (by simp)
  refine wpAny_pyNext_tuple_item st (show s.heap.IsTuple a its.toArray from p) (x:=u) (by simpa using hu) fun h' aa sb=> ?_
  have I1:Inv X pins σ H {s with heap:=h'} :=I.turned (t':=s.toks) (fun b o hb e=> (sb.2 b hb).trans e) f0 f1 f3 f4 f5
  obtain⟨o,e,c,d⟩:=id aa
  exact⟨u,rfl,yc (s:= {s with heap:=h'}) e c d (by decide) ⟨x,H,I1,ru,⟨rfl,fun ys hy=>by rw[I.qC hy hq];exact hx⟩,aa,fun b hb=> (hf b hb).1⟩⟩
 done:=by
  intro X hP hw hK hc i pins s σ H E I hf st hg
  subst hP hw hK
  obtain⟨xs,hq,hx⟩:=hg
  obtain⟨its,rv,p,hz⟩:=I.tuple hq
  obtain⟨f0,f1,f2,f3,f4,f5⟩:=hf it (by simp)
  have hl:=rv.length
  exact wpAny_pyNext_tuple_end (I.ok.hd hc) st (show s.heap.IsTuple a its.toArray from p) (by simp;omega) fun h' eb=> ⟨rfl,I.turned (t':=s.toks) (fun b o hb e=>eb b o hb e) f0 f1 f3 f4 f5⟩
 self:=fun _ _ _ _ _ st h=>wpAny_pyIter_tupleiter st h
theorem Qx {P:Program}{w:World}{K:PySem.W.Frag}{tg:Expr}(it:Addr) (lo:Int) (n:Nat):Turn P w K tg (mz lo n) [it] it (fun i h=>IsRangeIter h it (lo+(i:Nat)*1) ((n:Int) - (i:Nat)) 1) where
 mem:=by simp
 obj:=fun i h st b hb=>by
  have e:b=it:=by simpa using hb
  subst e
  exact⟨_,st,fun v z=>by
   have z':Data.fields _=Data.cell v:=z
   cases z'⟩
 keep:=fun i h h' st k=>k it (by simp) _ st
 item:=by
  intro X hP hw hK hc i pins s σ H E I hf st hg
  subst hP hw hK
  obtain⟨f0,f1,f2,f3,f4,f5⟩:=hf it (by simp)
  have W:=Walks.range (prog:=X.prog) (w:=X.w) (I.ok.hd hc) it lo 1 n
  refine W.item i s _ _ hg st fun v h' tk hv aa kk=> ?_
  obtain⟨t,rfl⟩:=hv
  have I1:Inv X pins σ H {s with heap:=h',toks:=tk} :=I.turned (fun b o hb e=>kk b o (by simpa using hb) e) f0 f1 f3 f4 f5
  refine⟨_,rfl,yc (s:= {s with heap:=h',toks:=tk}) (n:= "range_iterator") aa rfl rfl (by decide) ⟨.int (lo+i),H,I1,⟨t,?_⟩,⟨rfl,rfl⟩,aa,fun b hb=> (hf b hb).1⟩⟩
  rw[Int.mul_one]
 done:=by
  intro X hP hw hK hc i pins s σ H E I hf st hg
  subst hP hw hK
  obtain⟨f0,f1,f2,f3,f4,f5⟩:=hf it (by simp)
  exact wpAny_pyNext_range_end (I.ok.hd hc) st (by have:n≤i:=hg;omega) fun h' eb=> ⟨rfl,I.turned (t':=s.toks) (fun b o hb e=>eb b o hb e) f0 f1 f3 f4 f5⟩
 self:=fun _ _ _ _ _ st h=>wpAny_pyIter_rangeiter st h
section
variable {X:Cx}{tg:Expr}
def vX (K:PySem.W.Frag) (tl:TE):TI:=fun σ H R=>tl σ H fun x H1=> ∃a,x=.ref a∧(∃xs,ag K H1 a xs)∧R (nV K a) H1
def Ih (K:PySem.W.Frag) (tl:TE):TI:=fun σ H R=>tl σ H fun x H1=> ∃a,x=.ref a∧(∃xs,ai K H1 a xs)∧R (yt K a) H1
theorem ZP {l:Expr}{tl:TE}(hl:PE X l tl):PI X tg l (vX X.K tl):=by
 intro pins s σ H R I h
 refine au (hl pins s σ H _ I h) fun v s1 ⟨x,H1,I1,r1,q1⟩=> ?_
 obtain⟨a,e,⟨xs,hq⟩,q⟩:=q1
 subst e
 cases r1
 obtain⟨its,rv,p,hz⟩:=I1.list hq
 refine wpAny_pyIter_list p.isList ?_
 refine⟨s1.heap.objs.size,[s1.heap.objs.size],_,_,H1,rfl,I1.kept (t':=s1.toks) fun b o e=>Heap.get?_push_of_some _ e,PJ a _,⟨_,Heap.get?_push_size _ rfl,rfl,rfl⟩,fun b hb=> ?_,q⟩
 have e:b=s1.heap.objs.size:=by simpa using hb
 subst e
 exact I1.kh (Nat.le_refl _) (I1.ah.fresh (Nat.le_refl _))
theorem CV {l:Expr}{tl:TE}(hl:PE X l tl):PI X tg l (Ih X.K tl):=by
 intro pins s σ H R I h
 refine au (hl pins s σ H _ I h) fun v s1 ⟨x,H1,I1,r1,q1⟩=> ?_
 obtain⟨a,e,⟨xs,hq⟩,q⟩:=q1
 subst e
 cases r1
 obtain⟨its,rv,p,hz⟩:=I1.tuple hq
 refine wpAny_pyIter_tuple (show s1.heap.IsTuple a its.toArray from p) ?_
 refine⟨s1.heap.objs.size,[s1.heap.objs.size],_,_,H1,rfl,I1.kept (t':=s1.toks) fun b o e=>Heap.get?_push_of_some _ e,Qy a _,⟨_,Heap.get?_push_size _ rfl,rfl,rfl⟩,fun b hb=> ?_,q⟩
 have e:b=s1.heap.objs.size:=by simpa using hb
 subst e
 exact I1.kh (Nat.le_refl _) (I1.ah.fresh (Nat.le_refl _))
theorem OV {pins:List (Addr×Obj)}{σ:St}{H:Hp}{s:Shared}{R:It→Hp→Prop}{E:Value→Shared→Prop}{lo hi:Int}{t u v:Tok}{tk:Nat}(I:Inv X pins σ H s) (h1: -(2^62)≤lo) (h2:lo<2^62) (h3: -(2^62)≤hi) (h4:hi<2^62)
  (q:R (mz lo (hi - lo).toNat) H):wpAny (model X.prog X.w) X.A (pyIter (.ref s.heap.objs.size)) (DX X pins σ tg R) E {s with heap:=s.heap.push {cls:=.type "range",data:=.fields #[.int lo t,.int hi u,.int 1 v]},toks:=tk} :=by
 refine wpAny_pyIter_range (IsRange.new ..) (small_one h1 h2 h3 h4) ?_
 have I1:Inv X pins σ H {s with heap:=s.heap.push {cls:=.type "range",data:=.fields #[.int lo t,.int hi u,.int 1 v]},toks:=tk} :=I.kept fun b o e=>Heap.get?_push_of_some _ e
 refine⟨(s.heap.push {cls:=.type "range",data:=.fields #[.int lo t,.int hi u,.int 1 v]}).objs.size,[(s.heap.push {cls:=.type "range",data:=.fields #[.int lo t,.int hi u,.int 1 v]}).objs.size],_,_,H,rfl,
  I1.kept (t':=tk) fun b o e=>Heap.get?_push_of_some _ e,Qx _ lo (hi - lo).toNat,?_,fun b hb=> ?_,q⟩
 ·have e1:lo+((0:Nat):Int)*1=lo:=by simp
  have e2:(((hi - lo).toNat:Nat):Int) - ((0:Nat):Int)=Builtin.Range.rangeSize lo hi 1:=by rw[rangeSize_one];split<;>omega
  show IsRangeIter _ _ (lo+((0:Nat):Int)*1) ((((hi - lo).toNat:Nat):Int) - ((0:Nat):Int)) 1
  rw[e1,e2]
  exact Heap.get?_push_size _ rfl
 ·have e:b=(s.heap.push {cls:=.type "range",data:=.fields #[.int lo t,.int hi u,.int 1 v]}).objs.size:=by simpa using hb
  subst e
  exact I1.kh (Nat.le_refl _) (I1.ah.fresh (Nat.le_refl _))
def Ii (ta:TA):TI:=fun σ H R=>ta σ H fun vs H1=> ∃j:Int,vs=[.int j]∧ -(2^62)≤j∧j<2^62∧R (mz 0 j.toNat) H1
theorem Z4 {a:Expr}{ta:TA}{p pos:Pos}(hg:Gl X "range") (hm:X.mg "range" =none) (ha:PA X [a] ta) (hs:starEach [a] X.env=[(false,eval a X.env)]:=by rfl):PI X tg (.Call (.Name "range" p) [a] [] pos) (Ii ta):=by
 intro pins s σ H R I h
 refine Call_ (Ym I hg hm boot_range (PyProof.Rows.callWith_type1 (au (ha pos pins s σ H _ I h) fun us s1 ⟨vs,H1,I1,r1,q1⟩=> ?_) hs rfl))
 obtain⟨j,e,q1,q2,q⟩:=q1
 subst e
 cases r1 with
 |cons r rr=>
  cases rr
  obtain⟨t,rfl⟩:=r
  exact call_range_1 (OV I1 (by omega) (by omega) q1 q2 (by simpa using q))
def Fb (wi:TI) (g:TG) (tb:TS):TS:=fun D σ H=>wi σ H fun J H1=> ∃W:Nat→Nat→St→Hp→Prop,(∃m,W 0 m σ H1)∧∀i m σ H,W i m σ H→
 (J.stop i H∧D.nx σ H)∨(J.go i H∧∃N:St→Hp→Prop,(∀aj H',N aj H'→∃m',m'<m∧W (i+1) m' aj H')∧∀x H',J.mD i H x H'→g x σ H' fun aR H2=>tb {D with nx:=N,ct:=N,bk:=D.nx} aR H2)
def jm (fp:List Addr) (h:Heap):List (Addr×Obj):=fp.filterMap fun b=> (h.get? b).map fun o=> (b,o)
theorem ZR {fp:List Addr}{h:Heap}{b:Addr}{o:Obj}(hb:b∈fp) (e:h.get? b=some o):(b,o)∈jm fp h:=List.mem_filterMap.mpr ⟨b,hb,by rw[e];rfl⟩
theorem Jv {fp:List Addr}{h:Heap}{p:Addr×Obj}(hp:p∈jm fp h):p.1∈fp∧h.get? p.1=some p.2:=by
 obtain⟨b,hb,e⟩:=List.mem_filterMap.mp hp
 cases q:h.get? b with
 |none=>rw[q]at e;cases e
 |some o=>
  rw[q]at e
  have e':(b,o)=p:=Option.some.inj e
  subst e'
  exact⟨hb,q⟩
theorem Inv.pinned {pins:List (Addr×Obj)}{σ:St}{H:Hp}{s:Shared}{fp:List Addr}(I:Inv X pins σ H s) (hf:∀b∈fp,bV X pins H b) (ho:∀b∈fp,∃o,s.heap.get? b=some o∧∀v,o.data≠.cell v):Inv X (pins++jm fp s.heap) σ H s:=
 I.Ac fun p hp=> (List.mem_append.mp hp).elim (fun z=>I.pin p (List.mem_append_right _ z)) fun z=>by
  obtain⟨hb,e⟩:=Jv z
  obtain⟨f0,f1,f2,_⟩:=hf p.1 hb
  obtain⟨o,e',d⟩:=ho p.1 hb
  rw[e]at e';cases e'
  exact⟨e,f0,f1,f2,d⟩
theorem Inv.iK {pins pl:List (Addr×Obj)}{σ:St}{H:Hp}{s:Shared}(I:Inv X (pins++pl) σ H s):Inv X pins σ H s:=I.Ac fun p hp=>I.pin p (List.mem_append_right _ (List.mem_append_left _ hp))
theorem Jq {iter:Expr}{body:List Stmt}{wi:TI}{g:TG}{tb:TS}{pos:Pos}(hp:PassesOwn (model X.prog X.w) X.A X.env X.xe) (hc:X.calm=true) (hi:PI X tg iter wi) (hg:PG X tg g) (hb:eQ X body tb)
  (hs:∀x,foldedSetIterable iter X.env x=pure x:=by intro _;rfl):PS X (.For tg iter body [] pos) (Fb wi g tb):=by
 intro pins s σ H D I h
 refine wpAny_For (au (hi pins s σ H _ I h) fun v s1 h1=>au h1 fun jW s2 h2=> ?_) hs
 obtain⟨it,fp,tn,J,H2,e,I2,T,ak,f2,W,⟨m0,w0⟩,turn⟩:=h2
 subst e
 have stat:∀{H':Hp},(∀b∈fp,H' b=none)→∀b∈fp,bV X pins H' b:=fun hn b hb=> ⟨hn b hb,(f2 b hb).2⟩
 refine codeAny_forLoop_any (fun n s'=> ∃i aj H',Inv X pins aj H' s'∧tn i s'.heap∧(∀b∈fp,H' b=none)∧W i n aj H') ?_ m0 ⟨0,σ,H2,I2,ak,fun b hb=> (f2 b hb).1,w0⟩
 rintro n s3 ⟨i,gO,H3,I3,aU,tG,w3⟩
 rcases turn i n gO H3 w3 with ⟨stop,qn⟩ |⟨go,N,hN,step⟩
 ·refine wpAny_passesOwn hp (au (T.done X rfl rfl rfl hc i pins s3 gO H3 X.xe I3 (stat tG) aU stop) fun r s4 ⟨hr,I4⟩=> ?_)
  subst hr
  exact wpAny_execs_nil ⟨gO,H3,I4,qn⟩
 ·refine wpAny_passesOwn hp (au (T.item X rfl rfl rfl hc i pins s3 gO H3 X.xe I3 (stat tG) aU go) fun r s4 ⟨u,hr,h4⟩=> ?_)
  subst hr
  refine wpAny_passesOwn hp (au h4 fun _ s5 ⟨x,H5,I5,r5,y5,f9,xu⟩=> ?_)
  have yw:=I5.pinned (stat xu) (T.obj _ _ f9)
  refine wpAny_passesOwn hp (au (hg _ s5 gO H5 x u _ yw r5 (step x H5 y5)) fun _ s6 ⟨nY,H6,I6,q6⟩=> ?_)
  refine wpAny_passesOwn hp (au (hb _ s6 nY H6 _ I6 q6) fun f s7 q7=> ?_)
  have again:∀{dU:St}{H7:Hp},Inv X (pins++jm fp s5.heap) dU H7 s7→N dU H7→∃m,m<n∧∃i aj H',Inv X pins aj H' s7∧tn i s7.heap∧(∀b∈fp,H' b=none)∧W i m aj H':=fun {dU H7} I7 n7=>by
   obtain⟨m',hm,w7⟩:=hN dU H7 n7
   refine⟨m',hm,i+1,dU,H7,I7.iK,T.keep _ _ _ f9 fun b hb o e=> (I7.pin (b,o) (List.mem_append_right _ (List.mem_append_right _ (ZR hb e)))).1,fun b hb=> ?_,w7⟩
   obtain⟨o,e,d⟩:=T.obj _ _ f9 b hb
   exact(I7.pin (b,o) (List.mem_append_right _ (List.mem_append_right _ (ZR hb e)))).2.1
  cases f with
  |next=>obtain⟨dU,H7,I7,n7⟩:=q7;exact again I7 n7
  |cont=>obtain⟨dU,H7,I7,n7⟩:=q7;exact again I7 n7
  |brk=>obtain⟨dU,H7,I7,q7⟩:=q7;exact⟨dU,H7,I7.iK,q7⟩
  |ret v=>obtain⟨x7,dU,H7,I7,r7,q7⟩:=q7;exact⟨x7,dU,H7,I7.iK,r7,q7⟩
end
theorem O5 {K:PySem.W.Frag}{a:Addr}{xs:List V}{g:TG}{tb:TS}{D:Ends}{σ:St}{H:Hp}(Pv:Nat→St→Hp→Prop) (h0:Pv 0 σ H) (hl:∀i σ H,i≤xs.length→Pv i σ H→ag K H a xs)
  (hs:∀i x σ H,xs[i]? =some x→Pv i σ H→g x σ H fun aR H2=>tb {D with nx:=Pv (i+1),ct:=Pv (i+1),bk:=D.nx} aR H2) (hd:∀σ H,Pv xs.length σ H→D.nx σ H):
  ∃W:Nat→Nat→St→Hp→Prop,(∃m,W 0 m σ H)∧∀i m σ H,W i m σ H→
   ((nV K a).stop i H∧D.nx σ H)∨((nV K a).go i H∧∃N:St→Hp→Prop,(∀aj H',N aj H'→∃m',m'<m∧W (i+1) m' aj H')∧∀x H',(nV K a).mD i H x H'→g x σ H' fun aR H2=>tb {D with nx:=N,ct:=N,bk:=D.nx} aR H2):=by
 refine⟨fun i m σ H=>m=xs.length - i∧i≤xs.length∧Pv i σ H,⟨xs.length,by simp,Nat.zero_le _,h0⟩,?_⟩
 rintro i m σ H ⟨rfl,hi,p⟩
 have q:=hl i σ H hi p
 by_cases aw:i<xs.length
 ·refine .inr ⟨⟨xs,xs[i],q,by simp[aw]⟩,Pv (i+1),fun aj H' p'=> ⟨xs.length - (i+1),by omega,rfl,aw,p'⟩,fun x H' y=> ?_⟩
  obtain⟨e,y⟩:=y
  subst e
  exact hs i x σ _ (y xs q) p
 ·have e:i=xs.length:=by omega
  subst e
  exact .inl ⟨⟨xs,q,Nat.le_refl _⟩,hd σ H p⟩
theorem YS {lo:Int}{n:Nat}{g:TG}{tb:TS}{D:Ends}{σ:St}{H:Hp}(Pv:Nat→St→Hp→Prop) (h0:Pv 0 σ H)
  (hs:∀i σ H,i<n→Pv i σ H→g (.int (lo+i)) σ H fun aR H2=>tb {D with nx:=Pv (i+1),ct:=Pv (i+1),bk:=D.nx} aR H2) (hd:∀σ H,Pv n σ H→D.nx σ H):
  ∃W:Nat→Nat→St→Hp→Prop,(∃m,W 0 m σ H)∧∀i m σ H,W i m σ H→
   ((mz lo n).stop i H∧D.nx σ H)∨((mz lo n).go i H∧∃N:St→Hp→Prop,(∀aj H',N aj H'→∃m',m'<m∧W (i+1) m' aj H')∧∀x H',(mz lo n).mD i H x H'→g x σ H' fun aR H2=>tb {D with nx:=N,ct:=N,bk:=D.nx} aR H2):=by
 refine⟨fun i m σ H=>m=n - i∧i≤n∧Pv i σ H,⟨n,by simp,Nat.zero_le _,h0⟩,?_⟩
 rintro i m σ H ⟨rfl,hi,p⟩
 by_cases aw:i<n
 ·refine .inr ⟨aw,Pv (i+1),fun aj H' p'=> ⟨n - (i+1),by omega,rfl,aw,p'⟩,fun x H' y=> ?_⟩
  obtain⟨e,y⟩:=y
  subst e y
  exact hs i σ _ aw p
 ·have e:i=n:=by omega
  subst e
  exact .inl ⟨Nat.le_refl _,hd σ H p⟩
abbrev R2:=V→V→Hp→VK→Prop
def bo (X:Cx) (f:Value→Value→Sem Value) (r:R2):Prop:=
 ∀(pins:List (Addr×Obj)) (s:Shared) (σ:St) (H:Hp) (x y:V) (v u:Value) (Q:VK),Inv X pins σ H s→RelV x v→RelV y u→r x y H Q→
  wpAny (model X.prog X.w) X.A (f v u) (EP X pins σ Q) X.xe s
def yg (X:Cx) (f:Value→Sem Value) (r:V→Hp→VK→Prop):Prop:=
 ∀(pins:List (Addr×Obj)) (s:Shared) (σ:St) (H:Hp) (x:V) (v:Value) (Q:VK),Inv X pins σ H s→RelV x v→r x H Q→
  wpAny (model X.prog X.w) X.A (f v) (EP X pins σ Q) X.xe s
def fX (X:Cx) (f:Value) (r:List V→Hp→VK→Prop):Prop:=
 ∀(pins:List (Addr×Obj)) (s:Shared) (σ:St) (H:Hp) (xs:List V) (us:List Value) (Q:VK),Inv X pins σ H s→Vals xs us→r xs H Q→
  wpAny (model X.prog X.w) X.A (call f us) (EP X pins σ Q) X.xe s
def mJ (r:R2) (ta tb:TE):TE:=fun σ H Q=>ta σ H fun x H1=>tb σ H1 fun y H2=>r x y H2 Q
def ED (r:V→Hp→VK→Prop) (ta:TE):TE:=fun σ H Q=>ta σ H fun x H1=>r x H1 Q
def rI (C:Int→Int→Prop) (g:Int→Int→V):R2:=fun x y H Q=> ∃i j,x=.int i∧y=.int j∧C i j∧Q (g i j) H
def jR (g:Int→Int→V):R2:=fun x y H Q=> ∃i j,x=.int i∧y=.int j∧Q (g i j) H
def rU (g:Int→V):V→Hp→VK→Prop:=fun x H Q=> ∃i,x=.int i∧Q (g i) H
section
variable {X:Cx}{a b c:Expr}{ta tb tc:TE}{pos:Pos}
theorem xS (ha:PE X a ta) (hb:PE X b tb) {pins:List (Addr×Obj)}{s:Shared}{σ:St}{H:Hp}{R:V→V→Hp→Prop}(I:Inv X pins σ H s)
  (h:ta σ H fun x H1=>tb σ H1 fun y H2=>R x y H2) {Q:Value→Shared→Prop}{f:Value→Value→Sem Value}
  (hf:∀v u s2 x y H2,Inv X pins σ H2 s2→RelV x v→RelV y u→R x y H2→wpAny (model X.prog X.w) X.A (f v u) Q X.xe s2):
  wpAny (model X.prog X.w) X.A (eval a X.env) (fun v aJ=>wpAny (model X.prog X.w) X.A (eval b X.env) (fun u mK=>wpAny (model X.prog X.w) X.A (f v u) Q X.xe mK) X.xe aJ) X.xe s:=by
 refine au (ha pins s σ H _ I h) fun v s1 ⟨x,H1,I1,r1,q1⟩=> ?_
 refine au (hb pins s1 σ H1 _ I1 q1) fun u s2 ⟨y,H2,I2,r2,q2⟩=> ?_
 exact hf v u s2 x y H2 I2 r1 r2 q2
theorem Zq {op:Operator}{r:R2}(ho:bo X (binaryOp op) r) (ha:PE X a ta) (hb:PE X b tb):PE X (.BinOp a op b pos) (mJ r ta tb):=by
 intro pins s σ H Q I h
 exact wpAny_BinOp (xS ha hb I h fun v u s2 x y H2 I2 rx ry q=>ho pins s2 σ H2 x y v u Q I2 rx ry q)
theorem M4 {op:UnaryOp}{r:V→Hp→VK→Prop}(ho:yg X (unaryOp op) r) (ha:PE X a ta):PE X (.UnaryOp op a pos) (ED r ta):=by
 intro pins s σ H Q I h
 exact UnaryOp_ (au (ha pins s σ H _ I h) fun v s1 ⟨x,H1,I1,r1,q1⟩=>ho pins s1 σ H1 x v Q I1 r1 q1)
theorem rH {f:Value→Value→Sem Value}{C:Int→Int→Prop}{g:Int→Int→Int}
  (rule:∀(i j:Int) (t u:Tok) (s:Shared) (Q:Value→Shared→Prop) (E:Value→Shared→Prop),C i j→Q (.int (g i j) s.toks) {s with toks:=s.toks+1}→wpAny (model X.prog X.w) X.A (f (.int i t) (.int j u)) Q E s):
  bo X f (rI C fun i j=> .int (g i j)):=by
 intro pins s σ H x y v u Q I rx ry h
 obtain⟨i,j,rfl,rfl,hc,q⟩:=h
 obtain⟨t,rfl⟩:=rx
 obtain⟨t',rfl⟩:=ry
 exact rule i j t t' s _ _ hc ⟨.int (g i j),H,I.tok _,⟨_,rfl⟩,q⟩
theorem Ai {f:Value→Value→Sem Value}{g:Int→Int→Int}
  (rule:∀(i j:Int) (t u:Tok) (s:Shared) (Q:Value→Shared→Prop) (E:Value→Shared→Prop),Q (.int (g i j) s.toks) {s with toks:=s.toks+1}→wpAny (model X.prog X.w) X.A (f (.int i t) (.int j u)) Q E s):
  bo X f (jR fun i j=> .int (g i j)):=by
 intro pins s σ H x y v u Q I rx ry h
 obtain⟨i,j,rfl,rfl,q⟩:=h
 obtain⟨t,rfl⟩:=rx
 obtain⟨t',rfl⟩:=ry
 exact rule i j t t' s _ _ ⟨.int (g i j),H,I.tok _,⟨_,rfl⟩,q⟩
theorem rJ {f:Value→Value→Sem Value}{g:Int→Int→Bool}
  (rule:∀(i j:Int) (t u:Tok) (s:Shared) (Q:Value→Shared→Prop) (E:Value→Shared→Prop),Q (.bool (g i j)) s→wpAny (model X.prog X.w) X.A (f (.int i t) (.int j u)) Q E s):
  bo X f (jR fun i j=> .bl (g i j)):=by
 intro pins s σ H x y v u Q I rx ry h
 obtain⟨i,j,rfl,rfl,q⟩:=h
 obtain⟨t,rfl⟩:=rx
 obtain⟨t',rfl⟩:=ry
 exact rule i j t t' s _ _ ⟨.bl (g i j),H,I,rfl,q⟩
def Rz (i j:Int):Prop:=0<j∧j<1073741824
def Ry (i j:Int):Prop:=0≤j∧j≤1000000∧i.natAbs<2^64
def yO (i j:Int):Prop:=(-(2^64)<i∧i<2^64)∨(-(2^64)<j∧j<2^64)
theorem yO.ok {i j:Int}(h:yO i j):IntMulOk i j:=by
 rcases h with ⟨h1,h2⟩ |⟨h1,h2⟩
 ·exact .of_left (intBits_le_64 h1 h2)
 ·exact .of_right (intBits_le_64 h1 h2)
theorem Yl:bo X (binaryOp .Add) (jR fun i j=> .int (i+j)):=Ai fun _ _ _ _ _ _ _ q=>add_int q
theorem Ys:bo X (binaryOp .Sub) (jR fun i j=> .int (i - j)):=Ai fun _ _ _ _ _ _ _ q=>sub_int q
theorem J8:bo X (binaryOp .Mult) (rI yO fun i j=> .int (i*j)):=rH fun _ _ _ _ _ _ _ hc q=>mul_int q hc.ok
theorem Dy:bo X (binaryOp .FloorDiv) (rI Rz fun i j=> .int (i/j)):=rH fun i j _ _ _ _ _ hc q=>by
 have h1:(0:Int)<j:=hc.1
 have h2:j<1073741824:=hc.2
 exact floordiv_int (by omega) (by rw[Int.fdiv_eq_ediv_of_nonneg i (by omega)];exact q) (.inl (PyProof.noPylong_small (by omega)))
theorem Ju:bo X (binaryOp .Mod) (rI (fun _ j=>0<j) fun i j=> .int (i%j)):=rH fun i j _ _ _ _ _ hc q=>by
 have h1:(0:Int)<j:=hc
 exact mod_int' (by omega) (by rw[Int.fmod_eq_emod_of_nonneg i (by omega)];exact q)
theorem Uw:bo X (binaryOp .Pow) (rI Ry fun i j=> .int (i^j.toNat)):=rH fun _ _ _ _ _ _ _ hc q=>pow_int_small hc.1 hc.2.1 hc.2.2 q
theorem Es {f:Value→Sem Value}{g:Int→Int}
  (rule:∀(i:Int) (t:Tok) (s:Shared) (Q:Value→Shared→Prop) (E:Value→Shared→Prop),Q (.int (g i) s.toks) {s with toks:=s.toks+1}→wpAny (model X.prog X.w) X.A (f (.int i t)) Q E s):
  yg X f (rU fun i=> .int (g i)):=by
 intro pins s σ H x v Q I rx h
 obtain⟨i,rfl,q⟩:=h
 obtain⟨t,rfl⟩:=rx
 exact rule i t s _ _ ⟨.int (g i),H,I.tok _,⟨_,rfl⟩,q⟩
theorem N7:yg X (unaryOp .USub) (rU fun i=> .int (-i)):=Es fun _ _ _ _ _ q=>neg_int q
end
def kI:V→V→Bool
 | .af,.af=>true | .af,.int _=>true | .int _,.af=>true | .af,.bl _=>true | .bl _,.af=>true | .af,.str _=>true | .str _,.af=>true
 | .int _,.int _=>true | .bl _,.bl _=>true | .str _,.str _=>true | .gK _,.gK _=>true
 | .int _,.str _=>true | .str _,.int _=>true | .bl _,.str _=>true | .str _,.bl _=>true
 |_,_=>false
def Gd:R2:=fun x y H Q=>kI x y=true∧Q (.bl (decide (x=y))) H
def F6:R2:=fun x y H Q=>kI x y=true∧Q (.bl (!decide (x=y))) H
theorem De {i j:Int} :decide (V.int i=V.int j)=(i==j):=by
 rw[Bool.eq_iff_iff]
 simp
theorem CZ {i j:Bool} :decide (V.bl i=V.bl j)=(i==j):=by
 rw[Bool.eq_iff_iff]
 simp
theorem Df {i j:Str} :decide (V.str i=V.str j)=(i==j):=by
 rw[Bool.eq_iff_iff]
 simp
theorem Dd {i j:Array UInt8} :decide (V.gK i=V.gK j)=(i.toList==j.toList):=by
 rw[Bool.eq_iff_iff]
 cases i
 cases j
 simp
section
variable {X:Cx}{a b c:Expr}{ta tb tc:TE}{pos:Pos}
theorem ZE {pins:List (Addr×Obj)}{σ:St}{H:Hp}{s:Shared}{Q:VK}{k k':Bool}(I:Inv X pins σ H s) (q:Q (.bl k) H) (e:k=k'):EP X pins σ Q (.bool k') s:=by
 subst e
 exact⟨.bl k,H,I,rfl,q⟩
theorem YC:bo X (compareOp .Eq) Gd:=by
 intro pins s σ H x y v u Q I rx ry h
 obtain⟨hs,q⟩:=h
 cases x with
 |af=>
  cases rx
  cases y with
  |af=>cases ry;exact PySem.EqNone.eq_none_none (ZE I q (by simp))
  |bl j=>cases ry;exact PySem.EqNone.eq_none_bool (ZE I q (by simp))
  |int j=>obtain⟨t',rfl⟩:=ry;exact PySem.EqNone.eq_none_int (ZE I q (by simp))
  |str j=>obtain⟨t',rfl⟩:=ry;exact PySem.EqNone.eq_none_str (ZE I q (by simp))
  |_=>exact absurd (show false=true from hs) Bool.false_ne_true
 |bl i=>
  cases rx
  cases y with
  |af=>cases ry;exact PySem.EqNone.eq_bool_none (ZE I q (by simp))
  |bl j=>cases ry;exact eq_bool (ZE I q CZ)
  |str j=>obtain⟨t',rfl⟩:=ry;exact PySem.EqMixed.eq_bool_str (ZE I q (by simp))
  |_=>exact absurd (show false=true from hs) Bool.false_ne_true
 |int i=>
  obtain⟨t,rfl⟩:=rx
  cases y with
  |af=>cases ry;exact PySem.EqNone.eq_int_none (ZE I q (by simp))
  |int j=>obtain⟨t',rfl⟩:=ry;exact eq_int (ZE I q De)
  |str j=>obtain⟨t',rfl⟩:=ry;exact PySem.EqMixed.eq_int_str (ZE I q (by simp))
  |_=>exact absurd (show false=true from hs) Bool.false_ne_true
 |str i=>
  obtain⟨t,rfl⟩:=rx
  cases y with
  |af=>cases ry;exact PySem.EqNone.eq_str_none (ZE I q (by simp))
  |bl j=>cases ry;exact PySem.EqMixed.eq_str_bool (ZE I q (by simp))
  |int j=>obtain⟨t',rfl⟩:=ry;exact PySem.EqMixed.eq_str_int (ZE I q (by simp))
  |str j=>obtain⟨t',rfl⟩:=ry;exact eq_str (ZE I q Df)
  |_=>exact absurd (show false=true from hs) Bool.false_ne_true
 |gK i=>
  obtain⟨t,rfl⟩:=rx
  cases y with
  |gK j=>obtain⟨t',rfl⟩:=ry;exact PySem.W.eq_bytes (ZE I q Dd)
  |_=>exact absurd (show false=true from hs) Bool.false_ne_true
 |_=>cases y<;>exact absurd (show false=true from hs) Bool.false_ne_true
theorem UY:bo X (compareOp .NotEq) F6:=by
 intro pins s σ H x y v u Q I rx ry h
 obtain⟨hs,q⟩:=h
 cases x with
 |af=>
  cases rx
  cases y with
  |af=>cases ry;exact PySem.EqNone.ne_none_none (ZE I q (by simp))
  |bl j=>cases ry;exact PySem.EqNone.ne_none_bool (ZE I q (by simp))
  |int j=>obtain⟨t',rfl⟩:=ry;exact PySem.EqNone.ne_none_int (ZE I q (by simp))
  |str j=>obtain⟨t',rfl⟩:=ry;exact PySem.EqNone.ne_none_str (ZE I q (by simp))
  |_=>exact absurd (show false=true from hs) Bool.false_ne_true
 |bl i=>
  cases rx
  cases y with
  |af=>cases ry;exact PySem.EqNone.ne_bool_none (ZE I q (by simp))
  |bl j=>cases ry;exact ne_bool (ZE I q (congrArg not CZ))
  |str j=>obtain⟨t',rfl⟩:=ry;exact PySem.EqMixed.ne_bool_str (ZE I q (by simp))
  |_=>exact absurd (show false=true from hs) Bool.false_ne_true
 |int i=>
  obtain⟨t,rfl⟩:=rx
  cases y with
  |af=>cases ry;exact PySem.EqNone.ne_int_none (ZE I q (by simp))
  |int j=>obtain⟨t',rfl⟩:=ry;exact ne_int (ZE I q (congrArg not De))
  |str j=>obtain⟨t',rfl⟩:=ry;exact PySem.EqMixed.ne_int_str (ZE I q (by simp))
  |_=>exact absurd (show false=true from hs) Bool.false_ne_true
 |str i=>
  obtain⟨t,rfl⟩:=rx
  cases y with
  |af=>cases ry;exact PySem.EqNone.ne_str_none (ZE I q (by simp))
  |bl j=>cases ry;exact PySem.EqMixed.ne_str_bool (ZE I q (by simp))
  |int j=>obtain⟨t',rfl⟩:=ry;exact PySem.EqMixed.ne_str_int (ZE I q (by simp))
  |str j=>obtain⟨t',rfl⟩:=ry;exact ne_str (ZE I q (congrArg not Df))
  |_=>exact absurd (show false=true from hs) Bool.false_ne_true
 |gK i=>
  obtain⟨t,rfl⟩:=rx
  cases y with
  |gK j=>obtain⟨t',rfl⟩:=ry;exact PySem.W.ne_bytes (ZE I q (congrArg not Dd))
  |_=>exact absurd (show false=true from hs) Bool.false_ne_true
 |_=>cases y<;>exact absurd (show false=true from hs) Bool.false_ne_true
theorem CM:bo X (compareOp .Lt) (jR fun i j=> .bl (decide (i<j))):=rJ fun _ _ _ _ _ _ _ q=>lt_int q
theorem CL:bo X (compareOp .LtE) (jR fun i j=> .bl (decide (i≤j))):=rJ fun _ _ _ _ _ _ _ q=>le_int q
theorem tU:bo X (compareOp .Gt) (jR fun i j=> .bl (decide (j<i))):=rJ fun _ _ _ _ _ _ _ q=>gt_int q
theorem M3:bo X (compareOp .GtE) (jR fun i j=> .bl (decide (j≤i))):=rJ fun _ _ _ _ _ _ _ q=>ge_int q
theorem bo.or {f:Value→Value→Sem Value}{r r':R2}(h:bo X f r) (h':bo X f r'):bo X f (fun x y H Q=>r x y H Q∨r' x y H Q):=by
 intro pins s σ H x y v u Q I rx ry q
 rcases q with q |q
 ·exact h pins s σ H x y v u Q I rx ry q
 ·exact h' pins s σ H x y v u Q I rx ry q
theorem cj (b:Expr) {op:CmpOp}(h:op≠.In:=by decide) (h2:op≠.NotIn:=by decide):behindInMarks op b=false:=by
 have e1:(op==CmpOp.In)=false:=by cases op<;>first |rfl |exact absurd rfl h
 have e2:(op==CmpOp.NotIn)=false:=by cases op<;>first |rfl |exact absurd rfl h2
 cases b<;>simp[behindInMarks,e1,e2]
theorem Z8 {op:CmpOp}{r:R2}(ho:bo X (compareOp op) r) (ha:PE X a ta) (hb:PE X b tb) (hm:behindInMarks op b=false):PE X (.Compare a [op] [b] pos) (mJ r ta tb):=by
 intro pins s σ H Q I h
 exact wpAny_Compare1 (xS ha hb I h fun v u s2 x y H2 I2 rx ry q=>ho pins s2 σ H2 x y v u Q I2 rx ry q) hm
def EG (t:TE):TT:=fun σ H Q=>t σ H fun x H'=> ∃k,x=.bl k∧Q k H'
theorem ZM {op:CmpOp}{r:R2}(ho:bo X (compareOp op) r) (ha:PE X a ta) (hb:PE X b tb) (hm:behindInMarks op b=false):PT X (.Compare a [op] [b] pos) (EG (mJ r ta tb)):=by
 intro pins s σ H Q I h
 refine wpAny_isTrue_Compare1 (au (ha pins s σ H _ I h) fun v s1 ⟨x,H1,I1,r1,q1⟩=>au (hb pins s1 σ H1 _ I1 q1) fun u s2 ⟨y,H2,I2,r2,q2⟩=>
  au (ho pins s2 σ H2 x y v u _ I2 r1 r2 q2) fun c s3 ⟨z,H3,I3,r3,k,e,q3⟩=> ?_) hm
 subst e
 cases r3
 exact wpAny_truthy_bool ⟨H3,I3,q3⟩
def Fg (r r':R2) (ta tb tc:TE):TE:=fun σ H Q=>ta σ H fun x H1=>tb σ H1 fun y H2=>r x y H2 fun z H3=> ∃k,z=.bl k∧
 (if k=true then tc σ H3 fun w' H4=>r' y w' H4 Q else Q (.bl false) H3)
theorem OO {op vI:CmpOp}{r r':R2}(ho:bo X (compareOp op) r) (cw:bo X (compareOp vI) r') (ha:PE X a ta) (hb:PE X b tb) (hc:PE X c tc)
  (hm:lastMarks [op,vI] [b,c]=false:=by with_unfolding_all rfl):PE X (.Compare a [op,vI] [b,c] pos) (Fg r r' ta tb tc):=by
 intro pins s σ H Q I h
 refine Compare_chain (au (ha pins s σ H _ I h) fun v s1 ⟨x,H1,I1,r1,q1⟩=>chain_link (au (hb pins s1 σ H1 _ I1 q1) fun u s2 ⟨y,H2,I2,r2,q2⟩=>
  au (ho pins s2 σ H2 x y v u _ I2 r1 r2 q2) fun d s3 ⟨z,H3,I3,r3,k,e,q3⟩=> ?_)) hm
 subst e
 cases r3
 refine wpAny_truthy_bool ?_
 cases k with
 |false=>exact ite_ff ⟨.bl false,H3,I3,rfl,q3⟩
 |true=>exact ite_tt (chain_last (au (hc pins s3 σ H3 _ I3 q3) fun w' s4 ⟨z',H4,I4,r4,q4⟩=>cw pins s4 σ H4 y z' u w' Q I4 r2 r4 q4))
theorem rQ:(sizeLine:Nat)<2^63:=by rw[sizeLine_eq];decide
theorem vals1 {x:V}{us:List Value}(r:Vals [x] us):∃u,us=[u]∧RelV x u:=by
 cases r with
 |cons r1 r2=>cases r2;exact⟨_,rfl,r1⟩
theorem vals2 {x y:V}{us:List Value}(r:Vals [x,y] us):∃u w',us=[u,w']∧RelV x u∧RelV y w':=by
 cases r with
 |cons r1 r2=>
  cases r2 with
  |cons r3 r4=>cases r4;exact⟨_,_,rfl,r1,r3⟩
theorem Uf (hc:X.calm=true):fX X (.builtin "max") (fun xs H Q=> ∃i j,xs=[.int i,.int j]∧Q (.int (if j>i then j else i)) H):=by
 intro pins s σ H xs us Q I r h
 obtain⟨i,j,rfl,q⟩:=h
 obtain⟨u,w',rfl,⟨t,rfl⟩,⟨t',rfl⟩⟩:=vals2 r
 refine max_two_ints (I.ok.hd hc) fun h' tk k=> ⟨_,H,I.kept k,?_,q⟩
 by_cases hj:j>i
 ·rw[if_pos hj,if_pos hj];exact⟨_,rfl⟩
 ·rw[if_neg hj,if_neg hj];exact⟨_,rfl⟩
theorem PR (hc:X.calm=true):fX X (.builtin "min") (fun xs H Q=> ∃i j,xs=[.int i,.int j]∧Q (.int (if j<i then j else i)) H):=by
 intro pins s σ H xs us Q I r h
 obtain⟨i,j,rfl,q⟩:=h
 obtain⟨u,w',rfl,⟨t,rfl⟩,⟨t',rfl⟩⟩:=vals2 r
 refine min_two_ints (I.ok.hd hc) fun h' tk k=> ⟨_,H,I.kept k,?_,q⟩
 by_cases hj:j<i
 ·rw[if_pos hj,if_pos hj];exact⟨_,rfl⟩
 ·rw[if_neg hj,if_neg hj];exact⟨_,rfl⟩
end
structure yp (h:Heap) (x dx C:Addr) (mA:Str→Option Value):Prop where
 obj:h.get? x=some (PySem.W.instObj C dx)
 ns:h.Ns1 dx mA
 ne:dx≠x
theorem P7 {h:Heap}{dx:Addr}{mA:Str→Option Value}(n:h.Ns1 dx mA):∃od,h.get? dx=some od∧∀name,PySem.W.lookIn name od=some (mA name):=by
 obtain⟨o,es,ep,ho,hd,hk,_,hm⟩:=n
 refine⟨o,ho,fun name=> ?_⟩
 have e:=hm name
 unfold nsFind findBy at e
 rw[←Array.find?_toList]at e
 unfold PySem.W.lookIn
 rw[hd]
 dsimp only
 split
 ·rename_i y q
  rw[q]at e
  exact congrArg some e
 ·rename_i q
  rw[q]at e
  have a:es.toList.any (·.refKey)=false:=by
   rw[List.any_eq_false]
   intro y hy
   obtain⟨z,t,KG⟩:=hk y (Array.mem_toList_iff.mp hy)
   simp[DictEntry.refKey,KG]
  have a':¬es.toList.any (·.refKey)=true:=by rw[a];exact Bool.false_ne_true
  rw[if_neg a']
  exact congrArg some e
theorem yp.look {h:Heap}{x dx C:Addr}{mA:Str→Option Value}(I:yp h x dx C mA):∃od,PySem.W.InstAt h x (PySem.W.instObj C dx) C (some od)∧∀name,PySem.W.lookIn name od=some (mA name):=
 let ⟨od,ho,hl⟩:=P7 I.ns
 ⟨od,⟨I.obj,rfl,rfl,ho⟩,hl⟩
section
variable {P:Program}{w:World}{H H':Hp}{h h':Heap}{a C dx:Addr}{fs B8:List (Str×V)}
theorem Oe (ah:bM P w H h) (e:H a=some (.ins C dx fs)):∃mA,yp h a dx C mA∧(∀f,ym (fs.lookup f) (mA f))∧PySem.Within mA (fs.map (·.1))∧fs.length≤1000∧H dx=some (.own a):=by
 obtain⟨d,z,ne,ob,mA,n,r,q⟩:=(show cb P w H h a (.ins C dx fs) from ah a _ e)
 exact⟨mA,⟨ob,n,ne⟩,r,q,z,d⟩
end
structure yL (K:PySem.W.Frag) (C:Addr):Prop where
 pg:PySem.W.plainGet K C Str.empty=true
 hd:PySem.W.hasDictIn K C=true
 po:PySem.W.plainOver K C=true
 sa:PySem.W.findIn K (.ref C) "__setattr__" =some (some (.builtin "object.__setattr__"))
theorem yL.get {K:PySem.W.Frag}{C:Addr}(c:yL K C) (f:Str):PySem.W.plainGet K C f=true:=c.pg
structure Ta (K:PySem.W.Frag) (C:Addr) (f:Str) (v:V) (u:Value):Prop where
 at_:PySem.W.findIn K (.ref C) f=some (some u)
 rel:RelV v u
 get:PySem.W.specialIn K u "__get__" =some none
 cp:PySem.W.copiedNames.contains f=false
structure Meth (K:PySem.W.Frag) (C:Addr) (m:Str) (f:Addr):Prop where
 at_:PySem.W.findIn K (.ref C) m=some (some (.ref f))
 fn:PySem.W.isFn K (.ref f)=true
 kp:PySem.W.keepIn K (.ref f)=true
section
variable {X:Cx}{pins:List (Addr×Obj)}{σ:St}{H:Hp}{s:Shared}{A:Around}{E:Value→Shared→Prop}{Q:Value→Shared→Prop}{c:Value}{b:Bool}
inductive eE (K:PySem.W.Frag) (H:Hp):V→Value→Prop where
 |af:eE K H .af (.type "NoneType")
 |bl (x:Bool):eE K H (.bl x) (.type "bool")
 |int (i:Int):eE K H (.int i) (.type "int")
 |str (x:Str):eE K H (.str x) (.type "str")
 |iE (x:UInt64):eE K H (.iE x) (.type "float")
 |lst {a:Addr}{xs:List V} (e:H a=some (.lst xs)):eE K H (.ref a) (.type "list")
 |cA {a:Addr}{o:Obj}{xs:List V} (e:H a=some (.cA o (.lst xs))):eE K H (.ref a) (.type "list")
 |tup {a:Addr}{xs:List V} (e:H a=some (.tup xs)):eE K H (.ref a) (.type "tuple")
 |dK {a:Addr}{bX:List (Key×V)} (e:H a=some (.dK bX)):eE K H (.ref a) (.type "dict")
 |dT {a:Addr}{bX:List (List Key×V)} (e:H a=some (.dT bX)):eE K H (.ref a) (.type "dict")
 |ins {a C dx:Addr}{fs:List (Str×V)} (e:H a=some (.ins C dx fs)) (cl:yL K C) (ha:PySem.W.findIn K (.ref C) "__class__" =some (some (.builtin "object.__class__")))
  (hn:PySem.W.specialIn K (.builtin "object.__class__") "__get__" =some (some (.builtin "getset_descriptor.__get__"))) (A1:PySem.W.takesIn K (.builtin "object.__class__")=some true)
  (hm:PySem.W.mroIn K C (.type "object")=some true):eE K H (.ref a) (.ref C)
theorem P2 {x:V}{u t:Value}(I:Inv X pins σ H s) (rx:RelV x u) (ty:eE X.K H x t) (e:PySem.W.kitOne X.K t c=some b) (h:∀tk,Q (.bool b) {s with toks:=tk}):
  wpAny (model X.prog X.w) A (call (.builtin "isinstance") [u,c]) Q E s:=by
 cases ty with
 |af=>cases (show u=Value.none from rx);exact PySem.W.kia_one PySem.W.kitx_none I.cG True.intro e (fun z=>nomatch z) h
 |bl y=>cases (show u=Value.bool y from rx);exact PySem.W.kia_one PySem.W.kitx_bool I.cG True.intro e (fun z=>nomatch z) h
 |int i=>obtain⟨t,q⟩:=(show ∃t,u=Value.int i t from rx);cases q;exact PySem.W.kia_one PySem.W.kitx_int I.cG True.intro e (fun z=>nomatch z) h
 |str y=>obtain⟨t,q⟩:=(show ∃t,u=Value.str y t from rx);cases q;exact PySem.W.kia_one PySem.W.kitx_str I.cG True.intro e (fun z=>nomatch z) h
 |iE y=>obtain⟨t,q⟩:=(show ∃t,u=Value.float y t from rx);cases q;exact PySem.W.kia_one PySem.W.kitx_float I.cG True.intro e (fun z=>nomatch z) h
 | @lst a xs ea=>
  cases (show u=Value.ref a from rx)
  obtain⟨_,_,n,_,h1⟩:=(show cb X.prog X.w H s.heap a (.lst xs) from I.ah a _ ea)
  exact PySem.W.kia_one PySem.W.kitx_list I.cG ⟨_,h1,rfl⟩ e (fun z=>nomatch z) h
 | @cA a ob xs ea=>
  cases (show u=Value.ref a from rx)
  obtain⟨_,_,_,n,_,h1⟩:=(show cb X.prog X.w H s.heap a (.cA ob (.lst xs)) from I.ah a _ ea)
  exact PySem.W.kia_one PySem.W.kitx_list I.cG ⟨_,h1,rfl⟩ e (fun z=>nomatch z) h
 | @tup a xs ea=>
  cases (show u=Value.ref a from rx)
  obtain⟨_,_,_,p,_⟩:=(show cb X.prog X.w H s.heap a (.tup xs) from I.ah a _ ea)
  obtain⟨o,h1,h2,_⟩:=p
  exact PySem.W.kia_one PySem.W.kitx_tuple I.cG ⟨o,h1,h2⟩ e (fun z=>nomatch z) h
 | @dK a bX ea=>
  cases (show u=Value.ref a from rx)
  obtain⟨_,_,vs,_,p⟩:=(show cb X.prog X.w H s.heap a (.dK bX) from I.ah a _ ea)
  obtain⟨o,es,ep,h1,h2,_⟩:=p
  exact PySem.W.kia_one PySem.W.kitx_dict I.cG ⟨o,h1,h2.1⟩ e (fun z=>nomatch z) h
 | @dT a bX ea=>
  cases (show u=Value.ref a from rx)
  obtain⟨_,_,xs,_,o,es,ep,h1,h2,_⟩:=(show cb X.prog X.w H s.heap a (.dT bX) from I.ah a _ ea)
  exact PySem.W.kia_one PySem.W.kitx_dict I.cG ⟨o,h1,h2.1⟩ e (fun z=>nomatch z) h
 | @ins a C dx fs ea cl ha hn A1 hm=>
  cases (show u=Value.ref a from rx)
  obtain⟨mA,O,_⟩:=Oe I.ah ea
  obtain⟨od,J,_⟩:=O.look
  exact PySem.W.kia_one (PySem.W.kitx_own (cl.get _) cl.hd ha hn A1 hm) I.cG J e (fun z=>nomatch z) h
end
structure bP (k:Nat) (A:Around):Prop where
 hd:A.handled=none
 dp:A.depth+3*k+5<recursionLimit
 un:A.units+16*k+200<cLine
 gd:A.guards=some []
theorem bP.mono {j k:Nat}{A:Around}(r:bP k A) (h:j≤k):bP j A:=⟨r.hd,by have:=r.dp;omega,by have:=r.un;omega,r.gd⟩
theorem bP.deeper {k:Nat}{A:Around}(r:bP (k+1) A) (env:Env):bP k (A.deeper env):=
 ⟨r.hd,by have:=r.dp;show A.depth+1+3*k+5<_;omega,by have:=r.un;show A.units+3+16*k+200<_;omega,r.gd⟩
theorem bP.depth {k:Nat}{A:Around}(r:bP k A):A.depth<recursionLimit:=by have:=r.dp;omega
theorem bP.units {k:Nat}{A:Around}(r:bP k A):A.units+64<cLine:=by have:=r.un;omega
theorem bP.Ep {k:Nat}{A:Around}(r:bP k A):A.units<cLine:=by have:=r.un;omega
def oj:TA:=fun _ H Q=>Q [] H
def om (ta:TE) (tr:TA):TA:=fun σ H Q=>ta σ H fun x H1=>tr σ H1 fun xs H2=>Q (x::xs) H2
section
variable {X:Cx}{e:Expr}{es:List Expr}{te:TE}{t:TA}{pos:Pos}
theorem Zb:PA X [] oj:=fun _ _ _ _ H Q I h=>Calls.spliced_nil ⟨[],H,I,.nil,h⟩
theorem Za (ha:PE X e te) (hr:PA X es t) (hs:starEach (e::es) X.env=(false,eval e X.env)::starEach es X.env:=by rfl):PA X (e::es) (om te t):=by
 intro pos pins s σ H Q I h
 rw[hs]
 show wpAny _ _ (spliced ((false,eval e X.env)::backTo pos (starEach es X.env))) _ _ s
 refine Calls.spliced_cons (au (ha pins s σ H _ I h) fun u s1 ⟨x,H1,I1,r1,q1⟩=> ?_)
 exact au (hr pos pins s1 σ H1 _ I1 q1) fun us s2 ⟨xs,H2,I2,r2,q2⟩=> ⟨x::xs,H2,I2,.cons r1 r2,q2⟩
def EE (t:TA):TE:=fun σ H Q=>t σ H fun xs H1=>xs.length≤sizeLine∧∀p,H1 p=none→Q (.ref p) (upd H1 p (.tup xs))
def y9 (t:TA):TE:=fun σ H Q=>t σ H fun xs H1=>xs.length≤sizeLine∧∀p,H1 p=none→Q (.ref p) (upd H1 p (.lst xs))
theorem ZH {x1} (h:PA X es t):PE X (.Tuple es x1 pos) (EE t):=by
 intro pins s σ H Q I hq
 refine wpAny_Tuple_spliced (au (h pos pins s σ H _ I hq) fun us s1 ⟨xs,H1,I1,r,z,q⟩=> ⟨by rw[←r.length];exact z,?_⟩)
 have hf:H1 s1.heap.objs.size=none:=I1.ah.fresh (Nat.le_refl _)
 refine⟨.ref s1.heap.objs.size,upd H1 s1.heap.objs.size (.tup xs),I1.laid (t':=s1.toks) (fun b u e=>Heap.get?_push_of_some _ e) (Nat.le_refl _) ?_,rfl,q _ hf⟩
 exact⟨z,us,r,⟨_,Heap.get?_push_size _ rfl,rfl,_,rfl⟩,_,Heap.get?_push_size _ rfl,rfl⟩
theorem ZI (h:PA X es t):PE X (.List es pos) (y9 t):=by
 intro pins s σ H Q I hq
 refine wpAny_List_spliced (au (h pos pins s σ H _ I hq) fun us s1 ⟨xs,H1,I1,r,z,q⟩=> ⟨by rw[←r.length];exact z,?_⟩)
 have hf:H1 s1.heap.objs.size=none:=I1.ah.fresh (Nat.le_refl _)
 refine⟨.ref s1.heap.objs.size,upd H1 s1.heap.objs.size (.lst xs),I1.laid (t':=s1.toks) (fun b u e=>Heap.get?_push_of_some _ e) (Nat.le_refl _) ?_,rfl,q _ hf⟩
 exact⟨z,us,0,r,Heap.get?_push_size _ rfl⟩
end
abbrev Sp:=List V→Hp→VK→XK→Prop
abbrev jf:=List Env→Hp→Shared→XK→Value→Shared→Prop
structure qo (P:Program) (w:World) (K:PySem.W.Frag) (mg:Str→Option Value) (base:Heap) (A:Around) (outer:List Env) (s:Shared) (H:Hp):Prop where
 frames:A.frames=some outer
 mod:Mod K mg base
 bs:∀b o,base.get? b=some o→s.heap.get? b=some o∧H b=none
 i7:base.objs.size≤s.heap.objs.size
 dR:s.heap.FunFrames base outer
 gG:∀b∈aT outer,H b=none
 ah:bM P w H s.heap
 bare:AllBare s.gens
def CE (outer:List Env) (P:Program) (w:World) (H:Hp) (s:Shared) (Q:VK) (u:Value) (s':Shared):Prop:=
 ∃v H',s'.os=s.os∧AllBare s'.gens∧Un (aT outer) [] H H' s.heap s'.heap∧bM P w H' s'.heap∧RelV v u∧Q v H'
def CR (CX:jf) (outer:List Env) (P:Program) (w:World) (H:Hp) (s:Shared) (Q:VK) (E:XK) (r:Result) (s':Shared):Prop:=
 match r with
 | .ok (.ret u)=>CE outer P w H s Q u s'
 | .ok _=>False
 | .error e=>CX outer H s E e s'
structure aA (P:Program) (w:World) (K:PySem.W.Frag) (mg:Str→Option Value) (base:Heap) (CX:jf) (k:Nat) (f:Addr) (fd:FuncData) (ps:List Str) (sp:Sp):Prop where
 len:∀vs H Q E,sp vs H Q E→vs.length=ps.length
 run:∀(A:Around) (outer:List Env) (s:Shared) (H:Hp) (args:Args) (us:List Value) (vs:List V) (Q:VK) (E:XK),bP k A→qo P w K mg base A outer s H→BindsTo s fd args (ps.zip us)→Vals vs us→sp vs H Q E→
  codeAny (model P w) A (.call (.ref f) args) (CR CX outer P w H s Q E) s
section
variable {X:Cx}{pins:List (Addr×Obj)}{σ:St}{H:Hp}{s s':Shared}
theorem Inv.Cc (I:Inv X pins σ H s):qo X.prog X.w X.K X.mg X.base X.A X.stack s H:=
 ⟨I.ok.frames,I.ok.mod,I.bs,Nat.le_trans I.ok.i7 I.sz,I.stack,I.oo,I.ah,I.bare⟩
theorem Inv.after {Q:VK}{u:Value}(I:Inv X pins σ H s) (h:CE X.stack X.prog X.w H s Q u s'):EP X pins σ Q u s':=by
 obtain⟨v,H',os,bare,un,ah,r,q⟩:=h
 obtain⟨hh,g,d,t,vH⟩:=s'
 obtain rfl:vH=s.os:=os
 exact⟨v,H',I.call (h':=hh) (g':=g) (d':=d) (t':=t) (ch:=[]) un ah bare (fun b z=>absurd z (by simp)),r,q⟩
end
def ur (sp:Sp) (kj:List V) (E:XK) (t:TA):TE:=fun σ H Q=>t σ H fun vs H1=>sp (vs++kj) H1 Q E
def Binds (K:PySem.W.Frag) (fd:FuncData) (ps:List Str) (ds:List Value):Prop:=
 ∀(s:Shared) (us:List Value),K.In s.heap→(us++ds).length=ps.length→BindsTo s fd ⟨us,[]⟩ (ps.zip (us++ds))
theorem Binds.all {K:PySem.W.Frag}{fd:FuncData}{ps:List Str}(h:∀us:List Value,us.length=ps.length→bindArgs fd ⟨us,[]⟩=pure (ps.zip us)):Binds K fd ps []:=fun s us _ hl=>by
 rw[List.append_nil]at hl ⊢
 exact .of_eq (h us hl)
def Passes (CX:jf) (X:Cx) (E:XK):Prop:=∀(pins:List (Addr×Obj)) (σ:St) (H:Hp) (s:Shared) (e:Value) (s':Shared),Inv X pins σ H s→CX X.stack H s E e s'→X.xe e s'
section
variable {X:Cx}{CX:jf}{k:Nat}{f C:Addr}{fd:FuncData}{ps:List Str}{sp:Sp}{kj:List V}{ds:List Value}{E:XK}{x m:Str}{p pos apos:Pos}{e o:Expr}{es:List Expr}{ta:TE}{t:TA}
theorem OB {pins:List (Addr×Obj)}{σ:St}{H:Hp}{s:Shared}{Q:VK}{us:List Value}{vs:List V}(F:aA X.prog X.w X.K X.mg X.base CX k f fd ps sp) (hr:bP k X.A) (hb:Binds X.K fd ps ds) (hd:Vals kj ds) (hx:Passes CX X E)
  (I:Inv X pins σ H s) (r:Vals vs us) (h:sp (vs++kj) H Q E):wpAny (model X.prog X.w) X.A (call (.ref f) us) (EP X pins σ Q) X.xe s:=by
 have r2:Vals (vs++kj) (us++ds):=r.append hd
 have hl:(us++ds).length=ps.length:=by rw[←r2.length];exact F.len _ _ _ _ h
 refine wpAny_call (codeAny_mono (F.run X.A X.stack s H ⟨us,[]⟩ (us++ds) (vs++kj) Q E hr I.Cc (hb s us I.cG hl) r2 h) fun r s' hq=> ?_)
 cases r with
 |error e=>exact hx pins σ H s e s' I hq
 |ok fl=>
  cases fl with
  |ret u=>exact I.after hq
  |next=>exact False.elim hq
  |brk=>exact False.elim hq
  |cont=>exact False.elim hq
theorem Jb (F:aA X.prog X.w X.K X.mg X.base CX k f fd ps sp) (hr:bP k X.A) (hg:Gl X x) (hm:X.mg x=some (.ref f)) (hk:PySem.W.keepIn X.K (.ref f)=true) (hb:Binds X.K fd ps ds) (hd:Vals kj ds) (hx:Passes CX X E)
  (ha:PA X (e::es) t) (iq:(x==("__debug__" :Str))=false:=by decide) (he:starEach (e::es) X.env=(false,eval e X.env)::starEach es X.env:=by rfl) (eJ:(backTo pos (starEach es X.env)).any (·.1)=false:=by rfl):
  PE X (.Call (.Name x p) (e::es) [] pos) (ur sp kj E t):=by
 intro pins s σ H Q I h
 refine wpAny_Call_Name_kw (Jg I hg hm ?_ iq)
 refine PySem.W.callWith_K (h₀:=X.base) I.ok.mod.nB hk (au (ha pos pins s σ H _ I h) fun us s1 ⟨vs,H1,I1,r,q⟩=> ⟨I1.cG,?_⟩) he eJ
 exact OB F hr hb hd hx I1 r q
structure Mk (K:PySem.W.Frag) (C f:Addr):Prop where
 makes:PySem.W.makesIn K C=true
 init:PySem.W.findIn K (.ref C) "__init__" =some (some (.ref f))
 fn:PySem.W.isFn K (.ref f)=true
 kp:PySem.W.keepIn K (.ref C)=true
end
def PK (X:Cx) (oW:List Keyword) (t:TA):Prop:=
 ∀(pos:Pos) (pins:List (Addr×Obj)) (s:Shared) (σ:St) (H:Hp) (Q:List V→Hp→Prop),Inv X pins σ H s→t σ H Q→wpAny (model X.prog X.w) X.A (evalAll ((backToKw pos (keywordEach oW X.env)).map (·.2))) (AP X pins σ Q) X.xe s
section
variable {X:Cx}{CX:jf}{k:Nat}{f C:Addr}{fd:FuncData}{ps ks:List Str}{sp:Sp}{E:XK}{x m:Str}{p pos apos oY:Pos}{e o:Expr}{es:List Expr}{oW:List Keyword}{te ta:TE}{t tk:TA}{nm:Option Str}
theorem Ox:PK X [] oj:=fun _ _ _ _ H Q I h=>wpAny_evalAll_nil ⟨[],H,I,.nil,h⟩
theorem NR (ha:PE X e te) (hr:PK X oW t):PK X (⟨nm,e,oY⟩::oW) (om te t):=by
 intro pos pins s σ H Q I h
 show wpAny _ _ (evalAll ((do let v ←eval e X.env;standAt pos;pure v)::(backToKw pos (keywordEach oW X.env)).map (·.2))) _ _ s
 refine wpAny_evalAll_cons (wpAny_bind (au (ha pins s σ H _ I h) fun u s1 ⟨x,H1,I1,r1,q1⟩=>wpAny_bind (wpAny_standAt (wpAny_pure ?_))))
 exact au (hr pos pins s1 σ H1 _ I1 q1) fun us s2 ⟨xs,H2,I2,r2,q2⟩=> ⟨x::xs,H2,I2,.cons r1 r2,q2⟩
structure SU (K:PySem.W.Frag) (fd:FuncData) (ps ks:List Str) (g:List Value→List Value→List Value) (gV:List V→List V→List V):Prop where
 to:∀(s:Shared) (us ws:List Value),K.In s.heap→(g us ws).length=ps.length→BindsTo s fd ⟨us,ks.zip ws⟩ (ps.zip (g us ws))
 rel:∀{vs:List V}{us:List Value}{zs:List V}{ws:List Value},Vals vs us→Vals zs ws→Vals (gV vs zs) (g us ws)
variable {g:List Value→List Value→List Value}{gV:List V→List V→List V}
end
structure bg (N P:List Str) (sc:Scope):Prop where
 kind:sc.kind=.function
 co:sc.isCoroutine=false
 gen:sc.isGenerator=false
 nd:N.Nodup
 pre:N.take P.length=P
 par:∀x∈P,sc.names.lookup x=some .local∨sc.names.lookup x=some .cell
 GY:∀y∈sc.names,y.2≠.free
theorem Ug {kindOf:Str→Option NameKind}{x:Str} :∀{binds:List (Str×Value)}{m:Str→Option Value},(∀v,(x,v)∉binds)→bindL kindOf binds m x=m x
 | [],_,_=>rfl
 |(n,v)::r,m,h=>by
  unfold bindL
  rw[Ug fun w hw=>h w (List.mem_cons_of_mem _ hw)]
  split
  ·have:x≠n:=by rintro rfl;exact h v List.mem_cons_self
   simp[this]
  ·rfl
theorem Ui {kindOf:Str→Option NameKind}{x:Str} :∀{binds:List (Str×Value)}{m:Str→Option Value},(∀v,(x,v)∉binds)→bindC kindOf binds m x=m x
 | [],_,_=>rfl
 |(n,v)::r,m,h=>by
  unfold bindC
  rw[Ui fun w hw=>h w (List.mem_cons_of_mem _ hw)]
  split
  ·rfl
  ·have:x≠n:=by rintro rfl;exact h v List.mem_cons_self
   simp[this]
theorem Uh {kindOf:Str→Option NameKind}{x:Str}{v:Value} :∀{P:List Str}{vs:List Value}{i:Nat}{m:Str→Option Value},P.Nodup→P[i]? =some x→vs[i]? =some v→kindOf x=some .local→
  bindL kindOf (P.zip vs) m x=some v
 | [],_,_,_,_,h,_,_=>by simp at h
 |_::_,[],_,_,_,_,h,_=>by simp at h
 |p::P,w::vs,0,m,nd,h1,h2,hk=>by
  simp at h1 h2;subst h1;subst h2
  show bindL kindOf ((p,w)::P.zip vs) m p=_
  unfold bindL
  rw[Ug fun v hv=> (List.nodup_cons.mp nd).1 (List.of_mem_zip hv).1,if_pos hk]
  simp
 |p::P,w::vs,i+1,m,nd,h1,h2,hk=>by
  show bindL kindOf ((p,w)::P.zip vs) m x=_
  unfold bindL
  exact Uh (i:=i) (List.nodup_cons.mp nd).2 (by simpa using h1) (by simpa using h2) hk
theorem Uj {kindOf:Str→Option NameKind}{x:Str}{v:Value} :∀{P:List Str}{vs:List Value}{i:Nat}{m:Str→Option Value},P.Nodup→P[i]? =some x→vs[i]? =some v→kindOf x≠some .local→
  bindC kindOf (P.zip vs) m x=some v
 | [],_,_,_,_,h,_,_=>by simp at h
 |_::_,[],_,_,_,_,h,_=>by simp at h
 |p::P,w::vs,0,m,nd,h1,h2,hk=>by
  simp at h1 h2;subst h1;subst h2
  show bindC kindOf ((p,w)::P.zip vs) m p=_
  unfold bindC
  rw[Ui fun v hv=> (List.nodup_cons.mp nd).1 (List.of_mem_zip hv).1,if_neg hk]
  simp
 |p::P,w::vs,i+1,m,nd,h1,h2,hk=>by
  show bindC kindOf ((p,w)::P.zip vs) m x=_
  unfold bindC
  exact Uj (i:=i) (List.nodup_cons.mp nd).2 (by simpa using h1) (by simpa using h2) hk
def start (N:List Str) (vs:List V):St:=vs.map some++List.replicate (N.length - vs.length) none
def bY (CX:jf) (P:Program) (w:World) (K:PySem.W.Frag) (mg:Str→Option Value) (base:Heap) (N:List Str) (qual:Str) (scope:Scope) (f:Addr) (cd:Value) (A:Around) (outer:List Env) (s:Shared) (H:Hp) (E:XK):Cx where
 prog:=P
 w:=w
 K:=K
 mg:=mg
 base:=base
 A:=A.deeper (envOfC qual scope s.heap.objs.size f cd)
 N:=N
 bW:=s
 jK:=H
 env:=envOfC qual scope s.heap.objs.size f cd
 outer:=outer
 stack:=envOfC qual scope s.heap.objs.size f cd::outer
 ex:=[]
 calm:=true
 fn:=fun _=>true
 pn:=[]
 xe:=fun e s'=>wpAny (model P w) (A.deeper (envOfC qual scope s.heap.objs.size f cd)) (leaving (envOfC qual scope s.heap.objs.size f cd) e) (fun _ eU=>CX outer H s E e eU) (fun e' eU=>CX outer H s E e' eU) s'
theorem Dn {sc:Scope}{n:Nat}{x:Str}(h:sc.names.lookup x=some .cell):∃c,(cellsFrom n sc.names []).lookup x=some c:=by
 have q:=PySem.W.cellsFrom_some sc.names n [] (.inl h)
 exact Option.isSome_iff_exists.mp q
theorem P1 {CX:jf}{P:Program}{w:World}{K:PySem.W.Frag}{mg:Str→Option Value}{base:Heap}{N ps:List Str}{qual:Str}{scope:Scope}{f:Addr}{cd:Value}{A:Around}{outer:List Env}{s s1:Shared}{H:Hp}{E:XK}{us:List Value}{vs:List V}
  (S:bg N ps scope) (hd:A.handled=none) (e0:qo P w K mg base A outer s H) (hl:vs.length=ps.length) (r:Vals vs us)
  (x:InCallC s s.heap.objs.size (bindL (envOfC qual scope s.heap.objs.size f cd).kindOf (ps.zip us) fun _=>none) (cellsFrom (s.heap.objs.size+1) scope.names []) (bindC (envOfC qual scope s.heap.objs.size f cd).kindOf (ps.zip us) fun _=>none) s1):
  Inv (bY CX P w K mg base N qual scope f cd A outer s H E) [] (start N vs) H s1:=by
 have eJ:ps.length≤N.length:=by have:=congrArg List.length S.pre;rw[List.length_take]at this;omega
 obtain⟨h1,tk,rfl,hk⟩:=x.done
 have bR:∀b:Addr,b∉(bY CX P w K mg base N qual scope f cd A outer s H E).ex:=fun b z=>absurd (show b∈([]:List Addr) from z) (by simp)
 refine⟨⟨e0.mod,S.kind,rfl,rfl,Nat.le_refl _,fun y z c h1 h2=> ?_,fun y hy=> ?_,fun y c _ h=> ?_,fun _=>hd,Around.frames_deeper e0.frames,.inr ⟨rfl,rfl⟩,fun b z=>absurd z (bR b),e0.bs,e0.i7,fun b _ _=>bR b,fun b z=>absurd z (bR b),e0.dR,e0.gG⟩,
  rfl,e0.bare,Un.kept hk,⟨_,x.toInCall.ns,fun i y v h1 h2 h3=> ?_⟩,fun y c h=> ⟨_,x.cell y c h⟩,e0.ah.fresh (Nat.le_refl _),fun y c h=> ?_,fun p hp=>absurd (show p∈([]:List (Addr×Obj)) from hp) (by simp),e0.ah.kept hk,?_⟩
 ·exact name_of_addr x.apart (PySem.mem_of_lookup h1) (PySem.mem_of_lookup h2)
 ·have hy:scope.names.lookup y=some .cell∨scope.names.lookup y=some .free:=hy
  rcases hy with hy |hy
  ·exact Dn hy
  ·exact absurd rfl (S.GY _ (PySem.mem_of_lookup hy))
 ·exact Nat.le_of_lt (x.above y c (PySem.mem_of_lookup h))
 ·have hi:i<vs.length:=by
   unfold start at h2
   by_cases hi:i<vs.length
   ·exact hi
   ·rw[List.getElem?_append_right (by simpa using hi)]at h2
    rw[List.getElem?_replicate]at h2
    split at h2<;>cases h2
  have ha:vs[i]? =some v:=by
   unfold start at h2
   rw[List.getElem?_append_left (by simpa using hi),List.getElem?_map]at h2
   cases e:vs[i]? with
   |none=>rw[e]at h2;cases h2
   |some a=>rw[e]at h2;cases h2;rfl
  obtain⟨u,hu,rv⟩:=r.get ha
  have hp:ps[i]? =some y:=by
   rw[←S.pre,List.getElem?_take_of_lt (by omega)];exact h1
  have Aw:ps.Nodup:=by rw[←S.pre];exact S.nd.sublist (List.take_sublist _ _)
  refine⟨u,rv,?_⟩
  rcases S.par y (List.mem_of_getElem? hp) with k |k
  ·exact .inl ⟨k,Uh Aw hp hu k⟩
  ·obtain⟨c,e⟩:=Dn (n:=s.heap.objs.size+1) k
   refine .inr ⟨.inl k,c,e,?_⟩
   have q:=x.cell y c e
   rw[Uj Aw hp hu (by show scope.names.lookup y≠_;rw[k];decide)]at q
   exact q
 ·exact e0.ah.fresh (Nat.le_of_lt (x.above y c (PySem.mem_of_lookup h)))
 ·unfold start
  show _=N.length
  rw[List.length_append,List.length_map,List.length_replicate]
  omega
theorem ya {CX:jf}{P:Program}{w:World}{K:PySem.W.Frag}{mg:Str→Option Value}{base:Heap}{k:Nat}{f:Addr}{name qual:Str}{params:Arguments}{body:List Stmt}{scope:Scope}{dV kV doc pm ao ct oc:Value}{an od:Option Addr}
    {eX:Array (Option Value)}{N ps:List Str}{sp:Sp} (lk:K.lookup f=some ⟨oc,od,.func (PySem.W.fnOf name qual params body scope dV kV doc pm an ao ct),eX⟩) (cQ:PySem.W.codeIn K ao qual=true) (S:bg N ps scope)
    (len:∀vs H Q E,sp vs H Q E→vs.length=ps.length)
    (w9:∀(A:Around) (outer:List Env) (s:Shared) (H:Hp) (vs:List V) (Q:VK) (E:XK),bP k (A.deeper (envOfC qual scope s.heap.objs.size f ao))→sp vs H Q E→
      ∃t,eQ (bY CX P w K mg base N qual scope f ao A outer s H E) body t∧t {nx:=fun _ H'=>Q .af H',rt:=Q} (start N vs) H):
    aA P w K mg base CX (k+1) f (PySem.W.fnOf name qual params body scope dV kV doc pm an ao ct) ps sp:=by
  refine⟨len,fun A outer s H args us vs Q E hr e0 hb r dD=> ?_⟩
  have hl:=len _ _ _ _ dD
  have KX:K.In s.heap:=e0.mod.nB.keeps fun b o e=> (e0.bs b o e).1
  have lim:s.heap.NoLimit:=e0.mod.nolimit.keeps fun b o e=> (e0.bs b o e).1
  have KD:∀y∈ps.zip us,scope.names.lookup y.1=some .local∨(scope.names.lookup y.1=some .cell∧((cellsFrom (s.heap.objs.size+1) scope.names []).lookup y.1).isSome=true):=fun⟨n,v⟩ hy=>by
    rcases S.par n (List.of_mem_zip hy).1 with q |q
    · exact .inl q
    · exact .inr ⟨q,PySem.W.cellsFrom_some _ _ _ (.inl q)⟩
  refine codeAny_call_function hr.depth (KX _ _ lk) rfl S.co S.gen rfl (PySem.W.codeRec_of KX cQ) (hb _ _ _ _ ?_)
  refine wpAny_newFunctionEnv_cells S.kind KD fun env he s1 x=> ?_
  subst he
  refine⟨lim.keeps x.toInCall.keep,codeAny_func ?_⟩
  obtain⟨t,ht,hq⟩:=w9 A outer s H vs Q E (hr.deeper _) dD
  have I:Inv (bY CX P w K mg base N qual scope f ao A outer s H E) [] (start N vs) H s1:=P1 S hr.hd e0 hl r x
  refine wpAny_mono (ht [] s1 (start N vs) H _ I hq) (fun fl s' hs=> ?_) fun e s' hs=>hs
  have fin:∀{aj:St}{H':Hp}{v:V}{u:Value},Inv (bY CX P w K mg base N qual scope f ao A outer s H E) [] aj H' s'→RelV v u→Q v H'→CE outer P w H s Q u s':=
    fun {aj H' v u} J rv q=> ⟨v,H',J.os,J.bare,J.base,J.ah,rv,q⟩
  cases fl with
  |ret u=>
   obtain⟨v,aj,H',J,rv,q⟩:=hs
   exact fin J rv q
  |next=>
   obtain⟨aj,H',J,q⟩:=hs
   exact fin (v:=V.af) (u:=Value.none) J rfl q
  |brk=>
   obtain⟨_,_,_,q⟩:=hs
   exact False.elim q
  |cont=>
   obtain⟨_,_,_,q⟩:=hs
   exact False.elim q
section
variable {X:Cx}{x:Str}{p pos:Pos}{e:Expr}{es:List Expr}{t:TA}{id T:String}{r:List V→Hp→VK→Prop}
def zb (r:List V→Hp→VK→Prop) (t:TA):TE:=fun σ H Q=>t σ H fun vs H1=>r vs H1 Q
theorem Zl (hc:fX X (.builtin id) r) (hg:Gl X x) (hm:X.mg x=none) (hv:bootBuiltins x=some (.builtin id)) (ha:PA X (e::es) t) (hn:x≠ "__name__" :=by decide) (iq:(x==("__debug__" :Str))=false:=by decide)
  (he:starEach (e::es) X.env=(false,eval e X.env)::starEach es X.env:=by rfl) (eJ:(backTo pos (starEach es X.env)).any (·.1)=false:=by rfl):PE X (.Call (.Name x p) (e::es) [] pos) (zb r t):=by
 intro pins s σ H Q I h
 refine wpAny_Call_Name_kw (Ym I hg hm hv ?_ hn iq)
 exact PyProof.Rows.callWith_builtin1 (au (ha pos pins s σ H _ I h) fun us s1 ⟨vs,H1,I1,r1,q1⟩=>hc pins s1 σ H1 vs us Q I1 r1 q1) he eJ
theorem Pr (hc:fX X (.type T) r) (hg:Gl X x) (hm:X.mg x=none) (hv:bootBuiltins x=some (.type T)) (ha:PA X (e::es) t) (hn:x≠ "__name__" :=by decide) (iq:(x==("__debug__" :Str))=false:=by decide)
  (he:starEach (e::es) X.env=(false,eval e X.env)::starEach es X.env:=by rfl) (eJ:(backTo pos (starEach es X.env)).any (·.1)=false:=by rfl):PE X (.Call (.Name x p) (e::es) [] pos) (zb r t):=by
 intro pins s σ H Q I h
 refine wpAny_Call_Name_kw (Ym I hg hm hv ?_ hn iq)
 exact PyProof.Rows.callWith_type1 (au (ha pos pins s σ H _ I h) fun us s1 ⟨vs,H1,I1,r1,q1⟩=>hc pins s1 σ H1 vs us Q I1 r1 q1) he eJ
end
end L2
namespace HT
open PySem PyProof.Rows
def lexLt:List Int→List Int→Bool
 | [],[]=>false
 | [],_::_=>true
 |_::_,[]=>false
 |x::xs,y::ys=>if x=y then lexLt xs ys else decide (x<y)
theorem AM (x y:Int) (xs ys:List Int):lexLt (x::xs) (y::ys)=if x=y then lexLt xs ys else decide (x<y):=rfl
theorem WF:lexLt [] []=false:=rfl
theorem Wj (y:Int) (ys:List Int):lexLt [] (y::ys)=true:=rfl
theorem Wm (x:Int) (xs:List Int):lexLt (x::xs) []=false:=rfl
theorem OZ (A:Around) (s:Shared) (a:Int) (t:Tok) (c:Int) (u:Tok):∃e,SeqAt.EqAt A s (.int a t) (.int c u) e∧(e=true↔a=c):=
 ⟨(a==c),SeqAt.EqAt.int_int a t c u,by simp⟩
theorem OW (A:Around) (s:Shared) (a:Int) (t:Tok) (c:Int) (u:Tok) (prog:Program) (w:World) (E:Value→Shared→Prop) (Q:Value→Shared→Prop) (h:Q (.bool (decide (a<c))) s):
  wpAny (model prog w) A (richCompare .Lt (.int a t) (.int c u)) Q E s:=
 (PyProof.Rows.lt_int h:wpAny (model prog w) A (compareOp .Lt (.int a t) (.int c u)) Q E s)
section
open PySem.SeqAt
open PySem.AutoSeq1 (wpAny_loadPart')
open PySem.MeetsSeq PySem.MeetsSeq2 PySem.MeetsSeq3
theorem WA (l b:Addr) (items items2:Array Value) (n n2:Nat) (dd km:Option Addr) (sl gk:Array (Option Value)) (ns ms:List Int) (hi:IntsAre items.toList ns) (hj:IntsAre items2.toList ms):
  Meets (Builtin.«tuple.__lt__» ⟨[.ref l,.ref b],[]⟩)
   (fun _ R s=>s.heap.get? l=some {cls:=.type "tuple",dict:=dd,data:=.seq items n,slots:=sl}∧s.heap.get? b=some {cls:=.type "tuple",dict:=km,data:=.seq items2 n2,slots:=gk}∧
    R (.ok (.ret (.bool (lexLt ns ms)))) s):=
 .of_wp fun prog w A R s h=>by
  obtain⟨hp,g,d,tk,os⟩:=s;obtain⟨hl,hb,h⟩:=h
  have f2:=AutoSeq1.sub_tuple_tuple
  have z1:items.size=ns.length:=by rw[←hi.length];simp
  have z2:items2.size=ms.length:=by rw[←hj.length];simp
  wp_walk using wpAny_loadPart' hl,wpAny_loadPart' hb,wpAny_forIn_list _ (fun rest b s'=>b.1=none∧s'=⟨hp,g,d,tk,os⟩∧∃(vs ws:List Value) (nk nq:List Int),rest=vs.zip ws∧
   IntsAre vs nk∧IntsAre ws nq∧nk.length+items2.size=nq.length+items.size∧R (.ok (.ret (.bool (lexLt nk nq)))) ⟨hp,g,d,tk,os⟩) _
  case turn=>
   rintro⟨y,x⟩ rest b s' ⟨dn,rfl,vs,ws,nk,nq,hz,wb,rY,hlen,hR⟩
   cases wb with
   |nil=>rw[List.zip_nil_left]at hz;cases hz
   |cons a t Ir=>
    cases rY with
    |nil=>rw[List.zip_nil_right]at hz;cases hz
    |cons c u Iq=>
     rw[List.zip_cons_cons]at hz
     injection hz with Im IY
     injection Im with hy hx
     subst hy hx
     rw[AM]at hR
     simp only[List.length_cons]at hlen
     obtain⟨e,he,Bs⟩:=OZ A.in1 ⟨hp,g,d,tk,os⟩ a t c u
     refine wpAny_bind (he prog w _ _ ?_)
     cases e with
     |true=>
      rw[if_pos (Bs.mp rfl)]at hR
      wp_walk
      exact⟨rfl,rfl,_,_,_,_,IY,Ir,Iq,by omega,hR⟩
     |false=>
      rw[if_neg (fun q=>absurd (Bs.mpr q) Bool.false_ne_true)]at hR
      have IV:=OW A.in1 ⟨hp,g,d,tk,os⟩ a t c u prog w
      wp_walk using IV
      exact⟨_,rfl,by simpa using hR⟩
  case fin=>
   rintro⟨b1,b2⟩ s' ⟨dn,rfl,vs,ws,nk,nq,hz,wb,rY,hlen,hR⟩
   simp only at dn
   subst dn
   have hv:lexLt nk nq=decide (items.size<items2.size):=by
    cases wb with
    |nil=>
     cases rY with
     |nil=>
      simp only[List.length_nil]at hlen
      rw[WF]
      exact(decide_eq_false (by omega)).symm
     |cons c u hw=>
      simp only[List.length_nil,List.length_cons]at hlen
      rw[Wj]
      exact(decide_eq_true (by omega)).symm
    |cons a t hv=>
     cases rY with
     |nil=>
      simp only[List.length_nil,List.length_cons]at hlen
      rw[Wm]
      exact(decide_eq_false (by omega)).symm
     |cons c u hw=>
      rw[List.zip_cons_cons]at hz
      cases hz
   rw[hv]at hR
   wp_walk
   exact⟨_,rfl,by simpa[Builtin.Tuple.tupleCompareSizes] using hR⟩
  case h=>
   exact⟨rfl,rfl,items.toList,items2.toList,ns,ms,rfl,hi,hj,by omega,h⟩
end
section
variable {prog:Program}{w:World}{A:Around}{E:Value→Shared→Prop}{s:Shared}
theorem AG {l b:Addr}{items items2:Array Value}{ns ms:List Int}{Q:Value→Shared→Prop}(hl:IsTup s.heap l items) (hb:IsTup s.heap b items2) (hi:IntsAre items.toList ns) (hj:IntsAre items2.toList ms)
  (hu:A.units<cLine) (h:Q (.bool (lexLt ns ms)) s):wpAny (model prog w) A (compareOp .Lt (.ref l) (.ref b)) Q E s:=by
 obtain⟨⟨cls,dd,data,sl⟩,ho,hc,n,hd⟩:=id hl
 obtain⟨⟨Cw,km,data2,gk⟩,iU,ir,n2,hd2⟩:=id hb
 simp only at hc hd ir hd2
 subst hc hd ir hd2
 exact richCompare_meets_room (op:=.Lt) ⟨_,ho,rfl⟩ ⟨_,iU,rfl⟩ PySem.F.slot_tuple_lt PySem.F.entry_tuple_lt (PySem.F.args_tuple_lt_2 _ _) (WA l b items items2 n n2 dd km sl gk ns ms hi hj)
  ⟨ho,iU,show Value.bool (lexLt ns ms)≠Value.notImplemented∧Q (.bool (lexLt ns ms)) s from ⟨(fun x=>nomatch x),h⟩⟩ hu
theorem MP {t b:Addr}{vs ws:List Value}{Q:Value→Shared→Prop}(ht:IsTup s.heap t vs.toArray) (hb:IsTup s.heap b ws.toArray) (hv:vs≠[])
  (h1:ws=[]→Q (.ref t) s) (h2:ws≠[]→Q (.ref s.heap.objs.size) {s with heap:=s.heap.push {cls:=.type "tuple",data:=.seq (vs++ws).toArray} })
  (bG:vs.length+ws.length≤sizeLine):wpAny (model prog w) A (binaryOp .Add (.ref t) (.ref b)) Q E s:=by
 obtain⟨⟨cls,dd,data,sl⟩,ho,hc,n,hd⟩:=id ht
 obtain⟨⟨Cw,km,data2,gk⟩,iU,ir,n2,hd2⟩:=id hb
 simp only at hc hd ir hd2
 subst hc hd ir hd2
 have e:vs.toArray++ws.toArray=(vs++ws).toArray:=by simp
 by_cases hw:ws=[]
 ·exact concat_meets ⟨_,ho,rfl⟩ ⟨_,iU,rfl⟩ noFill_tuple_add seq_tuple_add PySem.F.slot_tuple_add PySem.F.entry_tuple_add (PySem.F.args_tuple_add_2 _ _)
   (tuple_addW1 t b vs.toArray ws.toArray n n2 dd km sl gk (by simpa using hv) (by simp[hw])) ⟨ho,iU,h1 hw⟩
 ·refine concat_meets ⟨_,ho,rfl⟩ ⟨_,iU,rfl⟩ noFill_tuple_add seq_tuple_add PySem.F.slot_tuple_add PySem.F.entry_tuple_add (PySem.F.args_tuple_add_2 _ _)
   (tuple_addW2 t b vs.toArray ws.toArray n n2 dd km sl gk (by simpa using hv) (by simpa using hw) (by rw[List.size_toArray,List.size_toArray];exact bG)) ⟨ho,iU,?_⟩
  rw[e]
  exact h2 hw
def aF (n d:Nat):Option Int→Nat
 |none=>d
 |some v=>if v<0 then (v+(n:Int)).toNat else min v.toNat n
theorem zM (n d:Nat):aF n d none=d:=rfl
theorem rp (n d k:Nat):aF n d (some (k:Int))=min k n:=by
 show(if (k:Int)<0 then ((k:Int)+(n:Int)).toNat else min (k:Int).toNat n)=min k n
 rw[if_neg (by omega),Int.toNat_natCast]
theorem N6 (n d:Nat) (hd:d≤n) (o:Option Int):aF n d o≤n:=by
 cases o with
 |none=>exact hd
 |some v=>
  show(if v<0 then (v+(n:Int)).toNat else min v.toNat n)≤n
  by_cases hv:v<0
  ·rw[if_pos hv];omega
  ·rw[if_neg hv];exact Nat.min_le_right _ _
theorem C9 (v:Int) (n d:Nat):(if v<0 then max (v+(n:Int)) 0 else min v (n:Int))=((aF n d (some v):Nat):Int):=by
 show(if v<0 then max (v+(n:Int)) 0 else min v (n:Int))=(((if v<0 then (v+(n:Int)).toNat else min v.toNat n):Nat):Int)
 by_cases hv:v<0
 ·simp only[if_pos hv];omega
 ·simp only[if_neg hv];omega
theorem QF (lo hi:Option Int) (n:Nat):Builtin.Slice.sliceAdjust lo hi 1 (n:Int)=(((aF n 0 lo:Nat):Int),((aF n n hi:Nat):Int)):=by
 have h1:¬((1:Int)<0):=by omega
 unfold Builtin.Slice.sliceAdjust
 simp only[h1,if_false]
 refine Prod.ext ?_ ?_
 ·cases lo with
  |none=>rfl
  |some v=>exact C9 v n 0
 ·cases hi with
  |none=>rfl
  |some v=>exact C9 v n n
theorem Qp (i j:Nat):Builtin.Slice.slicePlaces (i:Int) (j:Int) 1=j - i:=by
 unfold Builtin.Slice.slicePlaces
 have h1:(1:Int)>0:=by omega
 simp only[h1,if_true,Int.ediv_one]
 split<;>omega
theorem JX {v:Value}{o:Option Int}{Q:Option Int→Shared→Prop}(p:IsPart v o) (h:Q o s):wpAny (model prog w) A (Builtin.Slice.slicePartIndex v) Q E s:=by
 cases p with
 |none=>exact slicePart_none h
 |int i t=>exact slicePart_int h
theorem Jm {sl:Addr}{vl vu:Value}{lo hi:Option Int}{n:Nat}{Q:Int×Int×Nat→Shared→Prop}(hs:s.heap.IsSliceOf sl vl vu .none) (pl:IsPart vl lo) (pu:IsPart vu hi)
  (h:Q (((aF n 0 lo:Nat):Int),1,aF n n hi - aF n 0 lo) s):wpAny (model prog w) A (Builtin.Slice.sliceApplied (.ref sl) (pure (n:Int))) Q E s:=by
 obtain⟨os,pE,Bz,sU⟩:=id hs
 unfold Builtin.Slice.sliceApplied Builtin.Slice.sliceFields
 refine wpAny_bind (wpAny_bind (wpAny_field pE sU (x:=vl) rfl (wpAny_bind (wpAny_field pE sU (x:=vu) rfl (wpAny_bind (wpAny_field pE sU (x:=.none) rfl (wpAny_pure ?_)))))))
 refine wpAny_bind (slicePart_none ?_)
 show wpAny _ _ (if ((1:Int)==0)=true then _ else _) _ _ s
 rw[if_neg (by decide)]
 refine wpAny_bind (JX pl (wpAny_bind (JX pu (wpAny_bind (wpAny_pure ?_)))))
 show wpAny _ _ (match Builtin.Slice.sliceAdjust lo hi 1 (n:Int) with |(lo,hi)=>pure (lo,(1:Int),Builtin.Slice.slicePlaces lo hi 1)) _ _ s
 rw[QF lo hi n]
 show wpAny _ _ (pure (((aF n 0 lo:Nat):Int),(1:Int),Builtin.Slice.slicePlaces ((aF n 0 lo:Nat):Int) ((aF n n hi:Nat):Int) 1)) _ _ s
 rw[Qp]
 exact wpAny_pure h
theorem OT (xs:Array Value) (i k:Nat):((List.range k).filterMap fun(m:Nat)=>xs[((i:Int)+(m:Int)*1).toNat]?).toArray=((xs.toList.drop i).take k).toArray:=by
 have e:(fun(m:Nat)=>xs[((i:Int)+(m:Int)*1).toNat]?)=fun m=>xs[i+m]? :=by
  funext m
  have:((i:Int)+(m:Int)*1).toNat=i+m:=by omega
  rw[this]
 rw[e]
 have:=pick_run xs i k
 rw[List.filterMap_map]at this
 have e2:((fun x=>xs[x]?)∘fun x=>i+x)=fun m=>xs[i+m]? :=rfl
 rw[e2]at this
 rw[this]
theorem LJ {t sl:Addr}{items:Array Value}{vl vu:Value}{lo hi:Option Int}{Q:Value→Shared→Prop}(ht:IsTup s.heap t items) (hs:s.heap.IsSliceOf sl vl vu .none) (pl:IsPart vl lo) (pu:IsPart vu hi)
  (hw:¬(aF items.size 0 lo=0∧aF items.size items.size hi=items.size))
  (h:Q (.ref s.heap.objs.size) {s with heap:=s.heap.push {cls:=.type "tuple",data:=.seq ((items.toList.drop (aF items.size 0 lo)).take (aF items.size items.size hi - aF items.size 0 lo)).toArray} })
  (bG:items.size≤sizeLine):wpAny (model prog w) A (getItem (.ref t) (.ref sl)) Q E s:=by
 have rZ:sizeOk (.seq ((items.toList.drop (aF items.size 0 lo)).take (aF items.size items.size hi - aF items.size 0 lo)).toArray):=by
  show((items.toList.drop (aF items.size 0 lo)).take (aF items.size items.size hi - aF items.size 0 lo)).toArray.size≤sizeLine
  rw[List.size_toArray,List.length_take,List.length_drop,Array.length_toList]
  omega
 have hj:aF items.size items.size hi≤items.size:=N6 _ _ (Nat.le_refl _) hi
 obtain⟨os,pE,Bz,sU⟩:=id hs
 have eK:s.TypeIs (.ref sl) "slice" :=⟨os,pE,Bz⟩
 unfold getItem
 try with_reducible refine wpAny_holding ?_
 first |refine wpAny_bind (wpAny_pure ?_) |skip
 refine wpAny_bind (wpAny_sequenceKey ht.typeIs (by decide) ?_)
 refine wpAny_bind (wpAny_callSpecial?_slot (name:=Str.ofString "__getitem__") ht.typeIs PyProof.Rows.slot_tuple_getitem
  (wpAny_call_entry PyProof.Rows.slot_tuple_getitem ht.typeIs entry_tuple_getitem ?_ (args_tuple_getitem _ _)))
 show wpAny _ _ (Builtin.Tuple.tupleItemsOf (.ref t) >>=_) _ _ s
 refine wpAny_bind (tupleItemsOf_ ht ?_)
 refine wpAny_bind (wpAny_typeOf eK ?_)
 rw[if_pos (by decide)]
 refine wpAny_bind (Jm hs pl pu ?_)
 have wD:¬((((aF items.size 0 lo:Nat):Int)==0&&(1:Int)==1&&(aF items.size items.size hi - aF items.size 0 lo)==items.size)=true):=by
  intro q
  rw[Bool.and_eq_true,Bool.and_eq_true]at q
  have q1:((aF items.size 0 lo:Nat):Int)=0:=eq_of_beq q.1.1
  have q2:aF items.size items.size hi - aF items.size 0 lo=items.size:=eq_of_beq q.2
  exact hw ⟨by omega,by omega⟩
 show wpAny _ _ (if (((aF items.size 0 lo:Nat):Int)==0&&(1:Int)==1&&(aF items.size items.size hi - aF items.size 0 lo)==items.size)=true then _ else _) _ _ s
 rw[if_neg wD,OT]
 first
  |exact wpAny_bind (m:=Builtin.Tuple.tupleExact _) (wpAny_newObj_type (wpAny_pure ⟨_,rfl,wpAny_pure h⟩) rZ)
  |exact wpAny_bind (m:=Builtin.Tuple.tupleExact _) (wpAny_newObj_type (wpAny_bind (wpAny_pure (wpAny_pure ⟨_,rfl,wpAny_pure h⟩))) rZ)
  |exact wpAny_bind (wpAny_bind (m:=Builtin.Tuple.tupleExact _) (wpAny_newObj_type (wpAny_pure (wpAny_pure ⟨_,rfl,wpAny_pure h⟩)) rZ))
  |exact wpAny_bind (wpAny_bind (m:=Builtin.Tuple.tupleExact _) (wpAny_newObj_type (wpAny_pure ⟨_,rfl,wpAny_pure h⟩) rZ))
end
end HT
namespace L2
open PySem PySem.Spec PyProof.Rows
abbrev TO:=St→Hp→(Option Int→Hp→Prop)→Prop
def PO (X:Cx) (e:Option Expr) (t:TO):Prop:=
 ∀(pins:List (Addr×Obj)) (s:Shared) (σ:St) (H:Hp) (Q:Option Int→Hp→Prop),Inv X pins σ H s→t σ H Q→
  wpAny (model X.prog X.w) X.A (evalPart e X.env) (fun u s'=> ∃o H',Inv X pins σ H' s'∧IsPart u o∧Q o H') X.xe s
def EO:TO:=fun _ H Q=>Q none H
def EJ (t:TE):TO:=fun σ H Q=>t σ H fun x H1=> ∃i,x=.int i∧Q (some i) H1
theorem YB {ns:List Int} :∀{us:List Value},Vals (ns.map V.int) us→IntsAre us ns:=by
 induction ns with
 |nil=>intro us r;rw[List.map_nil]at r;cases r;exact .nil
 |cons n ns ih=>
  intro us r
  rw[List.map_cons]at r
  cases r with
  |cons r1 r2=>
   obtain⟨t,e⟩:=r1
   subst e
   exact .cons n t (ih r2)
section
variable {X:Cx}{e:Expr}{te:TE}{lo hi:Option Expr}{tl th:TO}{pos p2:Pos}
theorem JO:PO X none EO:=by
 intro pins s σ H Q I h
 rw[evalPart_none]
 exact wpAny_pure ⟨none,H,I,.none,h⟩
theorem JN (h:PE X e te):PO X (some e) (EJ te):=by
 intro pins s σ H Q I hw
 rw[evalPart_some]
 refine au (h pins s σ H _ I hw) fun u s1 ⟨x,H1,I1,r1,q1⟩=> ?_
 obtain⟨i,rfl,q⟩:=q1
 obtain⟨t,rfl⟩:=r1
 exact⟨some i,H1,I1,.int i t,q⟩
def yk (X:Cx) (r:V→Option Int→Option Int→Hp→VK→Prop):Prop:=
 ∀(pins:List (Addr×Obj)) (s:Shared) (σ:St) (H:Hp) (x:V) (v vl vu:Value) (lo hi:Option Int) (sl:Addr) (Q:VK),Inv X pins σ H s→RelV x v→s.heap.IsSliceOf sl vl vu .none→IsPart vl lo→IsPart vu hi→r x lo hi H Q→
  ∃T id,typeLookup (.type T) "__getitem__" =pure (some (.builtin id))∧s.TypeIs v T∧wpAny (model X.prog X.w) X.A (getItem v (.ref sl)) (EP X pins σ Q) X.xe s
def EH (r:V→Option Int→Option Int→Hp→VK→Prop) (te:TE) (tl th:TO):TE:=fun σ H Q=>te σ H fun x H1=>tl σ H1 fun l H2=>th σ H2 fun u H3=>r x l u H3 Q
theorem Ja {r:V→Option Int→Option Int→Hp→VK→Prop}(hr:yk X r) (he:PE X e te) (hl:PO X lo tl) (hu:PO X hi th):PE X (.Subscript e (.Slice lo hi none p2) pos) (EH r te tl th):=by
 intro pins s σ H Q I h
 refine Subscript_ (au (he pins s σ H _ I h) fun v s1 ⟨x,H1,I1,r1,q1⟩=> ?_)
 refine wpAny_Slice (au (hl pins s1 σ H1 _ I1 q1) fun vl s2 ⟨l,H2,I2,pl,q2⟩=>au (hu pins s2 σ H2 _ I2 q2) fun vu s3 ⟨u,H3,I3,pu,q3⟩=> ?_)
 rw[evalPart_none]
 refine wpAny_pure ?_
 have I4:Inv X pins σ H3 {s3 with heap:=s3.heap.push {cls:=.type "slice",data:=.fields #[vl,vu,.none]} } :=I3.kept (t':=s3.toks) fun b ob q=>Heap.get?_push_of_some _ q
 obtain⟨T,id,hT,ht,hg⟩:=hr pins {s3 with heap:=s3.heap.push {cls:=.type "slice",data:=.fields #[vl,vu,.none]} } σ H3 x v vl vu l u s3.heap.objs.size Q I4 r1 (Heap.IsSliceOf.new ..) pl pu q3
 show wpAny (model X.prog X.w) X.A (subscriptTail e (.Slice lo hi none p2) v (.ref s3.heap.objs.size)) (EP X pins σ Q) X.xe {s3 with heap:=s3.heap.push {cls:=.type "slice",data:=.fields #[vl,vu,.none]} }
 exact tail_any (ops:=[.ref s3.heap.objs.size,v]) ht hT hg (by with_unfolding_all rfl)
def cX (xs:List V) (lo hi:Option Int):List V:=(xs.drop (HT.aF xs.length 0 lo)).take (HT.aF xs.length xs.length hi - HT.aF xs.length 0 lo)
theorem JI (xs:List V) (lo hi:Option Int):(cX xs lo hi).length≤xs.length:=by
 unfold cX
 rw[List.length_take,List.length_drop]
 omega
def FZ (K:PySem.W.Frag):V→Option Int→Option Int→Hp→VK→Prop:=fun x lo hi H Q=> ∃a xs,x=.ref a∧ai K H a xs∧
 ¬(HT.aF xs.length 0 lo=0∧HT.aF xs.length xs.length hi=xs.length)∧∀p,H p=none→Q (.ref p) (upd H p (.tup (cX xs lo hi)))
theorem Dl:yk X (FZ X.K):=by
 intro pins s σ H x v vl vu lo hi sl Q I rx hs pl pu h
 obtain⟨a,xs,rfl,hx,hw,q⟩:=h
 cases rx
 obtain⟨its,r,ht,hz⟩:=I.tuple hx
 have hlen:its.toArray.size=xs.length:=by rw[List.size_toArray];exact r.length.symm
 refine⟨"tuple",_,PyProof.Rows.slot_tuple_getitem.lookup,ht.typeIs,?_⟩
 refine HT.LJ ht hs pl pu (by rw[hlen];exact hw) ?_ (by rw[hlen];exact hz)
 rw[hlen]
 refine⟨.ref s.heap.objs.size,_,I.laid (t':=s.toks) (o:=.tup (cX xs lo hi)) (fun b ob q=>Heap.get?_push_of_some _ q) (Nat.le_refl _) ?_,rfl,q _ (I.ah.fresh (Nat.le_refl _))⟩
 exact⟨Nat.le_trans (JI xs lo hi) hz,_,(r.drop (HT.aF xs.length 0 lo)).take (HT.aF xs.length xs.length hi - HT.aF xs.length 0 lo),IsTup.new _ _,_,Heap.get?_push_size _ rfl,rfl⟩
def zY (K:PySem.W.Frag):R2:=fun x y H Q=> ∃a b xs ys,x=.ref a∧y=.ref b∧ai K H a xs∧ai K H b ys∧xs≠[]∧xs.length+ys.length≤sizeLine∧
 (ys=[]→Q (.ref a) H)∧(ys≠[]→∀p,H p=none→Q (.ref p) (upd H p (.tup (xs++ys))))
theorem Vals.vM {xs:List V}{us:List Value}(r:Vals xs us):us=[]↔xs=[]:=by
 cases r with
 |nil=>simp
 |cons _ _=>simp
theorem NH:bo X (binaryOp .Add) (zY X.K):=by
 intro pins s σ H x y v u Q I rx ry h
 obtain⟨a,b,xs,ys,rfl,rfl,ha,hb,hx,hz,q1,q2⟩:=h
 cases rx
 cases ry
 obtain⟨its,r1,p1,_⟩:=I.tuple ha
 obtain⟨iS,r2,p2,_⟩:=I.tuple hb
 refine HT.MP p1 p2 (fun z=>hx (r1.vM.mp z)) (fun z=> ⟨.ref a,H,I,rfl,q1 (r2.vM.mp z)⟩) (fun z=> ?_) (by rw[←r1.length,←r2.length];exact hz)
 refine⟨.ref s.heap.objs.size,_,I.laid (t':=s.toks) (o:=.tup (xs++ys)) (fun b ob q=>Heap.get?_push_of_some _ q) (Nat.le_refl _) ?_,rfl,q2 (fun w=>z (r2.vM.mpr w)) _ (I.ah.fresh (Nat.le_refl _))⟩
 exact⟨by rw[List.length_append];exact hz,_,r1.append r2,IsTup.new _ _,_,Heap.get?_push_size _ rfl,rfl⟩
end
def lh (n:Nat) (i:Int):Option Nat:=if 0≤i then (if i<n then some i.toNat else none) else if -(n:Int)≤i then some (i+n).toNat else none
def fk {α:Type} (xs:List α) (i:Int):Option α:=(lh xs.length i).bind fun j=>xs[j]?
theorem DM {n:Nat}{i:Int}{j:Nat}(h:lh n i=some j):seqIndex? i n=some j∧j<n∧ -(n:Int)≤i∧i<n:=by
 unfold lh at h
 by_cases h0:0≤i
 ·rw[if_pos h0]at h
  by_cases h1:i<n
  ·rw[if_pos h1]at h
   have e:i.toNat=j:=Option.some.inj h
   exact⟨by rw[seqIndex_of h0 h1,e],by omega,by omega,h1⟩
  ·rw[if_neg h1]at h;cases h
 ·rw[if_neg h0]at h
  by_cases h1: -(n:Int)≤i
  ·rw[if_pos h1]at h
   have e:(i+n).toNat=j:=Option.some.inj h
   exact⟨by rw[seqIndex_neg (by omega) h1,e],by omega,h1,by omega⟩
  ·rw[if_neg h1]at h;cases h
theorem C7 {α:Type}{xs:List α}{i:Int}{v:α}(h:fk xs i=some v):∃j,seqIndex? i xs.length=some j∧xs[j]? =some v∧j<xs.length∧ -(xs.length:Int)≤i∧i<xs.length:=by
 unfold fk at h
 cases e:lh xs.length i with
 |none=>rw[e]at h;cases h
 |some j=>
  rw[e]at h
  obtain⟨h1,h2,h3,h4⟩:=DM e
  exact⟨j,h1,h,h2,h3,h4⟩
theorem YV {α:Type}{xs:List α}{j:Nat}{v:α}(h:xs[j]? =some v):fk xs (j:Int)=some v:=by
 have hj:j<xs.length:=(List.getElem?_eq_some_iff.mp h).1
 have e:lh xs.length (j:Int)=some j:=by
  unfold lh
  rw[if_pos (by omega),if_pos (by omega)];simp
 unfold fk;rw[e];exact h
def Q7 (b:Expr):Prop:=∀o i,subscripted b false o i=operate [o,i] (getItem o i)
def mw (X:Cx) (r:R2):Prop:=
 ∀(value slice:Expr) (pins:List (Addr×Obj)) (s:Shared) (σ:St) (H:Hp) (x y:V) (v u:Value) (Q:VK),Inv X pins σ H s→RelV x v→RelV y u→r x y H Q→
  subscripted slice false v u=operate [v,u] (getItem v u)→wpAny (model X.prog X.w) X.A (subscriptTail value slice v u) (EP X pins σ Q) X.xe s
def ql (X:Cx) (id:String) (r:V→List V→Hp→VK→Prop):Prop:=
 ∀(pins:List (Addr×Obj)) (s:Shared) (σ:St) (H:Hp) (x:V) (xs:List V) (v:Value) (us:List Value) (Q:VK),Inv X pins σ H s→RelV x v→Vals xs us→r x xs H Q→
  wpAny (model X.prog X.w) X.A (call (.builtin id) (v::us)) (EP X pins σ Q) X.xe s
section
variable {X:Cx}{a b:Expr}{ta tb:TE}{pos:Pos}
theorem ZO {r:R2}(hr:mw X r) (ha:PE X a ta) (hb:PE X b tb) (hs:Q7 b):PE X (.Subscript a b pos) (mJ r ta tb):=by
 intro pins s σ H Q I h
 exact Subscript_ (xS ha hb I h fun v u s2 x y H2 I2 rx ry q=>hr a b pins s2 σ H2 x y v u Q I2 rx ry q (hs _ _))
def Ga (K:PySem.W.Frag):R2:=fun x y H Q=> ∃p xs i v,x=.ref p∧y=.int i∧ag K H p xs∧fk xs i=some v∧Q v H
def oM (K:PySem.W.Frag):R2:=fun x y H Q=> ∃p xs i v,x=.ref p∧y=.int i∧ai K H p xs∧fk xs i=some v∧Q v H
theorem ZV:mw X (Ga X.K):=by
 intro value slice pins s σ H x y v u Q I rx ry h hs
 obtain⟨p,xs,i,z,rfl,rfl,hq,he,q⟩:=h
 cases rx
 obtain⟨t,rfl⟩:=ry
 obtain⟨its,r,pl,hz⟩:=I.list hq
 obtain⟨j,h1,h2,h3,h4,h5⟩:=C7 he
 obtain⟨w,ew,oJ⟩:=r.get h2
 have hl:=r.length
 have hn:=rQ
 have fin:EP X pins σ Q w s:=⟨z,H,I,oJ,q⟩
 by_cases h0:0≤i
 ·have hj:i.toNat=j:=by
   rw[seqIndex_of h0 h5]at h1
   exact Option.some.inj h1
  exact item_listR pl.isList h0 (by omega) (by rw[hj];simpa using ew) fin hs
 ·have hj:(i+(its.toArray.size:Int)).toNat=j:=by
   rw[seqIndex_neg (by omega) h4]at h1
   rw[List.size_toArray,←hl]
   exact Option.some.inj h1
  exact subscriptTail_builtinR (x:=w) pl.isList.typeIs slot_list_getitem.lookup
   (wpAny_getItem_list_neg (Q:=fun r s'=>r=w∧EP X pins σ Q r s') pl.isList (by omega) (by rw[List.size_toArray]<;>omega) (by omega) (by rw[hj];simpa using ew) ⟨rfl,fin⟩) hs
theorem Z0:mw X (oM X.K):=by
 intro value slice pins s σ H x y v u Q I rx ry h hs
 obtain⟨p,xs,i,z,rfl,rfl,hq,he,q⟩:=h
 cases rx
 obtain⟨t,rfl⟩:=ry
 obtain⟨its,r,pl,hz⟩:=I.tuple hq
 obtain⟨j,h1,h2,h3,h4,h5⟩:=C7 he
 obtain⟨w,ew,oJ⟩:=r.get h2
 have hl:=r.length
 have hn:=rQ
 have fin:EP X pins σ Q w s:=⟨z,H,I,oJ,q⟩
 exact subscriptTail_builtinR (x:=w) pl.typeIs slot_tuple_getitem.lookup
  (getItem_tuple (j:=j) (Q:=fun r s'=>r=w∧EP X pins σ Q r s') pl (by omega) (by omega) (by rw[List.size_toArray,←hl];exact h1) (by simpa using ew) ⟨rfl,fin⟩) hs
theorem QN (its:List Value) (n j:Nat) (u:Value):Obj.mapSeq (·.setIfInBounds j u) {cls:=.type "list",data:=.seq its.toArray n} = {cls:=.type "list",data:=.seq (its.set j u).toArray n} :=by
 simp[Obj.mapSeq]
theorem Inv.lst {pins:List (Addr×Obj)}{σ:St}{H:Hp}{s:Shared}{p:Addr}{xs:List V}(I:Inv X pins σ H s) (h:H p=some (.lst xs)):
  ∃(its:List Value) (n:Nat),Vals xs its∧s.heap.get? p=some {cls:=.type "list",data:=.seq its.toArray n}∧xs.length≤sizeLine:=by
 obtain⟨z,its,n,r,e⟩:=I.ah p _ h
 exact⟨its,n,r,e,z⟩
theorem Inv.HI {pins:List (Addr×Obj)}{σ:St}{H:Hp}{s:Shared}{p:Addr}{xs ys:List V}{its its':List Value}{n n':Nat}{f:Obj→Obj}(I:Inv X pins σ H s) (h:H p=some (.lst xs))
  (ho:s.heap.get? p=some {cls:=.type "list",data:=.seq its.toArray n}) (hf:f {cls:=.type "list",data:=.seq its.toArray n} = {cls:=.type "list",data:=.seq its'.toArray n'}) (r:Vals ys its') (hz:ys.length≤sizeLine) (t:Nat):
  Inv X pins σ (upd H p (.lst ys)) {s with heap:=s.heap.update p f,toks:=t} :=by
 have e:(s.heap.update p f).get? p=some {cls:=.type "list",data:=.seq its'.toArray n'} :=by
  rw[Heap.get?_update_self f ho (by rw[hf]<;>rfl),hf]
 refine I.write (x:=p) (e:=p) (by rw[h];trivial) (.inl rfl) (fun b u hb q=> (Heap.get?_update_other _ _ (Ne.symm hb)).trans q) ⟨_,e⟩ ?_
 exact⟨hz,its',n',r,e⟩
def F2:V→V→V→Hp→(Hp→Prop)→Prop:=fun o i v H Q=> ∃p xs k j,o=.ref p∧i=.int k∧H p=some (.lst xs)∧lh xs.length k=some j∧Q (upd H p (.lst (xs.set j v)))
theorem UQ:DW X F2:=by
 intro pins s σ H o i v ov iv u Q I ro ri rv h
 obtain⟨p,xs,k,j,rfl,rfl,hp,hj,q⟩:=h
 cases ro
 obtain⟨t,rfl⟩:=ri
 obtain⟨its,n,r,ho,hz⟩:=I.lst hp
 obtain⟨h1,h2,h3,h4⟩:=DM hj
 have hl:=r.length
 have hn:=rQ
 have I':Inv X pins σ (upd H p (.lst (xs.set j v))) {s with heap:=s.heap.update p (Obj.mapSeq (·.setIfInBounds j u))} :=
  I.HI hp ho (QN its n j u) (r.set rv j) (by rw[List.length_set];exact hz) s.toks
 by_cases h0:0≤k
 ·have hk:k.toNat=j:=by
   rw[seqIndex_of h0 h4]at h1
   exact Option.some.inj h1
  exact PySem.W.ki_setAt ho h0 (by omega) (by rw[List.size_toArray,←hl];exact h4) (by rw[hk];exact⟨_,I',q⟩)
 ·have hk:(k+(its.toArray.size:Int)).toNat=j:=by
   rw[seqIndex_neg (by omega) h3]at h1
   rw[List.size_toArray,←hl]
   exact Option.some.inj h1
  exact PySem.W.ki_setBack ho (by omega) (by rw[List.size_toArray,←hl];exact h3) (by omega) (by rw[hk];exact⟨_,I',q⟩)
theorem Um (lo hi:Option Int) (n:Nat):(sliceBounds lo hi none n).1=((HT.aF n 0 lo:Nat):Int)∧(sliceBounds lo hi none n).2.1=((HT.aF n n hi:Nat):Int)∧(sliceBounds lo hi none n).2.2=1:=by
 refine⟨?_,?_,rfl⟩
 ·cases lo with
  |none=>simp[sliceBounds,HT.aF]
  |some i=>
   simp only[sliceBounds,HT.aF,Option.getD_none,show(1:Int)>0 by decide,if_true]
   by_cases h:i<0
   ·simp only[h,if_true]<;>omega
   ·simp only[h,if_false]<;>omega
 ·cases hi with
  |none=>simp[sliceBounds,HT.aF]
  |some i=>
   simp only[sliceBounds,HT.aF,Option.getD_none,show(1:Int)>0 by decide,if_true]
   by_cases h:i<0
   ·simp only[h,if_true]<;>omega
   ·simp only[h,if_false]<;>omega
theorem WB (its:List Value) (lo hi:Option Int):slicePick its.toArray lo hi none=((its.drop (HT.aF its.length 0 lo)).take (HT.aF its.length its.length hi - HT.aF its.length 0 lo)).toArray:=by
 obtain⟨h1,h2,h3⟩:=Um lo hi its.toArray.size
 unfold slicePick
 rw[h1,h2,h3]
 simp only[sliceRange_one,pick_run,List.size_toArray]<;>rfl
def F1 (K:PySem.W.Frag):V→Option Int→Option Int→Hp→VK→Prop:=fun x lo hi H Q=> ∃a xs,x=.ref a∧ag K H a xs∧∀p,H p=none→Q (.ref p) (upd H p (.lst (cX xs lo hi)))
theorem DI:yk X (F1 X.K):=by
 intro pins s σ H x v vl vu lo hi sl Q I rx hs pl pu h
 obtain⟨a,xs,rfl,hx,q⟩:=h
 cases rx
 obtain⟨its,r,ht,hz⟩:=I.list hx
 have hlen:=r.length
 refine⟨"list",_,slot_list_getitem.lookup,ht.isList.typeIs,?_⟩
 refine wpAny_getItem_list_slice ht.isList hs pl pu .none (by simp) ?_ (by rw[List.size_toArray]<;>omega)
 rw[WB,←hlen]
 refine⟨.ref s.heap.objs.size,_,I.laid (t':=s.toks) (o:=.lst (cX xs lo hi)) (fun b ob q=>Heap.get?_push_of_some _ q) (Nat.le_refl _) ?_,rfl,q _ (I.ah.fresh (Nat.le_refl _))⟩
 exact⟨Nat.le_trans (JI xs lo hi) hz,_,0,(r.drop (HT.aF xs.length 0 lo)).take (HT.aF xs.length xs.length hi - HT.aF xs.length 0 lo),Heap.get?_push_size _ rfl⟩
def dq:V→Bool
 | .af=>true
 | .bl _=>true
 | .int _=>true
 | .str _=>true
 |_=>false
def cD:V→V→Bool
 | .af,.af=>true
 | .bl a,.bl b=>a==b
 | .bl a,.int b=> (if a then 1 else 0)==b
 | .int a,.bl b=>a==(if b then 1 else 0)
 | .int a,.int b=>a==b
 | .str a,.str b=>a==b
 |_,_=>false
theorem Nd {A:Around}{s:Shared}{y x:V}{u v:Value}(ry:RelV y u) (rx:RelV x v) (fy:dq y=true) (fx:dq x=true):SeqAt.EqAt A s u v (cD y x):=by
 cases y with
 |af=>
  cases ry
  cases x with
  |af=>cases rx;exact SeqAt.EqAt.same _
  |bl b=>cases rx;exact SeqAt.EqAt.none_bool b
  |int b=>obtain⟨t,rfl⟩:=rx;exact SeqAt.EqAt.none_int b t
  |str b=>obtain⟨t,rfl⟩:=rx;exact SeqAt.EqAt.none_str b t
  |_=>exact absurd (show false=true from fx) Bool.false_ne_true
 |bl a=>
  cases ry
  cases x with
  |af=>cases rx;exact SeqAt.EqAt.bool_none a
  |bl b=>cases rx;exact SeqAt.EqAt.bool_bool a b
  |int b=>obtain⟨t,rfl⟩:=rx;exact SeqAt.EqAt.bool_int a b t
  |str b=>obtain⟨t,rfl⟩:=rx;exact SeqAt.EqAt.bool_str a b t
  |_=>exact absurd (show false=true from fx) Bool.false_ne_true
 |int a=>
  obtain⟨t',rfl⟩:=ry
  cases x with
  |af=>cases rx;exact SeqAt.EqAt.int_none a t'
  |bl b=>cases rx;exact SeqAt.EqAt.int_bool a t' b
  |int b=>obtain⟨t,rfl⟩:=rx;exact SeqAt.EqAt.int_int a t' b t
  |str b=>obtain⟨t,rfl⟩:=rx;exact SeqAt.EqAt.int_str a t' b t
  |_=>exact absurd (show false=true from fx) Bool.false_ne_true
 |str a=>
  obtain⟨t',rfl⟩:=ry
  cases x with
  |af=>cases rx;exact SeqAt.EqAt.str_none a t'
  |bl b=>cases rx;exact SeqAt.EqAt.str_bool a t' b
  |int b=>obtain⟨t,rfl⟩:=rx;exact SeqAt.EqAt.str_int a t' b t
  |str b=>obtain⟨t,rfl⟩:=rx;exact SeqAt.EqAt.str_str a t' b t
  |_=>exact absurd (show false=true from fx) Bool.false_ne_true
 |_=>exact absurd (show false=true from fy) Bool.false_ne_true
def fG (x:V) (u:Value):Bool:=match u with
 | .none=>cD .af x
 | .bool b=>cD (.bl b) x
 | .int i _=>cD (.int i) x
 | .str z _=>cD (.str z) x
 |_=>false
theorem UG {x y:V}{u:Value}(r:RelV y u) (f:dq y=true):fG x u=cD y x:=by
 cases y with
 |af=>cases r;rfl
 |bl b=>cases r;rfl
 |int i=>obtain⟨t,rfl⟩:=r;rfl
 |str z=>obtain⟨t,rfl⟩:=r;rfl
 |_=>exact absurd (show false=true from f) Bool.false_ne_true
theorem UJ {x:V} :∀{xs:List V}{us:List Value},Vals xs us→xs.all dq=true→us.any (fG x)=xs.any fun y=>cD y x
 |_,_,.nil,_=>rfl
 |y::xs,u::us,.cons r t,f=>by
  rw[List.all_cons,Bool.and_eq_true]at f
  rw[List.any_cons,List.any_cons,UG r f.1,UJ t f.2]
theorem Yw {A:Around}{s:Shared}{x:V}{v:Value}(rx:RelV x v) (fx:dq x=true):∀{xs:List V}{us:List Value},Vals xs us→xs.all dq=true→∀u∈us,SeqAt.EqAt A s u v (fG x u)
 |_,_,.nil,_=>fun u hu=>by cases hu
 |y::xs,u::us,.cons r t,f=>fun u' hu=>by
  rw[List.all_cons,Bool.and_eq_true]at f
  rcases List.mem_cons.mp hu with rfl |hu
  ·rw[UG r f.1];exact Nd r rx f.1 fx
  ·exact Yw rx fx t f.2 u' hu
def dC (x:V) (xs:List V):Bool:=xs.any fun y=>cD y x
def vB (K:PySem.W.Frag) (neg:Bool):R2:=fun x y H Q=> ∃p xs,y=.ref p∧(ag K H p xs∨ai K H p xs)∧dq x=true∧xs.all dq=true∧Q (.bl (if neg then !dC x xs else dC x xs)) H
theorem Jc:bo X (compareOp .NotIn) (vB X.K true):=by
 intro pins s σ H x y v u Q I rx ry h
 obtain⟨p,xs,rfl,hq,fx,fs,q⟩:=h
 cases ry
 rcases hq with hq |hq
 ·obtain⟨its,r,pl,hz⟩:=I.list hq
  refine SeqAt.notIn_listAt (fG x) pl.isList (fun w hw=>Yw rx fx r fs w (by simpa using hw)) ⟨.bl _,H,I,rfl,?_⟩
  rw[show its.toArray.any (fG x)=its.any (fG x) by simp,UJ r fs]
  exact q
 ·obtain⟨its,r,pl,hz⟩:=I.tuple hq
  refine SeqAt.notIn_tupleAt (fG x) pl (fun w hw=>Yw rx fx r fs w (by simpa using hw)) ⟨.bl _,H,I,rfl,?_⟩
  rw[show its.toArray.any (fG x)=its.any (fG x) by simp,UJ r fs]
  exact q
theorem Zy:fX X (.builtin "len") (fun xs H Q=> ∃p ys,xs=[.ref p]∧(ag X.K H p ys∨ai X.K H p ys)∧Q (.int ys.length) H):=by
 intro pins s σ H xs us Q I r h
 obtain⟨p,ys,rfl,hq,q⟩:=h
 obtain⟨u,rfl,rx⟩:=vals1 r
 cases rx
 have hn:=rQ
 rcases hq with hq |hq
 ·obtain⟨its,r',pl,hz⟩:=I.list hq
  have hlen:=r'.length
  exact Calls.call_len_list pl.isList (by simp only[List.size_toArray]<;>omega) ⟨.int ys.length,H,I.tok _,⟨s.toks+1,by rw[List.size_toArray,hlen]⟩,q⟩
 ·obtain⟨its,r',pl,hz⟩:=I.tuple hq
  have hlen:=r'.length
  exact len_tuple pl (by simp only[List.size_toArray]<;>omega) ⟨.int ys.length,H,I.tok _,⟨s.toks+1,by rw[List.size_toArray,hlen]⟩,q⟩
def uj (K:PySem.W.Frag) (T:String) (x:V) (H:Hp):Prop:=match x with
 | .str _=>T= "str"
 | .int _=>T= "int"
 | .ref p=> (T= "list" ∧∃xs,ag K H p xs)∨(T= "tuple" ∧((∃o,K.lookup p=some o∧o.cls=.type "tuple" ∧o.dict=none)∨∃xs,H p=some (.tup xs)))∨
   (T= "dict" ∧((∃bX,H p=some (.dK bX))∨∃bX,H p=some (.dT bX)))∨(T= "set" ∧∃S n,H p=some (.set S n))
 |_=>False
theorem Dm {pins:List (Addr×Obj)}{σ:St}{H:Hp}{s:Shared}{T:String}{x:V}{v:Value}(I:Inv X pins σ H s) (r:RelV x v) (ty:uj X.K T x H):
  s.TypeIs v T∧∀a,v=.ref a→∃ob,s.heap.get? a=some ob∧ob.dict=none:=by
 cases x with
 |str z=>
  obtain⟨t,rfl⟩:=r
  cases (show T= "str" from ty)
  exact⟨typeIs_str s z t,fun _ e=>nomatch e⟩
 |int i=>
  obtain⟨t,rfl⟩:=r
  cases (show T= "int" from ty)
  exact⟨typeIs_int s i t,fun _ e=>nomatch e⟩
 |ref p=>
  cases r
  rcases ty with ⟨rfl,xs,hq⟩ |⟨rfl,⟨o,hk,hc,hd⟩ |⟨xs,hx⟩⟩ |⟨rfl,hk⟩ |⟨rfl,S,n,hk⟩
  ·obtain⟨its,_,pl,_⟩:=I.list hq
   refine⟨pl.isList.typeIs,fun a e=> ?_⟩
   cases e
   obtain⟨o,n,e,c,hd,_⟩:=pl
   exact⟨o,e,hd⟩
  ·refine⟨⟨o,I.cG p o hk,hc⟩,fun a e=> ?_⟩
   cases e
   exact⟨o,I.cG _ o hk,hd⟩
  ·obtain⟨_,_,_,⟨o,e,c,_⟩,o2,e2,hd⟩:=(show cb X.prog X.w H s.heap p (.tup xs) from I.ah p _ hx)
   refine⟨⟨o,e,c⟩,fun a e3=> ?_⟩
   cases e3
   exact⟨o2,e2,hd⟩
  ·have z:∃o,s.heap.get? p=some o∧o.ExactDict:=by
    rcases hk with ⟨bX,hk⟩ |⟨bX,hk⟩
    ·obtain⟨_,_,_,_,o,_,_,e,ex,_⟩:=I.ah p _ hk
     exact⟨o,e,ex⟩
    ·obtain⟨_,_,_,_,o,_,_,e,ex,_⟩:=I.ah p _ hk
     exact⟨o,e,ex⟩
   obtain⟨o,e,ex⟩:=z
   refine⟨⟨o,e,ex.1⟩,fun a e2=> ?_⟩
   cases e2
   exact⟨o,e,ex.2.1⟩
  ·obtain⟨o,_,_,_,e,ex,_⟩:=I.ah p _ hk
   refine⟨⟨o,e,ex.1⟩,fun a e2=> ?_⟩
   cases e2
   exact⟨o,e,ex.2.1⟩
 |_=>exact False.elim ty
def Fh (K:PySem.W.Frag) (T:String) (r:V→List V→Hp→VK→Prop) (to:TE):TE:=fun σ H Q=>to σ H fun x H1=>uj K T x H1∧r x [] H1 Q
def uu (K:PySem.W.Frag) (T:String) (r:V→List V→Hp→VK→Prop) (to:TE) (t:TA):TE:=fun σ H Q=>to σ H fun x H1=>uj K T x H1∧t σ H1 fun xs H2=>r x xs H2 Q
variable {o e:Expr}{es:List Expr}{to:TE}{t:TA}{name:Str}{apos bZ:Pos}{T id:String}{r:V→List V→Hp→VK→Prop}
theorem Ou (pa:PlainAttrs T) (slot:Slot T name id) (wc:typeOf (.builtin id)=pure (.type "method_descriptor")) (hm:ql X id r) (ho:PE X o to)
  (xf:attributeBase o name X.env (eval o X.env)=eval o X.env:=by rfl) (wI:(apos.endLine==bZ.line)=true:=by rfl):PE X (.Call (.Attribute o name apos) [] [] bZ) (Fh X.K T r to):=by
 intro pins s σ H Q I h
 refine wpAny_Call_method0_late xf wI (au (ho pins s σ H _ I h) fun v s1 ⟨x,H1,I1,r1,ty,q1⟩=> ?_)
 obtain⟨h1,h2⟩:=Dm I1 r1 ty
 exact⟨T,id,pa,slot,wc,h1,h2,Calls.callWith_builtin rfl (PySem.evalArgs_none (hm pins s1 σ H1 x [] v [] Q I1 r1 .nil q1))⟩
theorem Yc (pa:PlainAttrs T) (slot:Slot T name id) (wc:typeOf (.builtin id)=pure (.type "method_descriptor")) (hm:ql X id r) (ho:PE X o to) (ha:PA X (e::es) t)
    (xf:attributeBase o name X.env (eval o X.env)=eval o X.env:=by rfl)
    (KW:((backTo bZ (starEach (e::es) X.env)).all (fun x=> !x.1)&&(backToKw bZ (keywordEach [] X.env)).all (fun x=>x.1.isSome)
      &&decide ((e::es).length+([]:List Keyword).length+(if ([]:List Keyword).isEmpty then 0 else 1)<30))=true:=by rfl)
    (wI:(apos.endLine==bZ.line)=true:=by rfl) (hs:starEach (e::es) X.env=(false,eval e X.env)::starEach es X.env:=by rfl) (Kc:(backTo bZ (starEach es X.env)).any (·.1)=false:=by rfl):
    PE X (.Call (.Attribute o name apos) (e::es) [] bZ) (uu X.K T r to t):=by
  intro pins s σ H Q I h
  refine wpAny_Call_method_late xf KW wI rfl (au (ho pins s σ H _ I h) fun v s1 ⟨x,H1,I1,r1,ty,q1⟩=> ?_)
  obtain⟨h1,h2⟩:=Dm I1 r1 ty
  refine⟨T,id,pa,slot,wc,h1,h2,?_⟩
  have hA:=ha bZ pins s1 σ H1 _ I1 q1
  rw[hs]at hA ⊢
  refine Calls.callWith_builtin (by show(false||(backTo bZ (starEach es X.env)).any (·.1))=false;rw[Kc]<;>rfl) (Calls.evalArgs_plain ?_)
  exact au hA fun us s2 ⟨vs,H2,I2,r2,q2⟩=>hm pins s2 σ H2 x vs v us Q I2 r1 r2 q2
end
def yq (X:Cx) (id:String) (r:V→List V→Hp→VK→Prop):Prop:=
 ∀(pins:List (Addr×Obj)) (s:Shared) (σ:St) (H:Hp) (x:V) (xs:List V) (v:Value) (us:List Value) (Q:VK),Inv X pins σ H s→RelV x v→Vals xs us→r x xs H Q→
  wpAny (model X.prog X.w) X.A (call (.builtin id) (v::us)) (EP X pins σ Q) X.xe s
theorem Vals.one:∀{x:V}{us:List Value},Vals [x] us→∃u,us=[u]∧RelV x u
 |_,_,.cons r .nil=> ⟨_,rfl,r⟩
theorem Vals.zero:∀{us:List Value},Vals [] us→us=[]
 |_,.nil=>rfl
theorem Vals.reverse {xs:List V}{us:List Value}(h:Vals xs us):Vals xs.reverse us.reverse:=by
 induction h with
 |nil=>exact .nil
 |cons r t ih=>rw[List.reverse_cons,List.reverse_cons];exact Vals.append ih (.cons r .nil)
theorem Vals.rep {xs:List V}{us:List Value}(h:Vals xs us):∀k:Nat,Vals (List.replicate k xs).flatten (List.replicate k us).flatten
 |0=> .nil
 |k+1=>by
  rw[List.replicate_succ,List.replicate_succ,List.flatten_cons,List.flatten_cons]
  exact Vals.append h (Vals.rep h k)
theorem Jy (its:List Value):∀(k:Nat) (acc:List Value),
  List.foldl (fun x1 x2=>x1++x2) acc.toArray (List.replicate k its.toArray)=(acc++(List.replicate k its).flatten).toArray
 |0,acc=>by simp
 |k+1,acc=>by
  have e:acc.toArray++its.toArray=(acc++its).toArray:=by simp
  have e2:(acc++its)++(List.replicate k its).flatten=acc++(List.replicate (k+1) its).flatten:=by
   rw[List.replicate_succ,List.flatten_cons,List.append_assoc]
  rw[←e2,←Jy its k (acc++its),←e,List.replicate_succ,List.foldl_cons]
section
variable {X:Cx}{pins:List (Addr×Obj)}{σ:St}{H:Hp}{s:Shared}{l b:Addr}{xs ys zs:List V}
theorem Inv.vQ {its its':List Value}{n:Nat}{f:Array Value→Array Value}{t':Nat}(I:Inv X pins σ H s) (hH:H l=some (.lst xs))
  (e:s.heap.get? l=some {cls:=.type "list",data:=.seq its.toArray n}) (hf:f its.toArray=its'.toArray) (hv:Vals ys its') (hz:ys.length≤sizeLine):
  Inv X pins σ (upd H l (.lst ys)) {s with heap:=s.heap.update l (Obj.mapSeq f),toks:=t'} :=by
 have q:=PySem.IsL.update e f
 rw[hf]at q
 refine I.write (x:=l) (e:=l) (by rw[hH];exact trivial) (.inl rfl) (fun b' u hb hu=> (Heap.get?_update_other s.heap (Obj.mapSeq f) (Ne.symm hb)).trans hu) ⟨_,q⟩ ?_
 exact⟨hz,its',_,hv,q⟩
theorem Inv.AH {its:List Value}{t':Nat}(I:Inv X pins σ H s) (hv:Vals ys its) (hz:ys.length≤sizeLine):
  Inv X pins σ (upd H s.heap.objs.size (.lst ys)) {s with heap:=s.heap.push {cls:=.type "list",data:=.seq its.toArray},toks:=t'} :=
 I.laid (fun _ _ q=>Heap.get?_push_of_some _ q) (Nat.le_refl _) ⟨hz,its,0,hv,Heap.get?_push_size _ rfl⟩
theorem Inv.fresh (I:Inv X pins σ H s):H s.heap.objs.size=none:=I.ah.fresh (Nat.le_refl _)
theorem Inv.kX (I:Inv X pins σ H s) (hH:H l=some (.lst xs)):xs.length≤sizeLine∧∃(its:List Value) (n:Nat),Vals xs its∧xs.length=its.length∧s.heap.get? l=some {cls:=.type "list",data:=.seq its.toArray n} :=by
 obtain⟨z,its,n,r,e⟩:=I.ah l _ hH
 exact⟨z,its,n,r,r.length,e⟩
theorem An {n:Nat}(h:n≤sizeLine):Builtin.List.listTooLong n=false:=by
 unfold Builtin.List.listTooLong
 exact decide_eq_false (by omega)
end
section
variable {X:Cx}
def Gg:V→List V→Hp→VK→Prop:=fun x vs H Q=> ∃l xs y,x=.ref l∧vs=[y]∧H l=some (.lst xs)∧xs.length<sizeLine∧Q .af (upd H l (.lst (xs++[y])))
theorem ZS:yq X "list.append" Gg:=by
 intro pins s σ H x vs v us Q I rx rv h
 obtain⟨l,xs,y,rfl,rfl,hH,hz,q⟩:=h
 cases rx
 obtain⟨u,rfl,ru⟩:=rv.one
 obtain⟨z,its,n,r,hl,e⟩:=I.kX hH
 refine call_meets F.slot_list_append ⟨_,e,rfl⟩ F.entry_list_append (F.args_list_append_2 _ _) (PySem.list_append l its.toArray n u (by rw[List.size_toArray];omega)) ⟨e,?_⟩
 refine⟨.af,_,I.vQ (its':=its++[u]) hH e (by simp) (r.append (.cons ru .nil)) ?_,rfl,q⟩
 rw[List.length_append,List.length_singleton]
 omega
def Gb:V→List V→Hp→VK→Prop:=fun x vs H Q=> ∃l b xs zs,x=.ref l∧vs=[.ref b]∧H l=some (.lst xs)∧H b=some (.lst zs)∧xs.length+zs.length≤sizeLine∧Q .af (upd H l (.lst (xs++zs)))
theorem WX:yq X "list.extend" Gb:=by
 intro pins s σ H x vs v us Q I rx rv h
 obtain⟨l,b,xs,zs,rfl,rfl,hH,hB,hz,q⟩:=h
 cases rx
 obtain⟨u,rfl,ru⟩:=rv.one
 cases ru
 obtain⟨z,its,n,r,hl,e⟩:=I.kX hH
 obtain⟨z2,iS,n2,r2,dQ,e2⟩:=I.kX hB
 have bG:its.toArray.size+iS.toArray.size≤sizeLine:=by rw[List.size_toArray,List.size_toArray];omega
 have wG:¬(!its.toArray.isEmpty&&Builtin.List.listTooLong (its.toArray.size+iS.toArray.size))=true:=by
  rw[An bG,Bool.and_false]
  exact Bool.false_ne_true
 refine call_meets F.slot_list_extend ⟨_,e,rfl⟩ F.entry_list_extend (F.args_list_extend_2 _ _)
  (AutoSeq1.list_extend_list_list_0 l its.toArray n b iS.toArray n2 wG (by rw[List.size_toArray];omega) (by omega)) ⟨e,e2,?_⟩
 refine⟨.af,_,I.vQ (its':=its++iS) hH e (by simp) (r.append r2) ?_,rfl,q⟩
 rw[List.length_append]
 omega
def F3:V→List V→Hp→VK→Prop:=fun x vs H Q=> ∃l xs,x=.ref l∧vs=[]∧H l=some (.lst xs)∧Q .af (upd H l (.lst xs.reverse))
theorem QO:yq X "list.reverse" F3:=by
 intro pins s σ H x vs v us Q I rx rv h
 obtain⟨l,xs,rfl,rfl,hH,q⟩:=h
 cases rx
 have IA:=rv.zero
 subst IA
 obtain⟨z,its,n,r,hl,e⟩:=I.kX hH
 refine call_meets F.slot_list_reverse ⟨_,e,rfl⟩ F.entry_list_reverse (F.args_list_reverse_1 _) (AutoSeq1.list_reverse_list_0 l its.toArray n (by rw[List.size_toArray];omega)) ⟨e,?_⟩
 refine⟨.af,_,I.vQ (its':=its.reverse) hH e (by simp) r.reverse ?_,rfl,q⟩
 rw[List.length_reverse]
 omega
def Gf:R2:=fun x y H Q=> ∃l b xs zs,x=.ref l∧y=.ref b∧H l=some (.lst xs)∧H b=some (.lst zs)∧xs.length+zs.length≤sizeLine∧∀p,H p=none→Q (.ref p) (upd H p (.lst (xs++zs)))
theorem Yk:bo X (binaryOp .Add) Gf:=by
 intro pins s σ H x y v u Q I rx ry h
 obtain⟨l,b,xs,zs,rfl,rfl,hH,hB,hz,q⟩:=h
 cases rx
 cases ry
 obtain⟨z,its,n,r,hl,e⟩:=I.kX hH
 obtain⟨z2,iS,n2,r2,dQ,e2⟩:=I.kX hB
 refine PySem.P.add_list e e2 ?_ (by rw[List.size_toArray,List.size_toArray];omega)
 have ea:its.toArray++iS.toArray=(its++iS).toArray:=by simp
 rw[ea]
 exact⟨.ref _,_,I.AH (t':=s.toks) (r.append r2) (by rw[List.length_append];omega),rfl,q _ I.fresh⟩
def F5:R2:=fun x y H Q=> ∃l k xs,x=.ref l∧y=.int k∧H l=some (.lst xs)∧ -(2^63)≤k∧k<2^63∧xs.length*k.toNat≤sizeLine∧
 ∀p,H p=none→Q (.ref p) (upd H p (.lst (List.replicate k.toNat xs).flatten))
theorem UD {α:Type}(xs:List α) (k:Nat):(List.replicate k xs).flatten.length=k*xs.length:=by
 induction k with
 |zero=>simp
 |succ k ih=>rw[List.replicate_succ,List.flatten_cons,List.length_append,ih,Nat.succ_mul,Nat.add_comm]
theorem ye:bo X (binaryOp .Mult) F5:=by
  intro pins s σ H x y v u Q I rx ry h
  obtain⟨l,k,xs,rfl,rfl,hH,h1,h2,hz,q⟩:=h
  cases rx
  obtain⟨t,rfl⟩:=ry
  obtain⟨z,its,n,r,hl,e⟩:=I.kX hH
  have hlen:its.toArray.size*k.toNat≤sizeLine:=by rw[List.size_toArray,←hl];exact hz
  have La:¬its.toArray.size*k.toNat> (2^63 - 1)/8:=by
    have:(sizeLine:Nat)≤(2^63 - 1)/8:=by decide
    omega
  have ka:¬(!Builtin.List.listFitsIndex k)=true:=by
    rw[fitsIndex_both h1 h2]
    exact Bool.false_ne_true
  have wG:¬Builtin.List.listTooLong (its.toArray.size*k.toNat)=true:=by
    rw[An hlen]
    exact Bool.false_ne_true
  have Kn:List.foldl (fun x1 x2=>x1++x2) #[] (List.replicate (if its.toArray.isEmpty=true then 0 else k.toNat) its.toArray)=(List.replicate k.toNat its).flatten.toArray:=by
    have f0:∀m:Nat,List.foldl (fun x1 x2=>x1++x2) #[] (List.replicate m its.toArray)=(List.replicate m its).flatten.toArray:=fun m=>by
      have:=Jy its m []
      rw[List.nil_append]at this
      exact this
    rw[f0]
    cases its with
    |nil=>simp
    |cons a r'=>rw[if_neg (by simp)]
  refine wpAny_binaryOp_repeat_ref (T:= "list") (U:= "int") (by decide) ⟨_,e,rfl⟩ (fun s'=>typeIs_int s' k t) noFill_list_mul F.fills_int_mul F.slot_int_rmul repeat_list F.slot_int_index.lookup
    (call_meets F.slot_int_rmul (typeIs_int s k t) F.entry_int_rmul (F.args_int_rmul_2 _ _) (int___rmul___int_list k t l its.toArray n)
      ⟨e,rfl,⟨_,e,rfl⟩,call_meets F.slot_list_mul ⟨_,e,rfl⟩ F.entry_list_mul (F.args_list_mul_2 _ _) (AutoListH.list___mul___list_int_3 l its.toArray n k t ka La wG) ⟨e,?_⟩⟩)
  rw[Kn]
  exact⟨.ref _,_,I.AH (t':=s.toks) (r.rep k.toNat) (by rw[UD,Nat.mul_comm];exact hz),rfl,q _ I.fresh⟩
end
end L2
namespace Ei
open PySem PySem.W PySem.Calls PyProof.Rows
theorem JL {P:Params}{h:Heap} :∀(ns:List Int) (vs:List Value),WellAll P h vs (ns.map WData.int)→IntsAre vs ns:=by
 intro ns
 induction ns with
 |nil=>
  intro vs w
  rw[List.map_nil]at w
  cases w
  exact .nil
 |cons n ns ih=>
  intro vs w
  rw[List.map_cons]at w
  cases w with
  |cons a b=>
   cases a
   exact .cons _ _ (ih _ b)
theorem PB {l:OpenLaw}{n:Nat}(hn:l.most=some n) {P:Params}{h:Heap}{args:List WData}{vals:List Value}
  (sh:l.row.toRowW.claim.pre args=true) (wa:WellAll P h vals args):
  ∃a vs ns,vals=[Value.ref a]∧args=[WData.list (ns.map WData.int)]∧h.get? a=some {cls:=.type "list",data:=.seq vs.toArray}∧IntsAre vs ns∧ns.length≤n:=by
 have IQ:WShape.hasAll [] args [.list .int]=true:=(pre_splitW sh).1
 have hc:l.pre.holds [] {args:=args} =true:=(pre_splitW sh).2
 obtain⟨d,r,rfl,h1,h2⟩:=hasAllW_cons IQ
 obtain rfl:=hasAllW_nil h2
 obtain⟨xs,rfl,h3⟩:=hasW_list h1
 obtain⟨ns,rfl⟩:=items_int h3
 have hlen:ns.length≤n:=by
  unfold OpenLaw.pre at hc
  have h4:(WTm.not (.lt (.lit (.int (n:Int))) (.len (.arg 0)))).holds [] {args:=[.list (ns.map .int)]} =true:=by
   have h4:=(holds_andW hc).1
   rw[hn]at h4
   exact h4
  have h5:=condW_of h4 (w_not (w_lt w_lit (w_len_list (w_arg rfl))))
  rw[List.length_map]at h5
  refine Nat.le_of_not_lt fun q=> ?_
  have q':(n:Int)< ((ns.length:Nat):Int):=by omega
  first
   |(rw[decide_eq_true q']at h5;exact absurd h5 (by decide))
   |(simp at h5;omega)
 cases wa with
 |cons w1 w2=>
  cases w2
  cases w1 with
  |list ho cW=>exact⟨_,_,ns,rfl,rfl,ho,JL ns _ cW,hlen⟩
theorem Py (l:OpenLaw) (args:List WData):l.row.toRowW.claim.post args (.bool true) args=true:=
 postW_of (r:=l.row.toRowW) (X:=(true==true))
  (show WShape.has [] (.bool true) .bool=true by first |rfl |decide |simp[WShape.has,WShape.arms,WShape.armsAll])
  (show(WTm.eq .res (.lit (.bool true))).value [] {args:=args,res:=some (.bool true),after:=args} =some (.bool (true==true)) from w_eq_bool (w_res rfl) w_lit) rfl
theorem MW {l:OpenLaw}{n:Nat}{q:Program}{loose:List Str}{XP:(Str→Option Value)→Heap→Prop}{YP:World→Heap→Prop}{d:DefRec}
    (hn:l.most=some n) (wX:d.params.defaults=[])
    (call:∀(w:World) (bW aJ:Shared) (mg mb:Str→Option Value) (fa:Addr) (o:Obj) (pm cd doc:Value) (a:Addr) (vs:List Value) (ns:List Int),
      Ground q loose [] XP w bW mg mb aJ.heap→YP w aJ.heap→
      aJ.heap.get? fa=some o→o.data=.func (docDef d.name d.params d.body d.scope pm cd doc)→aJ.heap.CodeRec cd d.name→mg d.name=some (.ref fa)→
      aJ.heap.get? a=some {cls:=.type "list",data:=.seq vs.toArray}→IntsAre vs ns→ns.length≤n→aJ.gens= #[]→
      codeAny (model l.prog w) callerA (.call (.ref fa) ⟨[.ref a],[]⟩) (fun r s'=>r=.ok (.ret (.bool true))∧OldK aJ.heap s'.heap∧s'.os=aJ.os∧AllBare s'.gens) aJ):
    WalkO q loose XP YP l.row.toRowW d [] (fun f vs=>PySem.call f vs):=by
  intro w bW aJ mg mb G Y fa o pm cd doc dV kV ho hd cQ hD hmg hg args vals as sh SE Sw wa wH
  obtain rfl:dV=.none:=Dflts.none hD wX
  obtain rfl:kV=.none:=Dflts.noKw hD
  obtain⟨a,vs,ns,rfl,rfl,wB,hints,hlen⟩:=PB hn sh wa
  refine enter_call (codeAny_mono (call w bW aJ mg mb fa o pm cd doc a vs ns G Y ho (fd_plain hd) cQ hmg wB hints hlen hg) fun r s' hq=> ?_)
  obtain⟨rfl,h2,h3,h4⟩:=hq
  exact⟨.inl ⟨.bool true,.bool true,[],rfl,fun _=>rfl,.bool true,Py l _,fun _=> ⟨List.Pairwise.nil,fun _ hm=> (nomatch hm)⟩⟩,h2,h3,h4⟩
end Ei
namespace L2
open PySem PySem.Spec PyProof.Rows
theorem WK:∀{vs:List Value}{ns:List Int},IntsAre vs ns→Vals (ns.map V.int) vs
 |_,_,.nil=> .nil
 |_,_,.cons n t h=> .cons ⟨t,rfl⟩ (WK h)
def fQ (s:Stmt):Arguments:=match s with
 | .FunctionDef _ a _ _ _ _ _ _ _ _=>a
 |_=> {posonlyargs:=[],args:=[],vararg:=none,kwonlyargs:=[],kw_defaults:=[],kwarg:=none,defaults:=[]}
def dG (s:Stmt):List Stmt:=match s with
 | .FunctionDef _ _ b _ _ _ _ _ _ _=>b
 |_=> []
def ay (s:Stmt):Scope:=match s with
 | .FunctionDef _ _ _ _ _ _ sc _ _ _=>sc
 |_=> {kind:=.function,names:=[],isGenerator:=false,isCoroutine:=false}
abbrev aI:jf:=fun _ _ _ _ _ _=>False
abbrev E0:XK:=fun _ _ _=>False
theorem Gj {X:Cx} :Passes aI X E0:=fun _ _ _ _ _ _ _ h=>h.elim
structure aH (K:PySem.W.Frag) (x qual:Str) (st:Stmt) (f:Addr) (fd:FuncData):Prop where
 ex:∃(oc:Value) (od:Option Addr) (kV doc pm:Value) (an:Option Addr) (ao ct:Value) (eX:Array (Option Value)),
  fd=PySem.W.fnOf x qual (fQ st) (dG st) (ay st) .none kV doc pm an ao ct∧K.lookup f=some ⟨oc,od,.func fd,eX⟩∧PySem.W.codeIn K ao qual=true
 kp:PySem.W.keepIn K (.ref f)=true
section
variable {P:Program}{w:World}{K:PySem.W.Frag}{mg:Str→Option Value}{base:Heap}
theorem aH.ok {x qual:Str}{st:Stmt}{f:Addr}{fd:FuncData}{N ps:List Str}{k:Nat}{sp:Sp}(F:aH K x qual st f fd) (S:bg N ps (ay st)) (len:∀vs H Q E,sp vs H Q E→vs.length=ps.length)
    (w9:∀(ao:Value) (A:Around) (outer:List Env) (s:Shared) (H:Hp) (vs:List V) (Q:VK) (E:XK),bP k (A.deeper (envOfC qual (ay st) s.heap.objs.size f ao))→sp vs H Q E→
      ∃t,eQ (bY aI P w K mg base N qual (ay st) f ao A outer s H E).ft (dG st) t∧t {nx:=fun _ H'=>Q .af H',rt:=Q} (start N vs) H):aA P w K mg base aI (k+1) f fd ps sp:=by
  obtain⟨oc,od,kV,doc,pm,an,ao,ct,eX,rfl,lk,cQ⟩:=F.ex
  refine ya lk cQ S len fun A outer s H vs Q E hr dD=> ?_
  obtain⟨t,h,q⟩:=w9 ao A outer s H vs Q E hr dD
  exact⟨t,h.ft,q⟩
theorem aH.binds {x qual:Str}{st:Stmt}{f:Addr}{fd:FuncData}{ps:List Str}(F:aH K x qual st f fd)
  (h:∀(kV doc pm:Value) (an:Option Addr) (ao ct:Value) (us:List Value),us.length=ps.length→bindArgs (PySem.W.fnOf x qual (fQ st) (dG st) (ay st) .none kV doc pm an ao ct) ⟨us,[]⟩=pure (ps.zip us)):Binds K fd ps []:=by
 obtain⟨oc,od,kV,doc,pm,an,ao,ct,eX,rfl,lk,cQ⟩:=F.ex
 exact .all (h kV doc pm an ao ct)
theorem Nf {x qual:Str}{st:Stmt}{f:Addr}{oc:Value}{od an:Option Addr}{eX:Array (Option Value)}{kV doc pm ao ct:Value}(l:K.lookup f=some ⟨oc,od,.func (PySem.W.fnOf x qual (fQ st) (dG st) (ay st) .none kV doc pm an ao ct),eX⟩)
  (c:PySem.W.codeIn K ao qual=true) (k:PySem.W.keepIn K (.ref f)=true):aH K x qual st f (PySem.W.fnOf x qual (fQ st) (dG st) (ay st) .none kV doc pm an ao ct):=⟨⟨oc,od,kV,doc,pm,an,ao,ct,eX,rfl,l,c⟩,k⟩
end
theorem CJ {A:Around}{k:Nat}(hr:bP k A):A.units+1<cLine:=Nat.lt_of_le_of_lt (Nat.add_le_add_left (by decide:1≤64) _) hr.units
theorem zl {n:Nat}(h:n≤1000):n<sizeLine:=Nat.lt_of_le_of_lt h (by decide)
section
variable {X:Cx}
theorem pv (i:Nat) {x:Str}{pos:Pos}(hN:X.N[i]? =some x:=by rfl) (hv:qh X.env.scope x:=by first |exact Or.inl rfl |exact Or.inr (Or.inl rfl) |exact Or.inr (Or.inr rfl)) (hd:(x==("__debug__" :Str))=false:=by decide)
  (cQ:(x==("__classdict__" :Str))=false:=by decide):PE X (.Name x pos) (oh i):=Jr hN hv hd cQ
end
theorem aV {A B:Prop}(h:B):if false=true then A else B:=by
 rw[if_neg Bool.false_ne_true]
 exact h
theorem aW {A B:Prop}(h:A):if true=true then A else B:=by
 rw[if_pos rfl]
 exact h
def ae (H H':Hp):Prop:=∀b o,H b=some o→H' b=some o
theorem ae.refl (H:Hp):ae H H:=fun _ _ h=>h
theorem ae.trans {H H1 H2:Hp}(a:ae H H1) (b:ae H1 H2):ae H H2:=fun c o h=>b c o (a c o h)
theorem ae.free {H H':Hp}(e:ae H H') {l:Addr}(h:H' l=Option.none):H l=Option.none:=by
 cases q:H l with
 |none=>rfl
 |some o=>
  rw[e l o q]at h
  cases h
section
variable {X:Cx}{pins:List (Addr×Obj)}{σ:St}{H:Hp}{s:Shared}{a:Addr}{y v:V}{u r:Value}{o:Option V}{A:Around}{E:Value→Shared→Prop}
theorem Inv.big (I:Inv X pins σ H s):sysModules<s.heap.objs.size:=by
 have h:mainGlobals<s.heap.objs.size:=(I.mod.glob.keeps I.bk).lt
 exact Nat.lt_trans (by decide) h
end
theorem OY {P:Program}{w:World}{H:Hp}(h:Heap) (hb:sysModules<h.objs.size):cb P w H (h.push {cls:=.type "dict",data:=.dict #[]}) h.objs.size (.dK []):=
 ⟨Nat.zero_le _,beq_eq_false_iff_ne.mpr (Ne.symm (Nat.ne_of_lt hb)),[],.nil,Heap.DictOf.new h⟩
def Fe:TE:=fun _ H Q=> ∀p,H p=none→Q (.ref p) (upd H p (.dK []))
section
variable {X:Cx}{pos:Pos}
theorem OQ:PE X (.Dict [] [] pos) Fe:=fun pins s σ H Q I h=>
 wpAny_Dict_empty ⟨.ref s.heap.objs.size,_,I.laid (a:=s.heap.objs.size) (o:=.dK []) (t':=s.toks) (fun _ _ q=>Heap.get?_push_of_some _ q) (Nat.le_refl _) (OY s.heap I.big),rfl,h _ (I.ah.fresh (Nat.le_refl _))⟩
end
structure M1 (X:Cx) (o:Expr) (m:Str) (apos:Pos) (e:Expr) (bZ:Pos):Prop where
 base:attributeBase o m X.env (eval o X.env)=eval o X.env
 tH:((backTo bZ (starEach [e] X.env)).all (fun x=> !x.1)&&(backToKw bZ (keywordEach [] X.env)).all (fun x=>x.1.isSome)
  &&decide (([e]:List Expr).length+([]:List Keyword).length+(if ([]:List Keyword).isEmpty then 0 else 1)<30))=true
 line:(apos.endLine==bZ.line)=true
 trees:backTo bZ (starEach [e] X.env)=[(false,eval e X.env)]
structure M2 (X:Cx) (o:Expr) (m:Str) (apos:Pos) (e f:Expr) (bZ:Pos):Prop where
 base:attributeBase o m X.env (eval o X.env)=eval o X.env
 tH:((backTo bZ (starEach [e,f] X.env)).all (fun x=> !x.1)&&(backToKw bZ (keywordEach [] X.env)).all (fun x=>x.1.isSome)
  &&decide (([e,f]:List Expr).length+([]:List Keyword).length+(if ([]:List Keyword).isEmpty then 0 else 1)<30))=true
 line:(apos.endLine==bZ.line)=true
 trees:backTo bZ (starEach [e,f] X.env)=[(false,eval e X.env),(false,eval f X.env)]
def cR (scope:Scope) (env:Env):List (Str×Addr):=scope.names.foldl (fun cs y=>if y.2==.free then (y.1,(env.cells.lookup y.1).getD 0)::cs else cs) []
theorem Z9 {scope:Scope}{env:Env}(h:∀y∈scope.names,y.2=.free→∃c,env.cells.lookup y.1=some c):closureFor scope env=pure (cR scope env):=by
 unfold closureFor cR
 have key:∀(l:List (Str×NameKind)) (cs:List (Str×Addr)),(∀y∈l,y.2=.free→∃c,env.cells.lookup y.1=some c)→
   (forIn l cs (fun x r=>match x with |(name,kind)=>if (kind==NameKind.free)=true then do let c ←cellOf env name;pure (ForInStep.yield ((name,c)::r)) else pure (ForInStep.yield r)):Sem (List (Str×Addr)))
    =pure (l.foldl (fun cs y=>if y.2==.free then (y.1,(env.cells.lookup y.1).getD 0)::cs else cs) cs):=by
  intro l
  induction l with
  |nil=>intro cs _;rfl
  |cons y l ih=>
   intro cs hl
   obtain⟨n,k⟩:=y
   rw[List.forIn_cons,List.foldl_cons]
   by_cases hk:k=.free
   ·subst hk
    obtain⟨c,hc⟩:=hl (n,.free) List.mem_cons_self rfl
    have bj:env.cells.lookup n=some c:=hc
    have e1:cellOf env n=pure c:=by unfold cellOf;rw[bj]
    simp only[beq_self_eq_true,if_true,e1,bj,Option.getD_some,pure_bind]
    exact ih _ fun y hy=>hl y (List.mem_cons_of_mem _ hy)
   ·have hb:(k==NameKind.free)=false:=by simpa using hk
    simp only[hb,Bool.false_eq_true,if_false,pure_bind]
    exact ih _ fun y hy=>hl y (List.mem_cons_of_mem _ hy)
 simp only[key scope.names [] h,pure_bind]
 all_goals rfl
theorem Yn {scope:Scope}{env:Env}{x:Str}{c:Addr}(h:(cR scope env).lookup x=some c):c=(env.cells.lookup x).getD 0∧(x,NameKind.free)∈scope.names:=by
 unfold cR at h
 have key:∀(l:List (Str×NameKind)) (cs:List (Str×Addr)),(l.foldl (fun cs y=>if y.2==.free then (y.1,(env.cells.lookup y.1).getD 0)::cs else cs) cs).lookup x=some c→
   (c=(env.cells.lookup x).getD 0∧(x,NameKind.free)∈l)∨cs.lookup x=some c:=by
  intro l
  induction l with
  |nil=>intro cs h;exact .inr h
  |cons y l ih=>
   intro cs h
   obtain⟨n,k⟩:=y
   rw[List.foldl_cons]at h
   rcases ih _ h with ⟨h1,h2⟩ |h'
   ·exact .inl ⟨h1,List.mem_cons_of_mem _ h2⟩
   ·by_cases hk:k=.free
    ·subst hk
     simp only[beq_self_eq_true,if_true]at h'
     rw[List.lookup_cons]at h'
     cases hx:x==n with
     |true=>
      rw[hx]at h'
      have e:x=n:=by simpa using hx
      subst e
      have e':(env.cells.lookup x).getD 0=c:=Option.some.inj h'
      exact .inl ⟨e'.symm,List.mem_cons_self⟩
     |false=>rw[hx]at h';exact .inr h'
    ·have hb:(k==NameKind.free)=false:=by simpa using hk
     simp only[hb,Bool.false_eq_true,if_false]at h'
     exact .inr h'
 rcases key _ _ h with h |h
 ·exact h
 ·simp at h
theorem Wu {scope:Scope}{env:Env}{x:Str}(h:(x,NameKind.free)∈scope.names):∃c,(cR scope env).lookup x=some c:=by
 unfold cR
 have key:∀(l:List (Str×NameKind)) (cs:List (Str×Addr)),((x,NameKind.free)∈l∨∃c,cs.lookup x=some c)→∃c,(l.foldl (fun cs y=>if y.2==.free then (y.1,(env.cells.lookup y.1).getD 0)::cs else cs) cs).lookup x=some c:=by
  intro l
  induction l with
  |nil=>
   intro cs h
   rcases h with h |h
   ·simp at h
   ·exact h
  |cons y l ih=>
   intro cs h
   obtain⟨n,k⟩:=y
   rw[List.foldl_cons]
   refine ih _ ?_
   by_cases hk:k=.free
   ·subst hk
    simp only[beq_self_eq_true,if_true]
    rw[List.lookup_cons]
    cases hx:x==n with
    |true=>exact .inr ⟨_,rfl⟩
    |false=>
     rcases h with h |h
     ·rcases List.mem_cons.mp h with e |h
      ·have e1:x=n:=congrArg Prod.fst e
       simp[e1]at hx
      ·exact .inl h
     ·exact .inr h
   ·have hb:(k==NameKind.free)=false:=by simpa using hk
    simp only[hb,Bool.false_eq_true,if_false]
    rcases h with h |h
    ·rcases List.mem_cons.mp h with e |h
     ·exact absurd (congrArg Prod.snd e).symm hk
     ·exact .inl h
    ·exact .inr h
 exact key _ _ (.inl h)
def rl (env:Env) (y:Str×NameKind):Str×NameKind:=if (y.2==NameKind.free&&env.scope.kind==.function&&env.kindOf y.1==some .cell) then (y.1,NameKind.cell) else y
theorem Dk (env:Env) (y:Str×NameKind):(rl env y).1=y.1:=by unfold rl;split<;>rfl
theorem NY {env:Env}{y:Str×NameKind}(h:y.2=.free):(rl env y).2=.cell∨(rl env y).2=.free:=by
 unfold rl;split
 ·exact .inl rfl
 ·exact .inr h
theorem OA {env:Env}{y:Str×NameKind}(h:y.2≠.free):rl env y=y:=by
 have hb:(y.2==NameKind.free)=false:=by simpa using h
 unfold rl;rw[hb];simp
theorem YY (scope:Scope) (env:Env):(relabel scope env).names=scope.names.map (rl env):=rfl
theorem Up {scope:Scope}{env:Env}{x:Str}(hc:∀y∈scope.names,y.2≠.cell) (h:(relabel scope env).names.lookup x=some .cell∨(relabel scope env).names.lookup x=some .free):(x,NameKind.free)∈scope.names:=by
 rw[YY]at h
 have key:∀(l:List (Str×NameKind)),(∀y∈l,y.2≠.cell)→(∃k,(k=NameKind.cell∨k=.free)∧(l.map (rl env)).lookup x=some k)→(x,NameKind.free)∈l:=by
  intro l
  induction l with
  |nil=>rintro _ ⟨k,_,h⟩;simp at h
  |cons y l ih=>
   rintro hl ⟨k',aK,h⟩
   obtain⟨n,k⟩:=y
   have e1:(rl env (n,k))=(n,(rl env (n,k)).2):=Prod.ext (Dk env _) rfl
   rw[List.map_cons,e1,List.lookup_cons]at h
   cases hx:x==n with
   |true=>
    have e:x=n:=by simpa using hx
    subst e
    by_cases hk:k=.free
    ·subst hk;exact List.mem_cons_self
    ·rw[hx]at h
     rw[OA (env:=env) (y:=(x,k)) hk]at h
     have e:k=k':=Option.some.inj h
     subst e
     rcases aK with z |z
     ·exact absurd z (hl _ List.mem_cons_self)
     ·exact absurd z hk
   |false=>
    rw[hx]at h
    exact List.mem_cons_of_mem _ (ih (fun y hy=>hl y (List.mem_cons_of_mem _ hy)) ⟨k',aK,h⟩)
 refine key _ hc ?_
 rcases h with h |h
 ·exact⟨_,.inl rfl,h⟩
 ·exact⟨_,.inr rfl,h⟩
theorem YX {scope:Scope}{env:Env}{x:Str}(h:scope.names.lookup x=some .free):(relabel scope env).names.lookup x=some .cell∨(relabel scope env).names.lookup x=some .free:=by
 rw[YY]
 have key:∀(l:List (Str×NameKind)),l.lookup x=some .free→(l.map (rl env)).lookup x=some .cell∨(l.map (rl env)).lookup x=some .free:=by
  intro l
  induction l with
  |nil=>intro h;simp at h
  |cons y l ih=>
   intro h
   obtain⟨n,k⟩:=y
   have e1:(rl env (n,k))=(n,(rl env (n,k)).2):=Prod.ext (Dk env _) rfl
   rw[List.map_cons,e1,List.lookup_cons]
   rw[List.lookup_cons]at h
   cases hx:x==n with
   |true=>
    rw[hx]at h
    have e:k=.free:=Option.some.inj h
    rcases NY (env:=env) (y:=(n,k)) e with z |z
    ·exact .inl (congrArg some z)
    ·exact .inr (congrArg some z)
   |false=>rw[hx]at h;exact ih h
 exact key _ h
def aG (X:Cx) (N':List Str) (scope:Scope) (C:Addr) (s2:Shared) (H2:Hp) (fp:List Addr):Cx:=
 {X with N:=N',bW:=s2,jK:=H2,env:=compEnvC scope (cR scope X.env) C X.env,outer:=X.stack,stack:=X.stack,ex:=fp,fn:=fun _=>false,pn:=[],xe:=fun _ _=>False}
def qb (so si:Scope) (N N':List Str) (ts:Nat) (bq:List Nat):Bool:=
 decide (si.kind=.function)&&si.names.all (fun y=>y.2 !=.cell)&&si.names.all (fun y=>y.2 !=.local||si.names.lookup y.1==some .local)
 &&si.names.all (fun y=>y.2 !=.free||so.names.lookup y.1==some .cell||so.names.lookup y.1==some .free)
 &&decide N'.Nodup&&decide (N'.length=ts+bq.length)
 &&(List.range bq.length).all (fun k=> (N'[ts+k]? ==(bq[k]?.bind fun j=>N[j]?))&&(N'[ts+k]?.isSome)&&(N'[ts+k]?.all fun x=>so.names.lookup x !=some .local&&si.names.lookup x==some .free))
def jE (ts:Nat) (bq:List Nat) (σ:St):St:=List.replicate ts none++bq.map fun j=> (σ[j]?).join
structure yK (X:Cx) (N':List Str) (ts:Nat) (bq:List Nat) (scope:Scope):Prop where
 kind:scope.kind=.function
 iQ:∀y∈scope.names,y.2≠.cell
 names:∀y∈scope.names,y.2=.local→scope.names.lookup y.1=some .local
 free:∀y∈scope.names,y.2=.free→X.env.kindOf y.1=some .cell∨X.env.kindOf y.1=some .free
 nd:N'.Nodup
 len:N'.length=ts+bq.length
 MQ:∀k j,bq[k]? =some j→∃x,N'[ts+k]? =some x∧X.N[j]? =some x∧X.env.kindOf x≠some .local∧scope.names.lookup x=some .free
theorem Y3 {x:Str}{k:NameKind} :∀{l:List (Str×NameKind)},l.lookup x=some k→(x,k)∈l
 | [],h=>by simp at h
 |(n,j)::l,h=>by
  rw[List.lookup_cons]at h
  cases hx:x==n with
  |true=>
   rw[hx]at h
   have e:x=n:=by simpa using hx
   have e':j=k:=Option.some.inj h
   subst e e'
   exact List.mem_cons_self
  |false=>rw[hx]at h;exact List.mem_cons_of_mem _ (Y3 h)
theorem Wt {X:Cx}{N':List Str}{ts:Nat}{bq:List Nat}{scope:Scope}(h:qb X.env.scope scope X.N N' ts bq=true):yK X N' ts bq scope:=by
 unfold qb at h
 simp only[Bool.and_eq_true]at h
 obtain⟨⟨⟨⟨⟨⟨h1,h2⟩,h3⟩,h4⟩,h5⟩,h6⟩,h7⟩:=h
 refine⟨of_decide_eq_true h1,fun y hy z=> ?_,fun y hy z=> ?_,fun y hy z=> ?_,of_decide_eq_true h5,of_decide_eq_true h6,fun k j hk=> ?_⟩
 ·have q:=List.all_eq_true.mp h2 y hy
  rw[z]at q;exact absurd q (by decide)
 ·have q:=List.all_eq_true.mp h3 y hy
  rw[z]at q
  simpa using q
 ·have q:=List.all_eq_true.mp h4 y hy
  rw[z]at q
  simpa[Env.kindOf] using q
 ·have aw:k<bq.length:=(List.getElem?_eq_some_iff.mp hk).1
  have q:=List.all_eq_true.mp h7 k (List.mem_range.mpr aw)
  simp only[Bool.and_eq_true]at q
  obtain⟨⟨q1,q2⟩,q3⟩:=q
  obtain⟨x,hx⟩:=Option.isSome_iff_exists.mp q2
  rw[hx]at q1 q3
  rw[hk]at q1
  have e1:some x=X.N[j]? :=by simpa using q1
  have vD:(X.env.scope.names.lookup x !=some .local&&scope.names.lookup x==some .free)=true:=q3
  simp only[Bool.and_eq_true]at vD
  refine⟨x,hx,e1.symm,?_,by simpa using vD.2⟩
  have z:=vD.1
  intro e
  have e':X.env.scope.names.lookup x=some .local:=e
  rw[e']at z
  exact absurd z (by decide)
section
variable {X:Cx}{pins:List (Addr×Obj)}{σ:St}{H:Hp}{s:Shared}
theorem Of {N':List Str}{ts:Nat}{bq:List Nat}{scope:Scope}{fp:List Addr}{h':Heap}{t':Nat}{m:Str→Option Value}{C:Addr}(S:yK X N' ts bq scope) (I:Inv X pins σ H s) (hf:∀b∈fp,bV X pins H b)
  (ho:∀b∈fp,∃o,s.heap.get? b=some o) (hC:s.heap.objs.size≤C) (hn:h'.Ns C m) (k:∀b o,s.heap.get? b=some o→h'.get? b=some o):
  Inv (aG X N' scope C s H fp) [] (jE ts bq σ) H {s with heap:=h',toks:=t'} :=by
 have sub:∀x c,(cR scope X.env).lookup x=some c→X.env.cells.lookup x=some c:=fun x c e=>by
  obtain⟨e1,e2⟩:=Yn e
  obtain⟨c',bj⟩:=I.ok.has x (S.free _ e2 rfl)
  rw[bj]at e1
  rw[bj,e1];rfl
 have gq:∀b o,s.heap.get? b=some o→b≠C:=fun b o e=>Nat.ne_of_lt (Nat.lt_of_lt_of_le (Heap.lt_size e) hC)
 refine⟨⟨I.ok.mod,?_,I.ok.glob,I.ok.blt,hC,fun x y c e1 e2=>I.ok.inj x y c (sub x c e1) (sub y c e2),fun x hx=> ?_,fun x c z _=>absurd z Bool.false_ne_true,I.ok.hd,I.ok.frames,.inl rfl,fun b hb=> ?_,fun b o e=>I.bs b o e,Nat.le_trans I.ok.i7 I.sz,fun b o e hb=> ?_,fun b hb=> ?_,I.stack,I.oo⟩,
  rfl,I.bare,Un.kept k,⟨m,hn,fun i x v e1 e2 e3=> ?_⟩,fun x c e=> ?_,I.ah.fresh hC,fun x c e=>I.fF x c (sub x c e),fun p hp=>absurd (show p∈([]:List (Addr×Obj)) from hp) (by simp),I.ah.kept k,?_⟩
 ·show(relabel scope X.env).kind=.function
  exact S.kind
 ·exact Wu (Up S.iQ hx)
 ·obtain⟨o,e⟩:=ho b hb
  refine⟨gq b o e,fun x c ec=> ?_⟩
  exact(hf b hb).2.2.2.2.1 x c (sub x c ec)
 ·obtain⟨e1,e2⟩:=I.bs b o e
  obtain⟨f0,f1,f2,f3,f4,f5⟩:=hf b hb
  rcases f3 with z |z
  ·exact I.ok.kT b o e z
  ·exact absurd (Nat.lt_of_lt_of_le (Heap.lt_size (I.ok.bs b o e).1) z) (Nat.lt_irrefl _)
 ·intro z
  obtain⟨f0,f1,f2,f3,f4,f5⟩:=hf b hb
  rcases List.mem_cons.mp (I.qG b z) with q |q
  ·exact f1 q
  ·exact f2 q
 ·-- the Sd values
  have hlen:¬i<ts:=fun aw=>by
   unfold jE at e2
   rw[List.getElem?_append_left (by simpa using aw),List.getElem?_replicate]at e2
   split at e2<;>cases e2
  have pZ:(bq.map fun j=> (σ[j]?).join)[i - ts]? =some (some v):=by
   unfold jE at e2
   rw[List.getElem?_append_right (by simpa using hlen),List.length_replicate]at e2
   exact e2
  rw[List.getElem?_map]at pZ
  cases hc:bq[i - ts]? with
  |none=>rw[hc]at pZ;cases pZ
  |some j=>
   rw[hc]at pZ
   have tL:(σ[j]?).join=some v:=Option.some.inj pZ
   have e4:σ[j]? =some (some v):=by
    cases q:σ[j]? with
    |none=>rw[q]at tL;cases tL
    |some o=>rw[q]at tL;exact congrArg some tL
   obtain⟨x',n1,n2,n3,n4⟩:=S.MQ _ _ hc
   have ei:ts+(i - ts)=i:=by omega
   rw[ei]at n1
   have ex:x=x':=by
    have tM:N'[i]? =some x:=e1
    rw[n1]at tM;exact(Option.some.inj tM).symm
   subst ex
   obtain⟨mX,SD,hl⟩:=I.loc
   have En:qh X.env.scope x:=by
    rcases S.free _ (Y3 n4) rfl with z |z
    ·exact .inr (.inl z)
    ·exact .inr (.inr z)
   obtain⟨u,ru,lk⟩:=hl j x v n2 e4 En
   refine⟨u,ru,?_⟩
   rcases lk with ⟨z,_⟩ |⟨z,c,ec,kc⟩
   ·exact absurd z n3
   ·obtain⟨c',bj⟩:=Wu (env:=X.env) (Y3 n4)
    have:=sub x c' bj
    rw[ec]at this
    cases this
    refine .inr ⟨?_,c,bj,kc.keeps k⟩
    exact YX n4
 ·obtain⟨v,z⟩:=I.cell x c (sub x c e)
  exact⟨v,z.keeps k⟩
 ·show(jE ts bq σ).length=N'.length
  unfold jE
  rw[List.length_append,List.length_replicate,List.length_map,S.len]
end
def AccAt (h:Heap) (D:Addr) (ys:List V):Prop:=ys.length≤sizeLine∧∃(its:List Value) (n:Nat),Vals ys its∧h.get? D=some {cls:=.type "list",data:=.seq its.toArray n}
theorem AccAt.keep {h h':Heap}{D:Addr}{ys:List V}(a:AccAt h D ys) (k:∀o,h.get? D=some o→h'.get? D=some o):AccAt h' D ys:=by
 obtain⟨z,its,n,r,e⟩:=a
 exact⟨z,its,n,r,k _ e⟩
abbrev TC:=List V→St→Hp→(List V→St→Hp→Prop)→Prop
def kA (Y:Cx) (D:Addr) (m:Sem PySem.Fin→Sem PySem.Fin) (t:TC):Prop:=
 ∀(pins:List (Addr×Obj)) (s:Shared) (σ:St) (H:Hp) (ys:List V) (Q:List V→St→Hp→Prop) (k:Sem PySem.Fin) (R:PySem.Fin→Shared→Prop),Inv Y pins σ H s→bV Y pins H D→AccAt s.heap D ys→t ys σ H Q→
  (∀s' cg aj H',Inv Y pins aj H' s'→bV Y pins H' D→AccAt s'.heap D cg→Q cg aj H'→wpAny (model Y.prog Y.w) Y.A k R (fun _ _=>False) s')→wpAny (model Y.prog Y.w) Y.A (m k) R (fun _ _=>False) s
def yY (ifs:List Expr) (env:Env):Sem Bool:=forIn ifs true fun c r=>if r=true then do let ok ←isTrue c env (eval c env);pure (ForInStep.yield ok) else pure (ForInStep.yield r)
def kz (Y:Cx) (ifs:List Expr) (t:TT):Prop:=
 ∀(pins:List (Addr×Obj)) (s:Shared) (σ:St) (H:Hp) (Q:Bool→Hp→Prop),Inv Y pins σ H s→t σ H Q→wpAny (model Y.prog Y.w) Y.A (yY ifs Y.env) (TP Y pins σ Q) Y.xe s
def kG:TT:=fun _ H Q=>Q true H
section
variable {Y:Cx}{D:Addr}
theorem ZT:kz Y [] kG:=fun pins s σ H Q I h=>wpAny_tests_nil ⟨H,I,h⟩
theorem Z3 {c:Expr}{t:TT}(hc:PT Y c t):kz Y [c] t:=fun pins s σ H Q I h=>wpAny_tests_one (hc pins s σ H Q I h)
def Fc (te:TE):TC:=fun ys σ H Q=>te σ H fun v H1=>ys.length<sizeLine∧Q (ys++[v]) σ H1
theorem AccAt.iQ {h:Heap}{ys:List V}(a:AccAt h D ys):∀b∈[D],∃o,h.get? b=some o∧∀v,o.data≠.cell v:=fun b hb=>by
 have e:b=D:=by simpa using hb
 subst e
 obtain⟨z,its,n,r,e⟩:=a
 exact⟨_,e,fun v z=>by
  have z':Data.seq its.toArray n=Data.cell v:=z
  cases z'⟩
theorem AccAt.through {h:Heap}{pins:List (Addr×Obj)}{aj:St}{H':Hp}{s':Shared}{ys:List V}(a:AccAt h D ys) (I:Inv Y (pins++jm [D] h) aj H' s'):AccAt s'.heap D ys∧H' D=none:=by
 obtain⟨z,its,n,r,e⟩:=a
 have q:=I.pin (D,_) (List.mem_append_right _ (List.mem_append_right _ (ZR (List.mem_singleton.mpr rfl) e)))
 exact⟨⟨z,its,n,r,q.1⟩,q.2.1⟩
theorem Zv {elt:Expr}{te:TE}(hx:Y.xe=fun _ _=>False) (he:PE Y elt te):
    kA Y D (fun k=> (do let _ ←call (.builtin "list.append") [.ref D,←eval elt Y.env]) >>=fun _=>k) (Fc te):=by
  intro pins s σ H ys Q k R I f a h hk
  refine wpAny_bind (wpAny_mono (Q:=fun _ s'=> ∃cg aj H',Inv Y pins aj H' s'∧bV Y pins H' D∧AccAt s'.heap D cg∧Q cg aj H') ?_ (fun _ s' ⟨cg,aj,H',q1,q2,q3,q4⟩=>hk s' cg aj H' q1 q2 q3 q4) fun _ _ z=>z)
  have I':=I.pinned (fp:=[D]) (fun b hb=>by have e:b=D:=by simpa using hb
                                            subst e;exact f) a.iQ
  refine wpAny_bind (wpAny_mono (he _ s σ H _ I' h) (fun u s1 ⟨v,H1,I1,ru,hz,q⟩=> ?_) fun e s1 z=>by rw[hx]at z;exact z)
  obtain⟨a1,n1⟩:=a.through I1
  have f1:bV Y pins H1 D:=⟨n1,f.2⟩
  obtain⟨z,its,n,r,e⟩:=a1
  have hl:=r.length
  refine wpAny_bind (call_meets F.slot_list_append ⟨_,e,rfl⟩ F.entry_list_append (F.args_list_append_2 _ _) (PySem.list_append D its.toArray n u (by rw[List.size_toArray];omega)) ⟨e,wpAny_pure ?_⟩)
  have q2:=PySem.IsL.update e (·.push u)
  obtain⟨f0,g1,g2,g3,g4,g5⟩:=f1
  have I2:Inv Y pins σ H1 {s1 with heap:=s1.heap.update D (Obj.mapSeq (·.push u))} :=I1.iK.turned (t':=s1.toks) (it:=D) (fun b o hb eb=> (Heap.get?_update_other s1.heap _ (Ne.symm hb)).trans eb) f0 g1 g3 g4 g5
  refine⟨ys++[v],σ,H1,I2,⟨f0,g1,g2,g3,g4,g5⟩,⟨by rw[List.length_append,List.length_singleton];omega,its++[u],(if ((its.toArray.push u).size==its.toArray.size)=true then n else n+1),r.append (.cons ru .nil),?_⟩,q⟩
  have e3:its.toArray.push u=(its++[u]).toArray:=by simp
  rw[←e3]
  exact q2
def inner (elt:Expr) (gens:List Comprehension) (scope:Scope) (pos:Pos) (d:Nat) (acc:Value) (env:Env) (k:Sem PySem.Fin):Sem PySem.Fin:=
 match gens[d+1]? with
 |some g'=>eval g'.iter env >>=fun x=>standAt g'.iter.pos >>=fun _=>foldedSetIterable g'.iter env x >>=fun x=>holding [x] (pyIter x) >>=fun jW=>
  runOwn (.compStart (.ListComp elt gens scope pos) (d+1) jW acc env) env >>=fun _=>k
 |none=> (do let _ ←call (.builtin "list.append") [acc,←eval elt env]) >>=fun _=>k
set_option maxHeartbeats 400000 in
theorem QB (elt tg iter:Expr) (ifs:List Expr) (gens:List Comprehension) (scope:Scope) (pos:Pos) (d:Nat) (it acc:Value) (env:Env) (hg:gens[d]? =some ⟨tg,iter,ifs,0⟩) (h2:∀g',gens[d+1]? =some g'→g'.is_async=0):
  compTurn (.ListComp elt gens scope pos) d it acc env=(standAt iter.pos >>=fun _=>pyNext it >>=fun r=>match r with
   |none=>pure (.done .next)
   |some v=>letOwnedTupleGo tg it v >>=fun _=>assign tg env v >>=fun _=>yY ifs env >>=fun ok=>
    if ok=true then inner elt gens scope pos d acc env (again (.compLoop (.ListComp elt gens scope pos) d it acc env)) else again (.compLoop (.ListComp elt gens scope pos) d it acc env)):=by
 unfold compTurn inner
 dsimp only
 rw[hg]
 generalize hn:gens[d+1]? =o
 cases o with
 |none=>rfl
 |some g'=>
  have e:=h2 g' hn
  obtain⟨t',i',f',a'⟩:=g'
  have e':a'=0:=e
  subst e'
  rfl
def fZ (g:TG) (tt:TT) (ti:TC) (J:It):TC:=fun ys σ H Q=> ∃W:Nat→Nat→List V→St→Hp→Prop,(∃m,W 0 m ys σ H)∧∀i m ys σ H,W i m ys σ H→
 (J.stop i H∧Q ys σ H)∨(J.go i H∧∃N:List V→St→Hp→Prop,(∀cg aj H',N cg aj H'→∃m',m'<m∧W (i+1) m' cg aj H')∧
  ∀x H',J.mD i H x H'→g x σ H' fun aR H2=>tt aR H2 fun b H3=>if b=true then ti ys aR H3 N else N ys aR H3)
theorem Ue {elt tg iter:Expr}{ifs:List Expr}{gens:List Comprehension}{scope:Scope}{pos:Pos}{d:Nat}{it:Addr}{fp:List Addr}{tn:Nat→Heap→Prop}{J:It}{g:TG}{tt:TT}{ti:TC}{pins:List (Addr×Obj)}{s:Shared}{σ:St}{H:Hp}{ys:List V}{Q:List V→St→Hp→Prop}
    (hx:Y.xe=fun _ _=>False) (hc:Y.calm=true) (hg:gens[d]? =some ⟨tg,iter,ifs,0⟩) (T:Turn Y.prog Y.w Y.K tg J fp it tn) (hf:∀b∈fp,bV Y pins H b) (st:tn 0 s.heap) (hD:D∉fp)
    (h2:∀g',gens[d+1]? =some g'→g'.is_async=0) (pg:PG Y tg g) (pt:kz Y ifs tt) (pi:kA Y D (inner elt gens scope pos d (.ref D) Y.env) ti)
    (I:Inv Y pins σ H s) (f:bV Y pins H D) (a:AccAt s.heap D ys) (h:fZ g tt ti J ys σ H Q):
    codeAny (model Y.prog Y.w) Y.A (.compLoop (.ListComp elt gens scope pos) d (.ref it) (.ref D) Y.env) (fun r s'=>match r with
      | .ok _=> ∃cg aj H',Inv Y pins aj H' s'∧bV Y pins H' D∧AccAt s'.heap D cg∧Q cg aj H'
      | .error _=>False) s:=by
  obtain⟨W,⟨m0,w0⟩,turn⟩:=h
  have stat:∀{H':Hp},(∀b∈fp,H' b=none)→∀b∈fp,bV Y pins H' b:=fun hn b hb=> ⟨hn b hb,(hf b hb).2⟩
  refine codeAny_loop rfl (fun n s'=> ∃i cg aj H',Inv Y pins aj H' s'∧bV Y pins H' D∧AccAt s'.heap D cg∧tn i s'.heap∧(∀b∈fp,H' b=none)∧W i n cg aj H') (fun n s3 hI=> ?_) m0 ⟨0,ys,σ,H,I,f,a,st,fun b hb=> (hf b hb).1,w0⟩
  obtain⟨i,nZ,gO,H3,I3,f3,a3,aU,tG,w3⟩:=hI
  show wpAny _ Y.A ((compTurn (.ListComp elt gens scope pos) d (.ref it) (.ref D) Y.env).onRaise (fun x=>do noteFrame x Y.env;theTreesLotGoes x)) _ _ s3
  refine wpAny_noted (wpAny_mono (E:=fun _ _=>False) ?_ (fun _ _ q=>q) fun _ _ z=>z.elim)
  rw[QB elt tg iter ifs gens scope pos d (.ref it) (.ref D) Y.env hg h2]
  refine wpAny_bind (wpAny_standAt (wpAny_bind ?_))
  have aD:∀{h h':Heap},(∀b o,b∉fp→h.get? b=some o→h'.get? b=some o)→∀{zs},AccAt h D zs→AccAt h' D zs:=fun k _ q=>q.keep fun o e=>k D o hD e
  have DZ:=I3.pinned (fp:=[D]) (fun b hb=>by have e:b=D:=by simpa using hb
                                             subst e;exact f3) a3.iQ
  have zf:∀b∈fp,bV Y (pins++jm [D] s3.heap) H3 b:=fun b hb=>by
    obtain⟨g0,g1,g2,g3,g4,g5⟩:=stat tG b hb
    refine⟨g0,g1,g2,g3,g4,fun p hp=> ?_⟩
    rcases List.mem_append.mp hp with z |z
    · exact g5 p (List.mem_append_left _ z)
    · rcases List.mem_append.mp z with z |z
      · exact g5 p (List.mem_append_right _ z)
      · intro q
        have e:p.1=D:=by simpa using (Jv z).1
        exact hD (by rw[←e,q];exact hb)
  rcases turn i n nZ gO H3 w3 with ⟨stop,qn⟩ |⟨go,N,hN,step⟩
  · refine wpAny_mono (T.done Y rfl rfl rfl hc i _ s3 gO H3 (fun _ _=>False) DZ zf aU stop) (fun r s4 ⟨hr,I4⟩=> ?_) fun _ _ z=>z
    subst hr
    obtain⟨a4,n4⟩:=a3.through I4
    exact wpAny_pure ⟨nZ,gO,H3,I4.iK,f3,a4,qn⟩
  · refine wpAny_mono (T.item Y rfl rfl rfl hc i _ s3 gO H3 (fun _ _=>False) DZ zf aU go) (fun r s4 ⟨u,hr,h4⟩=> ?_) fun _ _ z=>z
    subst hr
    refine wpAny_bind (wpAny_mono h4 (fun _ s5 ⟨x,H5,I5,r5,y5,f9,xu⟩=> ?_) fun _ _ z=>z)
    obtain⟨a5,n5⟩:=a3.through I5
    have f5:bV Y pins H5 D:=⟨n5,f3.2⟩
    have Kk:∀b∈D::fp,∃o,s5.heap.get? b=some o∧∀v,o.data≠.cell v:=fun b hb=>by
      rcases List.mem_cons.mp hb with e |hb
      · exact a5.iQ b (by simp[e])
      · exact T.obj _ _ f9 b hb
    have yw:=I5.iK.pinned (fp:=D::fp) (fun b hb=>by
      rcases List.mem_cons.mp hb with e |hb
      · rw[e];exact f5
      · exact stat xu b hb) Kk
    refine wpAny_bind (wpAny_mono (pg _ s5 gO H5 x u _ yw r5 (step x H5 y5)) (fun _ s6 ⟨nY,H6,I6,q6⟩=> ?_) fun _ _ z=>by rw[hx]at z;exact z)
    refine wpAny_bind (wpAny_mono (pt _ s6 nY H6 _ I6 q6) (fun b s7 ⟨H7,I7,q7⟩=> ?_) fun _ _ z=>by rw[hx]at z;exact z)
    have Af:∀{dU:St}{H7:Hp}{s7:Shared},Inv Y (pins++jm (D::fp) s5.heap) dU H7 s7→AccAt s7.heap D nZ∧H7 D=none:=fun {dU H7 s7} J=>by
      obtain⟨z,its,n,r,e⟩:=id a5
      have q:=J.pin (D,_) (List.mem_append_right _ (List.mem_append_right _ (ZR List.mem_cons_self e)))
      exact⟨⟨z,its,n,r,q.1⟩,q.2.1⟩
    have Ae:∀{dU:St}{H7:Hp}{s7:Shared},Inv Y (pins++jm (D::fp) s5.heap) dU H7 s7→tn (i+1) s7.heap∧∀b∈fp,H7 b=none:=fun {dU H7 s7} J=>by
      refine⟨T.keep _ _ _ f9 fun b hb o e=> (J.pin (b,o) (List.mem_append_right _ (List.mem_append_right _ (ZR (List.mem_cons_of_mem _ hb) e)))).1,fun b hb=> ?_⟩
      obtain⟨o,e,dd⟩:=T.obj _ _ f9 b hb
      exact(J.pin (b,o) (List.mem_append_right _ (List.mem_append_right _ (ZR (List.mem_cons_of_mem _ hb) e)))).2.1
    cases b with
    |false=>
     simp only[Bool.false_eq_true,if_false]at q7 ⊢
     obtain⟨m',hm,w7⟩:=hN _ _ _ q7
     obtain⟨a7,n7⟩:=Af I7
     obtain⟨t7,r7⟩:=Ae I7
     exact wpAny_pure ⟨rfl,m',hm,i+1,nZ,nY,H7,I7.iK,⟨n7,f3.2⟩,a7,t7,r7,w7⟩
    |true=>
     simp only[if_true]at q7 ⊢
     obtain⟨a7,n7⟩:=Af I7
     obtain⟨t7,r7⟩:=Ae I7
     have Q9:=I7.iK.pinned (fp:=fp) (stat r7) (T.obj _ _ t7)
     have f7:bV Y (pins++jm fp s7.heap) H7 D:=by
       obtain⟨g0,g1,g2,g3,g4,g5⟩:=f3
       refine⟨n7,g1,g2,g3,g4,fun p hp=> ?_⟩
       rcases List.mem_append.mp hp with z |z
       · exact g5 p (List.mem_append_left _ z)
       · rcases List.mem_append.mp z with z |z
         · exact g5 p (List.mem_append_right _ z)
         · intro q
           exact hD (by rw[←q];exact(Jv z).1)
     refine pi _ s7 nY H7 nZ N _ _ Q9 f7 a7 q7 fun s8 El qv H8 I8 f8 a8 q8=> ?_
     obtain⟨m',hm,w8⟩:=hN _ _ _ q8
     refine wpAny_pure ⟨rfl,m',hm,i+1,El,qv,H8,I8.iK,⟨f8.1,f3.2⟩,a8,T.keep _ _ _ t7 fun b hb o e=> (I8.pin (b,o) (List.mem_append_right _ (List.mem_append_right _ (ZR hb e)))).1,fun b hb=> ?_,w8⟩
     obtain⟨o,e,dd⟩:=T.obj _ _ t7 b hb
     exact(I8.pin (b,o) (List.mem_append_right _ (List.mem_append_right _ (ZR hb e)))).2.1
theorem Ws {elt tg iter:Expr}{ifs:List Expr}{gens:List Comprehension}{scope:Scope}{pos:Pos}{d:Nat}{it:Addr}{R:Result→Shared→Prop}{s:Shared}{A:Around}{prog:Program}{w:World}{env:Env}{acc:Value}{fp:List Addr}{tn:Nat→Heap→Prop}{J:It}{K:PySem.W.Frag}
  (hg:gens[d]? =some ⟨tg,iter,ifs,0⟩) (T:Turn prog w K tg J fp it tn) {i:Nat} (st:tn i s.heap) (h:codeAny (model prog w) A (.compLoop (.ListComp elt gens scope pos) d (.ref it) acc env) R s):
  codeAny (model prog w) A (.compStart (.ListComp elt gens scope pos) d (.ref it) acc env) R s:=by
 refine codeAny_of_tree ?_
 show wpAny _ _ ((compStart (.ListComp elt gens scope pos) d (.ref it) acc env).onRaise (fun x=>do noteFrame x env;standAt theWindowsPlace)) _ _ s
 refine wpAny_notedAt ?_
 have KS:(clausesOf (.ListComp elt gens scope pos))[d]? =some ⟨tg,iter,ifs,0⟩:=hg
 unfold compStart
 rw[KS]
 show wpAny _ _ (ask >>=_) _ _ s
 refine wpAny_bind (wpAny_askSetting (wpAny_ite ?_))
 split
 ·first
   |exact wpAny_bind (wpAny_pure (wpAny_pure (And.intro rfl h)))
   |exact wpAny_pure (And.intro rfl h)
 ·refine wpAny_bind (wpAny_rule ?_)
  show wpAny _ _ (standAt iter.pos >>=_) _ _ s
  exact wpAny_bind (wpAny_standAt (wpAny_bind (T.self A i s _ _ st (wpAny_pure (And.intro rfl h)))))
def ES (wi:TI) (g:TG) (tt:TT) (ti:TC):TC:=fun ys σ H Q=>wi σ H fun J H1=>fZ g tt ti J ys σ H1 Q
theorem UV {elt tg iter:Expr}{ifs:List Expr}{gens:List Comprehension}{scope:Scope}{pos:Pos}{d:Nat}{wi:TI}{g:TG}{tt:TT}{ti:TC}
    (hx:Y.xe=fun _ _=>False) (hc:Y.calm=true) (hg:gens[d+1]? =some ⟨tg,iter,ifs,0⟩) (hi:PI Y tg iter wi) (pg:PG Y tg g) (pt:kz Y ifs tt) (pi:kA Y D (inner elt gens scope pos (d+1) (.ref D) Y.env) ti)
    (hs:∀x,foldedSetIterable iter Y.env x=pure x) (h2:∀g',gens[d+1+1]? =some g'→g'.is_async=0):kA Y D (inner elt gens scope pos d (.ref D) Y.env) (ES wi g tt ti):=by
  intro pins s σ H ys Q k R I f a h hk
  unfold inner
  rw[hg]
  have I':=I.pinned (fp:=[D]) (fun b hb=>by have e:b=D:=by simpa using hb
                                            subst e;exact f) a.iQ
  refine wpAny_bind (wpAny_mono (hi _ s σ H _ I' h) (fun v s1 h1=> ?_) fun _ _ z=>by rw[hx]at z;exact z)
  refine wpAny_bind (wpAny_standAt (wpAny_bind (wpAny_of_eq (hs v) (wpAny_bind (wpAny_holding (wpAny_mono h1 (fun jW s2 h2=> ?_) fun _ _ z=>by rw[hx]at z;exact z))))))
  obtain⟨it,fp,tn,J,H2,e,I2,T,ak,f2,q2⟩:=h2
  subst e
  obtain⟨a2,n2⟩:=a.through I2
  have fD:bV Y pins H2 D:=⟨n2,f.2⟩
  have hD:D∉fp:=fun z=>by
    obtain⟨z1,its,n,r,e⟩:=a
    exact(f2 D z).2.2.2.2.2 (D,_) (List.mem_append_right _ (List.mem_append_right _ (ZR (List.mem_singleton.mpr rfl) e))) rfl
  have Cb:∀b∈fp,bV Y pins H2 b:=fun b hb=>by
    obtain⟨g0,g1,g2,g3,g4,g5⟩:=f2 b hb
    exact⟨g0,g1,g2,g3,g4,fun p hp=>g5 p (by
      rcases List.mem_append.mp hp with z |z
      · exact List.mem_append_left _ z
      · exact List.mem_append_right _ (List.mem_append_left _ z))⟩
  refine wpAny_bind (wpAny_runOwn (codeAny_mono (Ws hg T ak (Ue (Q:=Q) hx hc hg T Cb ak hD h2 pg pt pi I2.iK fD a2 q2)) fun r s' hr=> ?_))
  cases r with
  |ok fl=>
   obtain⟨cg,aj,H',q1,q2,q3,q4⟩:=hr
   exact hk s' cg aj H' q1 q2 q3 q4
  |error e=>exact hr.elim
end
section
variable {X:Cx}{pins:List (Addr×Obj)}{σ:St}{H H':Hp}{s s':Shared}
theorem Wv {N':List Str}{scope:Scope}{C D:Addr}{fp:List Addr}{aj:St}{ys:List V}{pl:List (Addr×Obj)}{h':Heap}(I:Inv X pins σ H s) (hf:∀b∈fp,bV X pins H b) (hC:s.heap.objs.size≤C) (hD:s.heap.objs.size≤D) (jB:D≠C)
  (J:Inv (aG X N' scope C s H fp) pl aj H' s') (n:H' D=none) (a:AccAt s'.heap D ys) (sb:Heap.SameBut C s'.heap h'):Inv X pins σ (upd H' D (.lst ys)) {s' with heap:=h'} :=by
 have gq:∀b o,s.heap.get? b=some o→b≠C:=fun b o e=>Nat.ne_of_lt (Nat.lt_of_lt_of_le (Heap.lt_size e) hC)
 have Hb:∀b o,s.heap.get? b=some o→b≠D:=fun b o e=>Nat.ne_of_lt (Nat.lt_of_lt_of_le (Heap.lt_size e) hD)
 have vN:∀b o,H b=some o→b≠D:=fun b o e=>Nat.ne_of_lt (Nat.lt_of_lt_of_le (I.ah.lt e) hD)
 have fC:H' C=none:=J.free
 have u:Un (aT X.stack) fp H H' s.heap s'.heap:=J.base
 refine I.CA (s':= {s' with heap:=h'}) (ch:=fp) J.os ⟨fun b o e nb hb hx=> (sb.2 b (gq b o e)).trans (u.keep b o e nb hb hx),fun b o e nb hb hx=> ?_,fun b o e nb hx=>by rw[Zf (Hb b o e)];exact u.free b o e nb hx,fun b o e hx=> ?_,
  fun b xs e=>by rw[Zf (vN b _ e)];exact u.fI b xs e,fun b o xs e=>by rw[Zf (vN b _ e)];exact u.fE b o xs e,fun b ps e=>by rw[Zf (vN b _ e)];exact u.fo b ps e⟩ (fun b v e=> ?_) J.bare fun b hb=> ?_
 ·obtain⟨sl,q⟩:=u.slot b o e nb hb hx
  exact⟨sl,(sb.2 b (gq b o e)).trans q⟩
 ·obtain⟨o',q⟩:=u.there b o e hx
  exact⟨o',(sb.2 b (gq b o e)).trans q⟩
 ·by_cases hb:b=D
  ·subst hb
   rw[Zc]at e
   cases e
   obtain⟨z,its,k,r,q⟩:=a
   exact⟨z,its,k,r,(sb.2 b jB).trans q⟩
  ·rw[Zf hb]at e
   refine(J.ah b v e).bE (fun c w hc q=> (sb.2 c ?_).trans q) (fun c q=>by rw[Zf (Zg q n)];exact q) fun c xs q=>by rw[Zf (Zg q n)];exact q
   rcases hc with z |z
   ·rw[z];exact Zg e fC
   ·exact Zg z fC
 ·obtain⟨f0,f1,f2,f3,f4,f5⟩:=hf b hb
  exact⟨f3,f1,f4,f5⟩
theorem Y4 {elt tg iter:Expr}{ifs:List Expr}{rest:List Comprehension}{scope:Scope}{pos:Pos}{N':List Str}{ts:Nat}{bq:List Nat}{it:Addr}{fp:List Addr}{tn:Nat→Heap→Prop}{J:It}{g:TG}{tt:TT}{ti:TC}{Q:List V→Hp→Prop}{E:Value→Shared→Prop}{RR:Value→Addr→Result→Shared→Prop}
  (S:yK X N' ts bq scope) (hc:X.calm=true) (I:Inv X pins σ H s) (T:Turn X.prog X.w X.K tg J fp it tn) (st:tn 0 s.heap) (hf:∀b∈fp,bV X pins H b)
  (h2:∀g',(Comprehension.mk tg iter ifs 0::rest)[0+1]? =some g'→g'.is_async=0)
  (pg:∀C,PG (aG X N' scope C s H fp) tg g) (pt:∀C,kz (aG X N' scope C s H fp) ifs tt)
  (pi:∀C D,kA (aG X N' scope C s H fp) D (inner elt (⟨tg,iter,ifs,0⟩::rest) scope pos 0 (.ref D) (aG X N' scope C s H fp).env) ti)
  (h:fZ g tt ti J [] (jE ts bq σ) H fun ys _ H2=>Q ys H2)
  (Lq:∀C D s' aj H' ys fl,s.heap.objs.size≤C→s.heap.objs.size≤D→D≠C→Inv (aG X N' scope C s H fp) [] aj H' s'→H' D=none→AccAt s'.heap D ys→Q ys H'→RR (.ref D) C (.ok fl) s'):
  wpAny (model X.prog X.w) X.A (newList []) (fun acc Fn=>wpAny (model X.prog X.w) X.A (newFunctionEnv scope X.env.globals (cR scope X.env) [] X.env.qual none .none (some X.env)) (fun Cy Fm=>
   codeAny (model X.prog X.w) X.A (.compStart (.ListComp elt (⟨tg,iter,ifs,0⟩::rest) scope pos) 0 (.ref it) acc {Cy with scope:=relabel scope X.env}) (RR acc Cy.locals) Fm) E Fn) E s:=by
 refine wpAny_newObj_type (wpAny_newFunctionEnv S.iQ (by intro y hy;simp at hy) (fun pf wC se=> ?_) S.kind)
 dsimp only at wC se ⊢
 generalize nN:s.heap.push {cls:=.type "list",dict:=none,data:=.seq ([]:List Value).toArray} =h0 at wC se ⊢
 have hC:h0.objs.size=s.heap.objs.size+1:=by rw[←nN,Heap.size_push]
 have jB:s.heap.objs.size≠h0.objs.size:=by rw[hC];exact Nat.ne_of_lt (Nat.lt_succ_self _)
 have xo:s.heap.objs.size≤h0.objs.size:=by rw[hC];exact Nat.le_succ _
 have gq:∀b o,s.heap.get? b=some o→b≠h0.objs.size:=fun b o e=>Nat.ne_of_lt (Nat.lt_of_lt_of_le (Heap.lt_size e) xo)
 have old:∀b o,s.heap.get? b=some o→pf.get? b=some o:=fun b o e=>se.extBut b o (gq b o e) (Heap.get?_push_of_some _ (nN▸Heap.get?_push_of_some _ e))
 have Lh:pf.get? s.heap.objs.size=some {cls:=.type "list",data:=.seq ([]:List Value).toArray 0} :=se.extBut _ _ jB (Heap.get?_push_of_some _ (nN▸Heap.get?_push_size _ rfl))
 have ho:∀b∈fp,∃o,s.heap.get? b=some o:=fun b hb=>let ⟨o,e,_⟩:=T.obj _ _ st b hb;⟨o,e⟩
 have I1:Inv (aG X N' scope h0.objs.size s H fp) [] (jE ts bq σ) H {s with heap:=pf,toks:=s.toks+([]:List (Str×Value)).length} :=Of S I hf ho xo wC old
 have fresh:=I.ah.fresh (a:=s.heap.objs.size) (Nat.le_refl _)
 have LY:∀b∈fp,bV (aG X N' scope h0.objs.size s H fp) [] H b:=fun b hb=>by
  obtain⟨f0,f1,f2,f3,f4,f5⟩:=hf b hb
  refine⟨f0,(I1.ok.nP b hb).1,I1.ok.lZ b hb,.inl hb,(I1.ok.nP b hb).2,fun p hp=>absurd (show p∈([]:List (Addr×Obj)) from hp) (by simp)⟩
 have fD:bV (aG X N' scope h0.objs.size s H fp) [] H s.heap.objs.size:=by
  refine⟨fresh,jB,fun z=> ?_,.inr (Nat.le_refl _),fun x c e z=> ?_,fun p hp=>absurd (show p∈([]:List (Addr×Obj)) from hp) (by simp)⟩
  ·obtain⟨_,o,cw,_⟩:=I.stack.mem z
   exact absurd (Heap.lt_size cw) (Nat.lt_irrefl _)
  ·obtain⟨e1,e2⟩:=Yn e
   obtain⟨c',bj⟩:=I.ok.has x (S.free _ e2 rfl)
   obtain⟨v,q⟩:=I.cell x c' bj
   rw[bj]at e1
   have e3:c=c':=e1
   have l:=q.lt
   rw[←e3,z]at l
   exact absurd l (Nat.lt_irrefl _)
 have aD:AccAt pf s.heap.objs.size []:=⟨Nat.zero_le _,[],0,.nil,Lh⟩
 have Lv:s.heap.objs.size∉fp:=fun z=>by obtain⟨o,e⟩:=ho _ z;exact absurd (Heap.lt_size e) (Nat.lt_irrefl _)
 have av:tn 0 pf:=T.keep _ _ _ st fun b _ o e=>old b o e
 have run:=Ws (elt:=elt) (gens:=⟨tg,iter,ifs,0⟩::rest) (scope:=scope) (pos:=pos) (d:=0) rfl T av
  (Ue (Y:=aG X N' scope h0.objs.size s H fp) (D:=s.heap.objs.size) (Q:=fun ys _ H2=>Q ys H2) (elt:=elt) (gens:=⟨tg,iter,ifs,0⟩::rest) (scope:=scope) (pos:=pos) (d:=0) rfl hc rfl T LY av Lv h2 (pg _) (pt _) (pi _ _) I1 fD aD h)
 refine codeAny_mono run fun r s' hr=> ?_
 cases r with
 |error e=>exact hr.elim
 |ok fl=>
  obtain⟨cg,aj,H',q1,q2,q3,q4⟩:=hr
  exact Lq _ _ s' aj H' cg fl xo (Nat.le_refl _) jB q1 q2.1 q3 q4
end
def za (wi:TI) (ts:Nat) (bq:List Nat) (g:TG) (tt:TT) (ti:TC):TE:=fun σ H Q=>wi σ H fun J H1=>fZ g tt ti J [] (jE ts bq σ) H1 fun ys _ H2=> ∀p,H2 p=none→Q (.ref p) (upd H2 p (.lst ys))
section
variable {X:Cx}{elt tg iter:Expr}{ifs:List Expr}{rest:List Comprehension}{scope:Scope}{pos:Pos}{wi:TI}{g:TG}{tt:TT}{ti:TC}
theorem ZQ (N':List Str) (ts:Nat) (bq:List Nat) (hi:PI X tg iter wi) (pg:∀C s H fp,PG (aG X N' scope C s H fp) tg g) (pt:∀C s H fp,kz (aG X N' scope C s H fp) ifs tt)
  (pi:∀C s H fp D,kA (aG X N' scope C s H fp) D (inner elt (⟨tg,iter,ifs,0⟩::rest) scope pos 0 (.ref D) (aG X N' scope C s H fp).env) ti)
  (ok:qb X.env.scope scope X.N N' ts bq=true:=by rfl) (hc:X.calm=true:=by rfl) (h2:∀g',(Comprehension.mk tg iter ifs 0::rest)[0+1]? =some g'→g'.is_async=0:=by(intro g' h;cases h<;>rfl))
  (hs:∀x,foldedSetIterable iter X.env x=pure x:=by intro _;rfl):
  PE X (.ListComp elt (⟨tg,iter,ifs,0⟩::rest) scope pos) (za wi ts bq g tt ti):=by
 intro pins s σ H Q I h
 have S:=Wt ok
 rw[eval_ListComp]
 refine wpAny_comprehension_free (use:=none) rfl hs (Z9 fun y hy e=>I.ok.has _ (S.free y hy e)) S.kind S.names (au (hi pins s σ H _ I h) fun v s1 h1=>au h1 fun jW s2 pV=> ?_)
 obtain⟨it,fp,tn,J,H2,e,I2,T,ak,f2,q2⟩:=pV
 subst e
 refine Y4 (RR:=fun acc C=>compPost (model X.prog X.w) X.A X.xe none _ acc C) S hc I2 T ak f2 h2 (fun C=>pg C _ _ _) (fun C=>pt C _ _ _) (fun C D=>pi C _ _ _ D) q2 ?_
 intro C D s' aj H' ys fl hC hD jB J' n a q
 obtain⟨m,hn,_⟩:=J'.loc
 exact⟨m,hn,fun h' sb=> ⟨.ref D,_,Wv I2 f2 hC hD jB J' n a sb,rfl,q D n⟩⟩
theorem YL (N':List Str) (ts:Nat) (bq:List Nat) {i:Nat}{x:Str}{px zk:Pos}(hN:X.N.Nodup) (pM:X.N[i]? =some x) (hx:Loc X.env.scope x) (hi:PI X tg iter wi) (pg:∀C s H fp,PG (aG X N' scope C s H fp) tg g) (pt:∀C s H fp,kz (aG X N' scope C s H fp) ifs tt)
  (pi:∀C s H fp D,kA (aG X N' scope C s H fp) D (inner elt (⟨tg,iter,ifs,0⟩::rest) scope pos 0 (.ref D) (aG X N' scope C s H fp).env) ti)
  (wj:swapsWith (.ListComp elt (⟨tg,iter,ifs,0⟩::rest) scope pos) (some (.Name x px)) zk.line X.env=pure true:=by rfl)
  (ok:qb X.env.scope scope X.N N' ts bq=true:=by rfl) (hc:X.calm=true:=by rfl) (h2:∀g',(Comprehension.mk tg iter ifs 0::rest)[0+1]? =some g'→g'.is_async=0:=by(intro g' h;cases h<;>rfl))
  (hs:∀x,foldedSetIterable iter X.env x=pure x:=by intro _;rfl) (eD:X.fn x=true∨X.env.scope.names.lookup x=some .local:=by first |exact .inl rfl |exact .inr rfl |assumption):
  PS X (.Assign [.Name x px] (.ListComp elt (⟨tg,iter,ifs,0⟩::rest) scope pos) zk) (qF (za wi ts bq g tt ti) (bT i)):=by
 intro pins s σ H D I h
 have S:=Wt ok
 rw[exec_Assign_Name_used _ _ _ _ wj]
 refine wpAny_bind (wpAny_standAt (wpAny_bind ?_))
 show wpAny _ X.A (do let _ ←comprehension (.ListComp elt (⟨tg,iter,ifs,0⟩::rest) scope pos) scope X.env _ (newList []) false (eval iter X.env) (some (assign (.Name x px) X.env))) _ _ s
 refine wpAny_bind (wpAny_mono (wpAny_comprehension_free (use:=some (assign (.Name x px) X.env)) (Q:=fun _ s'=> ∃aj H',Inv X pins aj H' s'∧D.nx aj H') rfl hs (Z9 fun y hy e=>I.ok.has _ (S.free y hy e)) S.kind S.names
  (au (hi pins s σ H _ I h) fun v s1 h1=>au h1 fun jW s2 pV=> ?_)) (fun _ s' hq=>wpAny_pure (wpAny_pure hq)) fun _ _ e=>e)
 obtain⟨it,fp,tn,J,H2,e,I2,T,ak,f2,q2⟩:=pV
 subst e
 refine Y4 (RR:=fun acc C=>compPost (model X.prog X.w) X.A X.xe (some (assign (.Name x px) X.env)) _ acc C) S hc I2 T ak f2 h2 (fun C=>pg C _ _ _) (fun C=>pt C _ _ _) (fun C D=>pi C _ _ _ D) q2 ?_
 intro C B s' aj H' ys fl hC hB BQ J' n a q
 obtain⟨m,hn,_⟩:=J'.loc
 have IX:Inv X pins σ (upd H' B (.lst ys)) s':=Wv I2 f2 hC hB BQ J' n a (Heap.SameBut.refl C s'.heap)
 have fC:=I2.kh (H':=upd H' B (.lst ys)) (b:=C) hC (by rw[Zf (Ne.symm BQ)];exact J'.free)
 obtain⟨f0,f1,Cb,f3,f4,f5⟩:=fC
 show wpAny _ X.A (assign (.Name x px) X.env (.ref B)) _ _ s'
 refine wpAny_assign_Name (WM (v:=.ref B) (u:=.ref B) IX hN pM hx rfl (fun eU Rb ⟨c,sb,iX⟩=> ?_) eD)
 have Lx:C≠c:=by
  rcases iX with z |z
  ·rw[z];exact f1
  ·exact(f4 x c z).symm
 refine⟨m,Heap.Ns.sameBut hn sb Lx,fun h' FK=> ?_⟩
 refine⟨σ.set i (some (.ref B)),_,Rb.turned (t':=eU.toks) (it:=C) (fun b o hb e=> (FK.2 b hb).trans e) f0 f1 f3 f4 f5,q B n⟩
end
section
variable {X:Cx}
theorem ZD {c:String} :fX X (.builtin "isinstance") (fun xs H Q=> ∃x t b,xs=[x,.ty c]∧eE X.K H x t∧PySem.W.kitOne X.K t (.type c)=some b∧Q (.bl b) H):=by
 intro pins s σ H xs us Q I r h
 obtain⟨x,t,b,rfl,ty,e,q⟩:=h
 obtain⟨u,v,rfl,ru,rv⟩:=vals2 r
 cases rv
 exact P2 I ru ty e fun tk=> ⟨.bl b,H,I.tok tk,rfl,q⟩
theorem YI (hc:X.calm=true:=by rfl):fX X (.builtin "all") (fun xs H Q=> ∃(p:Addr) (bs:List Bool),xs=[.ref p]∧ag X.K H p (bs.map V.bl)∧Q (.bl (bs.all id)) H):=by
 intro pins s σ H xs us Q I r h
 obtain⟨p,bs,rfl,hp,q⟩:=h
 obtain⟨u,rfl,ru⟩:=vals1 r
 cases ru
 obtain⟨its,rv,pl,hz⟩:=I.list hp
 have hb:∀(i:Nat) (v:Value),its.toArray[i]? =some v→v=.bool (bs.getD i false):=fun i v e=>by
  have e':its[i]? =some v:=by simpa using e
  have hl:=rv.length
  have hi:i<its.length:=(List.getElem?_eq_some_iff.mp e').1
  have aS:i< (bs.map V.bl).length:=by omega
  obtain⟨u,hu,ru⟩:=rv.get (i:=i) (x:=(bs.map V.bl)[i]) (by simp)
  rw[e']at hu
  cases hu
  rw[List.getElem_map]at ru
  have fO:i<bs.length:=by simpa using aS
  have e2:bs.getD i false=bs[i]:=by simp[List.getD_eq_getElem?_getD,fO]
  rw[e2]
  exact ru
 refine call_all_walk (wpAny_pyIter_list pl.isList ?_)
 have bA:p≠s.heap.objs.size:=Nat.ne_of_lt (by obtain⟨o,n,e,_⟩:=pl;exact Heap.lt_size e)
 refine⟨s.heap.objs.size,_,_,_,_,_,fun i=>bs.getD i false,rfl,Walks.list (A:=X.A.in1) (show X.A.in1.handled=none from I.ok.hd hc) s.heap.objs.size p bA its.toArray,⟨⟨_,Heap.get?_push_size _ rfl,rfl,rfl⟩,pl.isList.at fun o e=>Heap.get?_push_of_some _ e⟩,fun i v s' Q' E' hP hQ=> ?_,fun h' tk hk=> ?_⟩
 ·rw[hb i v hP]
  exact wpAny_truthy_bool hQ
 ·have e:(List.range its.toArray.size).all (fun i=>bs.getD i false)=bs.all id:=by
   have hl:its.toArray.size=bs.length:=by have:=rv.length;rw[List.length_map]at this;simpa using this.symm
   rw[hl,Bool.eq_iff_iff,List.all_eq_true,List.all_eq_true]
   constructor
   ·intro h b hb
    obtain⟨i,hi,e⟩:=List.mem_iff_getElem.mp hb
    have:=h i (List.mem_range.mpr hi)
    rw[List.getD_eq_getElem?_getD,List.getElem?_eq_getElem hi,Option.getD_some,e]at this
    exact this
   ·intro h i hi
    have aS:=List.mem_range.mp hi
    rw[List.getD_eq_getElem?_getD,List.getElem?_eq_getElem aS,Option.getD_some]
    exact h _ (List.getElem_mem aS)
  rw[e]
  refine⟨.bl (bs.all id),H,I.kept fun b o eb=>hk b o ?_ (Heap.get?_push_of_some _ eb),rfl,q⟩
  intro z
  have e1:b=s.heap.objs.size:=by simpa using z
  exact absurd (Heap.lt_size eb) (by rw[e1];exact Nat.lt_irrefl _)
def mQ (ns:List Int):Nat:=(PyProof.Rows.firstMet (fun i=>ns.getD i 0) ns.length).length
theorem WG (hc:X.calm=true:=by rfl):fX X (.type "set") (fun xs H Q=> ∃(p:Addr) (ns:List Int),xs=[.ref p]∧ag X.K H p (ns.map V.int)∧ns.length≤1000∧∀q S,H q=none→Q (.ref q) (upd H q (.set S (mQ ns)))):=by
 intro pins s σ H xs us Q I r h
 obtain⟨p,ns,rfl,hp,hn,q⟩:=h
 obtain⟨u,rfl,ru⟩:=vals1 r
 cases ru
 obtain⟨its,rv,pl,hz⟩:=I.list hp
 have hl:=rv.length
 rw[List.length_map]at hl
 refine call_set_list (I.ok.hd hc) pl.isList (YB rv) (by rw[List.size_toArray,←hl];unfold scanBound;omega) fun h' tk hs hk=> ?_
 have e:its.toArray.size=ns.length:=by simp[hl]
 rw[e]at hs
 exact⟨.ref s.heap.objs.size,_,I.laid (a:=s.heap.objs.size) (o:=.set _ (mQ ns)) (fun b o eb=>hk b o (Heap.lt_size eb) eb) (Nat.le_refl _) hs,rfl,q _ _ I.fresh⟩
theorem WH:fX X (.builtin "len") (fun xs H Q=> ∃p S n,xs=[.ref p]∧H p=some (.set S n)∧Q (.int n) H):=by
 intro pins s σ H xs us Q I r h
 obtain⟨p,S,n,rfl,hp,q⟩:=h
 obtain⟨u,rfl,ru⟩:=vals1 r
 cases ru
 obtain⟨o,es,ep,t,h1,h2,h3,h4,h5,h6,h7,h8⟩:=(show cb X.prog X.w H s.heap p (.set S n) from I.ah p _ hp)
 refine call_len_set h1 h2 h3 h7 (by have:scanBound=4096:=rfl;omega) ⟨.int n,H,I.tok _,⟨_,by rw[h8]⟩,q⟩
theorem OL:bo X (binaryOp .Add) (fun x y H Q=> ∃a b ys,x=.ref a∧y=.ref b∧ai X.K H a []∧ai X.K H b ys∧Q (.ref b) H):=by
 intro pins s σ H x y u v Q I rx ry h
 obtain⟨a,b,ys,rfl,rfl,ha,hb,q⟩:=h
 cases rx
 cases ry
 obtain⟨its,rv,pl,hz⟩:=I.tuple ha
 obtain⟨iS,gU,eV,az⟩:=I.tuple hb
 cases rv
 obtain⟨⟨cls,dd,data,sl⟩,ho,fP,n,hd⟩:=id pl
 obtain⟨⟨Cw,km,data2,gk⟩,iU,ir,n2,hd2⟩:=id eV
 simp only at fP hd ir hd2
 subst fP hd ir hd2
 exact concat_meets ⟨_,ho,rfl⟩ ⟨_,iU,rfl⟩ noFill_tuple_add seq_tuple_add PySem.F.slot_tuple_add PySem.F.entry_tuple_add (PySem.F.args_tuple_add_2 _ _)
   (tuple_addW0 a b #[] iS.toArray n n2 dd km sl gk rfl) ⟨ho,iU,⟨.ref b,H,I,rfl,q⟩⟩
end
theorem UZ {K:PySem.W.Frag}{a:Addr}{xs:List V}{g:TG}{tt:TT}{ti:TC}{ys:List V}{σ:St}{H:Hp}{Q:List V→St→Hp→Prop}(Pv:Nat→List V→St→Hp→Prop) (h0:Pv 0 ys σ H)
  (hl:∀i ys σ H,i≤xs.length→Pv i ys σ H→ai K H a xs)
  (hs:∀i x ys σ H,xs[i]? =some x→Pv i ys σ H→g x σ H fun aR H2=>tt aR H2 fun b H3=>if b=true then ti ys aR H3 (Pv (i+1)) else Pv (i+1) ys aR H3)
  (hd:∀ys σ H,Pv xs.length ys σ H→Q ys σ H):fZ g tt ti (yt K a) ys σ H Q:=by
 refine⟨fun i m ys σ H=>m=xs.length - i∧i≤xs.length∧Pv i ys σ H,⟨xs.length,by simp,Nat.zero_le _,h0⟩,?_⟩
 rintro i m ys σ H ⟨rfl,hi,p⟩
 have q:=hl i ys σ H hi p
 by_cases aw:i<xs.length
 ·refine .inr ⟨⟨xs,xs[i],q,by simp[aw]⟩,Pv (i+1),fun cg aj H' p'=> ⟨xs.length - (i+1),by omega,rfl,aw,p'⟩,fun x H' y=> ?_⟩
  obtain⟨e,y⟩:=y
  subst e
  exact hs i x ys σ _ (y xs q) p
 ·have e:i=xs.length:=by omega
  subst e
  exact .inl ⟨⟨xs,q,Nat.le_refl _⟩,hd ys σ H p⟩
theorem ZL {K:PySem.W.Frag}{a:Addr}{xs:List V}{g:TG}{tt:TT}{ti:TC}{ys:List V}{σ:St}{H:Hp}{Q:List V→St→Hp→Prop}(Pv:Nat→List V→St→Hp→Prop) (h0:Pv 0 ys σ H)
  (hl:∀i ys σ H,i≤xs.length→Pv i ys σ H→ag K H a xs)
  (hs:∀i x ys σ H,xs[i]? =some x→Pv i ys σ H→g x σ H fun aR H2=>tt aR H2 fun b H3=>if b=true then ti ys aR H3 (Pv (i+1)) else Pv (i+1) ys aR H3)
  (hd:∀ys σ H,Pv xs.length ys σ H→Q ys σ H):fZ g tt ti (nV K a) ys σ H Q:=by
 refine⟨fun i m ys σ H=>m=xs.length - i∧i≤xs.length∧Pv i ys σ H,⟨xs.length,by simp,Nat.zero_le _,h0⟩,?_⟩
 rintro i m ys σ H ⟨rfl,hi,p⟩
 have q:=hl i ys σ H hi p
 by_cases aw:i<xs.length
 ·refine .inr ⟨⟨xs,xs[i],q,by simp[aw]⟩,Pv (i+1),fun cg aj H' p'=> ⟨xs.length - (i+1),by omega,rfl,aw,p'⟩,fun x H' y=> ?_⟩
  obtain⟨e,y⟩:=y
  subst e
  exact hs i x ys σ _ (y xs q) p
 ·have e:i=xs.length:=by omega
  subst e
  exact .inl ⟨⟨xs,q,Nat.le_refl _⟩,hd ys σ H p⟩
theorem Y2 {lo:Int}{n:Nat}{g:TG}{tt:TT}{ti:TC}{ys:List V}{σ:St}{H:Hp}{Q:List V→St→Hp→Prop}(Pv:Nat→List V→St→Hp→Prop) (h0:Pv 0 ys σ H)
  (hs:∀i ys σ H,i<n→Pv i ys σ H→g (.int (lo+i)) σ H fun aR H2=>tt aR H2 fun b H3=>if b=true then ti ys aR H3 (Pv (i+1)) else Pv (i+1) ys aR H3)
  (hd:∀ys σ H,Pv n ys σ H→Q ys σ H):fZ g tt ti (mz lo n) ys σ H Q:=by
 refine⟨fun i m ys σ H=>m=n - i∧i≤n∧Pv i ys σ H,⟨n,by simp,Nat.zero_le _,h0⟩,?_⟩
 rintro i m ys σ H ⟨rfl,hi,p⟩
 by_cases aw:i<n
 ·refine .inr ⟨aw,Pv (i+1),fun cg aj H' p'=> ⟨n - (i+1),by omega,rfl,aw,p'⟩,fun x H' y=> ?_⟩
  obtain⟨e,y⟩:=y
  subst e y
  exact hs i ys σ _ aw p
 ·have e:i=n:=by omega
  subst e
  exact .inl ⟨Nat.le_refl _,hd ys σ H p⟩
theorem pb {X:Cx}{N':List Str}{scope:Scope}{C:Addr}{s:Shared}{H:Hp}{fp:List Addr}(i:Nat) {x:Str}{pos:Pos}(hN:N'.Nodup:=by decide+kernel) (hi:N'[i]? =some x:=by rfl) (hx:(relabel scope X.env).names.lookup x=some .local:=by rfl):
  PG (aG X N' scope C s H fp) (.Name x pos) (bT i):=ZY (X:=aG X N' scope C s H fp) hN hi (.inl hx) (.inr hx)
def Def (P:Program) (w:World) (K:PySem.W.Frag) (mg:Str→Option Value) (base:Heap) (k:Nat) (x:Str) (ps:List Str) (sp:Sp):Prop:=
 ∃f fd,aA P w K mg base aI k f fd ps sp∧mg x=some (.ref f)∧PySem.W.keepIn K (.ref f)=true∧Binds K fd ps []
section
variable {X:Cx}{k:Nat}{x:Str}{ps:List Str}{sp:Sp}{e:Expr}{es:List Expr}{t:TA}{p pos:Pos}
theorem Zh (d:Def X.prog X.w X.K X.mg X.base k x ps sp) (hr:bP k X.A) (ha:PA X (e::es) t) (hg:Gl X x:=by rfl) (iq:(x==("__debug__" :Str))=false:=by decide)
  (he:starEach (e::es) X.env=(false,eval e X.env)::starEach es X.env:=by rfl) (eJ:(backTo pos (starEach es X.env)).any (·.1)=false:=by rfl):
  PE X (.Call (.Name x p) (e::es) [] pos) (ur sp [] E0 t):=by
 obtain⟨f,fd,F,hm,hk,hb⟩:=d
 exact Jb F hr hg hm hk hb .nil Gj ha iq he eJ
end
def dr (K:PySem.W.Frag) (H:Hp) (x:V):Prop:=∃T,eE K H x (.type T)
def whole:V→Bool
 | .int _=>true
 |_=>false
def cF:V→Int→Int→Bool
 | .int i,a,b=>decide (a≤i)&&decide (i≤b)
 |_,_,_=>false
def uk:Option HO→Option (List V)
 |some (.tup xs)=>some xs
 |_=>none
def bz (H:Hp):V→Option (List V)
 | .ref a=>uk (H a)
 |_=>none
theorem ZB {H:Hp}{a:Addr} :bz H (.ref a)=uk (H a):=rfl
theorem Zu {H:Hp}{a:Addr}{xs:List V}(h:H a=some (.tup xs)):bz H (.ref a)=some xs:=by rw[ZB,h];rfl
theorem PF {o:Option HO}{xs:List V}(h:uk o=some xs):o=some (.tup xs):=by
 cases o with
 |none=>cases h
 |some o=>cases o<;>first |(cases h;rfl) |cases h
theorem ZC {H:Hp}{x:V}{xs:List V}(h:bz H x=some xs):∃a,x=.ref a∧H a=some (.tup xs):=by
 cases x with
 |ref a=>exact⟨a,rfl,PF h⟩
 |_=>cases h
theorem ae.bz {H H':Hp}(s:ae H H') {x:V}{xs:List V}(h:L2.bz H x=some xs):L2.bz H' x=some xs:=by
 obtain⟨a,rfl,q⟩:=ZC h
 exact Zu (s _ _ q)
theorem ae.mV {K:PySem.W.Frag}{H H':Hp}(s:ae H H') {x:V}(h:dr K H x):dr K H' x:=by
 obtain⟨T,t⟩:=h
 cases t with
 |af=>exact⟨_,.af⟩
 |bl y=>exact⟨_,.bl y⟩
 |int i=>exact⟨_,.int i⟩
 |str y=>exact⟨_,.str y⟩
 |iE y=>exact⟨_,.iE y⟩
 |lst e=>exact⟨_,.lst (s _ _ e)⟩
 |cA e=>exact⟨_,.cA (s _ _ e)⟩
 |tup e=>exact⟨_,.tup (s _ _ e)⟩
 |dK e=>exact⟨_,.dK (s _ _ e)⟩
 |dT e=>exact⟨_,.dT (s _ _ e)⟩
def vW:V→Bool
 | .int _=>true
 | .bl _=>true
 |_=>false
def AQ:V→Bool
 | .bl _=>true
 |_=>false
theorem Og {K:PySem.W.Frag}{H:Hp}{x:V}{T:String}(t:eE K H x (.type T)):PySem.W.kitOne K (.type T) (.type "int")=some (vW x):=by cases t<;>rfl
theorem Pa {K:PySem.W.Frag}{H:Hp}{x:V}{T:String}(t:eE K H x (.type T)):PySem.W.kitOne K (.type T) (.type "bool")=some (AQ x):=by cases t<;>rfl
theorem P4 {K:PySem.W.Frag}{H:Hp}{x:V}{T:String}(t:eE K H x (.type T)):PySem.W.kitOne K (.type T) (.type "tuple")=some (bz H x).isSome:=by
 cases t with
 |tup e=>rw[Zu e];rfl
 |lst e=>rw[ZB,e];rfl
 |cA e=>rw[ZB,e];rfl
 |dK e=>rw[ZB,e];rfl
 |dT e=>rw[ZB,e];rfl
 |_=>rfl
theorem QE (x:V):whole x=(vW x&& !AQ x):=by cases x<;>rfl
def aL (p:Addr) (H H':Hp):Prop:=∀b o,H b=some o→b≠p→H' b=some o
theorem aL.trans {p:Addr}{H H1 H2:Hp}(a:aL p H H1) (b:aL p H1 H2):aL p H H2:=fun c o h n=>b c o (a c o h n) n
theorem ae.x {p:Addr}{H H1:Hp}(a:ae H H1):aL p H H1:=fun c o h _=>a c o h
theorem aL.upd {p:Addr}{H:Hp}{o:HO} :aL p H (L2.upd H p o):=fun b u h n=>by rw[Zf n];exact h
section
variable {prog:Program}{w:World}{A:Around}{E:Value→Shared→Prop}{s:Shared}
theorem QP {j t:Addr}{i:Nat}{its:Array Value}{x:Value}{Q:Value→Shared→Prop}(h1:s.heap.IsTupleIter j t i) (h2:s.heap.IsTuple t its) (hx:its[i]? =some x)
  (k:∀h',h'.IsTupleIter j t (i+1)→Heap.SameBut j s.heap h'→Q x {s with heap:=h'}):wpAny (model prog w) A (Builtin.SmallTypes.nextOf (.ref j)) Q E s:=by
 obtain⟨o,eo,co,dO⟩:=id h1
 obtain⟨ot,et,_,nt,dt⟩:=h2
 unfold Builtin.SmallTypes.nextOf
 refine wpAny_bind (wpAny_callSpecial?_slot (name:=Str.ofString "__next__") h1.typeIs F.slot_tuple_iterator_next (wpAny_call_entry F.slot_tuple_iterator_next h1.typeIs F.entry_tuple_iterator_next ?_ (F.args_tuple_iterator_next_1 _)))
 show wpAny _ _ (field (.ref j) 0 >>=_) _ _ s
 refine wpAny_bind (wpAny_field eo dO (x:=.ref t) rfl ?_)
 show wpAny _ _ (if (Value.ref t==Value.none)=true then _ else _) _ _ s
 rw[if_neg (show ¬((Value.ref t==Value.none)=true) from Bool.false_ne_true)]
 show wpAny _ _ (field (.ref j) 1 >>=_) _ _ s
 refine wpAny_bind (wpAny_field eo dO (x:=.int i 0) rfl ?_)
 show wpAny _ _ (seqItems? (.ref t) >>=_) _ _ s
 refine wpAny_bind (wpAny_seqItems et dt ?_)
 simp only[Int.toNat_natCast,hx]
 refine wpAny_bind (wpAny_setField eo dO (by simp) (wpAny_pure ⟨x,rfl,wpAny_pure (k _ ⟨_,Heap.get?_update_self _ eo (Obj.isFreed_of_fields (Obj.data_mapFields dO _)),(Obj.cls_mapFields ..).trans co,?_⟩ (Heap.SameBut.update ..))⟩))
 rw[Obj.data_mapFields dO]
 simp[rawInt]
theorem Qc {j t:Addr}{i:Nat}{its:Array Value}{Q:Value→Shared→Prop}(hh:A.handled=none) (h1:s.heap.IsTupleIter j t i) (h2:s.heap.IsTuple t its) (hx:its[i]? =none)
  (k:∀h' e,Heap.ExtBut j s.heap h'→(∃o,h'.get? e=some o∧o.cls=.type "StopIteration")→E (.ref e) {s with heap:=h'}):wpAny (model prog w) A (Builtin.SmallTypes.nextOf (.ref j)) Q E s:=by
 obtain⟨o,eo,co,dO⟩:=id h1
 obtain⟨ot,et,_,nt,dt⟩:=h2
 unfold Builtin.SmallTypes.nextOf
 refine wpAny_bind (wpAny_callSpecial?_slot (name:=Str.ofString "__next__") h1.typeIs F.slot_tuple_iterator_next (wpAny_call_entry F.slot_tuple_iterator_next h1.typeIs F.entry_tuple_iterator_next ?_ (F.args_tuple_iterator_next_1 _)))
 show wpAny _ _ (field (.ref j) 0 >>=_) _ _ s
 refine wpAny_bind (wpAny_field eo dO (x:=.ref t) rfl ?_)
 show wpAny _ _ (if (Value.ref t==Value.none)=true then _ else _) _ _ s
 rw[if_neg (show ¬((Value.ref t==Value.none)=true) from Bool.false_ne_true)]
 show wpAny _ _ (field (.ref j) 1 >>=_) _ _ s
 refine wpAny_bind (wpAny_field eo dO (x:=.int i 0) rfl ?_)
 show wpAny _ _ (seqItems? (.ref t) >>=_) _ _ s
 refine wpAny_bind (wpAny_seqItems et dt ?_)
 simp only[Int.toNat_natCast,hx]
 refine wpAny_bind (wpAny_rule (wpAny_bind (wpAny_setField eo dO (by simp) ?_)))
 show wpAny _ _ (newExc (.type "StopIteration") [] >>=_) _ _ _
 refine wpAny_bind ?_
 simp only[newExc,newTuple]
 refine wpAny_bind (wpAny_newObj_type ?_ (by size_fits))
 refine wpAny_bind (m:=firstArgMember _ _) (wpAny_of_eq (a:=Value.none) (by first |rfl |(simp only[firstArgMember];rfl)) (wpAny_newObj_type ?_ (by size_fits)))
 simp only[raiseNew]
 refine wpAny_bind (wpAny_handled ?_)
 first |rw[show A.in1.handled=none from hh] |rw[hh]
 exact wpAny_bind (wpAny_pure (wpAny_throw (k _ _ (((Heap.SameBut.update ..).extBut.push _).push _) ⟨_,Heap.get?_push_size _ rfl,rfl⟩)))
end
theorem Cn {prog:Program}{w:World}{A:Around}(hh:A.handled=none) (j t:Addr) (bA:t≠j) (its:Array Value):
  Draws prog w A j [j,t] its.size (fun i v=>its[i]? =some v) (fun i h=>h.IsTupleIter j t i∧h.IsTuple t its) where
 live:=fun _ _ st=>let ⟨o,ho,_⟩:=st.1;⟨o,ho⟩
 frame:=fun _ _ _ st hk=> ⟨st.1.at fun o e=>hk j (by simp) o e,st.2.at fun o e=>hk t (by simp) o e⟩
 item:=fun i s Q E hi st hQ=>QP st.1 st.2 (x:=its[i]) (by simp[hi]) fun h' a b=>hQ _ h' s.toks (by simp[hi]) ⟨a,st.2.extBut b.extBut bA⟩ b
 done:=fun s Q E st hE=>Qc hh st.1 st.2 (by simp) hE
section
variable {prog:Program}{w:World}{A:Around}{E:Value→Shared→Prop}{s:Shared}
theorem PV (l:Addr) (its:Array Value) (n:Nat) (i6:Option Addr) (sl:Array (Option Value)):
  Meets (Builtin.«enumerate.__new__» ⟨[.type "enumerate",.ref l],[]⟩) (fun _ R s=>s.heap.get? l=some {cls:=.type "tuple",dict:=i6,data:=.seq its n,slots:=sl}∧
   R (.ok (.ret (.ref (s.heap.push {cls:=.type "tuple_iterator",data:=.fields #[.ref l,.int 0 0]}).objs.size)))
    {s with heap:=(s.heap.push {cls:=.type "tuple_iterator",data:=.fields #[.ref l,.int 0 0]}).push {cls:=.type "enumerate",data:=.fields #[.none,.bool false,.ref s.heap.objs.size,rawInt 0,.none,.none]} }):=
 .of_wp fun prog w A R s h=>by
  obtain⟨hp,g,d,tk,os⟩:=s
  obtain⟨hl,h⟩:=h
  have lD:=sub_enumerate
  have hL:Heap.IsTuple (Shared.heap ⟨hp,g,d,tk,os⟩) l its:=⟨_,hl,rfl,n,rfl⟩
  wp_walk using AutoSeq1.wpAny_loadPart' hl
  refine wpAny_stack_any fun st=>wpAny_pure ?_
  split
  ·rename_i c _ _ _ _ _
   cases (c==Value.type "enumerate")<;> (wp_walk using AutoSeq1.wpAny_loadPart' hl,wpAny_pyIter_tuple hL;exact⟨_,rfl,h⟩)
  ·wp_walk using AutoSeq1.wpAny_loadPart' hl,wpAny_pyIter_tuple hL
   exact⟨_,rfl,h⟩
theorem QH {l:Addr}{its:Array Value}{Q:Value→Shared→Prop}(hL:s.heap.IsTuple l its)
  (h:∀h',IsEnum h' (s.heap.objs.size+1) s.heap.objs.size 0 .none→h'.IsTupleIter s.heap.objs.size l 0→(∀b o,s.heap.get? b=some o→h'.get? b=some o)→Q (.ref (s.heap.objs.size+1)) {s with heap:=h'}):
  wpAny (model prog w) A (call (.type "enumerate") [.ref l]) Q E s:=by
 obtain⟨⟨c,i6,dt,sl⟩,hl,hc,n,hd⟩:=hL
 replace hc:c=.type "tuple" :=hc
 replace hd:dt=.seq its n:=hd
 subst hc hd
 refine callType_new F.called_enumerate (by decide) (F.typeCall_enumerate_1 _) (F.newCall_enumerate_1 _) (fun obj=>F.args_object_init_2 obj _) F.entry_enumerate_new (PV l its n i6 sl) ⟨hl,?_⟩
 have hz:(s.heap.push {cls:=.type "tuple_iterator",data:=.fields #[.ref l,.int 0 0]}).objs.size=s.heap.objs.size+1:=Heap.size_push ..
 show _∧_
 rw[hz]
 have he:IsEnum ((s.heap.push {cls:=.type "tuple_iterator",data:=.fields #[.ref l,.int 0 0]}).push {cls:=.type "enumerate",data:=.fields #[.none,.bool false,.ref s.heap.objs.size,rawInt 0,.none,.none]}) (s.heap.objs.size+1) s.heap.objs.size 0 .none:=by
  have q:=Heap.get?_push_size (s.heap.push {cls:=.type "tuple_iterator",data:=.fields #[.ref l,.int 0 0]}) (o:= {cls:=.type "enumerate",data:=.fields #[.none,.bool false,.ref s.heap.objs.size,rawInt 0,.none,.none]}) rfl
  rw[hz]at q
  exact q
 exact⟨⟨_,he,rfl⟩,h _ he ⟨_,Heap.get?_push_of_some _ (Heap.get?_push_size _ rfl),rfl,rfl⟩ fun b o x=>Heap.get?_push_of_some _ (Heap.get?_push_of_some _ x)⟩
end
def yu (K:PySem.W.Frag) (t:Addr):It:=
 ⟨fun i H=> ∃xs x,ai K H t xs∧xs[i]? =some x,fun i H x H'=> ∃(T:Addr) (y:V),x=.ref T∧H T=none∧H'=upd H T (.par [.int (i:Int),y])∧∀xs,ai K H t xs→xs[i]? =some y,fun i H=> ∃xs,ai K H t xs∧xs.length=i⟩
theorem PH {P:Program}{w:World}{K:PySem.W.Frag}{elts:List Expr}{kk:Nat}{pos:Pos}(t e j:Addr) (jy:e≠j) (pz:t≠e) (pj:t≠j):
  Turn P w K (.Tuple elts kk pos) (yu K t) [e,j] e (fun i h=> (∃old,IsEnum h e j i old)∧h.IsTupleIter j t i) where
 mem:=by simp
 obj:=fun i h st b hb=>by
  obtain⟨⟨old,he⟩,o,ho,hc,hd⟩:=st
  rcases List.mem_cons.mp hb with rfl |hb
  ·exact⟨_,he,fun v z=>by cases z⟩
  ·rw[List.mem_singleton.mp hb]
   exact⟨o,ho,fun v z=>by rw[hd]at z;cases z⟩
 keep:=fun i h h' st k=> ⟨let ⟨old,he⟩:=st.1;⟨old,k e (by simp) _ he⟩,st.2.at fun o q=>k j (by simp) o q⟩
 item:=by
  intro X hP hw hK hc i pins s σ H E I hf st hg
  subst hP hw hK
  obtain⟨xs,x,hq,hx⟩:=hg
  obtain⟨its,rv,p,hz⟩:=I.tuple hq
  obtain⟨u,hu,ru⟩:=rv.get hx
  have hl:=rv.length
  have lK:i<its.toArray.size:=by
   have:=(List.getElem?_eq_some_iff.mp hu).1
   simpa using this
  have W:=WalksT.enumerateD (prog:=X.prog) (w:=X.w) (A:=X.A) (Cn (A:=X.A.in1) (show X.A.in1.handled=none from I.ok.hd hc) j t pj its.toArray) e jy (by simp[jy,pz.symm]) (by simp)
  have hT:s.heap.IsTuple t its.toArray:=p
  refine W.item i s _ _ lK ⟨st.1,st.2,hT⟩ fun T vals h' tk hP eK lQ ij hk=> ⟨_,rfl,W.go elts kk pos i T _ _ _ ij fun cH dh eC=> ?_⟩
  obtain⟨jh,x2,jr,rfl⟩:=hP
  have j4:its[i]? =some x2:=by simpa using jr
  rw[hu]at j4
  cases j4
  have iz:H T=none:=I.ah.fresh eK
  have both:∀b o,b∉[e,j]→s.heap.get? b=some o→cH.get? b=some o:=fun b o hb q=>eC b o hb (hk b o hb q)
  have jz:T∉[e,j]:=W.apart _ _ _ ij
  have lT:cH.IsTuple T #[.int i jh,u]:=lQ.at fun o q=>eC T o jz q
  have neT:∀b o,s.heap.get? b=some o→b≠T:=fun b o q=>Nat.ne_of_lt (Nat.lt_of_lt_of_le (Heap.lt_size q) eK)
  have cO:∀b o,H b=some o→b≠T:=fun b o q=>Zg q iz
  have bQ:∀b o,H b=some o→b∉[e,j]:=fun b o q z=>by
   have:=(hf b z).1
   rw[this]at q;cases q
  refine⟨.ref T,upd H T (.par [.int (i:Int),x]),?_,rfl,⟨T,x,rfl,iz,rfl,fun ys hy=>by rw[I.qC hy hq];exact hx⟩,⟨dh.1,dh.2.1⟩,fun b hb=> ?_⟩
  ·refine(show Inv X pins σ (upd H T (.par [.int (i:Int),x])) {s with heap:=cH,toks:=tk} from ?_)
   refine I.call (g':=s.gens) (d':=s.drawn) (t':=tk) (h':=cH) (ch:=[e,j]) ⟨fun b o q _ _ hx=>both b o hx q,fun b o q _ _ hx=> ⟨o.slots,both b o hx q⟩,fun b o q n hx=>by rw[Zf (neT b o q)];exact n,fun b o q hx=> ⟨o,both b o hx q⟩,
    fun b ys q=>by rw[Zf (cO b _ q)];exact q,fun b o u q=>by rw[Zf (cO b _ q)];exact q,fun b ps q=> ⟨#[],by rw[Zf (cO b _ q),q];simp⟩⟩ (fun b v q=> ?_) I.bare fun b hb=> ?_
   ·by_cases hb:b=T
    ·subst hb
     rw[Zc]at q
     cases q
     exact⟨by show 2≤sizeLine;decide,[.int i jh,u],.cons ⟨jh,rfl⟩ (.cons ru .nil),lT⟩
    ·rw[Zf hb]at q
     refine(I.ah b v q).bE (fun c z bj q'=>both c z ?_ q') (fun c q'=>by rw[Zf (cO c _ q')];exact q') fun c ys q'=>by rw[Zf (cO c _ q')];exact q'
     rcases bj with z' |z'
     ·rw[z'];exact bQ b v q
     ·exact bQ c _ z'
   ·obtain⟨f0,f1,f2,f3,f4,f5⟩:=hf b hb
    exact⟨f3,f1,f4,f5⟩
  ·rw[Zf (fun z=>jz (by rw[←z];exact hb))]
   exact(hf b hb).1
 done:=by
  intro X hP hw hK hc i pins s σ H E I hf st hg
  subst hP hw hK
  obtain⟨xs,hq,hx⟩:=hg
  obtain⟨its,rv,p,hz⟩:=I.tuple hq
  have hl:=rv.length
  have W:=WalksT.enumerateD (prog:=X.prog) (w:=X.w) (A:=X.A) (Cn (A:=X.A.in1) (show X.A.in1.handled=none from I.ok.hd hc) j t pj its.toArray) e jy (by simp[jy,pz.symm]) (by simp)
  have hn:i=its.toArray.size:=by rw[List.size_toArray];omega
  have hT:s.heap.IsTuple t its.toArray:=p
  rw[hn]at st
  refine W.done s _ _ ⟨st.1,st.2,hT⟩ fun h' tk hk=> ⟨rfl,?_⟩
  have bQ:∀b o,H b=some o→b∉[e,j]:=fun b o q z=>by
   have:=(hf b z).1
   rw[this]at q;cases q
  refine I.call (g':=s.gens) (d':=s.drawn) (t':=tk) (h':=h') (ch:=[e,j]) ⟨fun b o q _ _ hx=>hk b o hx q,fun b o q _ _ hx=> ⟨o.slots,hk b o hx q⟩,fun b o q n hx=>n,fun b o q hx=> ⟨o,hk b o hx q⟩,fun b ys q=>q,fun b o u q=>q,fun b ps q=> ⟨#[],by rw[q];simp⟩⟩ (fun b v q=> ?_) I.bare fun b hb=> ?_
  ·refine(I.ah b v q).bE (fun c z bj q'=>hk c z ?_ q') (fun _ q'=>q') fun _ _ q'=>q'
   rcases bj with z' |z'
   ·rw[z'];exact bQ b v q
   ·exact bQ c _ z'
  ·obtain⟨f0,f1,f2,f3,f4,f5⟩:=hf b hb
   exact⟨f3,f1,f4,f5⟩
 self:=fun A i s Q E st h=>let ⟨old,he⟩:=st.1;wpAny_pyIter_enum he h
section
variable {X:Cx}{elts:List Expr}{kk:Nat}{tp:Pos}
def Ik (K:PySem.W.Frag) (ta:TA):TI:=fun σ H R=>ta σ H fun vs H1=> ∃t,vs=[.ref t]∧(∃xs,ai K H1 t xs)∧R (yu K t) H1
theorem NP {a:Expr}{ta:TA}{p pos:Pos}(hg:Gl X "enumerate") (hm:X.mg "enumerate" =none) (ha:PA X [a] ta) (hs:starEach [a] X.env=[(false,eval a X.env)]:=by rfl):PI X (.Tuple elts kk tp) (.Call (.Name "enumerate" p) [a] [] pos) (Ik X.K ta):=by
 intro pins s σ H R I h
 refine Call_ (Ym I hg hm boot_enumerate (PyProof.Rows.callWith_type1 (au (ha pos pins s σ H _ I h) fun us s1 ⟨vs,H1,I1,r1,q1⟩=> ?_) hs rfl))
 obtain⟨t,e,⟨xs,hq⟩,q⟩:=q1
 subst e
 obtain⟨u,rfl,ru⟩:=vals1 r1
 cases ru
 obtain⟨its,rv,pl,hz⟩:=I1.tuple hq
 have hT:s1.heap.IsTuple t its.toArray:=pl
 have ht:t<s1.heap.objs.size:=by obtain⟨o,ho,_⟩:=hT;exact Heap.lt_size ho
 refine QH hT fun h' he hj hk=>wpAny_pyIter_enum he ?_
 have I2:Inv X pins σ H1 {s1 with heap:=h'} :=I1.kept (t':=s1.toks) hk
 refine⟨s1.heap.objs.size+1,[s1.heap.objs.size+1,s1.heap.objs.size],_,_,H1,rfl,I2,PH t _ _ (Nat.succ_ne_self _) (Nat.ne_of_lt (Nat.lt_succ_of_lt ht)) (Nat.ne_of_lt ht),⟨⟨_,he⟩,hj⟩,fun b hb=> ?_,q⟩
 have iw:s1.heap.objs.size≤b:=by
  rcases List.mem_cons.mp hb with z |z
  ·rw[z];exact Nat.le_succ _
  ·rw[List.mem_singleton.mp z];exact Nat.le_refl _
 exact I1.kh iw (I1.ah.fresh iw)
end
theorem Qa {K:PySem.W.Frag}{a:Addr}{xs:List V}{g:TG}{tt:TT}{ti:TC}{ys:List V}{σ:St}{H:Hp}{Q:List V→St→Hp→Prop}(Pv:Nat→List V→St→Hp→Prop) (h0:Pv 0 ys σ H)
  (hl:∀i ys σ H,i≤xs.length→Pv i ys σ H→ai K H a xs)
  (hs:∀i x T ys σ H,xs[i]? =some x→H T=none→Pv i ys σ H→g (.ref T) σ (upd H T (.par [.int (i:Int),x])) fun aR H2=>tt aR H2 fun b H3=>if b=true then ti ys aR H3 (Pv (i+1)) else Pv (i+1) ys aR H3)
  (hd:∀ys σ H,Pv xs.length ys σ H→Q ys σ H):fZ g tt ti (yu K a) ys σ H Q:=by
 refine⟨fun i m ys σ H=>m=xs.length - i∧i≤xs.length∧Pv i ys σ H,⟨xs.length,by simp,Nat.zero_le _,h0⟩,?_⟩
 rintro i m ys σ H ⟨rfl,hi,p⟩
 have q:=hl i ys σ H hi p
 by_cases aw:i<xs.length
 ·refine .inr ⟨⟨xs,xs[i],q,by simp[aw]⟩,Pv (i+1),fun cg aj H' p'=> ⟨xs.length - (i+1),by omega,rfl,aw,p'⟩,fun x H' y=> ?_⟩
  obtain⟨T,z,e1,e2,e3,e4⟩:=y
  subst e1 e3
  exact hs i z T ys σ H (e4 xs q) e2 p
 ·have e:i=xs.length:=by omega
  subst e
  exact .inl ⟨⟨xs,q,rfl⟩,hd ys σ H p⟩
structure Fl (P:Program) (w:World) (outer:List Env) (H:Hp) (s:Shared) (e C:Addr) (H':Hp) (s':Shared):Prop where
 os:s'.os=s.os
 bare:AllBare s'.gens
 un:Un (aT outer) [] H H' s.heap s'.heap
 ah:bM P w H' s'.heap
 xx:∃B a0,Heap.FlyingW B outer e (.ref C) a0 s'.heap∧(∀b o,s.heap.get? b=some o→b∉aT outer→∃u,B.get? b=some u)∧∀b o,H' b=some o→∃u,B.get? b=some u
def bH (P:Program) (w:World):jf:=fun outer H s E ev s'=> ∃e C H',ev=.ref e∧Fl P w outer H s e C H' s'∧E (.ref e) (some C) H'
section
variable {P:Program}{w:World}{base:Heap}{env:Env}{outer:List Env}{s0 s1 s2:Shared}{H0 H1 H2:Hp}{e C L:Addr}{A:Around}
theorem YO {B h1 h2:Heap}{H:Hp}(x:bM P w H h1) (bU:∀b o,H b=some o→∃u,B.get? b=some u) (k1:B.StaysIn h1) (k2:B.StaysIn h2):bM P w H h2:=fun a o ha=>
  (x a o ha).bE (fun b u hb hq=>by
    have:∃u',B.get? b=some u':=by
      rcases hb with rfl |hb
      · exact bU _ _ ha
      · exact bU _ _ hb
    obtain⟨u',hu⟩:=this
    have e1:=k1 b u' hu
    rw[hq]at e1
    cases e1
    exact k2 b _ hu) (fun _ q=>q) fun _ _ q=>q
theorem JU {B h':Heap}(u0:Un (aT outer) [] H0 H1 s0.heap s1.heap) (u1:Un (aT (env::outer)) [] H1 H2 s1.heap s2.heap) (hf:env.frame=some L) (ab:s0.heap.objs.size≤L) (fu:s0.heap.FunFrames base outer) (fz:∀b∈aT outer,H0 b=none)
  (bU:∀b o,s1.heap.get? b=some o→b∉aT (env::outer)→∃u,B.get? b=some u) (k1:B.StaysIn s2.heap) (k2:B.StaysIn h') (up:s2.heap.UpToSlots h'):Un (aT outer) [] H0 H2 s0.heap h':=by
 have bS:∀b,b∈aT (env::outer)↔b=L∨b∈aT outer:=fun b=>by
  show b∈(env::outer).filterMap (·.frame)↔_
  rw[List.filterMap_cons_some (f:=fun(x:Env)=>x.frame) (a:=env) (b:=L) hf,List.mem_cons]
  exact Iff.rfl
 have out:∀b o,s0.heap.get? b=some o→b∉aT outer→b∉aT (env::outer):=fun b o hb hn hm=>by
  rcases (bS b).mp hm with q |q
  ·rw[q]at hb
   exact absurd (Nat.lt_of_lt_of_le (Heap.lt_size hb) ab) (Nat.lt_irrefl _)
  ·exact hn q
 have vV:∀b o u,s2.heap.get? b=some o→B.get? b=some u→h'.get? b=some o:=fun b o u hb hu=>by
  have e1:=k1 b u hu
  rw[hb]at e1
  cases e1
  exact k2 b _ hu
 have mP:∀b o,s0.heap.get? b=some o→b∈aT outer→∃sl,h'.get? b=some {o with slots:=sl} :=fun b o hb hm=>by
  obtain⟨_,o',cw,nf⟩:=fu.mem hm
  rw[hb]at cw
  cases cw
  obtain⟨zm,e1⟩:=u0.slot b o hb (fz b hm) hm (by simp)
  have n1:=u0.free b o hb (fz b hm) (by simp)
  obtain⟨gk,e2⟩:=u1.slot b _ e1 n1 ((bS b).mpr (.inr hm)) (by simp)
  obtain⟨Fs,e3⟩:=up b _ e2 nf
  exact⟨Fs,e3⟩
 refine⟨fun b o hb hn Be _=> ?_,fun b o hb hn hm _=>mP b o hb hm,fun b o hb hn hx=> ?_,fun b o hb _=> ?_,fun b xs hb=>u1.fI b xs (u0.fI b xs hb),fun b o u hb=>u1.fE b o u (u0.fE b o u hb),fun b ps hb=> ?_⟩
 ·have e1:=u0.keep b o hb hn Be (by simp)
  have n1:=u0.free b o hb hn (by simp)
  have dn:=out b o hb Be
  have e2:=u1.keep b o e1 n1 dn (by simp)
  obtain⟨u,hu⟩:=bU b o e1 dn
  exact vV b o u e2 hu
 ·obtain⟨o1,e1⟩:=u0.there b o hb (by simp)
  have n1:=u0.free b o hb hn (by simp)
  exact u1.free b o1 e1 n1 (by simp)
 ·by_cases hm:b∈aT outer
  ·obtain⟨sl,q⟩:=mP b o hb hm
   exact⟨_,q⟩
  ·obtain⟨o1,e1⟩:=u0.there b o hb (by simp)
   obtain⟨u,hu⟩:=bU b o1 e1 (out b o hb hm)
   exact⟨u,k2 b u hu⟩
 ·obtain⟨m1,q1⟩:=u0.fo b ps hb
  obtain⟨m2,q2⟩:=u1.fo b _ q1
  exact⟨m1++m2,by rw[q2,Array.append_assoc]⟩
end
theorem Gi {P:Program}{w:World}{K:PySem.W.Frag}{mg:Str→Option Value}{base:Heap}{N:List Str}{qual:Str}{scope:Scope}{f:Addr}{cd:Value}{A:Around}{outer:List Env}{s:Shared}{H:Hp}{E:XK} :
  Passes (bH P w) (bY (bH P w) P w K mg base N qual scope f cd A outer s H E) E:=by
 intro pins σ H1 s1 ev s2 I h
 obtain⟨e,C,H',rfl,F,hE⟩:=h
 obtain⟨B,a0,fl,bU,fH⟩:=F.xx
 refine wpAny_leaves_onW (L:=s.heap.objs.size) I.ok.frames rfl fl fun h' lV up=> ?_
 refine⟨e,C,H',rfl,⟨F.os.trans I.os,F.bare,JU (base:=base) (L:=s.heap.objs.size) I.base F.un rfl (Nat.le_refl _) I.ok.dR I.ok.gG bU fl.1 lV.1 up,YO F.ah fH fl.1 lV.1,B,a0,lV,fun b o hb hn=> ?_,fH⟩,hE⟩
 obtain⟨o1,e1⟩:=I.base.there b o hb (by simp[bY])
 refine bU b o1 e1 fun hm=> ?_
 have dE:b∈(envOfC qual scope s.heap.objs.size f cd::outer).filterMap (·.frame):=hm
 rw[List.filterMap_cons_some (f:=fun(x:Env)=>x.frame) (a:=envOfC qual scope s.heap.objs.size f cd) (b:=s.heap.objs.size) rfl]at dE
 rcases List.mem_cons.mp dE with q |q
 ·rw[q]at hb
  exact absurd (Heap.lt_size hb) (Nat.lt_irrefl _)
 ·exact hn q
theorem Od {K:PySem.W.Frag}{h:Heap}{C:Addr}{qe:List Value}{newId:String}(X:K.In h) (q:PySem.W.excIn K C qe newId=true):
  ∃bm N nm qn bs hdct sn sub ab col dd k0 k1 k2 k3 k5 mN,h.get? C=some (excClassObj nm qn C N bs bm hdct sn sub ab col dd k0 k1 k2 k3 k5 newId)∧h.Ns N mN∧mN "__init__" =none∧OwnTail h qe bm:=by
 unfold PySem.W.excIn at q
 split at q
 ·rename_i dd cd sl lk
  split at q
  ·rename_i c2 bm j0 j1 j2 j3 nn j5 em es
   rw[Bool.and_eq_true,Bool.and_eq_true,Bool.and_eq_true,Bool.and_eq_true,Bool.and_eq_true]at q
   obtain⟨⟨⟨⟨⟨q1,q2⟩,q3⟩,q4⟩,q5⟩,q6⟩:=q
   have z1:=beq_iff_eq.mp q1
   have z2:=beq_iff_eq.mp q2
   have z6:=beq_iff_eq.mp q6
   subst z1 z2
   have ob:=X _ _ lk
   have z3:cd.hasDel=false:=by revert q3;cases cd.hasDel<;>simp
   have zs:sl= #[j0,j1,j2,j3,some (.builtin nn),j5]:=by
    apply Array.toList_inj.mp
    rw[es]
   refine⟨bm,cd.ns,cd.name,cd.qualname,cd.bases,cd.hasDict,cd.slotNames,cd.subclasses,cd.abstract,cd.collection,dd,j0,j1,j2,j3,j5,h.nsMap cd.ns,?_,.of_isNs (PySem.W.isNs_of_in X q5),PySem.W.nsMap_none_of_in X q5 z6,PySem.W.tail_of_in X q4⟩
   rw[ob,zs]
   obtain⟨a1,a2,a3,a4,a5,a6,a7,a8,a9,a10,a11⟩:=cd
   cases em
   cases z3
   rfl
  ·cases q
 ·cases q
def EI (C:Addr) (E:XK) (ta:TA):TS:=fun _ σ H=>ta σ H fun vs H1=>vs.length≤sizeLine∧∀e,E (.ref e) (some C) H1
theorem U5 {P:Program}{w:World}{K:PySem.W.Frag}{mg:Str→Option Value}{base:Heap}{N:List Str}{qual:Str}{scope:Scope}{f:Addr}{cd:Value}{A:Around}{outer:List Env}{s s1:Shared}{H H1:Hp}{E:XK}
  {pins:List (Addr×Obj)}{σ:St}{h':Heap}{e C:Addr}{vs:List Value} (I:Inv (bY (bH P w) P w K mg base N qual scope f cd A outer s H E) pins σ H1 s1) (mk:Heap.MadeExcOf s1.heap h' e (.ref C) vs) (hE:E (.ref e) (some C) H1):
  (bY (bH P w) P w K mg base N qual scope f cd A outer s H E).xe (.ref e) {s1 with heap:=h'} :=by
 have pN:∀env∈(envOfC qual scope s.heap.objs.size f cd::outer),∀b,env.frame=some b→b∈aT (envOfC qual scope s.heap.objs.size f cd::outer):=fun env he b hb=>List.mem_filterMap.mpr ⟨env,he,hb⟩
 have st:=I.stack
 refine wpAny_leaves_madeW (L:=s.heap.objs.size) (base:=PySem.W.hideAll s1.heap (aT (envOfC qual scope s.heap.objs.size f cd::outer))) (h:=s1.heap) I.ok.frames rfl (fun b o q=>PySem.W.of_hideAll _ q) (PySem.W.funFrames_hide st pN) mk fun h2 t fl tp _ up=> ?_
 have bU:∀b o,s1.heap.get? b=some o→b∉aT (envOfC qual scope s.heap.objs.size f cd::outer)→∃u,(PySem.W.hideAll s1.heap (aT (envOfC qual scope s.heap.objs.size f cd::outer))).get? b=some u:=fun b o hb hn=> ⟨o,PySem.W.hideAll_get _ hb hn⟩
 have fH:∀b o,H1 b=some o→∃u,(PySem.W.hideAll s1.heap (aT (envOfC qual scope s.heap.objs.size f cd::outer))).get? b=some u:=fun b o hb=>by
  have hl:=I.ah.lt hb
  have hx:∃u,s1.heap.get? b=some u:=by
   have ok:=I.ah b o hb
   cases o with
   |lst xs=>obtain⟨_,_,_,_,q⟩:=ok;exact⟨_,q⟩
   |tup xs=>obtain⟨_,_,_,⟨ob,q,_⟩,_⟩:=ok;exact⟨_,q⟩
   |par xs=>obtain⟨_,_,_,ob,q,_⟩:=ok;exact⟨_,q⟩
   |dK bX=>obtain⟨_,_,_,_,ob,_,_,q,_⟩:=ok;exact⟨_,q⟩
   |dT bX=>obtain⟨_,_,_,_,ob,_,_,q,_⟩:=ok;exact⟨_,q⟩
   |set S n=>obtain⟨ob,_,_,_,q,_⟩:=ok;exact⟨_,q⟩
   |ins C dx fs=>obtain⟨_,_,_,q,_⟩:=ok;exact⟨_,q⟩
   |own y=>exact ok
   |xd fs=>obtain⟨_,⟨_,_,_,q,_⟩,_⟩:=ok;exact⟨_,q⟩
   |rC lo hi=>obtain⟨_,_,_,q⟩:=ok;exact⟨_,q⟩
   |cA ob u=>exact⟨_,ok.1⟩
   |bO ps=>exact⟨_,(show s1.heap.get? b=some _ from ok)⟩
   |met f y=>exact⟨_,(show s1.heap.get? b=some _ from ok)⟩
   |ext φ=>exact ok.2.1
  obtain⟨u,hu⟩:=hx
  exact bU b u hu fun hm=>by
   have:=I.oo b hm
   rw[this]at hb
   cases hb
 have k1:Heap.StaysIn (PySem.W.hideAll s1.heap (aT (envOfC qual scope s.heap.objs.size f cd::outer))) h':=fun b o q=>mk.keeps b o (PySem.W.of_hideAll _ q)
 refine⟨e,C,H1,rfl,⟨I.os,I.bare,JU (s1:=s1) (s2:= {s1 with heap:=h'}) (base:=base) (L:=s.heap.objs.size) I.base (Un.kept mk.keeps) rfl (Nat.le_refl _) I.ok.dR I.ok.gG bU k1 fl.1 up,YO (I.ah.kept mk.keeps) fH k1 fl.1,_,_,fl,fun b o hb hn=> ?_,fH⟩,hE⟩
 obtain⟨o1,e1⟩:=I.base.there b o hb (by simp[bY])
 refine bU b o1 e1 fun hm=> ?_
 have dE:b∈(envOfC qual scope s.heap.objs.size f cd::outer).filterMap (·.frame):=hm
 rw[List.filterMap_cons_some (f:=fun(x:Env)=>x.frame) (a:=envOfC qual scope s.heap.objs.size f cd) (b:=s.heap.objs.size) rfl]at dE
 rcases List.mem_cons.mp dE with q |q
 ·rw[q]at hb
  exact absurd (Heap.lt_size hb) (Nat.lt_irrefl _)
 ·exact hn q
theorem J5 {P:Program}{w:World}{K:PySem.W.Frag}{mg:Str→Option Value}{base:Heap}{N:List Str}{qual:Str}{scope:Scope}{f:Addr}{cd:Value}{A:Around}{outer:List Env}{s:Shared}{H:Hp}{E:XK}{x:Str}{C:Addr}{B newId Ic:String}{qe:List Value}
  {lW:Expr}{rest:List Expr}{np bZ pos:Pos}{ta:TA} (FB:ExcBaseFacts B newId Ic qe) (hmg:mg x=some (.ref C)) (hex:PySem.W.excIn K C qe newId=true) (hg:Gl (bY (bH P w) P w K mg base N qual scope f cd A outer s H E) x)
  (ha:PA (bY (bH P w) P w K mg base N qual scope f cd A outer s H E) (lW::rest) ta)
  (he:starEach (lW::rest) (envOfC qual scope s.heap.objs.size f cd)=(false,eval lW (envOfC qual scope s.heap.objs.size f cd))::starEach rest (envOfC qual scope s.heap.objs.size f cd):=by rfl)
  (eJ:(backTo bZ (starEach rest (envOfC qual scope s.heap.objs.size f cd))).any (·.1)=false:=by rfl) (hd:(x==("__debug__" :Str))=false:=by decide):
  PS (bY (bH P w) P w K mg base N qual scope f cd A outer s H E) (.Raise (some (.Call (.Name x np) (lW::rest) [] bZ)) none pos) (EI C E ta):=by
 intro pins s1 σ H1 D I h
 obtain⟨bm,Nn,nm,qn,bs,hdct,sn,sub,ab,col,dd,k0,k1,k2,k3,k5,mN,hC,hN,Km,T⟩:=Od I.mod.nB hex
 refine wpAny_Raise_call_subT (C:=C) (nm:=nm) (q:=qn) (N:=Nn) (bs:=bs) (bm:=bm) (hdct:=hdct) (sn:=sn) (sub:=sub) (ab:=ab) (col:=col) (dd:=dd) (k0:=k0) (k1:=k1) (k2:=k2) (k3:=k3) (k5:=k5)
  FB (mN:=mN) (T.hasType FB.hasBase) (I.ok.hd rfl) ?_ Km (Jg I hg hmg ⟨rfl,?_⟩ hd)
 ·show(backTo bZ (starEach (lW::rest) (envOfC qual scope s.heap.objs.size f cd))).any (·.1)=false
  rw[he]
  show(false||(backTo bZ (starEach rest (envOfC qual scope s.heap.objs.size f cd))).any (·.1))=false
  rw[eJ]
  rfl
 ·have q:=ha bZ pins s1 σ H1 _ I h
  show wpAny _ _ (evalArgs (.ref C) true (backTo bZ (starEach (lW::rest) (envOfC qual scope s.heap.objs.size f cd))) []) _ _ _
  have q':wpAny (model P w) (A.deeper (envOfC qual scope s.heap.objs.size f cd)) (spliced (backTo bZ (starEach (lW::rest) (envOfC qual scope s.heap.objs.size f cd)))) _ _ s1:=q
  rw[he]at q' ⊢
  refine Calls.evalArgs_plain (wpAny_mono q' (fun us s2 h2=> ?_) fun _ _ y=>y)
  obtain⟨vs,H2,I2,r,hz,hE⟩:=h2
  refine⟨rfl,by rw[←r.length];exact hz,I2.bk _ _ hC,hN.keeps I2.bk,T.keeps I2.bk,fun h' e mk=> ?_⟩
  exact U5 I2 mk (hE e)
section
variable {X:Cx}
def E6 (ta tb:TE):TE:=fun σ H Q=>ta σ H fun v H1=> ∃x,v=.str x∧(Str.empty++x).length≤sizeLine∧tb σ H1 fun u H2=> ∃n:Int,u=.int n∧n.natAbs.log2<1920∧(Str.empty++x++(Str.ofString (toString n))).length≤sizeLine∧∀z,Q (.str z) H2
theorem NN {a b:Expr}{ta tb:TE}{p pos:Pos}(ha:PE X a ta) (hb:PE X b tb):PE X (.JoinedStr [a,.FormattedValue b (-1) none p] pos) (E6 ta tb):=by
 intro pins s σ H Q I h
 refine JoinedStr_many (joinParts_cons (wpAny_mono (ha pins s σ H _ I h) (fun u s1 h1=> ?_) fun _ _ y=>y))
 obtain⟨v,H1,I1,r1,x,rfl,hz,h2⟩:=h1
 obtain⟨t,rfl⟩:=r1
 refine⟨hz,joinParts_cons (FormattedValue_plain (wpAny_mono (hb pins s1 σ H1 _ I1 h2) (fun u s2 h3=> ?_) fun _ _ y=>y))⟩
 obtain⟨v,H2,I2,r2,n,rfl,hn,az,q⟩:=h3
 obtain⟨t2,rfl⟩:=r2
 refine formatField_int_small hn ⟨az,?_⟩
 refine joinParts_nil ?_ az
 exact⟨.str _,H2,(I2.tok _).tok _,⟨_,rfl⟩,q _⟩
end
section
variable {P:Program}{w:World}{K:PySem.W.Frag}{mg:Str→Option Value}{base:Heap}
theorem aH.jS {x qual:Str}{st:Stmt}{f:Addr}{fd:FuncData}{N ps:List Str}{k:Nat}{sp:Sp}(F:aH K x qual st f fd) (S:bg N ps (ay st)) (len:∀vs H Q E,sp vs H Q E→vs.length=ps.length)
    (hb:∀(ao:Value) (A:Around) (outer:List Env) (s:Shared) (H:Hp) (vs:List V) (Q:VK) (E:XK),bP k (A.deeper (envOfC qual (ay st) s.heap.objs.size f ao))→sp vs H Q E→
      ∃t,eQ (bY (bH P w) P w K mg base N qual (ay st) f ao A outer s H E) (dG st) t∧t {nx:=fun _ H'=>Q .af H',rt:=Q} (start N vs) H):aA P w K mg base (bH P w) (k+1) f fd ps sp:=by
  obtain⟨oc,od,kV,doc,pm,an,ao,ct,eX,rfl,lk,cQ⟩:=F.ex
  exact ya lk cQ S len fun A outer s H vs Q E hr dD=>hb ao A outer s H vs Q E hr dD
def cf (P:Program) (w:World) (K:PySem.W.Frag) (mg:Str→Option Value) (base:Heap) (k:Nat) (x:Str) (ps:List Str) (sp:Sp):Prop:=
 ∃f fd,aA P w K mg base (bH P w) k f fd ps sp∧mg x=some (.ref f)∧PySem.W.keepIn K (.ref f)=true∧Binds K fd ps []
theorem Yb {N:List Str}{qual:Str}{scope:Scope}{f:Addr}{cd:Value}{A:Around}{outer:List Env}{s:Shared}{H:Hp}{E:XK}{k:Nat}{x:Str}{ps:List Str}{sp:Sp}{e:Expr}{es:List Expr}{t:TA}{p pos:Pos}
  (d:cf P w K mg base k x ps sp) (hr:bP k (A.deeper (envOfC qual scope s.heap.objs.size f cd))) (ha:PA (bY (bH P w) P w K mg base N qual scope f cd A outer s H E) (e::es) t) (hg:Gl (bY (bH P w) P w K mg base N qual scope f cd A outer s H E) x:=by rfl)
  (iq:(x==("__debug__" :Str))=false:=by decide)
  (he:starEach (e::es) (envOfC qual scope s.heap.objs.size f cd)=(false,eval e (envOfC qual scope s.heap.objs.size f cd))::starEach es (envOfC qual scope s.heap.objs.size f cd):=by rfl)
  (eJ:(backTo pos (starEach es (envOfC qual scope s.heap.objs.size f cd))).any (·.1)=false:=by rfl):
  PE (bY (bH P w) P w K mg base N qual scope f cd A outer s H E) (.Call (.Name x p) (e::es) [] pos) (ur sp [] E t):=by
 obtain⟨g,fd,F,hm,hk,hb⟩:=d
 exact Jb F hr hg hm hk hb .nil Gi ha iq he eJ
end
end L2
namespace L2
open PySem PySem.Spec PyProof.Rows PySem.Builtin PySem.Builtin.ObjectAttr PySem.Builtin.Getset_descriptor
def iZ (e C:Addr):HO:=.ext fun h=> ∃o,h.get? e=some o∧o.cls=.ref C
structure kD (K:PySem.W.Frag) (C:Addr):Prop where
 ga:PySem.W.findIn K (.ref C) "__getattribute__" =some (some (.builtin "BaseException.__getattribute__"))
 hook:PySem.W.findIn K (.ref C) "__getattr__" =some none
 cl:PySem.W.findIn K (.ref C) "__class__" =some (some (.builtin "object.__class__"))
 ob:PySem.W.mroIn K C (.type "object")=some true
 bx:PySem.W.mroIn K C (.type "BaseException")=some true
 cls:(PySem.W.clsIn K C).isSome=true
section
variable {prog:Program}{w:World}{A:Around}{E:Value→Shared→Prop}{s:Shared}{K:PySem.W.Frag}{e C:Addr}{o:Obj}{R:Result→Shared→Prop}
theorem JA {M:Model}{h:Heap}(hx:h.get? e=some o) (hc:o.cls=.ref C):PySem.W.Looks M h (typeOf (.ref e)) (.ref C):=hc▸(PySem.W.Looks.ld hx).andThen .now
theorem O3 {tp:Value}(X:K.In s.heap) (hx:s.heap.get? e=some o) (hc:o.cls=.ref C) (Z:kD K C) (h:R (.ok (.ret (.ref C))) s):
  codeAny (model prog w) A (.call (.builtin "getset_descriptor.__get__") ⟨[.builtin "object.__class__",.ref e,tp],[]⟩) R s:=by
 obtain⟨h0,g0,d0,t0,o0⟩:=s
 have LT:=JA (M:=model prog w) hx hc
 have LM:=PySem.W.looks_mroIn (M:=model prog w) X Z.ob
 refine codeAny_call_builtin PySem.W.KF.slot_gs.plain PySem.W.KF.entry_gs (PySem.W.KF.slot_gs.check _ _ _ _ _ _ _ _ PySem.W.KF.type_class (PySem.W.KF.args_gs _ _ _) ?_)
 unfold Builtin.«getset_descriptor.__get__» descrGet
 rw[PySem.W.dga_obj]
 refine wpAny_bind (wpAny_pure ?_)
 unfold descrGetter descrCheckInstance descrNameAndClass isInstance
 simp only[PySem.W.KF.owner_class]
 repeat lk
 refine⟨Code.quiet_builtin _ (by decide+kernel),codeAny_builtin PySem.W.KF.entry_class ?_⟩
 unfold Builtin.«object.__class__» shownTypeOf
 repeat lk
 exact h
theorem PX {tk:Tok}{Q:PySem.Fin→Shared→Prop}(X:K.In s.heap) (hx:s.heap.get? e=some o) (hc:o.cls=.ref C) (Z:kD K C) (hq:Q (.done (.ret (.ref C))) s):
  wpAny (model prog w) A (Builtin.«object.__getattribute__» ⟨[.ref e,.str "__class__" tk],[]⟩) Q E s:=by
 obtain⟨h0,g0,d0,t0,o0⟩:=s
 have LT:=JA (M:=model prog w) hx hc
 have LC:=PySem.W.looks_findIn (M:=model prog w) X Z.cl
 have SJ:(⟨h0,g0,d0,t0,o0⟩:Shared).TypeIs (.builtin "object.__class__") "getset_descriptor" :=F.typeOf_object_class
 have f5:=F.typeOf_object_class
 have f6:=F.slot_gs_get.lookup
 have f7:=F.slot_gs_set.lookup
 repeat (any_goals (first |assumption |with_reducible refine LT.at ?_ |with_reducible refine LC.at ?_ |wp_step))
 refine O3 (s:=⟨h0,g0,d0,t0,o0⟩) X hx hc Z ?_
 exact wpAny_pure hq
theorem O2 {tk:Tok}(X:K.In s.heap) (hx:s.heap.get? e=some o) (hc:o.cls=.ref C) (Z:kD K C) (hq:R (.ok (.ret (.ref C))) s):
  codeAny (model prog w) A (.call (.builtin "BaseException.__getattribute__") ⟨[.ref e,.str "__class__" tk],[]⟩) R s:=by
 refine codeAny_call_builtin F.attr_ValueError.ga.plain F.entry_bexc_ga ?_
 obtain⟨h0,g0,d0,t0,o0⟩:=s
 have LT:=JA (M:=model prog w) hx hc
 have LB:=PySem.W.looks_mroIn (M:=model prog w) X Z.bx
 have hk:builtinKind "BaseException.__getattribute__" =some .slot:=by decide+kernel
 have dD:splitId "BaseException.__getattribute__" =some ("BaseException", "__getattribute__"):=by decide+kernel
 have ha:=F.args_bexc_ga (.ref e) (.str "__class__" tk)
 simp only[checkBuiltinCall,hk,dD]
 have LI:PySem.W.Looks (model prog w) h0 (isInstance (.ref e) (.type "BaseException")) true:=LT.andThen LB
 refine wpAny_bind (LI.at ?_)
 repeat (first |exact PX (s:=⟨h0,g0,d0,t0,o0⟩) X hx hc Z hq |assumption |wp_step)
theorem O1 {Q:Option Value→Shared→Prop}(X:K.In s.heap) (hx:s.heap.get? e=some o) (hc:o.cls=.ref C) (Z:kD K C) (hq:Q (some (.ref C)) {s with toks:=s.toks+1}):
  wpAny (model prog w) A (getAttr? (.ref e) "__class__") Q E s:=by
 obtain⟨h0,g0,d0,t0,o0⟩:=s
 have LT:=JA (M:=model prog w) hx hc
 have L1:=PySem.W.looks_findIn (M:=model prog w) X Z.ga
 have L2:=PySem.W.looks_findIn (M:=model prog w) X Z.hook
 have f3:=F.attr_ValueError.ga.bind (.ref e)
 have jr:(Value.builtin "BaseException.__getattribute__" ==Value.builtin "object.__getattribute__")=false:=by decide+kernel
 have v8:(onTheHeap (Value.ref C)&&Value.builtin "BaseException.__getattribute__" ==Value.builtin "object.__getattribute__")=false:=by rw[jr];rfl
 unfold getAttr? getAttrBy? getAttrBy
 refine wpAny_bind (wpAny_mkText (wpAny_bind (wpAny_attempt (wpAny_holding (wpAny_bind (LT.at (wpAny_bind (L1.at ?_))))))))
 repeat (any_goals (first |assumption |with_reducible refine L2.at ?_ |wp_step))
 refine O2 (s:=⟨h0,g0,d0,t0+1,o0⟩) X hx hc Z ?_
 repeat (any_goals (first |assumption |wp_step))
theorem Pb (Z:kD K C):PySem.W.KitX K (.ref e) (.ref C) (fun h=> ∃o,h.get? e=some o∧o.cls=.ref C) where
 ty:=fun M h _ ⟨o,hx,hc⟩=>JA hx hc
 it:=fun M h X _=>by
  obtain⟨cd,cQ⟩:=Option.isSome_iff_exists.mp Z.cls
  unfold PySem.W.clsIn at cQ
  split at cQ
  ·rename_i lk
   intro A2 Q2 E2 s2 k q
   unfold isType loadHead
   exact wpAny_bind (wpAny_loadPart (k _ _ (X _ _ lk)) (wpAny_pure q))
  ·cases cQ
 ne:=fun h tp dd its n sl X nF=>by
  obtain⟨cd,cQ⟩:=Option.isSome_iff_exists.mp Z.cls
  refine Bool.eq_false_iff.mpr fun q=> ?_
  have z:C=tp:=Value.ref.inj (beq_iff_eq.mp q)
  rw[←z]at nF
  unfold PySem.W.clsIn at cQ
  split at cQ
  ·rename_i lk
   have y:=(X _ _ lk).symm.trans nF
   cases y
  ·cases cQ
 ca:=fun X ⟨o,hx,hc⟩ k=>O1 X hx hc Z k
end
section
variable {X:Cx}
theorem Jl:fX X (.builtin "isinstance") (fun xs H Q=> ∃e C y c b,xs=[.ref e,y]∧H e=some (iZ e C)∧kD X.K C∧(∀u,RelV y u→u=c)∧PySem.W.kitOne X.K (.ref C) c=some b∧Q (.bl b) H):=by
 rintro pins s σ H vs us Q I r ⟨e,C,y,c,b,rfl,he,Z,hy,hk,q⟩
 cases r with
 |cons r1 r2=>
  cases r2 with
  |cons r3 r4=>
   cases r4
   rw[hy _ r3]
   rw[show _=Value.ref e from r1]
   obtain⟨p,_,_⟩:=(show cb X.prog X.w H s.heap e (iZ e C) from I.ah e _ he)
   exact PySem.W.kia_one (Pb Z) I.cG p hk (fun z=>nomatch z) fun tk=> ⟨.bl b,H,I.tok _,rfl,q⟩
end
end L2
namespace L2
open PySem PySem.Spec PyProof.Rows
abbrev Cx.iV (X:Cx) (e:Value):Cx:= {X with A:=X.A.mark (some e),calm:=false,xe:=fun _ _=>False}
section
variable {X:Cx}{pins:List (Addr×Obj)}{σ:St}{H H':Hp}{s s':Shared}
theorem Inv.iV (I:Inv X pins σ H s) (e:Value):Inv (X.iV e) pins σ H s:=
 ⟨⟨I.ok.mod,I.ok.kind,I.ok.glob,I.ok.blt,I.ok.above,I.ok.inj,I.ok.has,I.ok.ko,fun h=>Bool.noConfusion h,I.ok.frames,I.ok.mL,I.ok.nP,I.ok.bs,I.ok.i7,I.ok.kT,I.ok.lZ,I.ok.dR,I.ok.gG⟩,I.os,I.bare,I.base,I.loc,I.cell,I.free,I.fF,I.pin,I.ah,I.len⟩
theorem Inv.Er {e:Value}(I:Inv (X.iV e) pins σ H s) (hd:X.calm=true→X.A.handled=none):Inv X pins σ H s:=
 ⟨⟨I.ok.mod,I.ok.kind,I.ok.glob,I.ok.blt,I.ok.above,I.ok.inj,I.ok.has,I.ok.ko,hd,I.ok.frames,I.ok.mL,I.ok.nP,I.ok.bs,I.ok.i7,I.ok.kT,I.ok.lZ,I.ok.dR,I.ok.gG⟩,I.os,I.bare,I.base,I.loc,I.cell,I.free,I.fF,I.pin,I.ah,I.len⟩
theorem Inv.Cz {e C:Addr}{B h':Heap}{o:Obj}(I:Inv X pins σ H s) (un:Un (aT X.stack) [] H H' s.heap s'.heap) (os:s'.os=s.os) (bare:AllBare s'.gens) (ah:bM X.prog X.w H' s'.heap)
  (bU:∀b o,s.heap.get? b=some o→b∉aT X.stack→∃u,B.get? b=some u) (fH:∀b o,H' b=some o→∃u,B.get? b=some u) (be:B.get? e=none) (k1:B.StaysIn s'.heap) (k2:B.StaysIn h') (up:s'.heap.UpToSlots h')
  (he:h'.get? e=some o) (hc:o.cls=.ref C) (hd:∃vs,o.data=.fields vs):Inv X pins σ (upd H' e (iZ e C)) {s' with heap:=h'}∧H' e=none:=by
 have n0:H' e=none:=by
  cases q:H' e with
  |none=>rfl
  |some u=>
   obtain⟨u',hu⟩:=fH e u q
   rw[be]at hu
   cases hu
 have mP:∀b o,s.heap.get? b=some o→b∈aT X.stack→∃sl,h'.get? b=some {o with slots:=sl} :=fun b o hb hm=>by
  obtain⟨_,o',cw,nf⟩:=I.stack.mem hm
  rw[hb]at cw
  cases cw
  obtain⟨zm,e1⟩:=un.slot b o hb (I.oo b hm) hm (by simp)
  obtain⟨gk,e2⟩:=up b _ e1 nf
  exact⟨gk,e2⟩
 have GW:∀b u,s.heap.get? b=some u→b≠e:=fun b u hb z=>by
  rw[z]at hb
  by_cases hm:e∈aT X.stack
  ·obtain⟨_,o',cw,nf⟩:=I.stack.mem hm
   rw[hb]at cw
   cases cw
   obtain⟨sl,q⟩:=mP e u hb hm
   rw[he]at q
   cases q
   obtain⟨vs,hv⟩:=hd
   exact nf vs hv
  ·obtain⟨u',hu⟩:=bU e u hb hm
   rw[be]at hu
   cases hu
 have vV:∀b o u,s'.heap.get? b=some o→B.get? b=some u→h'.get? b=some o:=fun b o u hb hu=>by
  have e1:=k1 b u hu
  rw[hb]at e1
  cases e1
  exact k2 b _ hu
 refine⟨I.CA (s':= {s' with heap:=h'}) (ch:=[]) os ⟨fun b u hb hn hf _=> ?_,fun b u hb hn hm _=>mP b u hb hm,fun b u hb hn _=> ?_,fun b u hb _=> ?_,fun b xs hb=> ?_,fun b u v hb=> ?_,fun b ps hb=> ?_⟩ ?_ bare (fun b hb=>absurd hb (by simp)),n0⟩
 ·have e1:=un.keep b u hb hn hf (by simp)
  obtain⟨u',hu⟩:=bU b u hb hf
  exact vV b u u' e1 hu
 ·rw[Zf (GW b u hb)]
  exact un.free b u hb hn (by simp)
 ·by_cases hm:b∈aT X.stack
  ·obtain⟨sl,q⟩:=mP b u hb hm
   exact⟨_,q⟩
  ·obtain⟨u',hu⟩:=bU b u hb hm
   exact⟨u',k2 b u' hu⟩
 ·have q:=un.fI b xs hb
  rw[Zf (Zg q n0)]
  exact q
 ·have q:=un.fE b u v hb
  rw[Zf (Zg q n0)]
  exact q
 ·obtain⟨m,q⟩:=un.fo b ps hb
  exact⟨m,by rw[Zf (Zg q n0)];exact q⟩
 ·intro b u hb
  by_cases iY:b=e
  ·subst iY
   rw[Zc]at hb
   cases hb
   refine⟨⟨o,he,hc⟩,⟨o,he⟩,fun h1 h2 p k=> ?_⟩
   obtain⟨o1,q1,q2⟩:=p
   exact⟨o1,k _ q1,q2⟩
  ·rw[Zf iY]at hb
   have x:=YO ah fH k1 k2 b u hb
   refine x.bE (fun c w' iX q=>q) (fun c q=> ?_) fun c xs q=> ?_
   ·rw[Zf (Zg q n0)];exact q
   ·rw[Zf (Zg q n0)];exact q
end
def EF (X:Cx) (ic ie:Nat) (cS:Addr) (k:Nat) (ts:TS):TS:=fun D σ H=> ∃f fd sp,σ[ic]? =some (some (.ref f))∧(∀s,bM X.prog X.w H s→PySem.W.FnAt f s)∧aA X.prog X.w X.K X.mg X.base (bH X.prog X.w) k f fd [] sp∧(∀s,BindsTo s fd ⟨[],[]⟩ [])∧
 sp [] H (fun _ _=>False) fun ev c H'=> ∃e C,ev=.ref e∧c=some C∧PySem.W.exmOne X.K (.ref C) (.ref cS)=some true∧(H' e=none→ts {nx:=fun aj H2=>D.nx (aj.set ie none) H2,rt:=fun _ _=>False} (σ.set ie (some (.ref e))) (upd H' e (iZ e C)))
theorem Qr {X:Cx}{ic ie k:Nat}{c n S:Str}{cS:Addr}{b0:Stmt}{ze:List Stmt}{ts:TS}{p1 p2 p3 p4 p5 p6:Pos}(BB:X.calm=true) (jw:X.stack=X.env::X.outer) (ip:X.env.frame=some X.env.locals) (hN:X.N.Nodup) (KJ:X.N[ic]? =some c) (Iu:qh X.env.scope c)
  (sN:X.N[ie]? =some n) (nJ:X.env.scope.names.lookup n=some .local) (hS:X.mg S=some (.ref cS)) (KP:Gl X S) (hr:bP k X.A) (IM:∀e,eQ (X.iV (.ref e)) (b0::ze) ts)
  (K4:(c==("__debug__" :Str))=false:=by decide) (K3:(c==("__classdict__" :Str))=false:=by decide) (K5:(S==("__debug__" :Str))=false:=by decide)
  (wj:swapsWith (.Call (.Name c p1) [] [] p2) none p3.line X.env=pure false:=by rfl):
  PS X (.Try [.Expr (.Call (.Name c p1) [] [] p2) p3] [.ExceptHandler (some (.Name S p4)) (some n) (b0::ze) p5] [] [] p6) (EF X ic ie cS k ts):=by
 intro pins s σ H D I h
 obtain⟨f,fd,sp,lr,eD,F,hb,dD⟩:=h
 refine wpAny_Try_except ?_
 refine wpAny_execs_cons (wpAny_Expr_any ?_ I.quiet wj)
 refine wpAny_Call_Name_kw ?_
 have nm:=Jr (X:=X.fY (fun _ _=>False)) (i:=ic) (x:=c) (pos:=p1) KJ Iu K4 K3 pins s σ H (fun v H2=>v=.ref f∧H2=H) (I.fY _) ⟨_,lr,rfl,rfl⟩
 refine wpAny_mono nm (fun u s1 h1=> ?_) (fun _ _ z=>z.elim)
 obtain⟨v,H1,I1,r1,rfl,rfl⟩:=h1
 have I1:=I1.jg
 obtain rfl:u=Value.ref f:=r1
 refine PySem.W.callWith_F0 (eD _ I1.ah) ?_
 refine wpAny_call (codeAny_mono (F.run X.A X.stack s1 H1 ⟨[],[]⟩ [] [] _ _ hr I1.Cc (hb s1) .nil dD) fun r s2 hq=> ?_)
 cases r with
 |ok fl=>
  cases fl with
  |ret u=>obtain⟨_,_,_,_,_,_,_,z⟩:=hq;exact z.elim
  |next=>exact hq.elim
  |brk=>exact hq.elim
  |cont=>exact hq.elim
 |error ev=>
  obtain⟨e,C,H2,rfl,FL,e',C',q1,q2,hx,hk⟩:=hq
  cases q1
  cases q2
  obtain⟨B,a0,fl,bU,fH⟩:=FL.xx
  rw[jw]at fl
  show wpAny (model X.prog X.w) X.A (noteFrame (.ref e) X.env) _ X.xe s2
  have xw:X.A.frames=some (X.env::X.outer):=by rw[←jw];exact I.ok.frames
  refine wpAny_looks_onW (L:=X.env.locals) xw ip fl fun h4 held yX=> ?_
  refine wpAny_landsW held fun h5 xy yW=> ?_
  have MX:∃o vs,h5.get? e=some o∧o.cls=.ref C∧o.data=.fields vs:=by
   obtain⟨oe,vs,g1,g2,g3,_⟩:=xy.first
   exact⟨oe,vs,g1,g2,g3⟩
  obtain⟨o5,ui,B7,B6,LR⟩:=MX
  have c5:=I1.Cz (h':=h5) FL.un FL.os FL.bare FL.ah bU fH fl.2.1 fl.1 xy.1 (yX.trans yW) B7 B6 ⟨_,LR⟩
  have I5:=c5.1.iV (.ref e)
  refine wpAny_handleBy_cons (codeAny_handlers_test ?_) (by intro q;cases q)
  refine Jg (X:=X.iV (.ref e)) I5 KP hS ?_ K5
  have LX:=PySem.W.exm_one (M:=model X.prog X.w) (c:=.ref cS) (e:=e) I5.cG (JA B7 B6) hx
  refine LX.at ?_
  refine codeAny_handlers_suite_as ?_
  refine lands_againW (s:= {s2 with heap:=h5}) xy fun h6 Ca Eo=> ?_
  obtain⟨o6,uh,LQ,LP,LO,_⟩:=Ca.first
  obtain⟨I6,n6⟩:=I1.Cz (h':=h6) FL.un FL.os FL.bare FL.ah bU fH fl.2.1 fl.1 Ca.1 ((yX.trans yW).trans Eo) LQ LP ⟨_,LO⟩
  have I6:=I6.iV (.ref e)
  have IC:=hk n6
  refine Y7 (X:=X.iV (.ref e)) (i:=ie) I6 hN sN (.inl nJ) (v:=.ref e) (u:=.ref e) rfl (fun s7 I7=> ?_) (.inr nJ)
  refine wpAny_mono (IM e pins s7 _ _ _ I7 IC) (fun LZ s8 h8=> ?_) fun _ _ z=>z.elim
  cases LZ with
  |ret u=>obtain⟨_,_,_,_,_,z⟩:=h8;exact z.elim
  |brk=>obtain⟨_,_,_,z⟩:=h8;exact z.elim
  |cont=>obtain⟨_,_,_,z⟩:=h8;exact z.elim
  |next=>
   obtain⟨qv,H8,I8,q8⟩:=h8
   have I8:=I8.Er (fun z=>I.ok.hd z)
   obtain⟨m8,Bf,wK⟩:=I8.loc
   have w6:(X.env.scope.kind==.class||(X.env.scope.kind==.module&&X.env.locals !=X.env.globals))=false:=by rw[I8.ok.kind];rfl
   refine wpAny_nameGoes_keeps nJ Bf w6 fun h9 v9 Ko lE=> ?_
   have st:=Y7 (M:=model X.prog X.w) (A:=X.A) (E:=fun _ _=>False) (X:=X) (i:=ie) I8 hN sN (.inl nJ) (v:=.af) (u:=.none) rfl (Q:=fun _ _=>True) (fun _ _=>trivial) (.inr nJ)
   refine⟨qv.set ie none,H8,?_,q8⟩
   have aw:ie<qv.length:=by rw[I8.len];exact(List.getElem?_eq_some_iff.mp sN).1
   obtain⟨oL,_,_,pF,_⟩:=id Bf
   have gJ:=I8.gJ
   refine⟨I8.ok,I8.os,I8.bare,⟨fun b o eb nb hb hx=> ?_,fun b o eb nb hb hx=> ?_,I8.base.free,fun b o eb hx=> ?_,I8.base.fI,I8.base.fE,I8.base.fo⟩,⟨_,Ko,fun j y v' e1 e2 e3=> ?_⟩,fun y cc ec=> ?_,I8.free,I8.fF,fun p hp=> ?_,fun b ob eb=> ?_,by simpa using I8.len⟩
   ·exact(lE.2 b (Nat.ne_of_lt (Nat.lt_of_lt_of_le (Heap.lt_size eb) I8.ok.above))).trans (I8.base.keep b o eb nb hb hx)
   ·obtain⟨sl,q⟩:=I8.base.slot b o eb nb hb hx
    exact⟨sl,(lE.2 b (Nat.ne_of_lt (Nat.lt_of_lt_of_le (Heap.lt_size eb) I8.ok.above))).trans q⟩
   ·obtain⟨o',q⟩:=I8.base.there b o eb hx
    exact⟨o',(lE.2 b (Nat.ne_of_lt (Nat.lt_of_lt_of_le (Heap.lt_size eb) I8.ok.above))).trans q⟩
   ·by_cases hj:j=ie
    ·subst hj
     rw[List.getElem?_set_self aw]at e2
     cases e2
    ·rw[List.getElem?_set_ne (Ne.symm hj)]at e2
     obtain⟨u',r',q⟩:=wK j y v' e1 e2 e3
     refine⟨u',r',?_⟩
     rcases q with ⟨kk,q⟩ |⟨kk,c',ec,z⟩
     ·refine .inl ⟨kk,?_⟩
      have ne:y≠n:=fun z=>hj (Wa hN e1 (z▸sN))
      simp[ne,q]
     ·exact .inr ⟨kk,c',ec,z.sameBut lE (gJ y c' ec)⟩
   ·obtain⟨w',z⟩:=I8.cell y cc ec
    exact⟨w',z.sameBut lE (gJ y cc ec)⟩
   ·obtain⟨e1,n1,ne1,G9,d1⟩:=I8.pin p hp
    exact⟨(lE.2 p.1 ne1).trans e1,n1,ne1,G9,d1⟩
   ·refine(I8.ah b ob eb).bE (fun cc w' iX q=> (lE.2 cc ?_).trans q) (fun _ q=>q) fun _ _ q=>q
    rintro rfl
    rcases iX with rfl |iX
    ·rw[I8.free]at eb;cases eb
    ·rw[I8.free]at iX;cases iX
def gH (c:Addr) (q:Str):HO:=.ext fun h=>h.CodeRec (.ref c) q
def nA (f:Addr) (q:Str) (params:Arguments) (body:Expr) (scope:Scope) (cl:List (Str×Addr)) (pm:Value) (c:Addr) (ct:Value):HO:=.ext fun h=>h.get? f=some (PySem.W.kla_obj "<lambda>" q params body scope cl pm c ct)
def jJ (H:Hp) (f:Addr) (q:Str) (params:Arguments) (body:Expr) (scope:Scope) (cl:List (Str×Addr)):Prop:=∃pm c ct,H f=some (nA f q params body scope cl pm c ct)∧H c=some (gH c q)
theorem jJ.same {H H':Hp}{f:Addr}{q:Str}{params:Arguments}{body:Expr}{scope:Scope}{cl:List (Str×Addr)}(x:jJ H f q params body scope cl) (s:ae H H'):jJ H' f q params body scope cl:=by
 obtain⟨pm,c,ct,h1,h2⟩:=x
 exact⟨pm,c,ct,s _ _ h1,s _ _ h2⟩
def Q0 (H:Hp) (q:Str) (ps:Array Value):Prop:=TriplesOk ps.toList∧∀pos cv,codeAmong pos ps.toList=some cv→∃c,cv=.ref c∧H c=some (gH c q)
def TabAt (H:Hp) (P:Addr) (q:Str):Prop:=∃ps,H P=some (.bO ps)∧Q0 H q ps
theorem Jk {h h':Heap}{c:Addr}{q:Str}(x:h.CodeRec (.ref c) q) (k:∀o,h.get? c=some o→h'.get? c=some o):h'.CodeRec (.ref c) q:=by
 obtain⟨c2,oc,vs,tq,e,g1,g2,g3⟩:=x
 cases e
 exact⟨c,oc,vs,tq,rfl,k _ g1,g2,g3⟩
theorem OX {P:Program}{w:World}{H:Hp}{h:Heap}{c:Addr}{q:Str}(x:h.CodeRec (.ref c) q):cb P w H h c (gH c q):=by
 obtain⟨c2,oc,vs,tq,e,g1,g2,g3⟩:=id x
 cases e
 exact⟨x,⟨_,g1⟩,fun h1 h2 p k=>Jk p k⟩
theorem DN {P:Program}{w:World}{H:Hp}{h:Heap}{f:Addr}{q:Str}{params:Arguments}{body:Expr}{scope:Scope}{cl:List (Str×Addr)}{pm:Value}{c:Addr}{ct:Value}(x:h.get? f=some (PySem.W.kla_obj "<lambda>" q params body scope cl pm c ct)):
  cb P w H h f (nA f q params body scope cl pm c ct):=⟨x,⟨_,x⟩,fun h1 h2 p k=>k _ p⟩
theorem Wx {pos p2:Pos}{c cv:Value} :∀(l:List Value),TriplesOk l→codeAmong p2 (l++[rawInt pos.line,rawInt pos.col,c])=some cv→codeAmong p2 l=some cv∨cv=c
 | [],_,h=>by
  have h':(if (pos.line:Int)==(p2.line:Int)&&(pos.col:Int)==(p2.col:Int) then some c else codeAmong p2 [])=some cv:=h
  split at h'
  ·exact .inr (Option.some.inj h').symm
  ·cases h'
 | .int a t:: .int b u::x::r,ht,h=>by
  have h':(if a==p2.line&&b==p2.col then some x else codeAmong p2 (r++[rawInt pos.line,rawInt pos.col,c]))=some cv:=h
  show(if a==p2.line&&b==p2.col then some x else codeAmong p2 r)=some cv∨cv=c
  split at h'
  ·rename_i hq
   rw[if_pos hq]
   exact .inl h'
  ·rename_i hq
   rw[if_neg hq]
   exact Wx r ht h'
theorem Y6 {pos:Pos}{c:Value} :∀(l:List Value),TriplesOk l→TriplesOk (l++[rawInt pos.line,rawInt pos.col,c])
 | [],_=>trivial
 | .int _ _:: .int _ _::_::r,h=>Y6 r h
structure DY (X:Cx) (c P:Addr):Prop where
 code:X.env.code=.ref c
 hd:PySem.W.CodeHd X.base c P
 bm:∃bm ob,X.mg "__builtins__" =some (.ref bm)∧bm≠builtinsNs∧X.base.get? bm=some ob∧ob.cls=.type "module" ∧ob.dict=some builtinsNs∧ob.data=.plain
def EV (X:Cx) (P:Addr) (params:Arguments) (body:Expr) (scope:Scope):TE:=fun σ H Q=>TabAt H P (X.env.qual++ "<lambda>")∧∀f H',aL P H H'→H f=none→TabAt H' P (X.env.qual++ "<lambda>")→jJ H' f (X.env.qual++ "<lambda>") params body scope (cR scope X.env)→Q (.ref f) H'
theorem YE {X:Cx}{c P:Addr}{params:Arguments}{body:Expr}{scope:Scope}{pos:Pos}(L:DY X c P) (K2:defaultsOf params X.env=([],[])) (ip:∀y∈scope.names,y.2=.free→X.env.kindOf y.1=some .cell∨X.env.kindOf y.1=some .free):
  PE X (.Lambda params body scope pos) (EV X P params body scope):=by
 intro pins s σ H Q I h
 obtain⟨⟨ps,hP,hT,hC⟩,q⟩:=h
 have oP:s.heap.get? P=some (PySem.W.tabObj ps):=I.ah P _ hP
 have fP:=Z9 (scope:=scope) (env:=X.env) fun y hy e=>I.ok.has _ (ip y hy e)
 have tw:s.heap.Ns mainGlobals X.mg:=I.mod.glob.keeps I.bk
 obtain⟨bm,ob,b1,b2,b3,b4,b5,b6⟩:=L.bm
 have KQ:mainGlobals≠P:=fun z=>by
  obtain⟨o,es,ep,e,d,_⟩:=tw
  rw[z,oP]at e
  cases e
  cases d
 have lO:bm≠P:=fun z=>by
  have e:=I.bk _ _ b3
  rw[z,oP]at e
  cases e
  cases b4
 have Ld:bm≠mainGlobals:=fun z=>by
  obtain⟨o,es,ep,e,d,_⟩:=tw
  have e2:=I.bk _ _ b3
  rw[z,e]at e2
  cases e2
  rw[d]at b6
  cases b6
 have BA:s.heap.BuiltinsAt X.mg P:=⟨bm,ob,b1,b2,Ld,lO,I.bk _ _ b3,b4,b5,b6⟩
 refine PySem.W.kla_eval K2 ?_
 cases hf:codeAmong pos ps.toList with
 |some cv=>
  obtain⟨c',rfl,bj⟩:=hC pos cv hf
  refine PySem.W.kla_makeFunctionHit fP I.ok.glob tw L.code (L.hd.keeps I.bk) oP hT hf BA fun md h' tk hk bG=> ?_
  have nf:H h'.objs.size=none:=I.ah.fresh bG
  have s1:ae H (upd H h'.objs.size (nA h'.objs.size (X.env.qual++ "<lambda>") params body scope (cR scope X.env) ((X.mg "__name__").getD .none) c' md)):=fun b o hb=>by rw[Zf (Zg hb nf)];exact hb
  refine⟨.ref h'.objs.size,_,I.laid (t':=tk) (a:=h'.objs.size) (fun b u e=>Heap.get?_push_of_some _ (hk b u e)) bG (DN (Heap.get?_push_size _ rfl)),rfl,?_⟩
  exact q _ _ (fun b o hb _=>s1 b o hb) nf ⟨ps,s1 _ _ hP,hT,fun p2 xO z=>by obtain⟨c2,e2,h2⟩:=hC p2 xO z;exact⟨c2,e2,s1 _ _ h2⟩⟩ ⟨_,c',md,Zc,s1 _ _ bj⟩
 |none=>
  refine PySem.W.kla_makeFunction fP I.ok.glob tw L.code (L.hd.keeps I.bk) oP hT hf KQ BA fun c' md h' tk hx bu aw sf pA=> ?_
  have HH:∀b o,s.heap.get? b=some o→b<c':=fun b o e=>Nat.lt_of_lt_of_le (Heap.lt_size e) bu
  have Sm:∀b o,H b=some o→b<c':=fun b o e=>Nat.lt_of_lt_of_le (I.ah.lt e) bu
  have nc:H c'=none:=I.ah.fresh bu
  have nf:H h'.objs.size=none:=I.ah.fresh (Nat.le_trans bu (Nat.le_of_lt aw))
  have Gh:P≠c':=Zg hP nc
  have Ab:P≠h'.objs.size:=Zg hP nf
  have cnf:c'≠h'.objs.size:=Nat.ne_of_lt aw
  generalize sO:h'.objs.size=f at nf Ab cnf
  generalize wt:ps++ #[rawInt pos.line,rawInt pos.col,Value.ref c']=kN at pA
  generalize wH:nA f (X.env.qual++ "<lambda>") params body scope (cR scope X.env) ((X.mg "__name__").getD .none) c' md=lo
  have keep:∀b o,b≠P→s.heap.get? b=some o→(h'.push (PySem.W.kla_obj "<lambda>" (X.env.qual++ "<lambda>") params body scope (cR scope X.env) ((X.mg "__name__").getD .none) c' md)).get? b=some o:=fun b o hb e=>Heap.get?_push_of_some _ (hx b o hb e)
  have cE:∀b o,H b=some o→b≠P→upd (upd (upd H P (.bO kN)) c' (gH c' (X.env.qual++ "<lambda>"))) f lo b=some o:=fun b o hb bA=>by
   rw[Zf (Zg hb nf),Zf (Zg hb nc),Zf bA]
   exact hb
  have xV:upd (upd (upd H P (.bO kN)) c' (gH c' (X.env.qual++ "<lambda>"))) f lo P=some (.bO kN):=by rw[Zf Ab,Zf Gh,Zc]
  have atC:upd (upd (upd H P (.bO kN)) c' (gH c' (X.env.qual++ "<lambda>"))) f lo c'=some (gH c' (X.env.qual++ "<lambda>")):=by rw[Zf cnf,Zc]
  have CH:upd (upd (upd H P (.bO kN)) c' (gH c' (X.env.qual++ "<lambda>"))) f lo f=some lo:=Zc
  have J:Inv X pins σ (upd (upd (upd H P (.bO kN)) c' (gH c' (X.env.qual++ "<lambda>"))) f lo) {s with heap:=h'.push (PySem.W.kla_obj "<lambda>" (X.env.qual++ "<lambda>") params body scope (cR scope X.env) ((X.mg "__name__").getD .none) c' md),toks:=tk} :=by
   refine I.un (t':=tk) ⟨fun b o e n _ _=>keep b o (fun z=>by rw[z,hP]at n;cases n) e,fun b o e n _ _=> ⟨o.slots,keep b o (fun z=>by rw[z,hP]at n;cases n) e⟩,fun b o e n _=> ?_,fun b o e _=> ?_,fun b xs e=>cE b _ e (fun z=>by rw[z,hP]at e;cases e),fun b o u e=>cE b _ e (fun z=>by rw[z,hP]at e;cases e),fun b qs e=> ?_⟩ ?_
   ·have hl:=HH b o e
    rw[Zf (by rw[←sO];exact Nat.ne_of_lt (Nat.lt_trans hl aw)),Zf (Nat.ne_of_lt hl),Zf (fun z=>by rw[z,hP]at n;cases n)]
    exact n
   ·by_cases hb:b=P
    ·rw[hb];exact⟨_,Heap.get?_push_of_some _ pA⟩
    ·exact⟨o,keep b o hb e⟩
   ·by_cases hb:b=P
    ·rw[hb,hP]at e
     cases e
     exact⟨_,by rw[hb,xV,wt]⟩
    ·exact⟨#[],by rw[cE b _ e hb];simp⟩
   ·intro b o hb
    by_cases h1:b=f
    ·rw[h1,CH]at hb
     cases hb
     rw[h1,←wH]
     refine DN ?_
     rw[←sO]
     exact Heap.get?_push_size _ rfl
    ·by_cases h2:b=c'
     ·rw[h2,atC]at hb
      cases hb
      rw[h2]
      exact OX (Jk sf fun o e=>Heap.get?_push_of_some _ e)
     ·by_cases h3:b=P
      ·rw[h3,xV]at hb
       cases hb
       rw[h3]
       exact Heap.get?_push_of_some _ pA
      ·have dn:H b=some o:=by rw[Zf h1,Zf h2,Zf h3]at hb;exact hb
       refine(I.ah b o dn).bE (fun z u hz e=>keep z u ?_ e) (fun z e=> ?_) fun z xs e=> ?_
       ·rcases hz with hz |hz
        ·rw[hz];exact h3
        ·intro az;rw[az,hP]at hz;cases hz
       ·exact cE z _ e fun az=>by rw[az,hP]at e;cases e
       ·exact cE z _ e fun az=>by rw[az,hP]at e;cases e
  refine⟨.ref f,_,J,rfl,?_⟩
  refine q f _ (fun b o hb bA=>cE b o hb bA) nf ⟨kN,xV,?_,fun p2 xO z=> ?_⟩ ⟨_,c',md,by rw[CH,←wH],atC⟩
  ·rw[←wt,Array.toList_append]
   exact Y6 _ hT
  ·rw[←wt,Array.toList_append]at z
   rcases Wx _ hT z with z |z
   ·obtain⟨c2,e2,h2⟩:=hC p2 xO z
    exact⟨c2,e2,cE _ _ h2 fun az=>by rw[az,hP]at h2;cases h2⟩
   ·exact⟨c',z,atC⟩
theorem vG {X:Cx}{E:XK}(Io:∀e s',wpAny (model X.prog X.w) X.A (leaving X.env e) (fun _ eU=>bH X.prog X.w X.outer X.jK X.bW E e eU) (fun e' eU=>bH X.prog X.w X.outer X.jK X.bW E e' eU) s'→X.xe e s')
  (jw:X.stack=X.env::X.outer) (ip:X.env.frame=some X.env.locals) (hex:X.ex=[]):Passes (bH X.prog X.w) X E:=by
 intro pins σ H1 s1 ev s2 I h
 obtain⟨e,C,H',rfl,F,hE⟩:=h
 obtain⟨B,a0,fl,bU,fH⟩:=F.xx
 have un:=F.un
 rw[jw]at fl bU un
 have ib:Un (aT X.outer) [] X.jK H1 X.bW.heap s1.heap:=by have:=I.base;rw[hex]at this;exact this
 have xw:X.A.frames=some (X.env::X.outer):=by rw[←jw];exact I.ok.frames
 refine Io _ _ (wpAny_leaves_onW (L:=X.env.locals) xw ip fl fun h' lV up=> ?_)
 refine⟨e,C,H',rfl,⟨F.os.trans I.os,F.bare,JU (base:=X.base) (L:=X.env.locals) ib un ip I.ok.above I.ok.dR I.ok.gG bU fl.1 lV.1 up,YO F.ah fH fl.1 lV.1,B,a0,lV,fun b o hb hn=> ?_,fH⟩,hE⟩
 obtain⟨o1,e1⟩:=ib.there b o hb (by simp)
 refine bU b o1 e1 fun hm=> ?_
 have dE:b∈(X.env::X.outer).filterMap (·.frame):=hm
 rw[List.filterMap_cons_some (f:=fun(x:Env)=>x.frame) (a:=X.env) (b:=X.env.locals) ip]at dE
 rcases List.mem_cons.mp dE with q |q
 ·rw[q]at hb
  exact absurd (Nat.lt_of_lt_of_le (Heap.lt_size hb) I.ok.above) (Nat.lt_irrefl _)
 ·exact hn q
def jD (P:Program) (w:World) (K:PySem.W.Frag) (mg:Str→Option Value) (base:Heap) (N:List Str) (q:Str) (scope:Scope) (f:Addr) (cd:Value) (cl:List (Str×Addr)) (A:Around) (outer:List Env) (s:Shared) (H:Hp) (E:XK):Cx where
 prog:=P
 w:=w
 K:=K
 mg:=mg
 base:=base
 A:=A.deeper (PySem.W.envX q scope s.heap.objs.size f cd cl)
 N:=N
 bW:=s
 jK:=H
 env:=PySem.W.envX q scope s.heap.objs.size f cd cl
 outer:=outer
 stack:=PySem.W.envX q scope s.heap.objs.size f cd cl::outer
 ex:=[]
 calm:=true
 fn:=fun _=>false
 pn:=[]
 xe:=fun e s'=>wpAny (model P w) (A.deeper (PySem.W.envX q scope s.heap.objs.size f cd cl)) (leaving (PySem.W.envX q scope s.heap.objs.size f cd cl) e) (fun _ eU=>bH P w outer H s E e eU) (fun e' eU=>bH P w outer H s E e' eU) s'
structure SS (base:Heap) (scope:Scope) (cl:List (Str×Addr)) (x y:Str) (vx vy:V):Prop where
 kx:scope.names.lookup x=some .free
 ky:scope.names.lookup y=some .free
 only:∀z,scope.names.lookup z=some .cell∨scope.names.lookup z=some .free→z=x∨z=y
 ne:x≠y
 cx:∃c u,cl.lookup x=some c∧base.IsCell c (some u)∧RelV vx u
 cy:∃c u,cl.lookup y=some c∧base.IsCell c (some u)∧RelV vy u
 mem:∀z c,cl.lookup z=some c→z=x∨z=y
 inj:∀c,cl.lookup x=some c→cl.lookup y=some c→False
theorem Ji {h b1 b2:Heap} :∀{l:List Env},h.FunFrames b1 l→(∀b∈aT l,b2.get? b=none)→h.FunFrames b2 l
 | [],_,_=>trivial
 |env::r,⟨hk,⟨L,o,hf,_,ho,hd⟩,hr⟩,hn=> ⟨hk,⟨L,o,hf,hn L (List.mem_filterMap.mpr ⟨env,.head _,hf⟩),ho,hd⟩,Ji hr fun b hb=>hn b (by
  obtain⟨e,he,q⟩:=List.mem_filterMap.mp hb
  exact List.mem_filterMap.mpr ⟨e,.tail _ he,q⟩)⟩
theorem Inv.rebase {X:Cx}{pins:List (Addr×Obj)}{σ:St}{H:Hp}{s:Shared}(I:Inv X pins σ H s):
  ∃cY,X.base.StaysIn cY∧qo X.prog X.w X.K X.mg cY X.A X.stack s H∧∀b o,s.heap.get? b=some o→H b=none→b∉aT X.stack→cY.get? b=some o:=by
 have bU:∀b o,s.heap.get? b=some o→H b=none→b∉aT X.stack→(PySem.W.hideAll (gD s.heap H) (aT X.stack)).get? b=some o:=fun b o e n hf=>PySem.W.hideAll_get _ (Du e n) hf
 have st:X.base.StaysIn (PySem.W.hideAll (gD s.heap H) (aT X.stack)):=fun b o e=>bU b o (I.bs b o e).1 (I.bs b o e).2 fun hm=>by
  have:=(I.stack.mem hm).1
  rw[e]at this
  cases this
 refine⟨_,st,⟨I.ok.frames,⟨I.mod.nB.keeps st,I.mod.glob.keeps st,?_,I.mod.nolimit.keeps st⟩,fun b o e=>DT (PySem.W.of_hideAll _ e),?_,Ji I.stack fun b hb=>PySem.W.hideAll_none _ hb,I.oo,I.ah,I.bare⟩,bU⟩
 ·obtain⟨mb,h1,h2⟩:=I.mod.blt
  exact⟨mb,h1.keeps st,h2⟩
 ·rw[PySem.W.hideAll_size,W0]
  exact Nat.le_refl _
def Ff (wi:TI) (ts:Nat) (bq:List Nat) (g:TG) (tt:TT) (ti:St→TC):TE:=fun σ H Q=>wi σ H fun J H1=>fZ g tt (ti σ) J [] (jE ts bq σ) H1 fun ys _ H2=> ∀p,H2 p=none→Q (.ref p) (upd H2 p (.lst ys))
theorem OP {X:Cx}{elt tg iter:Expr}{ifs:List Expr}{rest:List Comprehension}{scope:Scope}{pos:Pos}{wi:TI}{g:TG}{tt:TT}{ti:St→TC}(N':List Str) (ts:Nat) (bq:List Nat) (hi:PI X tg iter wi) (pg:∀C s H fp,PG (aG X N' scope C s H fp) tg g) (pt:∀C s H fp,kz (aG X N' scope C s H fp) ifs tt)
  (pi:∀pins σ C s H fp D,Inv X pins σ H s→(∀b∈fp,bV X pins H b)→kA (aG X N' scope C s H fp) D (inner elt (⟨tg,iter,ifs,0⟩::rest) scope pos 0 (.ref D) (aG X N' scope C s H fp).env) (ti σ))
  (ok:qb X.env.scope scope X.N N' ts bq=true:=by rfl) (hc:X.calm=true:=by rfl) (h2:∀g',(Comprehension.mk tg iter ifs 0::rest)[0+1]? =some g'→g'.is_async=0:=by(intro g' h;cases h<;>rfl))
  (hs:∀x,foldedSetIterable iter X.env x=pure x:=by intro _;rfl):
  PE X (.ListComp elt (⟨tg,iter,ifs,0⟩::rest) scope pos) (Ff wi ts bq g tt ti):=by
 intro pins s σ H Q I h
 have S:=Wt ok
 rw[eval_ListComp]
 refine wpAny_comprehension_free (use:=none) rfl hs (Z9 fun y hy e=>I.ok.has _ (S.free y hy e)) S.kind S.names (au (hi pins s σ H _ I h) fun v s1 h1=>au h1 fun jW s2 pV=> ?_)
 obtain⟨it,fp,tn,J,H2,e,I2,T,ak,f2,q2⟩:=pV
 subst e
 refine Y4 (RR:=fun acc C=>compPost (model X.prog X.w) X.A X.xe none _ acc C) S hc I2 T ak f2 h2 (fun C=>pg C _ _ _) (fun C=>pt C _ _ _) (fun C D=>pi pins σ C _ _ _ D I2 f2) q2 ?_
 intro C D s' aj H' ys fl hC hD jB J' n a q
 obtain⟨m,hn,_⟩:=J'.loc
 exact⟨m,hn,fun h' sb=> ⟨.ref D,_,Wv I2 f2 hC hD jB J' n a sb,rfl,q D n⟩⟩
def MO:Const→Option V
 | .int n=>some (.int n)
 | .bool b=>some (.bl b)
 | .str x=>some (.str x)
 | .none=>some .af
 |_=>none
def oE:Expr→Option V
 | .Constant c _ _=>MO c
 | .UnaryOp .USub (.Constant (.int n) _ _) _=>some (.int (-n))
 | .BinOp (.Constant (.int a) _ _) .Pow (.Constant (.int b) _ _) _=>if 0≤b∧b≤1000000∧a.natAbs<2^64 then some (.int (a^b.toNat)) else none
 |_=>none
def oC:List Expr→Option (List V)
 | []=>some []
 |e::r=>match oE e,oC r with
  |some v,some vs=>some (v::vs)
  |_,_=>none
inductive Lit where
 |sc (v:V)
 |tup (xs:List V)
 |lst (xs:List V)
 |i6
def ja (H:Hp) (v:V):Lit→Prop
 | .sc u=>v=u
 | .tup xs=> ∃a:Addr,v=.ref a∧H a=some (.tup xs)
 | .lst xs=> ∃a:Addr,v=.ref a∧H a=some (.lst xs)
 | .i6=> ∃a:Addr,v=.ref a∧H a=some (.dK [])
theorem ja.same {H H':Hp}{v:V} :∀{l:Lit},ja H v l→ae H H'→ja H' v l
 | .sc _,h,_=>h
 | .tup _,⟨a,e,h⟩,s=> ⟨a,e,s _ _ h⟩
 | .lst _,⟨a,e,h⟩,s=> ⟨a,e,s _ _ h⟩
 | .i6,⟨a,e,h⟩,s=> ⟨a,e,s _ _ h⟩
def litOf:Expr→Option Lit
 | .Tuple es _ _=>match oC es with
  |some xs=>if xs.length≤1000 then some (.tup xs) else none
  |none=>none
 | .List es _=>match oC es with
  |some xs=>if xs.length≤1000 then some (.lst xs) else none
  |none=>none
 | .Dict [] [] _=>some .i6
 |e=> (oE e).map .sc
def litsOf:List Expr→Option (List Lit)
 | []=>some []
 |e::r=>match litOf e,litsOf r with
  |some v,some vs=>some (v::vs)
  |_,_=>none
section
variable {X:Cx}
theorem CN {e:Expr}{v:V}(h:oE e=some v):PE X e (tC v)∧(∀es,starEach (e::es) X.env=(false,eval e X.env)::starEach es X.env)∧∀a:Addr,v≠.ref a:=by
 unfold oE at h
 split at h
 ·rename_i c j p
  cases c with
  |int n=>cases h;exact⟨Zi,fun _=>rfl,fun a z=>by cases z⟩
  |bool b=>cases h;exact⟨WR,fun _=>rfl,fun a z=>by cases z⟩
  |str x=>cases h;exact⟨Yd,fun _=>rfl,fun a z=>by cases z⟩
  |none=>cases h;exact⟨Yr,fun _=>rfl,fun a z=>by cases z⟩
  |_=>cases h
 ·cases h
  refine⟨fun pins s σ H Q I q=>M4 N7 Zi pins s σ H Q I ⟨_,rfl,q⟩,fun _=>rfl,fun a z=>by cases z⟩
 ·split at h
  ·rename_i hc
   cases h
   refine⟨fun pins s σ H Q I q=>Zq Uw Zi Zi pins s σ H Q I ⟨_,_,rfl,rfl,hc,q⟩,fun _=>rfl,fun a z=>by cases z⟩
  ·cases h
 ·cases h
theorem J7:∀{es:List Expr}{vs:List V},oC es=some vs→PA X es (fun _ H Q=>Q vs H)
 | [],vs,h=>by cases h;exact Zb
 |e::r,vs,h=>by
  unfold oC at h
  split at h
  ·rename_i v ws h1 h2
   cases h
   obtain⟨p1,p2,_⟩:=CN (X:=X) h1
   exact fun pos pins s σ H Q I q=>Za p1 (J7 h2) (p2 r) pos pins s σ H Q I q
  ·cases h
theorem Ov {e:Expr}{l:Lit}(h:litOf e=some l):PE X e (fun _ H Q=> ∀v H',ae H H'→ja H' v l→(∀a:Addr,v=.ref a→H a=none)→Q v H')∧∀es,starEach (e::es) X.env=(false,eval e X.env)::starEach es X.env:=by
 unfold litOf at h
 split at h
 ·split at h
  ·rename_i xs hx
   split at h
   ·rename_i hl
    cases h
    refine⟨fun pins s σ H Q I q=>ZH (J7 hx) pins s σ H Q I ⟨Nat.le_of_lt (zl hl),fun p hp=>q _ _ (fun b o hb=>by rw[Zf (Zg hb hp)];exact hb) ⟨p,rfl,Zc⟩ fun a z=>by cases z;exact hp⟩,fun _=>rfl⟩
   ·cases h
  ·cases h
 ·split at h
  ·rename_i xs hx
   split at h
   ·rename_i hl
    cases h
    refine⟨fun pins s σ H Q I q=>ZI (J7 hx) pins s σ H Q I ⟨Nat.le_of_lt (zl hl),fun p hp=>q _ _ (fun b o hb=>by rw[Zf (Zg hb hp)];exact hb) ⟨p,rfl,Zc⟩ fun a z=>by cases z;exact hp⟩,fun _=>rfl⟩
   ·cases h
  ·cases h
 ·cases h
  exact⟨fun pins s σ H Q I q=>OQ pins s σ H Q I fun p hp=>q _ _ (fun b o hb=>by rw[Zf (Zg hb hp)];exact hb) ⟨p,rfl,Zc⟩ fun a z=>by cases z;exact hp,fun _=>rfl⟩
 ·rename_i x0 h1 h2 h3
  cases hs:oE e with
  |none=>rw[hs]at h;cases h
  |some v=>
   rw[hs]at h
   cases h
   obtain⟨p1,p2,p3⟩:=CN (X:=X) hs
   exact⟨fun pins s σ H Q I q=>p1 pins s σ H Q I (q v H (ae.refl H) rfl fun a z=>absurd z (p3 a)),p2⟩
theorem Dz:∀{es:List Expr}{ls:List Lit},litsOf es=some ls→PA X es (fun _ H Q=> ∀vs H',ae H H'→Paired (ja H') vs ls→(∀a,V.ref a∈vs→H a=none)→Q vs H')
 | [],ls,h=>by cases h;exact fun pos pins s σ H Q I q=>Zb pos pins s σ H Q I (q [] H (ae.refl H) .nil fun a z=>nomatch z)
 |e::r,ls,h=>by
  unfold litsOf at h
  split at h
  ·rename_i v ws h1 h2
   cases h
   obtain⟨p1,p2⟩:=Ov (X:=X) h1
   exact fun pos pins s σ H Q I q=>Za p1 (Dz h2) (p2 r) pos pins s σ H Q I fun v1 H1 s1 l1 n1 vs H2 s2 pr n2=>q (v1::vs) H2 (s1.trans s2) (.cons (l1.same s2) pr) fun a z=>by
    rcases List.mem_cons.mp z with z |z
    ·exact n1 a z.symm
    ·exact s1.free (n2 a z)
  ·cases h
end
theorem WI (n l1 l2:Nat) (h1:l1<n) (h2:l2<n):ZipApart (n+4) (n+2) (n+3) n (n+1) l1 l2:=by
 constructor<;>intro z<;>refine absurd (show @Eq Nat _ _ from z) ?_<;>omega
end L2
namespace L2
open PySem PySem.Spec PyProof.Rows SeqAt
theorem Y9 {α β:Type}{F:α→β→Prop} :∀{jU:List α}{jT:List β}{i:Nat}{x:α},Paired F jU jT→jU[i]? =some x→∃y,jT[i]? =some y∧F x y
 |_,_,_,_,.nil,h=>by simp at h
 |_,_,0,_,.cons r _,h=>by simp at h;subst h;exact⟨_,rfl,r⟩
 |_,_,i+1,_,.cons _ t,h=>by
  obtain⟨y,e,q⟩:=Y9 t (i:=i) (by simpa using h)
  exact⟨y,by simpa using e,q⟩
section
variable {X:Cx}
theorem WZ {ns:List Int}{us:List Value}(r:Vals (ns.map V.int) us) (j:Nat) (h:j<us.length):∃t,us[j]=.int (ns.getD j 0) t:=by
 have hl:=r.length
 rw[List.length_map]at hl
 have hj:j<ns.length:=by omega
 obtain⟨u,hu,t,ru⟩:=r.get (i:=j) (x:=.int ns[j]) (by rw[List.getElem?_map,List.getElem?_eq_getElem hj];rfl)
 rw[List.getElem?_eq_getElem h]at hu
 cases hu
 exact⟨t,by rw[ru];simp[hj]⟩
theorem JB {x:V} :∀{xs:List V}{us:List Value},Vals xs us→xs.all dq=true→us.countP (fG x)=xs.countP fun y=>cD y x
 |_,_,.nil,_=>rfl
 |y::xs,u::us,.cons r t,f=>by
  rw[List.all_cons,Bool.and_eq_true]at f
  rw[List.countP_cons,List.countP_cons,UG r f.1,JB t f.2]
def zX (K:PySem.W.Frag):V→List V→Hp→VK→Prop:=fun v vs H Q=> ∃(a:Addr) (xs:List V) (x:V),v=.ref a∧vs=[x]∧ag K H a xs∧dq x=true∧xs.all dq=true∧Q (.int ((xs.countP fun y=>cD y x:Nat):Int)) H
theorem DQ {its:List Value}{h:Heap}{a:Addr}(pl:h.IsList a its.toArray):∃dd n sl,h.get? a=some {cls:=.type "list",dict:=dd,data:=.seq its.toArray n,slots:=sl} :=by
 obtain⟨o,ho,hc,n,hd⟩:=pl
 obtain⟨cls,dd,dt,sl⟩:=o
 replace hc:cls=.type "list" :=hc
 replace hd:dt=.seq its.toArray n:=hd
 subst hc hd
 exact⟨_,_,_,ho⟩
theorem U0:ql X "list.count" (zX X.K):=by
 intro pins s σ H v vs u us Q I rv oK h
 obtain⟨a,xs,x,rfl,rfl,hq,fx,fs,q⟩:=h
 cases rv
 obtain⟨ux,rfl,rx⟩:=vals1 oK
 obtain⟨its,r,pl,hz⟩:=I.list hq
 obtain⟨dd,n,sl,ho⟩:=DQ pl.isList
 refine call_meets F.slot_list_count ⟨_,ho,rfl⟩ F.entry_list_count (F.args_list_count_2 _ _) (list_countAt a its.toArray n dd sl ux (fG x)) ⟨ho,fun y hy=>Yw rx fx r fs y (by simpa using hy),?_⟩
 exact⟨.int _,H,I.tok _,⟨_,by rw[show its.toArray.toList=its by simp,JB r fs]⟩,q⟩
def F8 (K:PySem.W.Frag):V→List V→Hp→VK→Prop:=fun v vs H Q=> ∃(a:Addr) (xs:List V) (x:V) (j:Nat),v=.ref a∧vs=[x]∧ag K H a xs∧dq x=true∧xs.all dq=true∧(∃y,xs[j]? =some y∧cD y x=true)∧(∀m y,m<j→xs[m]? =some y→cD y x=false)∧Q (.int (j:Int)) H
theorem P9:ql X "list.index" (F8 X.K):=by
 intro pins s σ H v vs u us Q I rv oK h
 obtain⟨a,xs,x,j,rfl,rfl,hq,fx,fs,⟨y,hy,ey⟩,wD,q⟩:=h
 cases rv
 obtain⟨ux,rfl,rx⟩:=vals1 oK
 obtain⟨its,r,pl,hz⟩:=I.list hq
 obtain⟨dd,n,sl,ho⟩:=DQ pl.isList
 have hlen:=r.length
 have CI:∀k z (hk:k<its.length),xs[k]? =some z→fG x its[k]=cD z x:=fun k z hk aY=>by
  obtain⟨w,hw,oJ⟩:=r.get aY
  rw[List.getElem?_eq_getElem hk]at hw
  cases hw
  exact UG oJ (List.all_eq_true.mp fs z (List.mem_of_getElem? aY))
 have hj:j<its.length:=by have:=(List.getElem?_eq_some_iff.mp hy).1;omega
 refine call_meets F.slot_list_index ⟨_,ho,rfl⟩ F.entry_list_index (F.args_list_index_2 _ _)
  (list_indexAt a its.toArray n dd sl ux (fG x) j (by simpa using hj) (by rw[sizeLine_eq]at hz;omega) (by simpa[ey] using CI j y hj hy) (fun m hm Kq=> ?_)) ⟨ho,fun y hy=>Yw rx fx r fs y (by simpa using hy),?_⟩
 ·have dE:m<its.length:=by simpa using hm
  have hx:m<xs.length:=by omega
  have e:=CI m _ dE (List.getElem?_eq_getElem hx)
  rw[wD m _ Kq (List.getElem?_eq_getElem hx)]at e
  simpa using e
 ·exact⟨.int (j:Int),H,I.tok _,⟨_,rfl⟩,q⟩
def EZ (ta tb tc td te:TE):TE:=fun σ H Q=>ta σ H fun v1 H1=> ∃x1,v1=.str x1∧(Str.empty++x1).length≤sizeLine∧tb σ H1 fun v2 H2=> ∃n:Int,v2=.int n∧n.natAbs.log2<1920∧(Str.empty++x1++(Str.ofString (toString n))).length≤sizeLine∧
 tc σ H2 fun v3 H3=> ∃x3,v3=.str x3∧(Str.empty++x1++(Str.ofString (toString n))++x3).length≤sizeLine∧td σ H3 fun v4 H4=> ∃m:Int,v4=.int m∧m.natAbs.log2<1920∧(Str.empty++x1++(Str.ofString (toString n))++x3++(Str.ofString (toString m))).length≤sizeLine∧
 te σ H4 fun v5 H5=> ∃x5,v5=.str x5∧(Str.empty++x1++(Str.ofString (toString n))++x3++(Str.ofString (toString m))++x5).length≤sizeLine∧∀z,Q (.str z) H5
theorem UW {a b c d e:Expr}{ta tb tc td te:TE}{p p' pos:Pos}(ha:PE X a ta) (hb:PE X b tb) (hc:PE X c tc) (hd:PE X d td) (he:PE X e te):PE X (.JoinedStr [a,.FormattedValue b (-1) none p,c,.FormattedValue d (-1) none p',e] pos) (EZ ta tb tc td te):=by
 intro pins s σ H Q I h
 refine JoinedStr_many (joinParts_cons (wpAny_mono (ha pins s σ H _ I h) (fun u s1 h1=> ?_) fun _ _ y=>y))
 obtain⟨v,H1,I1,r1,x,rfl,hz,h2⟩:=h1
 obtain⟨t,rfl⟩:=r1
 refine⟨hz,joinParts_cons (FormattedValue_plain (wpAny_mono (hb pins s1 σ H1 _ I1 h2) (fun u s2 h3=> ?_) fun _ _ y=>y))⟩
 obtain⟨v,H2,I2,r2,n,rfl,hn,az,h4⟩:=h3
 obtain⟨t2,rfl⟩:=r2
 refine formatField_int_small hn ⟨az,?_⟩
 have SV:=I2.tok (s2.toks+1)
 refine joinParts_cons (wpAny_mono (hc pins _ σ H2 _ (I2.tok _) h4) (fun u s3 h5=> ?_) fun _ _ y=>y)
 obtain⟨v,H3,I3,r3,x3,rfl,de,h6⟩:=h5
 obtain⟨t3,rfl⟩:=r3
 refine⟨de,joinParts_cons (FormattedValue_plain (wpAny_mono (hd pins s3 σ H3 _ I3 h6) (fun u s4 h7=> ?_) fun _ _ y=>y))⟩
 obtain⟨v,H4,I4,r4,m,rfl,hm,Il,h8⟩:=h7
 obtain⟨t4,rfl⟩:=r4
 refine formatField_int_small hm ⟨Il,?_⟩
 refine joinParts_cons (wpAny_mono (he pins _ σ H4 _ (I4.tok _) h8) (fun u s5 h9=> ?_) fun _ _ y=>y)
 obtain⟨v,H5,I5,r5,x5,rfl,AU,q⟩:=h9
 obtain⟨t5,rfl⟩:=r5
 refine⟨AU,joinParts_nil ?_ AU⟩
 exact⟨.str _,H5,I5.tok _,⟨_,rfl⟩,q _⟩
end
end L2
namespace L2
open PySem PySem.Spec PyProof.Rows
structure One (base:Heap) (scope:Scope) (cl:List (Str×Addr)) (x:Str) (vx:V):Prop where
 kx:scope.names.lookup x=some .free
 only:∀z,scope.names.lookup z=some .cell∨scope.names.lookup z=some .free→z=x
 cx:∃c u,cl.lookup x=some c∧base.IsCell c (some u)∧RelV vx u
 mem:∀z c,cl.lookup z=some c→z=x
structure Src (prog:Program) (w:World) (i l:Addr) (n:Nat) (f:Nat→Value) (S:Nat→Heap→Prop):Prop where
 here:∀k h,S k h→∃o,h.get? i=some o
 bE:∀k h h',S k h→(∀c,c=i∨c=l→∀o,h.get? c=some o→h'.get? c=some o)→S k h'
 item:∀(A:Around) k (s:Shared) (Q:Value→Shared→Prop) (E:Value→Shared→Prop),k<n→S k s.heap→(∀h',S (k+1) h'→Heap.SameBut i s.heap h'→Q (f k) {s with heap:=h'})→wpAny (model prog w) A (Builtin.SmallTypes.nextOf (.ref i)) Q E s
 stop:∀(A:Around) (s:Shared) (Q:Value→Shared→Prop) (E:Value→Shared→Prop),A.handled=none→S n s.heap→(∀h' e,Heap.ExtBut i s.heap h'→(∃o,h'.get? e=some o∧o.cls=.type "StopIteration")→E (.ref e) {s with heap:=h'})→wpAny (model prog w) A (Builtin.SmallTypes.nextOf (.ref i)) Q E s
theorem YK (prog:Program) (w:World) {i l:Addr}(its:Array Value) (bA:l≠i):Src prog w i l its.size (fun k=>its.getD k .none) (fun k h=>IsTupIter h i l k∧IsTup h l its) where
 here:=fun k h ⟨⟨o,ho,_⟩,_⟩=> ⟨o,ho⟩
 bE:=fun k h h' ⟨⟨o,ho,r⟩,⟨u,hu,r'⟩⟩ st=> ⟨⟨o,st i (.inl rfl) o ho,r⟩,⟨u,st l (.inr rfl) u hu,r'⟩⟩
 item:=fun A k s Q E hk ⟨hi,ht⟩ q=>by
  obtain⟨oi,gi,ci,di⟩:=id hi
  obtain⟨ot,gt,ct,nt,dt⟩:=id ht
  have hx:its[k]? =some (its.getD k .none):=by simp[hk]
  unfold Builtin.SmallTypes.nextOf
  refine wpAny_bind (wpAny_callSpecial?_slot (name:=Str.ofString "__next__") hi.typeIs slot_tupleiter_next (wpAny_call_entry slot_tupleiter_next hi.typeIs entry_tupleiter_next ?_ (args_tupleiter_next _)))
  refine(show wpAny _ _ (field (.ref i) 0 >>=_) _ _ s from wpAny_bind (wpAny_field gi di (x:=.ref l) rfl ?_))
  refine(show wpAny _ _ (if (Value.ref l==Value.none)=true then _ else _) _ _ s from ?_)
  rw[if_neg (by exact Bool.false_ne_true)]
  refine(show wpAny _ _ (field (.ref i) 1 >>=_) _ _ s from wpAny_bind (wpAny_field gi di (x:=.int k 0) rfl ?_))
  refine(show wpAny _ _ (seqItems? (.ref l) >>=_) _ _ s from wpAny_bind (wpAny_seqItems gt dt ?_))
  simp only[Int.toNat_natCast,hx]
  refine wpAny_bind (wpAny_setField gi di (by simp) (wpAny_pure ⟨_,rfl,wpAny_pure (q _ ⟨⟨_,Heap.get?_update_self _ gi (Obj.isFreed_of_fields (Obj.data_mapFields di _)),(Obj.cls_mapFields ..).trans ci,?_⟩,?_⟩ (Heap.SameBut.update ..))⟩))
  ·rw[Obj.data_mapFields di];simp[rawInt]
  ·exact⟨ot,(Heap.SameBut.update ..).extBut _ _ bA gt,ct,nt,dt⟩
 stop:=fun A s Q E hh ⟨hi,ht⟩ q=>by
  obtain⟨oi,gi,ci,di⟩:=id hi
  obtain⟨ot,gt,ct,nt,dt⟩:=id ht
  have hx:its[its.size]? =none:=by simp
  unfold Builtin.SmallTypes.nextOf
  refine wpAny_bind (wpAny_callSpecial?_slot (name:=Str.ofString "__next__") hi.typeIs slot_tupleiter_next (wpAny_call_entry slot_tupleiter_next hi.typeIs entry_tupleiter_next ?_ (args_tupleiter_next _)))
  refine(show wpAny _ _ (field (.ref i) 0 >>=_) _ _ s from wpAny_bind (wpAny_field gi di (x:=.ref l) rfl ?_))
  refine(show wpAny _ _ (if (Value.ref l==Value.none)=true then _ else _) _ _ s from ?_)
  rw[if_neg (by exact Bool.false_ne_true)]
  refine(show wpAny _ _ (field (.ref i) 1 >>=_) _ _ s from wpAny_bind (wpAny_field gi di (x:=.int its.size 0) rfl ?_))
  refine(show wpAny _ _ (seqItems? (.ref l) >>=_) _ _ s from wpAny_bind (wpAny_seqItems gt dt ?_))
  simp only[Int.toNat_natCast,hx]
  refine wpAny_bind (wpAny_rule (wpAny_bind (wpAny_setField gi di (by simp) ?_)))
  refine(show wpAny _ _ (newExc (.type "StopIteration") [] >>=_) _ _ _ from wpAny_bind ?_)
  simp only[newExc,newTuple]
  refine wpAny_bind (wpAny_newObj_type ?_ (by size_fits))
  refine wpAny_bind (m:=firstArgMember _ _) (wpAny_of_eq (a:=Value.none) (by first |rfl |(simp only[firstArgMember];rfl)) ?_)
  refine wpAny_newObj_type ?_ (by size_fits)
  simp only[raiseNew]
  refine wpAny_bind (wpAny_handled ?_)
  first |rw[show A.in1.handled=none from hh] |rw[hh]
  refine wpAny_bind (wpAny_pure (wpAny_throw ?_))
  exact q _ _ (((Heap.SameBut.update ..).extBut.push _).push _) ⟨_,Heap.get?_push_size _ rfl,rfl⟩
section
variable {prog:Program}{w:World}{A:Around}{E:Value→Shared→Prop}{s:Shared}{z TI TO i1 i2 l1 l2:Addr}{n k:Nat}{f g:Nat→Value}{S1 S2:Nat→Heap→Prop}
theorem Pm {a b:Value}{Q:Value→Shared→Prop}(U1:Src prog w i1 l1 n f S1) (U2:Src prog w i2 l2 n g S2) (D:ZipApart z TI TO i1 i2 l1 l2) (hk:k<n) (hz:IsZip s.heap z TI TO .none) (hI:IsPair s.heap TI (.ref i1) (.ref i2)) (hO:IsPair s.heap TO a b) (h1:S1 k s.heap) (h2:S2 k s.heap)
    (q:∀h',IsZip h' z TI TO (rawInt s.heap.objs.size)→IsPair h' TO (f k) (g k)→S1 (k+1) h'→S2 (k+1) h'→IsPair h' s.heap.objs.size (f k) (g k)→h'.objs.size=s.heap.objs.size+1→
      (∀c o,c≠z→c≠TO→c≠i1→c≠i2→s.heap.get? c=some o→h'.get? c=some o)→Q (.ref s.heap.objs.size) {s with heap:=h'}):
    wpAny (model prog w) A (Builtin.«zip.__next__» ⟨[.ref z],[]⟩) (fun fin s'=> ∃v,fin=.done (.ret v)∧Q v s') E s:=by
  refine(show wpAny _ _ (field (.ref z) 2 >>=_) _ _ _ from wpAny_bind (wpAny_field hz rfl (x:=.bool false) rfl ?_))
  refine(show wpAny _ _ (field (.ref z) 3 >>=_) _ _ _ from wpAny_bind (wpAny_field hz rfl (x:=.ref TI) rfl (wpAny_bind (wpAny_seqItems hI rfl ?_))))
  refine(show wpAny _ _ (Builtin.SmallTypes.ownedTupleIsFree (.ref z) >>=_) _ _ _ from wpAny_bind ?_)
  unfold Builtin.SmallTypes.ownedTupleIsFree
  refine wpAny_bind (wpAny_field hz rfl (x:=.none) rfl (wpAny_pure ?_))
  simp only[if_true]
  refine wpAny_bind (wpAny_rule (wpAny_bind (wpAny_field hz rfl (x:=.ref TO) rfl (wpAny_bind (wpAny_setField_rec hz (by simp) fun m1 kF e1=> ?_)))))
  replace kF:IsZip m1 z TI TO .ellipsis:=kF
  have b1:=e1.extBut
  refine wpAny_bind ?_
  simp only[List.zipIdx_cons,List.zipIdx_nil,List.forIn_cons,List.forIn_nil]
  refine wpAny_bind (wpAny_bind (wpAny_onRaise ?_))
  have av:S1 k m1:=U1.bE _ _ _ h1 fun c hc o ho=>by rcases hc with rfl |rfl<;>first |exact b1 _ _ D.i1z ho |exact b1 _ _ D.l1z ho
  refine(show wpAny _ _ (Builtin.SmallTypes.nextOf (.ref i1) >>=_) _ _ _ from wpAny_bind (U1.item _ k _ _ _ hk av fun m2 ak e2=>wpAny_pure ?_))
  have b2:=e2.extBut
  have o2:IsPair m2 TO a b:=b2 _ _ D.TOi1 (b1 _ _ D.TOz hO)
  refine wpAny_bind (wpAny_seqItems o2 rfl (wpAny_bind (wpAny_updateSeq_pair o2 fun m3 o3 e3=> ?_)))
  replace o3:IsPair m3 TO (f k) b:=o3
  have b3:=e3.extBut
  refine wpAny_bind (wpAny_letGo (wpAny_pure (wpAny_bind (wpAny_bind (wpAny_onRaise ?_)))))
  have w3:S2 k m3:=U2.bE _ _ _ h2 fun c hc o ho=>by
    rcases hc with rfl |rfl
    · exact b3 _ _ D.TOi2.symm (b2 _ _ D.i12.symm (b1 _ _ D.i2z ho))
    · exact b3 _ _ D.l2TO (b2 _ _ D.l2i1 (b1 _ _ D.l2z ho))
  refine(show wpAny _ _ (Builtin.SmallTypes.nextOf (.ref i2) >>=_) _ _ _ from wpAny_bind (U2.item _ k _ _ _ hk w3 fun m4 w4 e4=>wpAny_pure ?_))
  have b4:=e4.extBut
  have o4:IsPair m4 TO (f k) b:=b4 _ _ D.TOi2 o3
  refine wpAny_bind (wpAny_seqItems o4 rfl (wpAny_bind (wpAny_updateSeq_pair o4 fun m5 o5 e5=> ?_)))
  replace o5:IsPair m5 TO (f k) (g k):=o5
  have b5:=e5.extBut
  refine wpAny_bind (wpAny_letGo (wpAny_pure (wpAny_pure (wpAny_bind (wpAny_seqItems o5 rfl (wpAny_bind (wpAny_newTuple ?_)))))))
  have sz:m5.objs.size=s.heap.objs.size:=by rw[e5.1,e4.1,e3.1,e2.1,e1.1]
  have z5:IsZip m5 z TI TO .ellipsis:=b5 _ _ D.TOz.symm (b4 _ _ D.i2z.symm (b3 _ _ D.TOz.symm (b2 _ _ D.i1z.symm kF)))
  have kp:∀c o,c≠z→c≠TO→c≠i1→c≠i2→s.heap.get? c=some o→m5.get? c=some o:=fun c o c1 c2 c3 c4 e=>b5 _ _ c2 (b4 _ _ c4 (b3 _ _ c2 (b2 _ _ c3 (b1 _ _ c1 e))))
  have f9:S1 (k+1) m5:=U1.bE _ _ _ ak fun c hc o ho=>by
    rcases hc with rfl |rfl
    · exact b5 _ _ D.TOi1.symm (b4 _ _ D.i12 (b3 _ _ D.TOi1.symm ho))
    · exact b5 _ _ D.l1TO (b4 _ _ D.l1i2 (b3 _ _ D.l1TO ho))
  have w5:S2 (k+1) m5:=U2.bE _ _ _ w4 fun c hc o ho=>by rcases hc with rfl |rfl<;>first |exact b5 _ _ D.TOi2.symm ho |exact b5 _ _ D.l2TO ho
  have yQ:z<m5.objs.size:=Heap.lt_size z5
  refine(show wpAny _ _ (Builtin.SmallTypes.ownedTupleHandOut (.ref z) (.ref m5.objs.size) >>=_) _ _ _ from wpAny_bind ?_)
  unfold Builtin.SmallTypes.ownedTupleHandOut
  have z6:IsZip (m5.push {cls:=.type "tuple",data:=.seq #[f k,g k]}) z TI TO .ellipsis:=Heap.get?_push_of_some _ z5
  refine wpAny_bind (wpAny_setField_rec z6 (by simp) fun m7 z7 e7=> ?_)
  replace z7:IsZip m7 z TI TO (rawInt m5.objs.size):=z7
  refine wpAny_setField_rec z7 (by simp) fun m8 z8 e8=> ?_
  replace z8:IsZip m8 z TI TO (rawInt m5.objs.size):=z8
  have up:∀c o,c≠z→m5.get? c=some o→m8.get? c=some o:=fun c o c1 e=>e8.extBut _ _ c1 (e7.extBut _ _ c1 (Heap.get?_push_of_some _ e))
  have t8:IsPair m8 m5.objs.size (f k) (g k):=e8.extBut _ _ (Nat.ne_of_gt yQ) (e7.extBut _ _ (Nat.ne_of_gt yQ) (Heap.get?_push_size _ rfl))
  have s8:m8.objs.size=m5.objs.size+1:=by rw[e8.1,e7.1,Heap.size_push]
  rw[sz]at z8 t8 s8
  refine wpAny_pure ⟨_,rfl,?_⟩
  show Q (.ref m5.objs.size) _
  rw[sz]
  refine q m8 z8 (up _ _ D.TOz o5) (U1.bE _ _ _ f9 fun c hc o ho=> ?_) (U2.bE _ _ _ w5 fun c hc o ho=> ?_) t8 s8 fun c o c1 c2 c3 c4 e=>up c o c1 (kp c o c1 c2 c3 c4 e)
  · rcases hc with rfl |rfl<;>first |exact up _ _ D.i1z ho |exact up _ _ D.l1z ho
  · rcases hc with rfl |rfl<;>first |exact up _ _ D.i2z ho |exact up _ _ D.l2z ho
theorem Oa {a b:Value}{Q:PySem.Fin→Shared→Prop}(hh:A.handled=none) (U1:Src prog w i1 l1 n f S1) (D:ZipApart z TI TO i1 i2 l1 l2) (hz:IsZip s.heap z TI TO .none) (hI:IsPair s.heap TI (.ref i1) (.ref i2)) (hO:IsPair s.heap TO a b) (h1:S1 n s.heap)
  (q:∀h' e,(∀c o,c≠z→c≠TO→c≠i1→c≠i2→s.heap.get? c=some o→h'.get? c=some o)→(∃o,h'.get? e=some o∧o.cls=.type "StopIteration")→E (.ref e) {s with heap:=h'}):
  wpAny (model prog w) A (Builtin.«zip.__next__» ⟨[.ref z],[]⟩) Q E s:=by
 refine(show wpAny _ _ (field (.ref z) 2 >>=_) _ _ _ from wpAny_bind (wpAny_field hz rfl (x:=.bool false) rfl ?_))
 refine(show wpAny _ _ (field (.ref z) 3 >>=_) _ _ _ from wpAny_bind (wpAny_field hz rfl (x:=.ref TI) rfl (wpAny_bind (wpAny_seqItems hI rfl ?_))))
 refine(show wpAny _ _ (Builtin.SmallTypes.ownedTupleIsFree (.ref z) >>=_) _ _ _ from wpAny_bind ?_)
 unfold Builtin.SmallTypes.ownedTupleIsFree
 refine wpAny_bind (wpAny_field hz rfl (x:=.none) rfl (wpAny_pure ?_))
 simp only[if_true]
 refine wpAny_bind (wpAny_rule (wpAny_bind (wpAny_field hz rfl (x:=.ref TO) rfl (wpAny_bind (wpAny_setField_rec hz (by simp) fun m1 kF e1=> ?_)))))
 replace kF:IsZip m1 z TI TO .ellipsis:=kF
 have b1:=e1.extBut
 refine wpAny_bind ?_
 simp only[List.zipIdx_cons,List.zipIdx_nil,List.forIn_cons,List.forIn_nil]
 refine wpAny_bind (wpAny_bind (wpAny_onRaise ?_))
 have av:S1 n m1:=U1.bE _ _ _ h1 fun c hc o ho=>by rcases hc with rfl |rfl<;>first |exact b1 _ _ D.i1z ho |exact b1 _ _ D.l1z ho
 refine(show wpAny _ _ (Builtin.SmallTypes.nextOf (.ref i1) >>=_) _ _ _ from wpAny_bind (U1.stop _ _ _ _ hh av fun m2 e e2 he=> ?_))
 obtain⟨oe,ge,ce⟩:=he
 have z2:IsZip m2 z TI TO .ellipsis:=e2 _ _ D.i1z.symm kF
 have Ha:e≠z:=fun y=>by subst y;rw[z2]at ge;cases ge;simp at ce
 refine wpAny_setField_rec z2 (by simp) fun m3 _ e3=>q m3 e (fun c o c1 _ c3 _ x=>e3.extBut _ _ c1 (e2 _ _ c3 (b1 _ _ c1 x))) ⟨oe,e3.extBut _ _ Ha ge,ce⟩
end
section
variable {prog:Program}{w:World}{A:Around}{z TI TO i1 i2 l1 l2:Addr}{n:Nat}{f g:Nat→Value}{S1 S2:Nat→Heap→Prop}
theorem UN (hh:A.handled=none) (U1:Src prog w i1 l1 n f S1) (U2:Src prog w i2 l2 n g S2) (D:ZipApart z TI TO i1 i2 l1 l2):
  WalksT prog w A z [z,TI,TO,i1,i2,l1,l2] [z,TO,i1,i2] n (fun k vals=>vals= #[f k,g k])
   (fun k h=>IsZip h z TI TO .none∧IsPair h TI (.ref i1) (.ref i2)∧(∃a b,IsPair h TO a b)∧S1 k h∧S2 k h)
   (fun k T h=>IsZip h z TI TO (rawInt T)∧IsPair h TI (.ref i1) (.ref i2)∧(∃a b,IsPair h TO a b)∧S1 (k+1) h∧S2 (k+1) h∧T∉[z,TO,i1,i2]) where
 sub:=fun c hc=>by
  simp only[List.mem_cons,List.not_mem_nil,or_false]at hc ⊢
  rcases hc with rfl |rfl |rfl |rfl<;>simp
 frame:=fun k h h' ⟨a1,a2,⟨a,b,a3⟩,a4,a5⟩ kp=> ⟨kp z (by simp) _ a1,kp TI (by simp) _ a2,⟨a,b,kp TO (by simp) _ a3⟩,U1.bE _ _ _ a4 fun c hc o=>kp c (by rcases hc with rfl |rfl<;>simp) o,U2.bE _ _ _ a5 fun c hc o=>kp c (by rcases hc with rfl |rfl<;>simp) o⟩
 item:=fun k s Q E hk ⟨a1,a2,⟨a,b,a3⟩,a4,a5⟩ q=>by
  have ty:s.TypeIs (.ref z) "zip" :=⟨_,a1,rfl⟩
  have ne:∀{c o},s.heap.get? c=some o→s.heap.objs.size≠c:=fun e=>Nat.ne_of_gt (Heap.lt_size e)
  obtain⟨o1,g1⟩:=U1.here _ _ a4
  obtain⟨o2,g2⟩:=U2.here _ _ a5
  unfold pyNext
  refine wpAny_bind (wpAny_attempt (wpAny_callSpecial?_slot (name:=Str.ofString "__next__") ty F.slot_zip_next (wpAny_call_entry F.slot_zip_next ty F.entry_zip_next (Pm U1 U2 D hk a1 a2 a3 a4 a5 fun h' c1 c2 c3 c4 c5 c6 c7=>wpAny_pure ?_) (F.args_zip_next_1 _))))
  refine q s.heap.objs.size #[f k,g k] h' s.toks rfl (Nat.le_refl _) ⟨_,c5,rfl,_,rfl⟩ ⟨c1,c7 _ _ D.TIz D.TITO D.TIi1 D.TIi2 a2,⟨_,_,c2⟩,c3,c4,fun m=> ?_⟩ fun c o hc e=>c7 c o (fun x=>hc (by simp[x])) (fun x=>hc (by simp[x])) (fun x=>hc (by simp[x])) (fun x=>hc (by simp[x])) e
  simp only[List.mem_cons,List.not_mem_nil,or_false]at m
  rcases m with m |m |m |m
  ·exact ne a1 m
  ·exact ne a3 m
  ·exact ne g1 m
  ·exact ne g2 m
 go:=fun elts kk pos k T s Q E ⟨a1,a2,⟨a,b,a3⟩,a4,a5,_⟩ q=>wpAny_letOwnedTupleGo_zip a1 fun h' z' s'=>by
  have ex:=s'.extBut
  refine q h' ⟨z',ex _ _ D.TIz a2,⟨a,b,ex _ _ D.TOz a3⟩,U1.bE _ _ _ a4 fun c hc o ho=> ?_,U2.bE _ _ _ a5 fun c hc o ho=> ?_⟩ fun c o hc e=>ex _ _ (fun x=>hc (by simp[x])) e
  ·rcases hc with rfl |rfl<;>first |exact ex _ _ D.i1z ho |exact ex _ _ D.l1z ho
  ·rcases hc with rfl |rfl<;>first |exact ex _ _ D.i2z ho |exact ex _ _ D.l2z ho
 apart:=fun k T h ⟨_,_,_,_,_,t⟩=>t
 done:=fun s Q E ⟨a1,a2,⟨a,b,a3⟩,a4,a5⟩ q=>by
  have ty:s.TypeIs (.ref z) "zip" :=⟨_,a1,rfl⟩
  unfold pyNext
  refine wpAny_bind (wpAny_attempt (wpAny_callSpecial?_slot (name:=Str.ofString "__next__") ty F.slot_zip_next (wpAny_call_entry F.slot_zip_next ty F.entry_zip_next (Oa hh U1 D a1 a2 a3 a4 fun h' e kp he=> ?_) (F.args_zip_next_1 _))))
  obtain⟨o,ho,hc⟩:=he
  refine wpAny_bind (wpAny_isInstance (T:= "StopIteration") (b:=true) ⟨o,ho,hc⟩ isSubtype_stop (wpAny_pure (q _ s.toks fun c o hc e=> ?_)))
  exact kp c o (fun x=>hc (by simp[x])) (fun x=>hc (by simp[x])) (fun x=>hc (by simp[x])) (fun x=>hc (by simp[x])) e
 self:=fun k s Q E st q=>wpAny_pyIter_zip st.1 q
end
abbrev qz (h:Heap) (l1:Addr):Heap:=h.push {cls:=.type "tuple_iterator",data:=.fields #[.ref l1,.int 0 0]}
abbrev qy (h:Heap) (l1 l2:Addr):Heap:=(qz h l1).push {cls:=.type "tuple_iterator",data:=.fields #[.ref l2,.int 0 0]}
abbrev qx (h:Heap) (l1 l2:Addr):Heap:=(qy h l1 l2).push {cls:=.type "tuple",data:=.seq #[.ref h.objs.size,.ref (qz h l1).objs.size]}
abbrev qw (h:Heap) (l1 l2:Addr):Heap:=(qx h l1 l2).push {cls:=.type "tuple",data:=.seq #[.none,.none]}
abbrev mC (h:Heap) (l1 l2:Addr):Heap:=(qw h l1 l2).push {cls:=.type "zip",data:=.fields #[.none,.bool false,.bool false,.ref (qy h l1 l2).objs.size,.ref (qx h l1 l2).objs.size]}
theorem QL {h:Heap}{l:Addr}{xs:Array Value}(t:IsTup h l xs) (o:Obj):IsTup (h.push o) l xs:=let ⟨u,hu,r⟩:=t;⟨u,Heap.get?_push_of_some _ hu,r⟩
theorem Ob (l1 l2:Addr) (xs ys:Array Value):Meets (Builtin.«zip.__new__» ⟨[.type "zip",.ref l1,.ref l2],[]⟩) (fun _ R s=>IsTup s.heap l1 xs∧IsTup s.heap l2 ys∧R (.ok (.ret (.ref (qw s.heap l1 l2).objs.size))) {s with heap:=mC s.heap l1 l2}):=
 .of_wp fun prog w A R s h=>by
  obtain⟨hp,gg,d,tk,os⟩:=s
  obtain⟨t1,t2,h⟩:=h
  have lD:=sub_zip
  have T1:IsTup (Shared.heap ⟨hp,gg,d,tk,os⟩) l1 xs:=t1
  have T2:IsTup (Shared.heap ⟨hp.push {cls:=.type "tuple_iterator",data:=.fields #[.ref l1,.int 0 0]},gg,d,tk,os⟩) l2 ys:=QL t2 _
  wp_walk using iter_tuple T1,iter_tuple T2
  exact⟨_,rfl,h⟩
theorem Oc {prog:Program}{w:World}{A:Around}{E:Value→Shared→Prop}{s:Shared}{l1 l2:Addr}{xs ys:Array Value}{Q:Value→Shared→Prop}(t1:IsTup s.heap l1 xs) (t2:IsTup s.heap l2 ys)
    (q:∀h',IsZip h' (s.heap.objs.size+4) (s.heap.objs.size+2) (s.heap.objs.size+3) .none→IsPair h' (s.heap.objs.size+2) (.ref s.heap.objs.size) (.ref (s.heap.objs.size+1))→IsPair h' (s.heap.objs.size+3) .none .none→
      IsTupIter h' s.heap.objs.size l1 0→IsTupIter h' (s.heap.objs.size+1) l2 0→(∀c o,s.heap.get? c=some o→h'.get? c=some o)→Q (.ref (s.heap.objs.size+4)) {s with heap:=h'}):
    wpAny (model prog w) A (call (.type "zip") [.ref l1,.ref l2]) Q E s:=by
  refine callType_new F.called_zip (by decide) (F.typeCall_zip_2 _ _) (F.newCall_zip_2 _ _) (fun obj=>F.args_object_init_3 obj _ _) F.entry_zip_new (Ob l1 l2 xs ys) ⟨t1,t2,?_⟩
  have y1:(qz s.heap l1).objs.size=s.heap.objs.size+1:=Heap.size_push ..
  have y2:(qy s.heap l1 l2).objs.size=s.heap.objs.size+2:=by rw[Heap.size_push,y1]
  have y3:(qx s.heap l1 l2).objs.size=s.heap.objs.size+3:=by rw[Heap.size_push,y2]
  have y4:(qw s.heap l1 l2).objs.size=s.heap.objs.size+4:=by rw[Heap.size_push,y3]
  have p:∀{h:Heap}{c:Addr}{o u:Obj},h.get? c=some o→(h.push u).get? c=some o:=fun e=>Heap.get?_push_of_some _ e
  have x5:(mC s.heap l1 l2).get? (qw s.heap l1 l2).objs.size=some _:=Heap.get?_push_size _ rfl
  have x4:(mC s.heap l1 l2).get? (qx s.heap l1 l2).objs.size=some _:=p (Heap.get?_push_size _ rfl)
  have x3:(mC s.heap l1 l2).get? (qy s.heap l1 l2).objs.size=some _:=p (p (Heap.get?_push_size _ rfl))
  have x2:(mC s.heap l1 l2).get? (qz s.heap l1).objs.size=some _:=p (p (p (Heap.get?_push_size _ rfl)))
  have x1:(mC s.heap l1 l2).get? s.heap.objs.size=some _:=p (p (p (p (Heap.get?_push_size _ rfl))))
  show _∧_
  rw[y2,y3,y4]at x5
  rw[y1,y2]at x3
  rw[y3]at x4
  rw[y1]at x2
  rw[y4]
  exact⟨⟨_,x5,rfl⟩,q _ x5 x3 x4 ⟨_,x1,rfl,rfl⟩ ⟨_,x2,rfl,rfl⟩ fun c o x=>p (p (p (p (p x))))⟩
def yr (K:PySem.W.Frag) (l1 l2:Addr):It:=
 ⟨fun i H=> ∃xs ys x y,ai K H l1 xs∧ai K H l2 ys∧xs.length=ys.length∧xs[i]? =some x∧ys[i]? =some y,
  fun i H v H'=> ∃(T:Addr) (x y:V),v=.ref T∧H T=none∧H'=upd H T (.par [x,y])∧∀xs ys,ai K H l1 xs→ai K H l2 ys→xs[i]? =some x∧ys[i]? =some y,
  fun i H=> ∃xs ys,ai K H l1 xs∧ai K H l2 ys∧xs.length=i∧ys.length=i⟩
theorem PM {P:Program}{w:World}{K:PySem.W.Frag}{elts:List Expr}{kk:Nat}{pos:Pos}(z TI TO i1 i2 l1 l2:Addr) (D:ZipApart z TI TO i1 i2 l1 l2):
  Turn P w K (.Tuple elts kk pos) (yr K l1 l2) [z,TI,TO,i1,i2] z (fun i h=>IsZip h z TI TO .none∧IsPair h TI (.ref i1) (.ref i2)∧(∃a b,IsPair h TO a b)∧IsTupIter h i1 l1 i∧IsTupIter h i2 l2 i) where
 mem:=by simp
 obj:=fun i h st b hb=>by
  obtain⟨a1,a2,⟨u,v,a3⟩,⟨o4,h4,_,d4⟩,⟨o5,h5,_,d5⟩⟩:=st
  simp only[List.mem_cons,List.not_mem_nil,or_false]at hb
  rcases hb with rfl |rfl |rfl |rfl |rfl
  ·exact⟨_,a1,fun v z=>by cases z⟩
  ·exact⟨_,a2,fun v z=>by cases z⟩
  ·exact⟨_,a3,fun v z=>by cases z⟩
  ·exact⟨_,h4,fun v z=>by rw[d4]at z;cases z⟩
  ·exact⟨_,h5,fun v z=>by rw[d5]at z;cases z⟩
 keep:=fun i h h' st k=>by
  obtain⟨a1,a2,⟨u,v,a3⟩,a4,a5⟩:=st
  exact⟨k z (by simp) _ a1,k TI (by simp) _ a2,⟨u,v,k TO (by simp) _ a3⟩,(let ⟨o,ho,r⟩:=a4;⟨o,k i1 (by simp) o ho,r⟩),let ⟨o,ho,r⟩:=a5;⟨o,k i2 (by simp) o ho,r⟩⟩
 item:=by
  intro X hP hw hK hc i pins s σ H E I hf st hg
  subst hP hw hK
  obtain⟨xs,ys,x,y,ff,bJ,nJ,hx,hy⟩:=hg
  obtain⟨ee,iN,dH,bI⟩:=I.tuple ff
  obtain⟨fc,gU,eV,az⟩:=I.tuple bJ
  obtain⟨u,hu,ru⟩:=iN.get hx
  obtain⟨v,hv,rv⟩:=gU.get hy
  have wm:fc.toArray.size=ee.toArray.size:=by
   have e1:=iN.length
   have e2:=gU.length
   simp only[List.size_toArray]
   omega
  have lK:i<ee.toArray.size:=by
   have e1:=(List.getElem?_eq_some_iff.mp hu).1
   simp only[List.size_toArray]
   omega
  have U2:=YK X.prog X.w fc.toArray D.l2i2
  rw[wm]at U2
  have W:=UN (A:=X.A) (I.ok.hd hc) (YK X.prog X.w ee.toArray D.l1i1) U2 D
  obtain⟨a1,a2,a3,a4,a5⟩:=st
  refine W.item i s _ _ lK ⟨a1,a2,a3,⟨a4,dH⟩,⟨a5,eV⟩⟩ fun T vals h' tk hP eK lQ ij hk=> ⟨_,rfl,W.go elts kk pos i T _ _ _ ij fun cH dh eC=> ?_⟩
  have jr:ee.toArray.getD i .none=u:=by simp[List.getD_eq_getElem?_getD,hu]
  have aX:fc.toArray.getD i .none=v:=by simp[List.getD_eq_getElem?_getD,hv]
  rw[jr,aX]at hP
  subst hP
  have iz:H T=none:=I.ah.fresh eK
  have both:∀b o,b∉[z,TO,i1,i2]→s.heap.get? b=some o→cH.get? b=some o:=fun b o hb q=>eC b o hb (hk b o hb q)
  have sub:∀b,b∉[z,TI,TO,i1,i2]→b∉[z,TO,i1,i2]:=fun b hb hm=>hb (by
   simp only[List.mem_cons,List.not_mem_nil,or_false]at hm ⊢
   rcases hm with h |h |h |h
   ·exact .inl h
   ·exact .inr (.inr (.inl h))
   ·exact .inr (.inr (.inr (.inl h)))
   ·exact .inr (.inr (.inr (.inr h))))
  have jz:T∉[z,TO,i1,i2]:=W.apart _ _ _ ij
  have lT:cH.IsTuple T #[u,v]:=lQ.at fun o q=>eC T o jz q
  have neT:∀b o,s.heap.get? b=some o→b≠T:=fun b o q=>Nat.ne_of_lt (Nat.lt_of_lt_of_le (Heap.lt_size q) eK)
  have cO:∀b o,H b=some o→b≠T:=fun b o q=>Zg q iz
  have bQ:∀b o,H b=some o→b∉[z,TI,TO,i1,i2]:=fun b o q hm=>by
   have:=(hf b hm).1
   rw[this]at q;cases q
  refine⟨.ref T,upd H T (.par [x,y]),?_,rfl,⟨T,x,y,rfl,iz,rfl,fun as bs ha hb=>by rw[I.qC ha ff,I.qC hb bJ];exact⟨hx,hy⟩⟩,⟨dh.1,dh.2.1,dh.2.2.1,dh.2.2.2.1.1,dh.2.2.2.2.1⟩,fun b hb=> ?_⟩
  ·refine(show Inv X pins σ (upd H T (.par [x,y])) {s with heap:=cH,toks:=tk} from ?_)
   refine I.call (g':=s.gens) (d':=s.drawn) (t':=tk) (h':=cH) (ch:=[z,TI,TO,i1,i2]) ⟨fun b o q _ _ hx=>both b o (sub b hx) q,fun b o q _ _ hx=> ⟨o.slots,both b o (sub b hx) q⟩,fun b o q n hx=>by rw[Zf (neT b o q)];exact n,fun b o q hx=> ⟨o,both b o (sub b hx) q⟩,
    fun b ys q=>by rw[Zf (cO b _ q)];exact q,fun b o u q=>by rw[Zf (cO b _ q)];exact q,fun b ps q=> ⟨#[],by rw[Zf (cO b _ q),q];simp⟩⟩ (fun b o q=> ?_) I.bare fun b hb=> ?_
   ·by_cases hb:b=T
    ·subst hb
     rw[Zc]at q
     cases q
     exact⟨by show 2≤sizeLine;decide,[u,v],.cons ru (.cons rv .nil),lT⟩
    ·rw[Zf hb]at q
     refine(I.ah b o q).bE (fun c ob bj q'=>both c ob ?_ q') (fun c q'=>by rw[Zf (cO c _ q')];exact q') fun c ys q'=>by rw[Zf (cO c _ q')];exact q'
     rcases bj with z' |z'
     ·rw[z'];exact sub _ (bQ b o q)
     ·exact sub _ (bQ c _ z')
   ·obtain⟨f0,f1,f2,f3,f4,f5⟩:=hf b hb
    exact⟨f3,f1,f4,f5⟩
  ·have bA:b≠T:=by
    obtain⟨f0,_⟩:=hf b hb
    have:∃o,s.heap.get? b=some o:=by
     obtain⟨u',v',x6⟩:=a3
     obtain⟨o4,h4,_⟩:=a4
     obtain⟨o5,h5,_⟩:=a5
     simp only[List.mem_cons,List.not_mem_nil,or_false]at hb
     rcases hb with rfl |rfl |rfl |rfl |rfl
     ·exact⟨_,a1⟩
     ·exact⟨_,a2⟩
     ·exact⟨_,x6⟩
     ·exact⟨_,h4⟩
     ·exact⟨_,h5⟩
    obtain⟨o,ho⟩:=this
    exact neT b o ho
   rw[Zf bA]
   exact(hf b hb).1
 done:=by
  intro X hP hw hK hc i pins s σ H E I hf st hg
  subst hP hw hK
  obtain⟨xs,ys,ff,bJ,hx,hy⟩:=hg
  obtain⟨ee,iN,dH,bI⟩:=I.tuple ff
  obtain⟨fc,gU,eV,az⟩:=I.tuple bJ
  have e1:=iN.length
  have e2:=gU.length
  have wm:fc.toArray.size=ee.toArray.size:=by simp only[List.size_toArray];omega
  have U2:=YK X.prog X.w fc.toArray D.l2i2
  rw[wm]at U2
  have W:=UN (A:=X.A) (I.ok.hd hc) (YK X.prog X.w ee.toArray D.l1i1) U2 D
  have hn:i=ee.toArray.size:=by simp only[List.size_toArray];omega
  obtain⟨a1,a2,a3,a4,a5⟩:=st
  rw[hn]at a4 a5
  have sub:∀b,b∉[z,TI,TO,i1,i2]→b∉[z,TO,i1,i2]:=fun b hb hm=>hb (by
   simp only[List.mem_cons,List.not_mem_nil,or_false]at hm ⊢
   rcases hm with h |h |h |h
   ·exact .inl h
   ·exact .inr (.inr (.inl h))
   ·exact .inr (.inr (.inr (.inl h)))
   ·exact .inr (.inr (.inr (.inr h))))
  refine W.done s _ _ ⟨a1,a2,a3,⟨a4,dH⟩,⟨a5,eV⟩⟩ fun h' tk hk=> ⟨rfl,?_⟩
  have bQ:∀b o,H b=some o→b∉[z,TI,TO,i1,i2]:=fun b o q hm=>by
   have:=(hf b hm).1
   rw[this]at q;cases q
  refine I.call (g':=s.gens) (d':=s.drawn) (t':=tk) (h':=h') (ch:=[z,TI,TO,i1,i2]) ⟨fun b o q _ _ hx=>hk b o (sub b hx) q,fun b o q _ _ hx=> ⟨o.slots,hk b o (sub b hx) q⟩,fun b o q n hx=>n,fun b o q hx=> ⟨o,hk b o (sub b hx) q⟩,fun b ys q=>q,fun b o u q=>q,fun b ps q=> ⟨#[],by rw[q];simp⟩⟩ (fun b o q=> ?_) I.bare fun b hb=> ?_
  ·refine(I.ah b o q).bE (fun c ob bj q'=>hk c ob ?_ q') (fun _ q'=>q') fun _ _ q'=>q'
   rcases bj with z' |z'
   ·rw[z'];exact sub _ (bQ b o q)
   ·exact sub _ (bQ c _ z')
  ·obtain⟨f0,f1,f2,f3,f4,f5⟩:=hf b hb
   exact⟨f3,f1,f4,f5⟩
 self:=fun A i s Q E st h=>wpAny_pyIter_zip st.1 h
section
variable {X:Cx}{elts:List Expr}{kk:Nat}{tp:Pos}
def Ie (K:PySem.W.Frag) (ta:TA):TI:=fun σ H R=>ta σ H fun vs H1=> ∃l1 l2,vs=[.ref l1,.ref l2]∧(∃xs ys,ai K H1 l1 xs∧ai K H1 l2 ys)∧R (yr K l1 l2) H1
theorem NQ {a b:Expr}{ta:TA}{p pos:Pos}(hg:Gl X "zip") (hm:X.mg "zip" =none) (ha:PA X [a,b] ta) (hs:starEach [a,b] X.env=[(false,eval a X.env),(false,eval b X.env)]:=by rfl) (j7:starEach [b] X.env=[(false,eval b X.env)]:=by rfl):
  PI X (.Tuple elts kk tp) (.Call (.Name "zip" p) [a,b] [] pos) (Ie X.K ta):=by
 intro pins s σ H R I h
 refine Call_ (Ym I hg hm PyProof.Rows.Boot.«zip» (PyProof.Rows.callWith_type1 (au (ha pos pins s σ H _ I h) fun us s1 ⟨vs,H1,I1,r1,q1⟩=> ?_) (by rw[hs,j7]) (by rw[j7];rfl)))
 obtain⟨l1,l2,e,⟨xs,ys,ff,bJ⟩,q⟩:=q1
 subst e
 obtain⟨u,v,rfl,ru,rv⟩:=vals2 r1
 cases ru
 cases rv
 obtain⟨ee,iN,dH,bI⟩:=I1.tuple ff
 obtain⟨fc,gU,eV,az⟩:=I1.tuple bJ
 have t1:l1<s1.heap.objs.size:=by obtain⟨o,ho,_⟩:=id dH;exact Heap.lt_size ho
 have t2:l2<s1.heap.objs.size:=by obtain⟨o,ho,_⟩:=id eV;exact Heap.lt_size ho
 have D:=WI s1.heap.objs.size l1 l2 t1 t2
 refine Oc dH eV fun h' b1 b2 b3 b4 b5 hk=>wpAny_pyIter_zip b1 ?_
 have I2:Inv X pins σ H1 {s1 with heap:=h'} :=I1.kept (t':=s1.toks) hk
 refine⟨s1.heap.objs.size+4,[s1.heap.objs.size+4,s1.heap.objs.size+2,s1.heap.objs.size+3,s1.heap.objs.size,s1.heap.objs.size+1],_,_,H1,rfl,I2,
  PM _ _ _ _ _ l1 l2 D,⟨b1,b2,⟨_,_,b3⟩,b4,b5⟩,fun b hb=> ?_,q⟩
 have iw:s1.heap.objs.size≤b:=by
  simp only[List.mem_cons,List.not_mem_nil,or_false]at hb
  rcases hb with z |z |z |z |z<;>rw[z]<;>first |exact Nat.le_refl _ |exact Nat.le_add_right _ _
 exact I1.kh iw (I1.ah.fresh iw)
end
theorem Qb {K:PySem.W.Frag}{l1 l2:Addr}{xs zs:List V}{g:TG}{tt:TT}{ti:TC}{ys:List V}{σ:St}{H:Hp}{Q:List V→St→Hp→Prop}(hlen:xs.length=zs.length) (Pv:Nat→List V→St→Hp→Prop) (h0:Pv 0 ys σ H)
  (hl:∀i ys σ H,i≤xs.length→Pv i ys σ H→ai K H l1 xs∧ai K H l2 zs)
  (hs:∀i x y T ys σ H,xs[i]? =some x→zs[i]? =some y→H T=none→Pv i ys σ H→g (.ref T) σ (upd H T (.par [x,y])) fun aR H2=>tt aR H2 fun b H3=>if b=true then ti ys aR H3 (Pv (i+1)) else Pv (i+1) ys aR H3)
  (hd:∀ys σ H,Pv xs.length ys σ H→Q ys σ H):fZ g tt ti (yr K l1 l2) ys σ H Q:=by
 refine⟨fun i m ys σ H=>m=xs.length - i∧i≤xs.length∧Pv i ys σ H,⟨xs.length,by simp,Nat.zero_le _,h0⟩,?_⟩
 rintro i m ys σ H ⟨rfl,hi,p⟩
 obtain⟨q1,q2⟩:=hl i ys σ H hi p
 by_cases aw:i<xs.length
 ·refine .inr ⟨⟨xs,zs,xs[i],zs[i]'(by omega),q1,q2,hlen,by simp[aw],by simp[hlen▸aw]⟩,Pv (i+1),fun cg aj H' p'=> ⟨xs.length - (i+1),by omega,rfl,aw,p'⟩,fun x H' y=> ?_⟩
  obtain⟨T,a,b,e1,e2,e3,e4⟩:=y
  subst e1 e3
  obtain⟨f1,f2⟩:=e4 xs zs q1 q2
  exact hs i a b T ys σ H f1 f2 e2 p
 ·have e:i=xs.length:=by omega
  subst e
  exact .inl ⟨⟨xs,zs,q1,q2,rfl,hlen.symm⟩,hd ys σ H p⟩
end L2
namespace L2
open PySem PySem.Spec PyProof.Rows SeqAt
section
variable {X:Cx}
theorem Yt {a b:String} :fX X (.builtin "isinstance") (fun xs H Q=> ∃(x:V) (t:Addr) (T:Value) (r:Bool),xs=[x,.ref t]∧ai X.K H t [.ty a,.ty b]∧((∃i,x=.int i∧T=.type "int")∨(x=.af∧T=.type "NoneType")∨(∃l ys,x=.ref l∧H l=some (.lst ys)∧T=.type "list")∨∃l ys,x=.ref l∧H l=some (.tup ys)∧T=.type "tuple")∧
  PySem.W.kitAny X.K T [.type a,.type b]=some r∧Q (.bl r) H):=by
 intro pins s σ H xs us Q I rv h
 obtain⟨x,t,T,r,rfl,hq,hx,hk,q⟩:=h
 obtain⟨u,v,rfl,ru,rv⟩:=vals2 rv
 cases rv
 obtain⟨its,rt,pl,hz⟩:=I.tuple hq
 cases rt with
 |cons r1 r2=>
  cases r2 with
  |cons r3 r4=>
   cases r4
   cases r1
   cases r3
   obtain⟨o,ho,hc,n,hd⟩:=id pl
   obtain⟨cls,dd,dt,sl⟩:=o
   replace hc:cls=.type "tuple" :=hc
   replace hd:dt=.seq [Value.type a,Value.type b].toArray n:=hd
   subst hc hd
   rcases hx with ⟨i,rfl,rfl⟩ |⟨rfl,rfl⟩ |⟨l,ys,rfl,hl,rfl⟩ |⟨l,ys,rfl,hl,rfl⟩
   ·obtain⟨tk,rfl⟩:=ru
    exact PySem.W.kia_tup PySem.W.kitx_int I.cG True.intro ho hk (fun z=>nomatch z) fun tk=> ⟨.bl r,H,I.tok _,rfl,q⟩
   ·cases ru
    exact PySem.W.kia_tup PySem.W.kitx_none I.cG True.intro ho hk (fun z=>nomatch z) fun tk=> ⟨.bl r,H,I.tok _,rfl,q⟩
   ·cases ru
    obtain⟨_,_,n,_,h1⟩:=(show cb X.prog X.w H s.heap l (.lst ys) from I.ah l _ hl)
    exact PySem.W.kia_tup PySem.W.kitx_list I.cG ⟨_,h1,rfl⟩ ho hk (fun z=>nomatch z) fun tk=> ⟨.bl r,H,I.tok _,rfl,q⟩
   ·cases ru
    obtain⟨_,_,_,p,_⟩:=(show cb X.prog X.w H s.heap l (.tup ys) from I.ah l _ hl)
    obtain⟨o,h1,h2,_⟩:=p
    exact PySem.W.kia_tup PySem.W.kitx_tuple I.cG ⟨o,h1,h2⟩ ho hk (fun z=>nomatch z) fun tk=> ⟨.bl r,H,I.tok _,rfl,q⟩
theorem NJ (hu:X.A.units<cLine):bo X (compareOp .Eq) (fun x y H Q=> ∃(a b:Addr) (ns ms:List Int),x=.ref a∧y=.ref b∧ai X.K H a (ns.map V.int)∧ai X.K H b (ms.map V.int)∧Q (.bl (decide (ns=ms))) H):=by
 intro pins s σ H x y u v Q I rx ry h
 obtain⟨a,b,ns,ms,rfl,rfl,ha,hb,q⟩:=h
 cases rx
 cases ry
 obtain⟨us,r1,p1,_⟩:=I.tuple ha
 obtain⟨vs,r2,p2,_⟩:=I.tuple hb
 have l1:=r1.length
 have l2:=r2.length
 rw[List.length_map]at l1 l2
 refine eq_tupleAt (e:=fun j=>ns.getD j 0==ms.getD j 0) p1 p2 hu (fun j h1 h2=> ?_) ?_
 ·obtain⟨t1,e1⟩:=WZ r1 j (by simpa using h1)
  obtain⟨t2,e2⟩:=WZ r2 j (by simpa using h2)
  rw[show us.toArray[j]=us[j]'(by simpa using h1) by simp,show vs.toArray[j]=vs[j]'(by simpa using h2) by simp,e1,e2]
  exact SeqAt.EqAt.int_int _ _ _ _
 ·have e:((List.range (min us.toArray.size vs.toArray.size)).all (fun j=>ns.getD j 0==ms.getD j 0)&&us.toArray.size==vs.toArray.size)=decide (ns=ms):=by
   rw[Bool.eq_iff_iff,Bool.and_eq_true,List.all_eq_true,decide_eq_true_eq,beq_iff_eq,List.size_toArray,List.size_toArray]
   constructor
   ·rintro⟨h,hl⟩
    refine List.ext_getElem (by omega) fun i h1 h2=> ?_
    have:=h i (by rw[List.mem_range];omega)
    simpa[h1,h2] using this
   ·rintro rfl
    exact⟨fun j _=>by simp,by omega⟩
  rw[e]
  exact⟨.bl _,H,I,rfl,q⟩
end
structure Cells (base:Heap) (scope:Scope) (cl:List (Str×Addr)) (N:List Str) (vs:List V):Prop where
 len:vs.length=N.length
 only:∀z,scope.names.lookup z=some .cell∨scope.names.lookup z=some .free→z∈N
 at_:∀(i:Nat) x v,N[i]? =some x→vs[i]? =some v→scope.names.lookup x=some .free∧∃c u,cl.lookup x=some c∧base.IsCell c (some u)∧RelV v u
 mem:∀z c,cl.lookup z=some c→z∈N
 inj:∀x y c,cl.lookup x=some c→cl.lookup y=some c→x=y
theorem Oh {P:Program}{w:World}{K:PySem.W.Frag}{mg:Str→Option Value}{base:Heap}{f:Addr}{q:Str}{params:Arguments}{body:Expr}{scope:Scope}{cl:List (Str×Addr)}{pm:Value}{c:Addr}{ct:Value}{k:Nat}{N:List Str}{ws:List V}{sp:Sp}
    (T:Cells base scope cl N ws) (hk:scope.kind=.function) (K9:scope.isCoroutine=false) (KO:scope.isGenerator=false) (kc:∀z∈scope.names,z.2≠.cell)
    (dD:∀vs H Q E,sp vs H Q E→vs=[]∧H f=some (nA f q params body scope cl pm c ct)∧H c=some (gH c q))
    (hb:∀(A:Around) (outer:List Env) (s:Shared) (H:Hp) (Q:VK) (E:XK),bP k (A.deeper (PySem.W.envX q scope s.heap.objs.size f (.ref c) cl))→sp [] H Q E→
      ∃t,PE (jD P w K mg base N q scope f (.ref c) cl A outer s H E) body t∧t (ws.map some) H Q):
    aA P w K mg base (bH P w) (k+1) f (PySem.W.kla_fn "<lambda>" q params body scope cl pm (.ref c) ct) [] sp:=by
  refine⟨fun vs H Q E h=>by rw[(dD vs H Q E h).1];rfl,fun A outer s H args us vs Q E hr e0 xc rv h=> ?_⟩
  obtain⟨rfl,hf,hc⟩:=dD _ _ _ _ h
  have of:s.heap.get? f=some (PySem.W.kla_obj "<lambda>" q params body scope cl pm c ct):=(e0.ah f _ hf).1
  have oc:s.heap.CodeRec (.ref c) q:=(e0.ah c _ hc).1
  have lim:s.heap.NoLimit:=e0.mod.nolimit.keeps fun b o e=> (e0.bs b o e).1
  refine PySem.W.kla_callFunE hr.depth of rfl K9 KO rfl oc (xc _ _ _ _ ?_)
  refine wpAny_newFunctionEnv kc (fun z hz=>by cases rv;exact absurd hz (by simp)) (fun h1 pG IU=> ?_) hk
  have k1:∀b o,s.heap.get? b=some o→h1.get? b=some o:=fun b o e=>IU.extBut b o (Nat.ne_of_lt (Heap.lt_size e)) (Heap.get?_push_of_some _ e)
  refine⟨lim.keeps k1,?_⟩
  show codeAny _ A (.expr body (PySem.W.envX q scope s.heap.objs.size f (.ref c) cl)) _ _
  obtain⟨t,ht,hq⟩:=hb A outer s H Q E (hr.deeper _) h
  have xP:∀{a:Addr}{v:Option Value},base.IsCell a v→h1.IsCell a v∧H a=none:=fun {a v} ⟨o,ho,hd⟩=> ⟨⟨o,k1 _ _ (e0.bs _ _ ho).1,hd⟩,(e0.bs _ _ ho).2⟩
  have CG:∀z,z∈N→∃c u,cl.lookup z=some c∧base.IsCell c (some u):=fun z hz=>by
    obtain⟨i,hi,e⟩:=List.getElem_of_mem hz
    have aS:i<ws.length:=by rw[T.len];exact hi
    obtain⟨_,c,u,h1,h2,_⟩:=T.at_ i z ws[i] (by rw[←e];exact List.getElem?_eq_getElem hi) (List.getElem?_eq_getElem aS)
    exact⟨c,u,h1,h2⟩
  have cells:∀z a,cl.lookup z=some a→∃v,base.IsCell a v:=fun z a hz=>by
    obtain⟨c,u,h1,h2⟩:=CG z (T.mem z a hz)
    rw[hz]at h1;cases h1;exact⟨_,h2⟩
  have I:Inv (jD P w K mg base N q scope f (.ref c) cl A outer s H E) [] (ws.map some) H {s with heap:=h1,toks:=s.toks+(([]:List Str).zip us).length} :=by
    refine⟨⟨e0.mod,hk,rfl,rfl,Nat.le_refl _,fun a b cc h2 h3=> ?_,fun a ha=> ?_,fun a cc hn=>Bool.noConfusion hn,fun _=>hr.hd,Around.frames_deeper e0.frames,.inr ⟨rfl,rfl⟩,fun b z=>absurd (show b∈([]:List Addr) from z) (by simp),e0.bs,e0.i7,fun b _ _ z=>absurd (show b∈([]:List Addr) from z) (by simp),fun b z=>absurd (show b∈([]:List Addr) from z) (by simp),e0.dR,e0.gG⟩,
      rfl,e0.bare,Un.kept k1,⟨_,pG,fun i z v h2 h3 h4=> ?_⟩,fun z a hz=> ?_,e0.ah.fresh (Nat.le_refl _),fun z a hz=> ?_,fun p hp=>absurd (show p∈([]:List (Addr×Obj)) from hp) (by simp),e0.ah.kept k1,(by rw[List.length_map];exact T.len)⟩
    · have h2:cl.lookup a=some cc:=h2
      have h3:cl.lookup b=some cc:=h3
      exact T.inj _ _ _ h2 h3
    · obtain⟨c,_,h1,_⟩:=CG a (T.only a ha)
      exact⟨c,h1⟩
    · have BR:(ws.map some)[i]? =some (some v):=h3
      rw[List.getElem?_map]at BR
      obtain⟨v',e',Mo⟩:=Option.map_eq_some_iff.mp BR
      cases Mo
      obtain⟨kx,c,u,h5,h6,h7⟩:=T.at_ i z v h2 e'
      exact⟨u,h7,.inr ⟨.inr kx,c,h5,(xP h6).1⟩⟩
    · obtain⟨v,b⟩:=cells z a hz
      exact⟨v,(xP b).1⟩
    · obtain⟨v,b⟩:=cells z a hz
      exact(xP b).2
  refine PySem.W.kla_codeExpr (wpAny_mono (ht [] _ _ H _ I hq) (fun u s' hs=> ?_) fun e s' hs=>hs)
  obtain⟨v,H',J,r,z⟩:=hs
  exact⟨v,H',J.os,J.bare,J.base,J.ah,r,z⟩
end L2
namespace L2
open PySem PySem.Spec PyProof.Rows
theorem Jw:fillsNumberSlot (.type "tuple") "mul" =pure false:=
 PySem.fillsNumberSlot_seq (id:= "tuple.__mul__") (r:=some (.builtin "tuple.__rmul__")) PySem.F.slot_tuple_mul.lookup (by decide+kernel) PySem.F.slot_tuple_rmul.lookup (by decide+kernel)
theorem Uo:seqRepeat? (.type "tuple")=pure (some (.builtin "tuple.__mul__")):=by
 unfold seqRepeat?
 rw[PySem.seqSlot_of (T:= "tuple") (name:= "__mul__") (id:= "tuple.__mul__") PySem.F.slot_tuple_mul.lookup (by decide+kernel),PySem.seqSlot_of (T:= "tuple") (name:= "__rmul__") (id:= "tuple.__rmul__") PySem.F.slot_tuple_rmul.lookup (by decide+kernel)]
 rfl
theorem JZ (a:Int) (t:Tok) (l:Addr) (items:Array Value) (n:Nat) (d:Option Addr) (sl:Array (Option Value)):
  Meets (Builtin.«int.__rmul__» ⟨[.int a t,.ref l],[]⟩) (fun _ R s=>s.heap.get? l=some {cls:=.type "tuple",dict:=d,data:=.seq items n,slots:=sl}∧R (.ok (.ret Value.notImplemented)) s):=
 .of_wp fun prog w A R s h=>by obtain⟨hp,g,d,tk,os⟩:=s;obtain⟨hl,h⟩:=h;wp_walk;exact⟨_,rfl,h⟩
theorem WE (l:Addr) (items:Array Value) (n:Nat) (d:Option Addr) (sl:Array (Option Value)) (u:Tok):
  Meets (Builtin.«tuple.__mul__» ⟨[.ref l,.int 1 u],[]⟩) (fun _ R s=>s.heap.get? l=some {cls:=.type "tuple",dict:=d,data:=.seq items n,slots:=sl}∧R (.ok (.ret (.ref l))) s):=
 .of_wp fun prog w A R s h=>by
  obtain⟨hp,g,d,tk,os⟩:=s;obtain⟨hl,h⟩:=h
  wp_walk;exact⟨_,rfl,h⟩
theorem Wb (l:Addr) (items:Array Value) (n:Nat) (d:Option Addr) (sl:Array (Option Value)) (x:Int) (u:Tok) (h0:items.isEmpty=false) (h1:(x==1)=false) (h2:1≤x) (hs:items.size*x.toNat≤1000) (hx:x≤1000) (hz:(List.foldl (fun x1 x2=>x1++x2) #[] (List.replicate x.toNat items)).size≤sizeLine):
  Meets (Builtin.«tuple.__mul__» ⟨[.ref l,.int x u],[]⟩) (fun _ R s=>s.heap.get? l=some {cls:=.type "tuple",dict:=d,data:=.seq items n,slots:=sl}∧R (.ok (.ret (Value.ref s.heap.objs.size))) {s with heap:=s.heap.push {cls:=Value.type "tuple",data:=Data.seq (List.foldl (fun x1 x2=>x1++x2) #[] (List.replicate x.toNat items))},toks:=s.toks}):=
 .of_wp fun prog w A R s h=>by
  obtain⟨hp,g,d,tk,os⟩:=s;obtain⟨hl,h⟩:=h
  have a1:decide (x< -(2^63))=false:=decide_eq_false (by omega)
  have a2:decide (x≥2^63)=false:=decide_eq_false (by omega)
  have a3:decide (x≤0)=false:=decide_eq_false (by omega)
  have hn:(items.size:Int)*x≤1000:=by
   have e:x=(x.toNat:Int):=by omega
   rw[e]
   exact_mod_cast hs
  have a4:¬((items.size:Int)*x> (2^63 - 1)/8):=by omega
  have a5:Builtin.Tuple.tupleTooMany ((items.size:Int)*x)=false:=by
   unfold Builtin.Tuple.tupleTooMany
   have e:=sizeLine_eq
   simp
   omega
  wp_walk
  rw[if_neg (by rw[a1,a2];decide)]
  have ht:IsTup hp l items:=⟨_,hl,rfl,n,rfl⟩
  refine wpAny_bind (tupleItemsOf_ ht ?_)
  dsimp only
  rw[if_neg (by rw[h0,h1];decide),if_neg (by rw[a3,h0];decide),if_neg a4,a5,if_neg Bool.false_ne_true]
  wp_walk;exact⟨_,rfl,h⟩
section
variable {X:Cx}
def F4:R2:=fun x y H Q=> ∃a k xs,x=.ref a∧y=.int k∧H a=some (.tup xs)∧xs≠[]∧1≤k∧k≤1000∧xs.length*k.toNat≤1000∧∀(c:Addr) H',ae H H'→H' c=some (.tup (List.replicate k.toNat xs).flatten)→Q (.ref c) H'
theorem NL:bo X (binaryOp .Mult) F4:=by
  intro pins s σ H x y v u Q I rx ry h
  obtain⟨l,k,xs,rfl,rfl,hH,bA,h1,h2,hz,q⟩:=h
  cases rx
  obtain⟨t,rfl⟩:=ry
  obtain⟨its,r,pl,_⟩:=I.tuple (ai.of hH)
  have hl:=r.length
  obtain⟨⟨cls,dd,data,sl⟩,ho,fP,n,hd⟩:=id pl
  simp only at fP hd
  subst fP hd
  have f0:∀m:Nat,List.foldl (fun x1 x2=>x1++x2) #[] (List.replicate m its.toArray)=(List.replicate m its).flatten.toArray:=fun m=>by
    have:=Jy its m []
    rw[List.nil_append]at this
    exact this
  have bG:its.toArray.size*k.toNat≤1000:=by rw[List.size_toArray,←hl];exact hz
  have h0:its.toArray.isEmpty=false:=by
    cases its with
    |nil=>
     cases xs with
     |nil=>exact absurd rfl bA
     |cons a b=>cases hl
    |cons a b=>rfl
  refine wpAny_binaryOp_repeat_ref (T:= "tuple") (U:= "int") (by decide) ⟨_,ho,rfl⟩ (fun s'=>typeIs_int s' k t) Jw PySem.F.fills_int_mul PySem.F.slot_int_rmul Uo PySem.F.slot_int_index.lookup
    (call_meets PySem.F.slot_int_rmul (typeIs_int s k t) PySem.F.entry_int_rmul (PySem.F.args_int_rmul_2 _ _) (JZ k t l its.toArray n dd sl)
      ⟨ho,rfl,⟨_,ho,rfl⟩,?_⟩)
  by_cases hk:k=1
  · subst hk
    refine call_meets PySem.F.slot_tuple_mul ⟨_,ho,rfl⟩ PySem.F.entry_tuple_mul (PySem.F.args_tuple_mul_2 _ _) (WE l its.toArray n dd sl t) ⟨ho,⟨.ref l,H,I,rfl,q l H (ae.refl _) ?_⟩⟩
    rw[hH]
    simp
  · refine call_meets PySem.F.slot_tuple_mul ⟨_,ho,rfl⟩ PySem.F.entry_tuple_mul (PySem.F.args_tuple_mul_2 _ _) (Wb l its.toArray n dd sl k t h0 (by simpa using hk) h1 bG h2 ?_) ⟨ho,?_⟩
    · rw[f0,List.size_toArray,UD,sizeLine_eq]
      rw[List.size_toArray,Nat.mul_comm]at bG
      omega
    · rw[f0]
      refine⟨.ref s.heap.objs.size,upd H s.heap.objs.size (.tup (List.replicate k.toNat xs).flatten),?_,rfl,q _ _ (fun b o hb=>by rw[Zf (Zg hb I.fresh)];exact hb) Zc⟩
      refine I.laid (t':=s.toks) (fun b o e=>Heap.get?_push_of_some _ e) (Nat.le_refl _) ⟨by rw[UD,sizeLine_eq,Nat.mul_comm];omega,_,r.rep k.toNat,?_⟩
      exact⟨⟨_,Heap.get?_push_size s.heap rfl,rfl,0,rfl⟩,_,Heap.get?_push_size s.heap rfl,rfl⟩
end
end L2
namespace PyProof.Rows.jH
open PySem
def LK:Bool→Keyed→Array Keyed→Nat→Nat→Nat→StateT SortSt Sem (Option Nat):=sortPriv%PySem.Builtin.gallop
def tP (left:Bool) (key:Keyed) (arr:Array Keyed) (base:Nat) (i:Nat):StateT SortSt Sem (Option Bool):=
 elem' arr (base+i) >>=fun x=>if left=true then lt' x key else lt' key x >>=fun c=>pure (c.map fun z=> !z)
structure Ord (r:Keyed→Keyed→Bool):Prop where
 bL:∀x y,r x y=true→r y x=false
 dc:∀x y z,r y x=false→r z y=false→r z x=false
theorem Ord.jY {r:Keyed→Keyed→Bool}(o:Ord r) (x:Keyed):r x x=false:=by
 cases h:r x x with
 |false=>rfl
 |true=>have:=o.bL x x h;rw[h]at this;cases this
section
variable {prog:Program}{w:World}{A:Around}{E:Value→Shared→Prop}{s:Shared}{κ:SortKind}{a₀:Array Keyed}{r:Keyed→Keyed→Bool}
def iI (prog:Program) (w:World) (A:Around) (E:Value→Shared→Prop) (s:Shared) (κ:SortKind) (a₀:Array Keyed) (r:Keyed→Keyed→Bool):Prop:=
 ∀(x y:Keyed) (st:SortSt) (Q:Option Bool→SortSt→Prop),x∈a₀.toList→y∈a₀.toList→kindOf st=κ→Q (some (r x y)) st→wpS (model prog w) A E s (lt' x y) Q st
theorem Zj {arr:Array Keyed}{i:Nat}{x:Keyed}{Q:Keyed→SortSt→Prop}{st:SortSt}(hx:arr[i]? =some x) (h:Q x st):wpS (model prog w) A E s (elem' arr i) Q st:=by
 rw[elem'_eq,hx]
 exact wpS_pure h
def bp (r:Keyed→Keyed→Bool) (left:Bool) (key x:Keyed):Bool:=if left=true then r x key else !r key x
theorem Qz {left:Bool}{key:Keyed}{arr:Array Keyed}{base i:Nat}{x:Keyed}{Q:Option Bool→SortSt→Prop}{st:SortSt}(hc:iI prog w A E s κ a₀ r) (hk:kindOf st=κ) (hx:arr[base+i]? =some x) (mx:x∈a₀.toList) (mk:key∈a₀.toList) (h:Q (some (bp r left key x)) st):
  wpS (model prog w) A E s (tP left key arr base i) Q st:=by
 unfold tP
 refine wpS_bind (Zj hx ?_)
 cases left with
 |true=>
  rw[if_pos rfl]
  exact hc _ _ _ _ mx mk hk h
 |false=>
  rw[if_neg Bool.false_ne_true]
  exact wpS_bind (hc _ _ _ _ mk mx hk (wpS_pure h))
theorem ZF {left:Bool}{key:Keyed}{arr:Array Keyed}{base n hint:Nat}{Q:Option Nat→SortSt→Prop}{st:SortSt}(hc:iI prog w A E s κ a₀ r) (hk:kindOf st=κ) (p:Nat→Bool)
  (hp:∀i,i<n→∃x,arr[base+i]? =some x∧x∈a₀.toList∧p i=bp r left key x) (mk:key∈a₀.toList) (mono:∀i j,i≤j→j<n→p j=true→p i=true) (hh:hint<n)
  (h:∀k,k≤n→(∀i,i<k→p i=true)→(∀i,k≤i→i<n→p i=false)→Q (some k) st):wpS (model prog w) A E s (LK left key arr base n hint) Q st:=by
 have jF:∀{i:Nat}{Q:Option Bool→SortSt→Prop},i<n→Q (some (p i)) st→wpS (model prog w) A E s (tP left key arr base i) Q st:=fun {i Q} hi hq=>by
  obtain⟨x,e,m,ep⟩:=hp i hi
  exact Qz hc hk e m mk (by rw[←ep];exact hq)
 have down:∀i j,i≤j→j<n→p i=false→p j=false:=fun i j cz hj hf=>by
  cases hh:p j with
  |false=>rfl
  |true=>rw[mono i j cz hj hh]at hf;cases hf
 show wpS (model prog w) A E s (tP left key arr base hint >>=_) _ _
 dsimp only
 refine wpS_bind (jF hh ?_)
 cases A8:p hint with
 |true=>
  dsimp only
  rw[if_pos rfl]
  refine wpS_bind (wpS_forRange (I:=fun x c aa=>aa=st∧∃dA da,c=(none,dA,da)∧hint+dA<n∧p (hint+dA)=true∧dA<da∧x+1≤da) ?Fq ?L4 ⟨rfl,0,1,rfl,hh,A8,by omega,by omega⟩)
  case L4=>
   rintro c aa ⟨rfl,dA,da,rfl,q1,q2,q3,q4⟩
   rw[Nat.max_eq_right (Nat.zero_le n)]at q4
   dsimp only
   refine wpS_bind (wpS_forRange (I:=fun x c ak=>ak=aa∧∃lo hi,c=(none,lo,hi)∧lo≤hi∧hi≤n∧(∀i,i<lo→p i=true)∧(∀i,hi≤i→i<n→p i=false)∧hi - lo≤n - x) ?_ ?_ ⟨rfl,_,_,rfl,(by omega),(by omega),(fun i hi=>mono i (hint+dA) (by omega) q1 q2),(fun i h1 h2=>by omega),by omega⟩)
   ·rintro x c ak _ hx ⟨rfl,lo,hi,rfl,h1,h2,h3,h4,h5⟩
    dsimp only
    by_cases bu:lo≥hi
    ·rw[if_pos bu]
     have e:lo=hi:=by omega
     subst e
     exact wpS_pure (wpS_pure (h lo h2 h3 h4))
    ·rw[if_neg bu]
     have hm:lo+(hi - lo)/2<hi:=by omega
     generalize em:lo+(hi - lo)/2=m at hm
     have ig:lo≤m:=by omega
     refine wpS_bind (jF (by omega) ?_)
     cases eu:p m with
     |true=>exact wpS_pure ⟨rfl,m+1,hi,rfl,by omega,h2,fun i aS=>mono i m (by omega) (by omega) eu,h4,by omega⟩
     |false=>exact wpS_pure ⟨rfl,lo,m,rfl,ig,by omega,h3,fun i h1 h2=>down m i h1 h2 eu,by omega⟩
   ·rintro c ak ⟨rfl,lo,hi,rfl,h1,h2,h3,h4,h5⟩
    rw[Nat.max_eq_right (Nat.zero_le n)]at h5
    have e:lo=hi:=by omega
    subst e
    exact wpS_pure (h lo h2 h3 h4)
  case Fq=>
   rintro x c aa _ hx ⟨rfl,dA,da,rfl,q1,q2,q3,q4⟩
   dsimp only
   by_cases bu:da≥n - hint
   ·rw[if_pos bu]
    refine wpS_pure ?_
    dsimp only
    refine wpS_bind (wpS_forRange (I:=fun x c ak=>ak=aa∧∃lo hi,c=(none,lo,hi)∧lo≤hi∧hi≤n∧(∀i,i<lo→p i=true)∧(∀i,hi≤i→i<n→p i=false)∧hi - lo≤n - x) ?_ ?_ ⟨rfl,_,_,rfl,(by omega),(by omega),(fun i hi=>mono i (hint+dA) (by omega) q1 q2),(fun i h1 h2=>by omega),by omega⟩)
    ·rintro x c ak _ hx ⟨rfl,lo,hi,rfl,h1,h2,h3,h4,h5⟩
     dsimp only
     by_cases bu:lo≥hi
     ·rw[if_pos bu]
      have e:lo=hi:=by omega
      subst e
      exact wpS_pure (wpS_pure (h lo h2 h3 h4))
     ·rw[if_neg bu]
      have hm:lo+(hi - lo)/2<hi:=by omega
      generalize em:lo+(hi - lo)/2=m at hm
      have ig:lo≤m:=by omega
      refine wpS_bind (jF (by omega) ?_)
      cases eu:p m with
      |true=>exact wpS_pure ⟨rfl,m+1,hi,rfl,by omega,h2,fun i aS=>mono i m (by omega) (by omega) eu,h4,by omega⟩
      |false=>exact wpS_pure ⟨rfl,lo,m,rfl,ig,by omega,h3,fun i h1 h2=>down m i h1 h2 eu,by omega⟩
    ·rintro c ak ⟨rfl,lo,hi,rfl,h1,h2,h3,h4,h5⟩
     rw[Nat.max_eq_right (Nat.zero_le n)]at h5
     have e:lo=hi:=by omega
     subst e
     exact wpS_pure (h lo h2 h3 h4)
   ·rw[if_neg bu]
    refine wpS_bind (jF (by omega) ?_)
    cases pD:p (hint+da) with
    |true=>exact wpS_pure ⟨rfl,da,2*da+1,rfl,by omega,pD,by omega,by omega⟩
    |false=>
     refine wpS_pure ?_
     dsimp only
     refine wpS_bind (wpS_forRange (I:=fun x c ak=>ak=aa∧∃lo hi,c=(none,lo,hi)∧lo≤hi∧hi≤n∧(∀i,i<lo→p i=true)∧(∀i,hi≤i→i<n→p i=false)∧hi - lo≤n - x) ?_ ?_ ⟨rfl,_,_,rfl,(by omega),(by omega),(fun i hi=>mono i (hint+dA) (by omega) q1 q2),(fun i h1 h2=>down (hint+da) i (by omega) h2 pD),by omega⟩)
     ·rintro x c ak _ hx ⟨rfl,lo,hi,rfl,h1,h2,h3,h4,h5⟩
      dsimp only
      by_cases bu:lo≥hi
      ·rw[if_pos bu]
       have e:lo=hi:=by omega
       subst e
       exact wpS_pure (wpS_pure (h lo h2 h3 h4))
      ·rw[if_neg bu]
       have hm:lo+(hi - lo)/2<hi:=by omega
       generalize em:lo+(hi - lo)/2=m at hm
       have ig:lo≤m:=by omega
       refine wpS_bind (jF (by omega) ?_)
       cases eu:p m with
       |true=>exact wpS_pure ⟨rfl,m+1,hi,rfl,by omega,h2,fun i aS=>mono i m (by omega) (by omega) eu,h4,by omega⟩
       |false=>exact wpS_pure ⟨rfl,lo,m,rfl,ig,by omega,h3,fun i h1 h2=>down m i h1 h2 eu,by omega⟩
     ·rintro c ak ⟨rfl,lo,hi,rfl,h1,h2,h3,h4,h5⟩
      rw[Nat.max_eq_right (Nat.zero_le n)]at h5
      have e:lo=hi:=by omega
      subst e
      exact wpS_pure (h lo h2 h3 h4)
 |false=>
  dsimp only
  rw[if_neg Bool.false_ne_true]
  refine wpS_bind (wpS_forRange (I:=fun x c aa=>aa=st∧∃dA da,c=(none,dA,da)∧dA≤hint∧p (hint - dA)=false∧dA<da∧x+1≤da) ?Fp ?fin2 ⟨rfl,0,1,rfl,by omega,A8,by omega,by omega⟩)
  case fin2=>
   rintro c aa ⟨rfl,dA,da,rfl,q1,q2,q3,q4⟩
   rw[Nat.max_eq_right (Nat.zero_le n)]at q4
   dsimp only
   refine wpS_bind (wpS_forRange (I:=fun x c ak=>ak=aa∧∃lo hi,c=(none,lo,hi)∧lo≤hi∧hi≤n∧(∀i,i<lo→p i=true)∧(∀i,hi≤i→i<n→p i=false)∧hi - lo≤n - x) ?_ ?_ ⟨rfl,_,_,rfl,(by omega),(by omega),(fun i hi=>by omega),(fun i h1 h2=>down (hint - dA) i (by omega) h2 q2),by omega⟩)
   ·rintro x c ak _ hx ⟨rfl,lo,hi,rfl,h1,h2,h3,h4,h5⟩
    dsimp only
    by_cases bu:lo≥hi
    ·rw[if_pos bu]
     have e:lo=hi:=by omega
     subst e
     exact wpS_pure (wpS_pure (h lo h2 h3 h4))
    ·rw[if_neg bu]
     have hm:lo+(hi - lo)/2<hi:=by omega
     generalize em:lo+(hi - lo)/2=m at hm
     have ig:lo≤m:=by omega
     refine wpS_bind (jF (by omega) ?_)
     cases eu:p m with
     |true=>exact wpS_pure ⟨rfl,m+1,hi,rfl,by omega,h2,fun i aS=>mono i m (by omega) (by omega) eu,h4,by omega⟩
     |false=>exact wpS_pure ⟨rfl,lo,m,rfl,ig,by omega,h3,fun i h1 h2=>down m i h1 h2 eu,by omega⟩
   ·rintro c ak ⟨rfl,lo,hi,rfl,h1,h2,h3,h4,h5⟩
    rw[Nat.max_eq_right (Nat.zero_le n)]at h5
    have e:lo=hi:=by omega
    subst e
    exact wpS_pure (h lo h2 h3 h4)
  case Fp=>
   rintro x c aa _ hx ⟨rfl,dA,da,rfl,q1,q2,q3,q4⟩
   dsimp only
   by_cases bu:da≥hint+1
   ·rw[if_pos bu]
    refine wpS_pure ?_
    dsimp only
    refine wpS_bind (wpS_forRange (I:=fun x c ak=>ak=aa∧∃lo hi,c=(none,lo,hi)∧lo≤hi∧hi≤n∧(∀i,i<lo→p i=true)∧(∀i,hi≤i→i<n→p i=false)∧hi - lo≤n - x) ?_ ?_ ⟨rfl,_,_,rfl,(by omega),(by omega),(fun i hi=>by omega),(fun i h1 h2=>down (hint - dA) i (by omega) h2 q2),by omega⟩)
    ·rintro x c ak _ hx ⟨rfl,lo,hi,rfl,h1,h2,h3,h4,h5⟩
     dsimp only
     by_cases bu:lo≥hi
     ·rw[if_pos bu]
      have e:lo=hi:=by omega
      subst e
      exact wpS_pure (wpS_pure (h lo h2 h3 h4))
     ·rw[if_neg bu]
      have hm:lo+(hi - lo)/2<hi:=by omega
      generalize em:lo+(hi - lo)/2=m at hm
      have ig:lo≤m:=by omega
      refine wpS_bind (jF (by omega) ?_)
      cases eu:p m with
      |true=>exact wpS_pure ⟨rfl,m+1,hi,rfl,by omega,h2,fun i aS=>mono i m (by omega) (by omega) eu,h4,by omega⟩
      |false=>exact wpS_pure ⟨rfl,lo,m,rfl,ig,by omega,h3,fun i h1 h2=>down m i h1 h2 eu,by omega⟩
    ·rintro c ak ⟨rfl,lo,hi,rfl,h1,h2,h3,h4,h5⟩
     rw[Nat.max_eq_right (Nat.zero_le n)]at h5
     have e:lo=hi:=by omega
     subst e
     exact wpS_pure (h lo h2 h3 h4)
   ·rw[if_neg bu]
    refine wpS_bind (jF (by omega) ?_)
    cases pD:p (hint - da) with
    |true=>
     refine wpS_pure ?_
     dsimp only
     refine wpS_bind (wpS_forRange (I:=fun x c ak=>ak=aa∧∃lo hi,c=(none,lo,hi)∧lo≤hi∧hi≤n∧(∀i,i<lo→p i=true)∧(∀i,hi≤i→i<n→p i=false)∧hi - lo≤n - x) ?_ ?_ ⟨rfl,_,_,rfl,(by omega),(by omega),(fun i hi=>mono i (hint - da) (by omega) (by omega) pD),(fun i h1 h2=>down (hint - dA) i (by omega) h2 q2),by omega⟩)
     ·rintro x c ak _ hx ⟨rfl,lo,hi,rfl,h1,h2,h3,h4,h5⟩
      dsimp only
      by_cases bu:lo≥hi
      ·rw[if_pos bu]
       have e:lo=hi:=by omega
       subst e
       exact wpS_pure (wpS_pure (h lo h2 h3 h4))
      ·rw[if_neg bu]
       have hm:lo+(hi - lo)/2<hi:=by omega
       generalize em:lo+(hi - lo)/2=m at hm
       have ig:lo≤m:=by omega
       refine wpS_bind (jF (by omega) ?_)
       cases eu:p m with
       |true=>exact wpS_pure ⟨rfl,m+1,hi,rfl,by omega,h2,fun i aS=>mono i m (by omega) (by omega) eu,h4,by omega⟩
       |false=>exact wpS_pure ⟨rfl,lo,m,rfl,ig,by omega,h3,fun i h1 h2=>down m i h1 h2 eu,by omega⟩
     ·rintro c ak ⟨rfl,lo,hi,rfl,h1,h2,h3,h4,h5⟩
      rw[Nat.max_eq_right (Nat.zero_le n)]at h5
      have e:lo=hi:=by omega
      subst e
      exact wpS_pure (h lo h2 h3 h4)
    |false=>exact wpS_pure ⟨rfl,da,2*da+1,rfl,by omega,pD,by omega,by omega⟩
end
def zo:Nat→StateT SortSt Sem Unit:=sortPriv%PySem.Builtin.setMinGallop
def Hy:Array Keyed→Array Keyed→StateT SortSt Sem (Array Keyed):=sortPriv%PySem.Builtin.mergeLo
theorem Jn (g:Nat):zo g=modify fun s=>SortSt.mk' (kindOf s) (arrOf s) (pendingOf s) g (failedOf s):=rfl
abbrev Pw (r:Keyed→Keyed→Bool) (l:List Keyed):Prop:=l.Pairwise fun x y=>r y x=false
def SG (st aa:SortSt):Prop:=kindOf aa=kindOf st∧arrOf aa=arrOf st∧pendingOf aa=pendingOf st∧failedOf aa=failedOf st
theorem SG.refl (st:SortSt):SG st st:=⟨rfl,rfl,rfl,rfl⟩
def Good (r:Keyed→Keyed→Bool) (a b res:Array Keyed):Prop:=res.toList.Perm (a.toList++b.toList)∧Pw r res.toList
structure JW (r:Keyed→Keyed→Bool) (a b out:Array Keyed) (ia ib:Nat):Prop where
 perm:(out.toList++(a.toList.drop ia++b.toList.drop ib)).Perm (a.toList++b.toList)
 ji:Pw r out.toList
 fS:∀x∈out.toList,∀y∈a.toList.drop ia++b.toList.drop ib,r y x=false
structure eG (r:Keyed→Keyed→Bool) (a b:Array Keyed):Prop where
 o:Ord r
 sa:Pw r a.toList
 sb:Pw r b.toList
theorem YU {α:Type}{l:List α}{i:Nat}{x:α}(h:l[i]? =some x):l.drop i=x::l.drop (i+1):=by
 obtain⟨hi,e⟩:=List.getElem?_eq_some_iff.mp h
 rw[List.drop_eq_getElem_cons hi,e]
theorem Zt {xs:Array Keyed}{i:Nat}{x:Keyed}(h:xs[i]? =some x):xs.toList[i]? =some x:=by rw[Array.getElem?_toList];exact h
theorem Zd {xs:Array Keyed}{i:Nat}(h:i<xs.size):∃x,xs[i]? =some x:=⟨xs[i],getElem?_pos xs i h⟩
theorem Y8 {r:Keyed→Keyed→Bool}{l:List Keyed}{i:Nat}{x:Keyed}(o:Ord r) (p:Pw r l) (h:l[i]? =some x):∀y∈l.drop i,r y x=false:=fun y hy=>by
 rw[YU h]at hy
 rcases List.mem_cons.mp hy with rfl |hy
 ·exact o.jY _
 ·have q:Pw r (l.drop i):=List.Pairwise.sublist (List.drop_sublist i l) p
  rw[YU h]at q
  exact(List.pairwise_cons.mp q).1 y hy
theorem Jz (xs:Array Keyed) (i j:Nat):(xs.extract i j).toList=(xs.toList.drop i).take (j - i):=by
 rw[Array.toList_extract,List.extract_eq_drop_take]
theorem JS (xs:Array Keyed) (i:Nat):(xs.extract i xs.size).toList=xs.toList.drop i:=by
 rw[Jz,List.take_of_length_le (by rw[List.length_drop,Array.length_toList];exact Nat.le_refl _)]
section
variable {r:Keyed→Keyed→Bool}{a b out:Array Keyed}{ia ib:Nat}
theorem JW.cU (C:eG r a b) (J:JW r a b out ia ib) {x:Keyed}(hx:a[ia]? =some x) (h:∀y,b[ib]? =some y→r y x=false):JW r a b (out.push x) (ia+1) ib:=by
 have ph:=Zt hx
 have hd:=YU ph
 have low:∀y∈a.toList.drop (ia+1)++b.toList.drop ib,r y x=false:=fun y hy=>by
  rcases List.mem_append.mp hy with hy |hy
  ·exact Y8 C.o C.sa ph y (by rw[hd];exact List.mem_cons_of_mem _ hy)
  ·cases e:b[ib]? with
   |none=>
    rw[←Array.getElem?_toList]at e
    rw[List.drop_eq_nil_of_le (by rw[List.getElem?_eq_none_iff]at e;exact e)]at hy
    cases hy
   |some z=>
    have h1:=Y8 C.o C.sb (Zt e) y hy
    exact C.o.dc x z y (h z e) h1
 refine⟨?_,?_,fun u hu y hy=> ?_⟩
 ·rw[Array.toList_push,List.append_assoc]
  have:=J.perm
  rw[hd]at this
  exact this
 ·rw[Array.toList_push]
  refine List.pairwise_append.mpr ⟨J.ji,List.pairwise_singleton _ _,fun u hu v hv=> ?_⟩
  rw[List.mem_singleton.mp hv]
  exact J.fS u hu x (List.mem_append_left _ (by rw[hd];exact List.mem_cons_self))
 ·rw[Array.toList_push]at hu
  rcases List.mem_append.mp hu with hu |hu
  ·refine J.fS u hu y ?_
   rcases List.mem_append.mp hy with hy |hy
   ·exact List.mem_append_left _ (by rw[hd];exact List.mem_cons_of_mem _ hy)
   ·exact List.mem_append_right _ hy
  ·rw[List.mem_singleton.mp hu]
   exact low y hy
theorem JW.fq (C:eG r a b) (J:JW r a b out ia ib) {y:Keyed}(hy:b[ib]? =some y) (h:∀x,a[ia]? =some x→r x y=false):JW r a b (out.push y) ia (ib+1):=by
 have g9:=Zt hy
 have hd:=YU g9
 have low:∀z∈a.toList.drop ia++b.toList.drop (ib+1),r z y=false:=fun z hz=>by
  rcases List.mem_append.mp hz with hz |hz
  ·cases e:a[ia]? with
   |none=>
    rw[←Array.getElem?_toList]at e
    rw[List.drop_eq_nil_of_le (by rw[List.getElem?_eq_none_iff]at e;exact e)]at hz
    cases hz
   |some x=>
    have h1:=Y8 C.o C.sa (Zt e) z hz
    exact C.o.dc y x z (h x e) h1
  ·exact Y8 C.o C.sb g9 z (by rw[hd];exact List.mem_cons_of_mem _ hz)
 refine⟨?_,?_,fun u hu z hz=> ?_⟩
 ·rw[Array.toList_push,List.append_assoc]
  have:=J.perm
  rw[hd]at this
  refine List.Perm.trans (List.Perm.append_left _ ?_) this
  exact(show(y::(a.toList.drop ia++b.toList.drop (ib+1))).Perm _ from List.perm_middle.symm)
 ·rw[Array.toList_push]
  refine List.pairwise_append.mpr ⟨J.ji,List.pairwise_singleton _ _,fun u hu v hv=> ?_⟩
  rw[List.mem_singleton.mp hv]
  exact J.fS u hu y (List.mem_append_right _ (by rw[hd];exact List.mem_cons_self))
 ·rw[Array.toList_push]at hu
  rcases List.mem_append.mp hu with hu |hu
  ·refine J.fS u hu z ?_
   rcases List.mem_append.mp hz with hz |hz
   ·exact List.mem_append_left _ hz
   ·exact List.mem_append_right _ (by rw[hd];exact List.mem_cons_of_mem _ hz)
  ·rw[List.mem_singleton.mp hu]
   exact low z hz
theorem Dr {xs:Array Keyed}{i k:Nat}{x:Keyed}(hx:xs[i+k]? =some x):xs.extract i (i+(k+1))=(xs.extract i (i+k)).push x:=by
 obtain⟨h,e⟩:=Array.getElem?_eq_some_iff.mp hx
 rw[←e,←Nat.add_assoc,Array.extract_succ_right (by omega) h]
theorem JW.mT (C:eG r a b) (J:JW r a b out ia ib):∀k,ia+k≤a.size→(∀i,i<k→∀x y,a[ia+i]? =some x→b[ib]? =some y→r y x=false)→JW r a b (out++a.extract ia (ia+k)) (ia+k) ib
 |0,_,_=>by
  rw[Nat.add_zero]
  have e:a.extract ia ia= #[]:=by simp;omega
  rw[e,Array.append_empty]
  exact J
 |k+1,hk,h=>by
  obtain⟨x,hx⟩:=Zd (xs:=a) (i:=ia+k) (by omega)
  have ih:=JW.mT C J k (by omega) fun i hi=>h i (by omega)
  have:=ih.cU C hx fun y hy=>h k (by omega) x y hx hy
  rw[Dr hx,Array.append_push]
  exact this
theorem JW.jQ (C:eG r a b) (J:JW r a b out ia ib):∀k,ib+k≤b.size→(∀i,i<k→∀y x,b[ib+i]? =some y→a[ia]? =some x→r x y=false)→JW r a b (out++b.extract ib (ib+k)) ia (ib+k)
 |0,_,_=>by
  rw[Nat.add_zero]
  have e:b.extract ib ib= #[]:=by simp;omega
  rw[e,Array.append_empty]
  exact J
 |k+1,hk,h=>by
  obtain⟨y,hy⟩:=Zd (xs:=b) (i:=ib+k) (by omega)
  have ih:=JW.jQ C J k (by omega) fun i hi=>h i (by omega)
  have:=ih.fq C hy fun x hx=>h k (by omega) y x hy hx
  rw[Dr hy,Array.append_push]
  exact this
theorem JW.done (C:eG r a b) (J:JW r a b out ia ib) (h:a.size≤ia∨b.size≤ib):Good r a b (out++a.extract ia a.size++b.extract ib b.size):=by
 unfold Good
 rw[Array.toList_append,Array.toList_append,JS,JS]
 refine⟨by rw[List.append_assoc];exact J.perm,?_⟩
 have pa:Pw r (a.toList.drop ia):=List.Pairwise.sublist (List.drop_sublist _ _) C.sa
 have pb:Pw r (b.toList.drop ib):=List.Pairwise.sublist (List.drop_sublist _ _) C.sb
 rw[List.append_assoc]
 refine List.pairwise_append.mpr ⟨J.ji,?_,J.fS⟩
 rcases h with h |h
 ·rw[List.drop_eq_nil_of_le (by rw[Array.length_toList];exact h),List.nil_append]
  exact pb
 ·rw[List.drop_eq_nil_of_le (as:=b.toList) (by rw[Array.length_toList];exact h),List.append_nil]
  exact pa
theorem JW.last (C:eG r a b) (J:JW r a b out ia ib) (h:ia+1=a.size) (hl:∀x,a[a.size - 1]? =some x→∀y∈b.toList,r x y=false):Good r a b (out++b.extract ib b.size++a.extract ia a.size):=by
 unfold Good
 rw[Array.toList_append,Array.toList_append,JS,JS]
 obtain⟨x,hx⟩:=Zd (xs:=a) (i:=ia) (by omega)
 have ed:a.toList.drop ia=[x]:=by
  rw[YU (Zt hx),List.drop_eq_nil_of_le (by rw[Array.length_toList];omega)]
 have P:=J.perm
 have B:=J.fS
 rw[ed]at P B ⊢
 have pb:Pw r (b.toList.drop ib):=List.Pairwise.sublist (List.drop_sublist _ _) C.sb
 refine⟨?_,?_⟩
 ·rw[List.append_assoc]
  exact List.Perm.trans (List.Perm.append_left _ List.perm_append_comm) P
 ·rw[List.append_assoc]
  refine List.pairwise_append.mpr ⟨J.ji,List.pairwise_append.mpr ⟨pb,List.pairwise_singleton _ _,fun y hy z hz=> ?_⟩,fun u hu z hz=>B u hu z ?_⟩
  ·rw[List.mem_singleton.mp hz]
   exact hl x (by rw[show a.size - 1=ia by omega];exact hx) y (List.mem_of_mem_drop hy)
  ·rcases List.mem_append.mp hz with hz |hz
   ·exact List.mem_append_right _ hz
   ·exact List.mem_append_left _ hz
end
theorem Zr {xs:Array Keyed}{i:Nat}{x:Keyed}(h:xs[i]? =some x):x∈xs.toList:=List.mem_of_getElem? (Zt h)
theorem Ya {r:Keyed→Keyed→Bool}{l:List Keyed}{i j:Nat}{x y:Keyed}(o:Ord r) (p:Pw r l) (hx:l[i]? =some x) (hy:l[j]? =some y) (h:i≤j):r y x=false:=by
 refine Y8 o p hx y ?_
 have:(l.drop i)[j - i]? =some y:=by rw[List.getElem?_drop,show i+(j - i)=j by omega];exact hy
 exact List.mem_of_getElem? this
theorem Je {r:Keyed→Keyed→Bool}{x y z:Keyed}(o:Ord r) (h:r y z=true) (h2:r y x=false):r x z=true:=by
 cases e:r x z with
 |true=>rfl
 |false=>
  have:=o.dc z x y e h2
  rw[h]at this
  cases this
section
variable {prog:Program}{w:World}{A:Around}{E:Value→Shared→Prop}{s:Shared}{κ:SortKind}{a₀:Array Keyed}{r:Keyed→Keyed→Bool}
theorem Yu {g:Nat}{Q:Unit→SortSt→Prop}{st:SortSt}(h:Q () (SortSt.mk' (kindOf st) (arrOf st) (pendingOf st) g (failedOf st))):wpS (model prog w) A E s (zo g) Q st:=by
 rw[Jn]
 exact wpS_modify h
theorem UK {a b:Array Keyed}{Q:Array Keyed→SortSt→Prop}{st:SortSt}(hc:iI prog w A E s κ a₀ r) (hk:kindOf st=κ) (C:eG r a b) (ma:∀x∈a.toList,x∈a₀.toList) (mb:∀x∈b.toList,x∈a₀.toList) (na:1≤a.size) (nb:1≤b.size)
  (h0:∀y,b[0]? =some y→∀x∈a.toList,r x y=false) (hl:∀x,a[a.size - 1]? =some x→∀y∈b.toList,r x y=false)
  (h:∀res aa,SG st aa→Good r a b res→Q res aa):wpS (model prog w) A E s (Hy a b) Q st:=by
 show wpS (model prog w) A E s (_ >>=_) _ _
 try dsimp only
 refine wpS_bind (wpS_lift (wpAny_rule ⟨rfl,?_⟩))
 obtain⟨y0,jZ⟩:=Zd (xs:=b) (i:=0) (by omega)
 refine wpS_bind (Zj jZ ?_)
 have J0:JW r a b #[y0] 0 1:=by
  have e:JW r a b #[] 0 0:=⟨by simp,.nil,fun x hx=>by cases hx⟩
  exact e.fq C jZ fun x hx=>h0 y0 jZ x (Zr hx)
 by_cases bt:(1==b.size)=true
 ·rw[if_pos bt]
  exact wpS_pure (h _ _ (SG.refl _) (J0.done C (.inr (by have:=beq_iff_eq.mp bt;omega))))
 rw[if_neg bt]
 by_cases bI:(0+1==a.size)=true
 ·rw[if_pos bI]
  exact wpS_pure (h _ _ (SG.refl _) (J0.last C (by have:=beq_iff_eq.mp bI;omega) hl))
 rw[if_neg bI]
 have nE:¬(1=b.size):=fun z=>bt (beq_iff_eq.mpr z)
 have rX:¬(0+1=a.size):=fun z=>bI (beq_iff_eq.mpr z)
 refine wpS_bind (wpS_get ?_)
 refine wpS_bind (wpS_mono (wpS_forRange (I:=fun x c av=>SG st av∧∃out ia ib g,c=(none,out,ia,ib,g)∧JW r a b out ia ib∧ia+1<a.size∧ib<b.size∧x+1≤ia+ib) (Q:=fun c av=>SG st av∧∃res,c.fst=some res∧Good r a b res) ?step ?fin ⟨SG.refl _,_,_,_,_,rfl,J0,by omega,by omega,by omega⟩) ?post)
 case post=>
  rintro c av ⟨gT,res,ec,gd⟩
  rw[ec]
  exact wpS_pure (h res av gT gd)
 case fin=>
  rintro c av ⟨_,out,ia,ib,g,_,_,i1,i2,i3⟩
  rw[Nat.max_eq_right (Nat.zero_le _)]at i3
  omega
 case step=>
  rintro x c av _ hx ⟨gT,out,ia,ib,g,rfl,J,i1,i2,i3⟩
  dsimp only
  have bK:kindOf av=κ:=by rw[gT.1];exact hk
  refine wpS_bind (wpS_mono (wpS_forRange (I:=fun y c ak=>ak=av∧∃dX dN dM ac bc,c=(none,dX,dN,dM,ac,bc)∧JW r a b dX dN dM∧dN+1<a.size∧dM<b.size∧ia+ib+y≤dN+dM)
   (Q:=fun c ak=>ak=av∧((∃res,c.fst=some res∧Good r a b res)∨∃dX dN dM ac bc,c=(none,dX,dN,dM,ac,bc)∧JW r a b dX dN dM∧dN+1<a.size∧dM<b.size∧ia+ib+1≤dN+dM)) ?_ ?_ ⟨rfl,_,_,_,_,_,rfl,J,i1,i2,by omega⟩) ?_)
  ·rintro y c ak _ hy ⟨rfl,dX,dN,dM,ac,bc,rfl,J',j1,j2,j3⟩
   dsimp only
   obtain⟨yb,g8⟩:=Zd (xs:=b) (i:=dM) (by omega)
   obtain⟨xa,hG⟩:=Zd (xs:=a) (i:=dN) (by omega)
   refine wpS_bind (Zj g8 (wpS_bind (Zj hG (wpS_bind (hc _ _ _ _ (mb _ (Zr g8)) (ma _ (Zr hG)) bK ?_)))))
   dsimp only
   cases hr:r yb xa with
   |true=>
    rw[if_pos rfl]
    refine wpS_bind (Zj g8 ?_)
    have J2:=J'.fq C g8 (fun x hx=>by rw[hG]at hx;cases hx;exact C.o.bL _ _ hr)
    by_cases hz:(dM+1==b.size)=true
    ·rw[if_pos hz]
     exact wpS_pure ⟨rfl,.inl ⟨_,rfl,J2.done C (.inr (by have:=beq_iff_eq.mp hz;omega))⟩⟩
    rw[if_neg hz]
    have aY:¬(dM+1=b.size):=fun z=>hz (beq_iff_eq.mpr z)
    by_cases hg:bc+1≥g
    ·rw[if_pos hg]
     exact wpS_pure ⟨rfl,.inr ⟨_,_,_,_,_,rfl,J2,by omega,by omega,by omega⟩⟩
    ·rw[if_neg hg]
     exact wpS_pure ⟨rfl,_,_,_,_,_,rfl,J2,by omega,by omega,by omega⟩
   |false=>
    rw[if_neg Bool.false_ne_true]
    refine wpS_bind (Zj hG ?_)
    have J2:=J'.cU C hG (fun x hx=>by rw[g8]at hx;cases hx;exact hr)
    by_cases hz:(dN+1+1==a.size)=true
    ·rw[if_pos hz]
     exact wpS_pure ⟨rfl,.inl ⟨_,rfl,J2.last C (by have:=beq_iff_eq.mp hz;omega) hl⟩⟩
    rw[if_neg hz]
    have aY:¬(dN+1+1=a.size):=fun z=>hz (beq_iff_eq.mpr z)
    by_cases hg:ac+1≥g
    ·rw[if_pos hg]
     exact wpS_pure ⟨rfl,.inr ⟨_,_,_,_,_,rfl,J2,by omega,by omega,by omega⟩⟩
    ·rw[if_neg hg]
     exact wpS_pure ⟨rfl,_,_,_,_,_,rfl,J2,by omega,by omega,by omega⟩
  ·rintro c ak ⟨rfl,dX,dN,dM,ac,bc,rfl,J',j1,j2,j3⟩
   rw[Nat.max_eq_right (Nat.zero_le _)]at j3
   omega
  rintro c ak ⟨rfl,⟨res,ec,gd⟩ |⟨dX,dN,dM,ac,bc,rfl,J',j1,j2,j3⟩⟩
  ·rw[ec]
   exact wpS_pure ⟨gT,res,rfl,gd⟩
  dsimp only
  refine wpS_bind (wpS_lift (wpAny_rule ⟨rfl,?_⟩))
  refine wpS_bind (wpS_mono (wpS_forRange (I:=fun y c ak=>SG st ak∧∃out ia ib g ac bc,c=(none,out,ia,ib,g,ac,bc)∧JW r a b out ia ib∧ia+1<a.size∧ib<b.size∧dN+dM+y≤ia+ib)
   (Q:=fun c ak=>SG st ak∧((∃res,c.fst=some res∧Good r a b res)∨∃out ia ib g ac bc,c=(none,out,ia,ib,g,ac,bc)∧JW r a b out ia ib∧ia+1<a.size∧ib<b.size∧dN+dM≤ia+ib)) ?_ ?_ ⟨gT,_,_,_,_,_,_,rfl,J',j1,j2,by omega⟩) ?_)
  ·clear J i1 i2 bK
   rintro y c ak _ hy ⟨fK,out,AS,AR,g,ac,bc,rfl,J,i1,i2,i4⟩
   dsimp only
   revert J i1 i2 i4
   have Ss:ia+ib+1≤dN+dM:=j3
   clear j3 i3
   generalize AS=ia
   generalize AR=ib
   intro J i1 i2 i4
   by_cases pP:g>1
   ·rw[if_pos pP]
    refine wpS_bind (Yu ?_)
    generalize lL:SortSt.mk' _ _ _ _ _=aU
    have aq:SG st aU:=by rw[←lL];exact fK
    have fg:kindOf aU=κ:=by rw[aq.1];exact hk
    obtain⟨y2,aX⟩:=Zd (xs:=b) (i:=ib) (by omega)
    refine wpS_bind (Zj aX ?_)
    refine wpS_bind (ZF hc fg (fun i=>match a[ia+i]? with |some x=> !r y2 x |none=>false) (fun i hi=> ?_) (mb y2 (Zr aX)) (fun i j cz hj hp=> ?_) (by omega) fun k kn dB cP=> ?_)
    ·obtain⟨x,hx⟩:=Zd (xs:=a) (i:=ia+i) (by omega)
     refine⟨x,hx,ma x (Zr hx),?_⟩
     try dsimp only
     rw[hx]
     rfl
    ·obtain⟨xj,fw⟩:=Zd (xs:=a) (i:=ia+j) (by omega)
     obtain⟨xi,fA⟩:=Zd (xs:=a) (i:=ia+i) (by omega)
     try dsimp only at hp ⊢
     rw[fw]at hp
     rw[fA]
     rw[Bool.not_eq_true']at hp ⊢
     exact C.o.dc _ _ _ (Ya C.o C.sa (Zt fA) (Zt fw) (by omega)) hp
    try dsimp only
    by_cases ik:k>0
    ·rw[if_pos ik]
     have J1:=J.mT C k (by omega) (fun i hi x y hx hy=>by
      rw[aX]at hy
      cases hy
      have:=dB i hi
      try dsimp only at this
      rw[hx,Bool.not_eq_true']at this
      exact this)
     by_cases bt:(ia+k+1==a.size)=true
     ·rw[if_pos bt]
      exact wpS_pure ⟨aq,.inl ⟨_,rfl,J1.last C (by have:=beq_iff_eq.mp bt;omega) hl⟩⟩
     rw[if_neg bt]
     by_cases bI:(ia+k==a.size)=true
     ·rw[if_pos bI]
      exact wpS_pure ⟨aq,.inl ⟨_,rfl,J1.done C (.inl (by have:=beq_iff_eq.mp bI;omega))⟩⟩
     rw[if_neg bI]
     have nE:¬(ia+k+1=a.size):=fun z=>bt (beq_iff_eq.mpr z)
     have rX:¬(ia+k=a.size):=fun z=>bI (beq_iff_eq.mpr z)
     refine wpS_bind (Zj aX ?_)
     have J2:=J1.fq C aX (fun x hx=>by
      have:=cP k (Nat.le_refl _) (by omega)
      try dsimp only at this
      rw[hx,Bool.not_eq_false']at this
      exact C.o.bL _ _ this)
     by_cases hz:(ib+1==b.size)=true
     ·rw[if_pos hz]
      exact wpS_pure ⟨aq,.inl ⟨_,rfl,J2.done C (.inr (by have:=beq_iff_eq.mp hz;omega))⟩⟩
     rw[if_neg hz]
     have aY:¬(ib+1=b.size):=fun z=>hz (beq_iff_eq.mpr z)
     obtain⟨x3,aQ⟩:=Zd (xs:=a) (i:=ia+k) (by omega)
     refine wpS_bind (Zj aQ ?_)
     refine wpS_bind (ZF hc fg (fun i=>match b[ib+1+i]? with |some y=>r y x3 |none=>false) (fun i hi=> ?_) (ma x3 (Zr aQ)) (fun i j cz hj hp=> ?_) (by omega) fun k1 lg dB cP=> ?_)
     ·obtain⟨y,hy⟩:=Zd (xs:=b) (i:=ib+1+i) (by omega)
      refine⟨y,hy,mb y (Zr hy),?_⟩
      try dsimp only
      rw[hy]
      rfl
     ·obtain⟨yj,cm⟩:=Zd (xs:=b) (i:=ib+1+j) (by omega)
      obtain⟨yi,cq⟩:=Zd (xs:=b) (i:=ib+1+i) (by omega)
      try dsimp only at hp ⊢
      rw[cm]at hp
      rw[cq]
      exact Je C.o hp (Ya C.o C.sb (Zt cq) (Zt cm) (by omega))
     try dsimp only
     by_cases bK:k1>0
     ·rw[if_pos bK]
      have J3:=J2.jQ C k1 (by omega) (fun i hi y x hy hx=>by
       rw[aQ]at hx
       cases hx
       have:=dB i hi
       try dsimp only at this
       rw[hy]at this
       exact C.o.bL _ _ this)
      by_cases az:(ib+1+k1==b.size)=true
      ·rw[if_pos az]
       exact wpS_pure ⟨aq,.inl ⟨_,rfl,J3.done C (.inr (by have:=beq_iff_eq.mp az;omega))⟩⟩
      rw[if_neg az]
      have lu:¬(ib+1+k1=b.size):=fun z=>az (beq_iff_eq.mpr z)
      obtain⟨x4,ar⟩:=Zd (xs:=a) (i:=ia+k) (by omega)
      refine wpS_bind (Zj ar ?_)
      have J4:=J3.cU C ar (fun y hy=>by
       have:=cP k1 (Nat.le_refl _) (by omega)
       try dsimp only at this
       rw[hy]at this
       have e:x4=x3:=by rw[aQ]at ar;exact(Option.some.inj ar).symm
       rw[e]
       exact this)
      by_cases hz:(ia+k+1+1==a.size)=true
      ·rw[if_pos hz]
       exact wpS_pure ⟨aq,.inl ⟨_,rfl,J4.last C (by have:=beq_iff_eq.mp hz;omega) hl⟩⟩
      ·rw[if_neg hz]
       have aY:¬(ia+k+1+1=a.size):=fun z=>hz (beq_iff_eq.mpr z)
       by_cases h7:(decide (k<7)&&decide (k1<7))=true
       ·rw[if_pos h7]
        exact wpS_pure ⟨aq,.inr ⟨_,_,_,_,_,_,rfl,J4,by omega,by omega,by omega⟩⟩
       ·rw[if_neg h7]
        exact wpS_pure ⟨aq,_,_,_,_,_,_,rfl,J4,by omega,by omega,by omega⟩
     ·rw[if_neg bK]
      obtain rfl:k1=0:=by omega
      obtain⟨x4,ar⟩:=Zd (xs:=a) (i:=ia+k) (by omega)
      refine wpS_bind (Zj ar ?_)
      have J4:=J2.cU C ar (fun y hy=>by
       have:=cP 0 (Nat.le_refl _) (by omega)
       try dsimp only at this
       rw[Nat.add_zero,hy]at this
       have e:x4=x3:=by rw[aQ]at ar;exact(Option.some.inj ar).symm
       rw[e]
       exact this)
      by_cases hz:(ia+k+1+1==a.size)=true
      ·rw[if_pos hz]
       exact wpS_pure ⟨aq,.inl ⟨_,rfl,J4.last C (by have:=beq_iff_eq.mp hz;omega) hl⟩⟩
      ·rw[if_neg hz]
       have aY:¬(ia+k+1+1=a.size):=fun z=>hz (beq_iff_eq.mpr z)
       by_cases h7:(decide (k<7)&&decide (0<7))=true
       ·rw[if_pos h7]
        exact wpS_pure ⟨aq,.inr ⟨_,_,_,_,_,_,rfl,J4,by omega,by omega,by omega⟩⟩
       ·rw[if_neg h7]
        exact wpS_pure ⟨aq,_,_,_,_,_,_,rfl,J4,by omega,by omega,by omega⟩
    ·rw[if_neg ik]
     obtain rfl:k=0:=by omega
     refine wpS_bind (Zj aX ?_)
     have J2:=J.fq C aX (fun x hx=>by
      have:=cP 0 (Nat.le_refl _) (by omega)
      try dsimp only at this
      rw[Nat.add_zero,hx,Bool.not_eq_false']at this
      exact C.o.bL _ _ this)
     by_cases hz:(ib+1==b.size)=true
     ·rw[if_pos hz]
      exact wpS_pure ⟨aq,.inl ⟨_,rfl,J2.done C (.inr (by have:=beq_iff_eq.mp hz;omega))⟩⟩
     rw[if_neg hz]
     have aY:¬(ib+1=b.size):=fun z=>hz (beq_iff_eq.mpr z)
     obtain⟨x3,aQ⟩:=Zd (xs:=a) (i:=ia) (by omega)
     refine wpS_bind (Zj aQ ?_)
     refine wpS_bind (ZF hc fg (fun i=>match b[ib+1+i]? with |some y=>r y x3 |none=>false) (fun i hi=> ?_) (ma x3 (Zr aQ)) (fun i j cz hj hp=> ?_) (by omega) fun k1 lg dB cP=> ?_)
     ·obtain⟨y,hy⟩:=Zd (xs:=b) (i:=ib+1+i) (by omega)
      refine⟨y,hy,mb y (Zr hy),?_⟩
      try dsimp only
      rw[hy]
      rfl
     ·obtain⟨yj,cm⟩:=Zd (xs:=b) (i:=ib+1+j) (by omega)
      obtain⟨yi,cq⟩:=Zd (xs:=b) (i:=ib+1+i) (by omega)
      try dsimp only at hp ⊢
      rw[cm]at hp
      rw[cq]
      exact Je C.o hp (Ya C.o C.sb (Zt cq) (Zt cm) (by omega))
     try dsimp only
     by_cases bK:k1>0
     ·rw[if_pos bK]
      have J3:=J2.jQ C k1 (by omega) (fun i hi y x hy hx=>by
       rw[aQ]at hx
       cases hx
       have:=dB i hi
       try dsimp only at this
       rw[hy]at this
       exact C.o.bL _ _ this)
      by_cases az:(ib+1+k1==b.size)=true
      ·rw[if_pos az]
       exact wpS_pure ⟨aq,.inl ⟨_,rfl,J3.done C (.inr (by have:=beq_iff_eq.mp az;omega))⟩⟩
      rw[if_neg az]
      have lu:¬(ib+1+k1=b.size):=fun z=>az (beq_iff_eq.mpr z)
      obtain⟨x4,ar⟩:=Zd (xs:=a) (i:=ia) (by omega)
      refine wpS_bind (Zj ar ?_)
      have J4:=J3.cU C ar (fun y hy=>by
       have:=cP k1 (Nat.le_refl _) (by omega)
       try dsimp only at this
       rw[hy]at this
       have e:x4=x3:=by rw[aQ]at ar;exact(Option.some.inj ar).symm
       rw[e]
       exact this)
      by_cases hz:(ia+1+1==a.size)=true
      ·rw[if_pos hz]
       exact wpS_pure ⟨aq,.inl ⟨_,rfl,J4.last C (by have:=beq_iff_eq.mp hz;omega) hl⟩⟩
      ·rw[if_neg hz]
       have aY:¬(ia+1+1=a.size):=fun z=>hz (beq_iff_eq.mpr z)
       by_cases h7:(decide (0<7)&&decide (k1<7))=true
       ·rw[if_pos h7]
        exact wpS_pure ⟨aq,.inr ⟨_,_,_,_,_,_,rfl,J4,by omega,by omega,by omega⟩⟩
       ·rw[if_neg h7]
        exact wpS_pure ⟨aq,_,_,_,_,_,_,rfl,J4,by omega,by omega,by omega⟩
     ·rw[if_neg bK]
      obtain rfl:k1=0:=by omega
      obtain⟨x4,ar⟩:=Zd (xs:=a) (i:=ia) (by omega)
      refine wpS_bind (Zj ar ?_)
      have J4:=J2.cU C ar (fun y hy=>by
       have:=cP 0 (Nat.le_refl _) (by omega)
       try dsimp only at this
       rw[Nat.add_zero,hy]at this
       have e:x4=x3:=by rw[aQ]at ar;exact(Option.some.inj ar).symm
       rw[e]
       exact this)
      by_cases hz:(ia+1+1==a.size)=true
      ·rw[if_pos hz]
       exact wpS_pure ⟨aq,.inl ⟨_,rfl,J4.last C (by have:=beq_iff_eq.mp hz;omega) hl⟩⟩
      ·rw[if_neg hz]
       have aY:¬(ia+1+1=a.size):=fun z=>hz (beq_iff_eq.mpr z)
       by_cases h7:(decide (0<7)&&decide (0<7))=true
       ·rw[if_pos h7]
        exact wpS_pure ⟨aq,.inr ⟨_,_,_,_,_,_,rfl,J4,by omega,by omega,by omega⟩⟩
       ·rw[if_neg h7]
        exact wpS_pure ⟨aq,_,_,_,_,_,_,rfl,J4,by omega,by omega,by omega⟩
   ·rw[if_neg pP]
    refine wpS_bind (Yu ?_)
    generalize lL:SortSt.mk' _ _ _ _ _=aU
    have aq:SG st aU:=by rw[←lL];exact fK
    have fg:kindOf aU=κ:=by rw[aq.1];exact hk
    obtain⟨y2,aX⟩:=Zd (xs:=b) (i:=ib) (by omega)
    refine wpS_bind (Zj aX ?_)
    refine wpS_bind (ZF hc fg (fun i=>match a[ia+i]? with |some x=> !r y2 x |none=>false) (fun i hi=> ?_) (mb y2 (Zr aX)) (fun i j cz hj hp=> ?_) (by omega) fun k kn dB cP=> ?_)
    ·obtain⟨x,hx⟩:=Zd (xs:=a) (i:=ia+i) (by omega)
     refine⟨x,hx,ma x (Zr hx),?_⟩
     try dsimp only
     rw[hx]
     rfl
    ·obtain⟨xj,fw⟩:=Zd (xs:=a) (i:=ia+j) (by omega)
     obtain⟨xi,fA⟩:=Zd (xs:=a) (i:=ia+i) (by omega)
     try dsimp only at hp ⊢
     rw[fw]at hp
     rw[fA]
     rw[Bool.not_eq_true']at hp ⊢
     exact C.o.dc _ _ _ (Ya C.o C.sa (Zt fA) (Zt fw) (by omega)) hp
    try dsimp only
    by_cases ik:k>0
    ·rw[if_pos ik]
     have J1:=J.mT C k (by omega) (fun i hi x y hx hy=>by
      rw[aX]at hy
      cases hy
      have:=dB i hi
      try dsimp only at this
      rw[hx,Bool.not_eq_true']at this
      exact this)
     by_cases bt:(ia+k+1==a.size)=true
     ·rw[if_pos bt]
      exact wpS_pure ⟨aq,.inl ⟨_,rfl,J1.last C (by have:=beq_iff_eq.mp bt;omega) hl⟩⟩
     rw[if_neg bt]
     by_cases bI:(ia+k==a.size)=true
     ·rw[if_pos bI]
      exact wpS_pure ⟨aq,.inl ⟨_,rfl,J1.done C (.inl (by have:=beq_iff_eq.mp bI;omega))⟩⟩
     rw[if_neg bI]
     have nE:¬(ia+k+1=a.size):=fun z=>bt (beq_iff_eq.mpr z)
     have rX:¬(ia+k=a.size):=fun z=>bI (beq_iff_eq.mpr z)
     refine wpS_bind (Zj aX ?_)
     have J2:=J1.fq C aX (fun x hx=>by
      have:=cP k (Nat.le_refl _) (by omega)
      try dsimp only at this
      rw[hx,Bool.not_eq_false']at this
      exact C.o.bL _ _ this)
     by_cases hz:(ib+1==b.size)=true
     ·rw[if_pos hz]
      exact wpS_pure ⟨aq,.inl ⟨_,rfl,J2.done C (.inr (by have:=beq_iff_eq.mp hz;omega))⟩⟩
     rw[if_neg hz]
     have aY:¬(ib+1=b.size):=fun z=>hz (beq_iff_eq.mpr z)
     obtain⟨x3,aQ⟩:=Zd (xs:=a) (i:=ia+k) (by omega)
     refine wpS_bind (Zj aQ ?_)
     refine wpS_bind (ZF hc fg (fun i=>match b[ib+1+i]? with |some y=>r y x3 |none=>false) (fun i hi=> ?_) (ma x3 (Zr aQ)) (fun i j cz hj hp=> ?_) (by omega) fun k1 lg dB cP=> ?_)
     ·obtain⟨y,hy⟩:=Zd (xs:=b) (i:=ib+1+i) (by omega)
      refine⟨y,hy,mb y (Zr hy),?_⟩
      try dsimp only
      rw[hy]
      rfl
     ·obtain⟨yj,cm⟩:=Zd (xs:=b) (i:=ib+1+j) (by omega)
      obtain⟨yi,cq⟩:=Zd (xs:=b) (i:=ib+1+i) (by omega)
      try dsimp only at hp ⊢
      rw[cm]at hp
      rw[cq]
      exact Je C.o hp (Ya C.o C.sb (Zt cq) (Zt cm) (by omega))
     try dsimp only
     by_cases bK:k1>0
     ·rw[if_pos bK]
      have J3:=J2.jQ C k1 (by omega) (fun i hi y x hy hx=>by
       rw[aQ]at hx
       cases hx
       have:=dB i hi
       try dsimp only at this
       rw[hy]at this
       exact C.o.bL _ _ this)
      by_cases az:(ib+1+k1==b.size)=true
      ·rw[if_pos az]
       exact wpS_pure ⟨aq,.inl ⟨_,rfl,J3.done C (.inr (by have:=beq_iff_eq.mp az;omega))⟩⟩
      rw[if_neg az]
      have lu:¬(ib+1+k1=b.size):=fun z=>az (beq_iff_eq.mpr z)
      obtain⟨x4,ar⟩:=Zd (xs:=a) (i:=ia+k) (by omega)
      refine wpS_bind (Zj ar ?_)
      have J4:=J3.cU C ar (fun y hy=>by
       have:=cP k1 (Nat.le_refl _) (by omega)
       try dsimp only at this
       rw[hy]at this
       have e:x4=x3:=by rw[aQ]at ar;exact(Option.some.inj ar).symm
       rw[e]
       exact this)
      by_cases hz:(ia+k+1+1==a.size)=true
      ·rw[if_pos hz]
       exact wpS_pure ⟨aq,.inl ⟨_,rfl,J4.last C (by have:=beq_iff_eq.mp hz;omega) hl⟩⟩
      ·rw[if_neg hz]
       have aY:¬(ia+k+1+1=a.size):=fun z=>hz (beq_iff_eq.mpr z)
       by_cases h7:(decide (k<7)&&decide (k1<7))=true
       ·rw[if_pos h7]
        exact wpS_pure ⟨aq,.inr ⟨_,_,_,_,_,_,rfl,J4,by omega,by omega,by omega⟩⟩
       ·rw[if_neg h7]
        exact wpS_pure ⟨aq,_,_,_,_,_,_,rfl,J4,by omega,by omega,by omega⟩
     ·rw[if_neg bK]
      obtain rfl:k1=0:=by omega
      obtain⟨x4,ar⟩:=Zd (xs:=a) (i:=ia+k) (by omega)
      refine wpS_bind (Zj ar ?_)
      have J4:=J2.cU C ar (fun y hy=>by
       have:=cP 0 (Nat.le_refl _) (by omega)
       try dsimp only at this
       rw[Nat.add_zero,hy]at this
       have e:x4=x3:=by rw[aQ]at ar;exact(Option.some.inj ar).symm
       rw[e]
       exact this)
      by_cases hz:(ia+k+1+1==a.size)=true
      ·rw[if_pos hz]
       exact wpS_pure ⟨aq,.inl ⟨_,rfl,J4.last C (by have:=beq_iff_eq.mp hz;omega) hl⟩⟩
      ·rw[if_neg hz]
       have aY:¬(ia+k+1+1=a.size):=fun z=>hz (beq_iff_eq.mpr z)
       by_cases h7:(decide (k<7)&&decide (0<7))=true
       ·rw[if_pos h7]
        exact wpS_pure ⟨aq,.inr ⟨_,_,_,_,_,_,rfl,J4,by omega,by omega,by omega⟩⟩
       ·rw[if_neg h7]
        exact wpS_pure ⟨aq,_,_,_,_,_,_,rfl,J4,by omega,by omega,by omega⟩
    ·rw[if_neg ik]
     obtain rfl:k=0:=by omega
     refine wpS_bind (Zj aX ?_)
     have J2:=J.fq C aX (fun x hx=>by
      have:=cP 0 (Nat.le_refl _) (by omega)
      try dsimp only at this
      rw[Nat.add_zero,hx,Bool.not_eq_false']at this
      exact C.o.bL _ _ this)
     by_cases hz:(ib+1==b.size)=true
     ·rw[if_pos hz]
      exact wpS_pure ⟨aq,.inl ⟨_,rfl,J2.done C (.inr (by have:=beq_iff_eq.mp hz;omega))⟩⟩
     rw[if_neg hz]
     have aY:¬(ib+1=b.size):=fun z=>hz (beq_iff_eq.mpr z)
     obtain⟨x3,aQ⟩:=Zd (xs:=a) (i:=ia) (by omega)
     refine wpS_bind (Zj aQ ?_)
     refine wpS_bind (ZF hc fg (fun i=>match b[ib+1+i]? with |some y=>r y x3 |none=>false) (fun i hi=> ?_) (ma x3 (Zr aQ)) (fun i j cz hj hp=> ?_) (by omega) fun k1 lg dB cP=> ?_)
     ·obtain⟨y,hy⟩:=Zd (xs:=b) (i:=ib+1+i) (by omega)
      refine⟨y,hy,mb y (Zr hy),?_⟩
      try dsimp only
      rw[hy]
      rfl
     ·obtain⟨yj,cm⟩:=Zd (xs:=b) (i:=ib+1+j) (by omega)
      obtain⟨yi,cq⟩:=Zd (xs:=b) (i:=ib+1+i) (by omega)
      try dsimp only at hp ⊢
      rw[cm]at hp
      rw[cq]
      exact Je C.o hp (Ya C.o C.sb (Zt cq) (Zt cm) (by omega))
     try dsimp only
     by_cases bK:k1>0
     ·rw[if_pos bK]
      have J3:=J2.jQ C k1 (by omega) (fun i hi y x hy hx=>by
       rw[aQ]at hx
       cases hx
       have:=dB i hi
       try dsimp only at this
       rw[hy]at this
       exact C.o.bL _ _ this)
      by_cases az:(ib+1+k1==b.size)=true
      ·rw[if_pos az]
       exact wpS_pure ⟨aq,.inl ⟨_,rfl,J3.done C (.inr (by have:=beq_iff_eq.mp az;omega))⟩⟩
      rw[if_neg az]
      have lu:¬(ib+1+k1=b.size):=fun z=>az (beq_iff_eq.mpr z)
      obtain⟨x4,ar⟩:=Zd (xs:=a) (i:=ia) (by omega)
      refine wpS_bind (Zj ar ?_)
      have J4:=J3.cU C ar (fun y hy=>by
       have:=cP k1 (Nat.le_refl _) (by omega)
       try dsimp only at this
       rw[hy]at this
       have e:x4=x3:=by rw[aQ]at ar;exact(Option.some.inj ar).symm
       rw[e]
       exact this)
      by_cases hz:(ia+1+1==a.size)=true
      ·rw[if_pos hz]
       exact wpS_pure ⟨aq,.inl ⟨_,rfl,J4.last C (by have:=beq_iff_eq.mp hz;omega) hl⟩⟩
      ·rw[if_neg hz]
       have aY:¬(ia+1+1=a.size):=fun z=>hz (beq_iff_eq.mpr z)
       by_cases h7:(decide (0<7)&&decide (k1<7))=true
       ·rw[if_pos h7]
        exact wpS_pure ⟨aq,.inr ⟨_,_,_,_,_,_,rfl,J4,by omega,by omega,by omega⟩⟩
       ·rw[if_neg h7]
        exact wpS_pure ⟨aq,_,_,_,_,_,_,rfl,J4,by omega,by omega,by omega⟩
     ·rw[if_neg bK]
      obtain rfl:k1=0:=by omega
      obtain⟨x4,ar⟩:=Zd (xs:=a) (i:=ia) (by omega)
      refine wpS_bind (Zj ar ?_)
      have J4:=J2.cU C ar (fun y hy=>by
       have:=cP 0 (Nat.le_refl _) (by omega)
       try dsimp only at this
       rw[Nat.add_zero,hy]at this
       have e:x4=x3:=by rw[aQ]at ar;exact(Option.some.inj ar).symm
       rw[e]
       exact this)
      by_cases hz:(ia+1+1==a.size)=true
      ·rw[if_pos hz]
       exact wpS_pure ⟨aq,.inl ⟨_,rfl,J4.last C (by have:=beq_iff_eq.mp hz;omega) hl⟩⟩
      ·rw[if_neg hz]
       have aY:¬(ia+1+1=a.size):=fun z=>hz (beq_iff_eq.mpr z)
       by_cases h7:(decide (0<7)&&decide (0<7))=true
       ·rw[if_pos h7]
        exact wpS_pure ⟨aq,.inr ⟨_,_,_,_,_,_,rfl,J4,by omega,by omega,by omega⟩⟩
       ·rw[if_neg h7]
        exact wpS_pure ⟨aq,_,_,_,_,_,_,rfl,J4,by omega,by omega,by omega⟩
  ·rintro c ak ⟨fK,out,ia,ib,g,ac,bc,rfl,J,i1,i2,i4⟩
   rw[Nat.max_eq_right (Nat.zero_le _)]at i4
   omega
  rintro c ak ⟨fK,⟨res,ec,gd⟩ |⟨out,AS,AR,g,ac,bc,rfl,J2,k1,k2,k3⟩⟩
  ·rw[ec]
   exact wpS_pure ⟨fK,res,rfl,gd⟩
  dsimp only
  refine wpS_bind (Yu (wpS_pure ⟨fK,_,_,_,_,rfl,J2,k1,k2,by omega⟩))
end
def Hz:Array Keyed→Array Keyed→StateT SortSt Sem (Array Keyed):=sortPriv%PySem.Builtin.mergeHi
structure JH (r:Keyed→Keyed→Bool) (a b out:Array Keyed) (na nb:Nat):Prop where
 la:na≤a.size
 lb:nb≤b.size
 perm:((a.toList.take na++b.toList.take nb)++out.toList.reverse).Perm (a.toList++b.toList)
 ji:Pw r out.toList.reverse
 fS:∀y∈a.toList.take na++b.toList.take nb,∀x∈out.toList,r x y=false
theorem Ul {α:Type}{l:List α}{i:Nat}{x:α}(h:l[i]? =some x):l.take (i+1)=l.take i++[x]:=by
 rw[List.take_add_one,h]
 rfl
theorem JM {r:Keyed→Keyed→Bool}{l:List Keyed}{i:Nat}{x:Keyed}(o:Ord r) (p:Pw r l) (h:l[i]? =some x):∀y∈l.take (i+1),r x y=false:=fun y hy=>by
 obtain⟨j,hj,e⟩:=List.getElem_of_mem hy
 rw[List.length_take]at hj
 rw[List.getElem_take]at e
 exact Ya (i:=j) o p (by rw[List.getElem?_eq_getElem (by omega),e]) h (by omega)
theorem tT (xs:Array Keyed) (j:Nat):(xs.extract 0 j).toList=xs.toList.take j:=by
 rw[Jz,List.drop_zero,Nat.sub_zero]
section
variable {r:Keyed→Keyed→Bool}{a b out:Array Keyed}{na nb:Nat}
theorem JH.cU (C:eG r a b) (J:JH r a b out na nb) {x:Keyed}(h1:1≤na) (hx:a[na - 1]? =some x) (h:1≤nb→∀y,b[nb - 1]? =some y→r x y=false):JH r a b (out.push x) (na - 1) nb:=by
 have la:=J.la
 have lb:=J.lb
 have ph:=Zt hx
 have ht:=Ul ph
 rw[Nat.sub_add_cancel h1]at ht
 have mx:x∈a.toList.take na:=by rw[ht];simp
 have low:∀y∈a.toList.take (na - 1)++b.toList.take nb,r x y=false:=fun y hy=>by
  rcases List.mem_append.mp hy with hy |hy
  ·exact JM C.o C.sa ph y (by rw[Nat.sub_add_cancel h1,ht];exact List.mem_append_left _ hy)
  ·have n1:1≤nb:=by
    rcases Nat.eq_zero_or_pos nb with z |z
    ·rw[z]at hy;cases hy
    ·exact z
   obtain⟨z,e⟩:=Zd (xs:=b) (i:=nb - 1) (by omega)
   have:=JM C.o C.sb (Zt e) y (by rw[Nat.sub_add_cancel n1];exact hy)
   exact C.o.dc y z x this (h n1 z e)
 refine⟨by omega,lb,?_,?_,fun y hy u hu=> ?_⟩
 ·rw[Array.toList_push,List.reverse_append]
  have P:=J.perm
  rw[ht]at P
  refine List.Perm.trans ?_ P
  show((a.toList.take (na - 1)++b.toList.take nb)++(x::out.toList.reverse)).Perm (((a.toList.take (na - 1)++[x])++b.toList.take nb)++out.toList.reverse)
  rw[List.append_assoc,List.append_assoc,List.append_assoc]
  refine List.Perm.append_left _ ?_
  show(b.toList.take nb++x::out.toList.reverse).Perm (x::(b.toList.take nb++out.toList.reverse))
  exact List.perm_middle
 ·rw[Array.toList_push,List.reverse_append]
  refine List.pairwise_cons.mpr ⟨fun u hu=> ?_,J.ji⟩
  exact J.fS x (List.mem_append_left _ mx) u (List.mem_reverse.mp hu)
 ·rw[Array.toList_push]at hu
  rcases List.mem_append.mp hu with hu |hu
  ·refine J.fS y ?_ u hu
   rcases List.mem_append.mp hy with hy |hy
   ·exact List.mem_append_left _ (by rw[ht];exact List.mem_append_left _ hy)
   ·exact List.mem_append_right _ hy
  ·rw[List.mem_singleton.mp hu]
   exact low y hy
theorem JH.fq (C:eG r a b) (J:JH r a b out na nb) {y:Keyed}(h1:1≤nb) (hy:b[nb - 1]? =some y) (h:1≤na→∀x,a[na - 1]? =some x→r y x=false):JH r a b (out.push y) na (nb - 1):=by
 have la:=J.la
 have lb:=J.lb
 have g9:=Zt hy
 have ht:=Ul g9
 rw[Nat.sub_add_cancel h1]at ht
 have my:y∈b.toList.take nb:=by rw[ht];simp
 have low:∀z∈a.toList.take na++b.toList.take (nb - 1),r y z=false:=fun z hz=>by
  rcases List.mem_append.mp hz with hz |hz
  ·have n1:1≤na:=by
    rcases Nat.eq_zero_or_pos na with q |q
    ·rw[q]at hz;cases hz
    ·exact q
   obtain⟨x,e⟩:=Zd (xs:=a) (i:=na - 1) (by omega)
   have:=JM C.o C.sa (Zt e) z (by rw[Nat.sub_add_cancel n1];exact hz)
   exact C.o.dc z x y this (h n1 x e)
  ·exact JM C.o C.sb g9 z (by rw[Nat.sub_add_cancel h1,ht];exact List.mem_append_left _ hz)
 refine⟨la,by omega,?_,?_,fun z hz u hu=> ?_⟩
 ·rw[Array.toList_push,List.reverse_append]
  have P:=J.perm
  rw[ht]at P
  refine List.Perm.trans ?_ P
  show((a.toList.take na++b.toList.take (nb - 1))++(y::out.toList.reverse)).Perm ((a.toList.take na++(b.toList.take (nb - 1)++[y]))++out.toList.reverse)
  rw[List.append_assoc,List.append_assoc,List.append_assoc]
  exact .refl _
 ·rw[Array.toList_push,List.reverse_append]
  refine List.pairwise_cons.mpr ⟨fun u hu=> ?_,J.ji⟩
  exact J.fS y (List.mem_append_right _ my) u (List.mem_reverse.mp hu)
 ·rw[Array.toList_push]at hu
  rcases List.mem_append.mp hu with hu |hu
  ·refine J.fS z ?_ u hu
   rcases List.mem_append.mp hz with hz |hz
   ·exact List.mem_append_left _ hz
   ·exact List.mem_append_right _ (by rw[ht];exact List.mem_append_left _ hz)
  ·rw[List.mem_singleton.mp hu]
   exact low z hz
theorem Dg {xs:Array Keyed}{i n:Nat}{x:Keyed}(hx:xs[i]? =some x) (h:i<n) (hn:n≤xs.size):(xs.extract i n).reverse=(xs.extract (i+1) n).reverse.push x:=by
 apply Array.toList_inj.mp
 rw[Array.toList_reverse,Array.toList_push,Array.toList_reverse,Jz,Jz,YU (Zt hx),show n - i=(n - (i+1))+1 by omega,List.take_succ_cons,List.reverse_cons]
theorem JH.mT (C:eG r a b) (J:JH r a b out na nb):∀k,k≤na→(∀i,na - k≤i→i<na→∀x y,a[i]? =some x→b[nb - 1]? =some y→r x y=false)→JH r a b (out++(a.extract (na - k) na).reverse) (na - k) nb
 |0,_,_=>by
  have e:a.extract (na - 0) na= #[]:=by simp;omega
  rw[e]
  simpa using J
 |k+1,hk,h=>by
  have la:=J.la
  obtain⟨x,hx⟩:=Zd (xs:=a) (i:=na - (k+1)) (by omega)
  have ih:=JH.mT C J k (by omega) fun i h1 h2=>h i (by omega) h2
  have e1:na - k - 1=na - (k+1):=by omega
  have:=ih.cU C (x:=x) (by omega) (by rw[e1];exact hx) fun _ y hy=>h (na - (k+1)) (Nat.le_refl _) (by omega) x y hx hy
  rw[e1]at this
  rw[Dg hx (by omega) la,show na - (k+1)+1=na - k by omega,Array.append_push]
  exact this
theorem JH.jQ (C:eG r a b) (J:JH r a b out na nb):∀k,k≤nb→(∀i,nb - k≤i→i<nb→∀y x,b[i]? =some y→a[na - 1]? =some x→r y x=false)→JH r a b (out++(b.extract (nb - k) nb).reverse) na (nb - k)
 |0,_,_=>by
  have e:b.extract (nb - 0) nb= #[]:=by simp;omega
  rw[e]
  simpa using J
 |k+1,hk,h=>by
  have lb:=J.lb
  obtain⟨y,hy⟩:=Zd (xs:=b) (i:=nb - (k+1)) (by omega)
  have ih:=JH.jQ C J k (by omega) fun i h1 h2=>h i (by omega) h2
  have e1:nb - k - 1=nb - (k+1):=by omega
  have:=ih.fq C (y:=y) (by omega) (by rw[e1];exact hy) fun _ x hx=>h (nb - (k+1)) (Nat.le_refl _) (by omega) y x hy hx
  rw[e1]at this
  rw[Dg hy (by omega) lb,show nb - (k+1)+1=nb - k by omega,Array.append_push]
  exact this
theorem JH.zU (C:eG r a b) (J:JH r a b out na nb) {m:Nat}(hm:m≤na) (h:∀i,m≤i→i<na→∀x y,a[i]? =some x→b[nb - 1]? =some y→r x y=false):JH r a b (out++(a.extract m na).reverse) m nb:=by
 have:=J.mT C (na - m) (by omega) (fun i h1 h2=>h i (by omega) h2)
 rw[show na - (na - m)=m by omega]at this
 exact this
theorem JH.rB (C:eG r a b) (J:JH r a b out na nb) {m:Nat}(hm:m≤nb) (h:∀i,m≤i→i<nb→∀y x,b[i]? =some y→a[na - 1]? =some x→r y x=false):JH r a b (out++(b.extract m nb).reverse) na m:=by
 have:=J.jQ C (nb - m) (by omega) (fun i h1 h2=>h i (by omega) h2)
 rw[show nb - (nb - m)=m by omega]at this
 exact this
theorem JH.done (C:eG r a b) (J:JH r a b out na nb) (h:na=0∨nb=0):Good r a b (a.extract 0 na++b.extract 0 nb++out.reverse):=by
 unfold Good
 rw[Array.toList_append,Array.toList_append,tT,tT,Array.toList_reverse]
 refine⟨J.perm,?_⟩
 have pa:Pw r (a.toList.take na):=List.Pairwise.sublist (List.take_sublist _ _) C.sa
 have pb:Pw r (b.toList.take nb):=List.Pairwise.sublist (List.take_sublist _ _) C.sb
 refine List.pairwise_append.mpr ⟨?_,J.ji,fun y hy x hx=>J.fS y hy x (List.mem_reverse.mp hx)⟩
 rcases h with h |h
 ·rw[h,List.take_zero,List.nil_append]
  exact pb
 ·rw[h,List.take_zero,List.append_nil]
  exact pa
theorem JH.first (C:eG r a b) (J:JH r a b out na nb) (h:nb=1) (h0:∀y,b[0]? =some y→∀x∈a.toList,r x y=false):Good r a b (b.extract 0 nb++a.extract 0 na++out.reverse):=by
 have lb:=J.lb
 subst h
 unfold Good
 obtain⟨y,hy⟩:=Zd (xs:=b) (i:=0) (by omega)
 have et:b.toList.take 1=[y]:=by rw[show(1:Nat)=0+1 from rfl,Ul (Zt hy)];rfl
 rw[Array.toList_append,Array.toList_append,tT,tT,Array.toList_reverse,et]
 have P:=J.perm
 have B:=J.fS
 rw[et]at P B
 have pa:Pw r (a.toList.take na):=List.Pairwise.sublist (List.take_sublist _ _) C.sa
 refine⟨List.Perm.trans (List.Perm.append_right _ List.perm_append_comm) P,?_⟩
 refine List.pairwise_append.mpr ⟨?_,J.ji,fun z hz x hx=>B z ?_ x (List.mem_reverse.mp hx)⟩
 ·refine List.pairwise_cons.mpr ⟨fun z hz=>h0 y hy z (List.mem_of_mem_take hz),pa⟩
 ·rcases List.mem_append.mp hz with hz |hz
  ·exact List.mem_append_right _ hz
  ·exact List.mem_append_left _ hz
end
section
variable {prog:Program}{w:World}{A:Around}{E:Value→Shared→Prop}{s:Shared}{κ:SortKind}{a₀:Array Keyed}{r:Keyed→Keyed→Bool}
theorem UL {a b:Array Keyed}{Q:Array Keyed→SortSt→Prop}{st:SortSt}(hc:iI prog w A E s κ a₀ r) (hk:kindOf st=κ) (C:eG r a b) (ma:∀x∈a.toList,x∈a₀.toList) (mb:∀x∈b.toList,x∈a₀.toList) (Hh:1≤a.size) (Sb:1≤b.size)
  (h0:∀y,b[0]? =some y→∀x∈a.toList,r x y=false) (hl:∀x,a[a.size - 1]? =some x→∀y∈b.toList,r x y=false)
  (h:∀res aa,SG st aa→Good r a b res→Q res aa):wpS (model prog w) A E s (Hz a b) Q st:=by
 show wpS (model prog w) A E s (_ >>=_) _ _
 dsimp only
 refine wpS_bind (wpS_lift (wpAny_rule ⟨rfl,?_⟩))
 obtain⟨x0,lC⟩:=Zd (xs:=a) (i:=a.size - 1) (by omega)
 refine wpS_bind (Zj lC ?_)
 have J0:JH r a b #[x0] (a.size - 1) b.size:=by
  have e:JH r a b #[] a.size b.size:=⟨Nat.le_refl _,Nat.le_refl _,by simp[←Array.length_toList],.nil,fun y hy x hx=>by cases hx⟩
  exact e.cU C Hh lC fun _ y hy=>hl x0 lC y (Zr hy)
 by_cases bt:(a.size - 1==0)=true
 ·rw[if_pos bt]
  exact wpS_pure (h _ _ (SG.refl _) (J0.done C (.inl (beq_iff_eq.mp bt))))
 rw[if_neg bt]
 by_cases bI:(b.size==1)=true
 ·rw[if_pos bI]
  exact wpS_pure (h _ _ (SG.refl _) (J0.first C (beq_iff_eq.mp bI) h0))
 rw[if_neg bI]
 have nE:¬(a.size - 1=0):=fun z=>bt (beq_iff_eq.mpr z)
 have rX:¬(b.size=1):=fun z=>bI (beq_iff_eq.mpr z)
 refine wpS_bind (wpS_get ?_)
 refine wpS_bind (wpS_mono (wpS_forRange (I:=fun x c av=>SG st av∧∃na nb out g,c=(none,na,nb,out,g)∧JH r a b out na nb∧1≤na∧2≤nb∧na+nb+x+1≤a.size+b.size) (Q:=fun c av=>SG st av∧∃res,c.fst=some res∧Good r a b res) ?step ?fin ⟨SG.refl _,_,_,_,_,rfl,J0,by omega,by omega,by omega⟩) ?post)
 case post=>
  rintro c av ⟨gT,res,ec,gd⟩
  rw[ec]
  exact wpS_pure (h res av gT gd)
 case fin=>
  rintro c av ⟨_,na,nb,out,g,_,_,i1,i2,i3⟩
  rw[Nat.max_eq_right (Nat.zero_le _)]at i3
  omega
 case step=>
  rintro x c av _ hx ⟨gT,na,nb,out,g,rfl,J,i1,i2,i3⟩
  dsimp only
  have bK:kindOf av=κ:=by rw[gT.1];exact hk
  refine wpS_bind (wpS_mono (wpS_forRange (I:=fun y c ak=>ak=av∧∃dZ dY dX ac bc,c=(none,dZ,dY,dX,ac,bc)∧JH r a b dX dZ dY∧1≤dZ∧2≤dY∧dZ+dY+y≤na+nb)
   (Q:=fun c ak=>ak=av∧((∃res,c.fst=some res∧Good r a b res)∨∃dZ dY dX ac bc,c=(none,dZ,dY,dX,ac,bc)∧JH r a b dX dZ dY∧1≤dZ∧2≤dY∧dZ+dY+1≤na+nb)) ?_ ?_ ⟨rfl,_,_,_,_,_,rfl,J,i1,i2,by omega⟩) ?_)
  ·rintro y c ak _ hy ⟨rfl,dZ,dY,dX,ac,bc,rfl,J',j1,j2,j3⟩
   dsimp only
   have la:=J'.la
   have lb:=J'.lb
   obtain⟨yb,g8⟩:=Zd (xs:=b) (i:=dY - 1) (by omega)
   obtain⟨xa,hG⟩:=Zd (xs:=a) (i:=dZ - 1) (by omega)
   refine wpS_bind (Zj g8 (wpS_bind (Zj hG (wpS_bind (hc _ _ _ _ (mb _ (Zr g8)) (ma _ (Zr hG)) bK ?_)))))
   dsimp only
   cases hr:r yb xa with
   |true=>
    rw[if_pos rfl]
    refine wpS_bind (Zj hG ?_)
    have J2:=J'.cU C j1 hG (fun _ y hy=>by rw[g8]at hy;cases hy;exact C.o.bL _ _ hr)
    by_cases hz:(dZ - 1==0)=true
    ·rw[if_pos hz]
     exact wpS_pure ⟨rfl,.inl ⟨_,rfl,J2.done C (.inl (beq_iff_eq.mp hz))⟩⟩
    rw[if_neg hz]
    have aY:¬(dZ - 1=0):=fun z=>hz (beq_iff_eq.mpr z)
    by_cases hg:ac+1≥g
    ·rw[if_pos hg]
     exact wpS_pure ⟨rfl,.inr ⟨_,_,_,_,_,rfl,J2,by omega,by omega,by omega⟩⟩
    ·rw[if_neg hg]
     exact wpS_pure ⟨rfl,_,_,_,_,_,rfl,J2,by omega,by omega,by omega⟩
   |false=>
    rw[if_neg Bool.false_ne_true]
    refine wpS_bind (Zj g8 ?_)
    have J2:=J'.fq C (by omega) g8 (fun _ x hx=>by rw[hG]at hx;cases hx;exact hr)
    by_cases hz:(dY - 1==1)=true
    ·rw[if_pos hz]
     exact wpS_pure ⟨rfl,.inl ⟨_,rfl,J2.first C (beq_iff_eq.mp hz) h0⟩⟩
    rw[if_neg hz]
    have aY:¬(dY - 1=1):=fun z=>hz (beq_iff_eq.mpr z)
    by_cases hg:bc+1≥g
    ·rw[if_pos hg]
     exact wpS_pure ⟨rfl,.inr ⟨_,_,_,_,_,rfl,J2,by omega,by omega,by omega⟩⟩
    ·rw[if_neg hg]
     exact wpS_pure ⟨rfl,_,_,_,_,_,rfl,J2,by omega,by omega,by omega⟩
  ·rintro c ak ⟨rfl,dZ,dY,dX,ac,bc,rfl,J',j1,j2,j3⟩
   rw[Nat.max_eq_right (Nat.zero_le _)]at j3
   have la:=J.la
   have lb:=J.lb
   omega
  rintro c ak ⟨rfl,⟨res,ec,gd⟩ |⟨dZ,dY,dX,ac,bc,rfl,J',j1,j2,j3⟩⟩
  ·rw[ec]
   exact wpS_pure ⟨gT,res,rfl,gd⟩
  dsimp only
  refine wpS_bind (wpS_lift (wpAny_rule ⟨rfl,?_⟩))
  refine wpS_bind (wpS_mono (wpS_forRange (I:=fun y c ak=>SG st ak∧∃na nb out g ac bc,c=(none,na,nb,out,g,ac,bc)∧JH r a b out na nb∧1≤na∧2≤nb∧na+nb+y≤dZ+dY)
   (Q:=fun c ak=>SG st ak∧((∃res,c.fst=some res∧Good r a b res)∨∃na nb out g ac bc,c=(none,na,nb,out,g,ac,bc)∧JH r a b out na nb∧1≤na∧2≤nb∧na+nb≤dZ+dY)) ?_ ?_ ⟨gT,_,_,_,_,_,_,rfl,J',j1,j2,by omega⟩) ?_)
  ·clear J i1 i2 bK
   rintro y c ak _ hy ⟨fK,oS,Ax,out,g,ac,bc,rfl,J,i1,i2,i4⟩
   dsimp only
   revert J i1 i2 i4
   clear j3 i3
   generalize oS=na
   generalize Ax=nb
   intro J i1 i2 i4
   have la:=J.la
   have lb:=J.lb
   by_cases pP:g>1
   ·rw[if_pos pP]
    refine wpS_bind (Yu ?_)
    generalize lL:SortSt.mk' _ _ _ _ _=aU
    have aq:SG st aU:=by rw[←lL];exact fK
    have fg:kindOf aU=κ:=by rw[aq.1];exact hk
    obtain⟨y2,aX⟩:=Zd (xs:=b) (i:=nb - 1) (by omega)
    refine wpS_bind (Zj aX ?_)
    refine wpS_bind (ZF hc fg (fun i=>match a[0+i]? with |some x=> !r y2 x |none=>false) (fun i hi=> ?_) (mb y2 (Zr aX)) (fun i j cz hj hp=> ?_) (by omega) fun at_ kn dB cP=> ?_)
    ·obtain⟨x,hx⟩:=Zd (xs:=a) (i:=0+i) (by omega)
     refine⟨x,hx,ma x (Zr hx),?_⟩
     try dsimp only
     rw[hx]
     rfl
    ·obtain⟨xj,fw⟩:=Zd (xs:=a) (i:=0+j) (by omega)
     obtain⟨xi,fA⟩:=Zd (xs:=a) (i:=0+i) (by omega)
     try dsimp only at hp ⊢
     rw[fw]at hp
     rw[fA]
     rw[Bool.not_eq_true']at hp ⊢
     exact C.o.dc _ _ _ (Ya C.o C.sa (Zt fA) (Zt fw) (by omega)) hp
    try dsimp only
    by_cases ik:na - at_>0
    ·rw[if_pos ik]
     have J1:=J.zU C (m:=at_) (by omega) (fun i il fO x y hx hy=>by
      rw[aX]at hy
      cases hy
      have:=cP i il fO
      try dsimp only at this
      rw[Nat.zero_add,hx,Bool.not_eq_false']at this
      exact C.o.bL _ _ this)
     by_cases bt:(at_==0)=true
     ·rw[if_pos bt]
      exact wpS_pure ⟨aq,.inl ⟨_,rfl,J1.done C (.inl (beq_iff_eq.mp bt))⟩⟩
     rw[if_neg bt]
     have nE:¬(at_=0):=fun z=>bt (beq_iff_eq.mpr z)
     refine wpS_bind (Zj aX ?_)
     have J2:=J1.fq C (by omega) aX (fun _ x hx=>by
      have:=dB (at_ - 1) (by omega)
      try dsimp only at this
      rw[Nat.zero_add,hx,Bool.not_eq_true']at this
      exact this)
     by_cases hz:(nb - 1==1)=true
     ·rw[if_pos hz]
      exact wpS_pure ⟨aq,.inl ⟨_,rfl,J2.first C (beq_iff_eq.mp hz) h0⟩⟩
     rw[if_neg hz]
     have aY:¬(nb - 1=1):=fun z=>hz (beq_iff_eq.mpr z)
     obtain⟨x3,aQ⟩:=Zd (xs:=a) (i:=at_ - 1) (by omega)
     refine wpS_bind (Zj aQ ?_)
     refine wpS_bind (ZF hc fg (fun i=>match b[0+i]? with |some y=>r y x3 |none=>false) (fun i hi=> ?_) (ma x3 (Zr aQ)) (fun i j cz hj hp=> ?_) (by omega) fun k1 lg gZ kZ=> ?_)
     ·obtain⟨y,hy⟩:=Zd (xs:=b) (i:=0+i) (by omega)
      refine⟨y,hy,mb y (Zr hy),?_⟩
      try dsimp only
      rw[hy]
      rfl
     ·obtain⟨yj,cm⟩:=Zd (xs:=b) (i:=0+j) (by omega)
      obtain⟨yi,cq⟩:=Zd (xs:=b) (i:=0+i) (by omega)
      try dsimp only at hp ⊢
      rw[cm]at hp
      rw[cq]
      exact Je C.o hp (Ya C.o C.sb (Zt cq) (Zt cm) (by omega))
     try dsimp only
     by_cases bK:nb - 1 - k1>0
     ·rw[if_pos bK]
      have J3:=J2.rB C (m:=k1) (by omega) (fun i il fO y x hy hx=>by
       rw[aQ]at hx
       cases hx
       have:=kZ i il fO
       try dsimp only at this
       rw[Nat.zero_add,hy]at this
       exact this)
      by_cases az:(k1==1)=true
      ·rw[if_pos az]
       exact wpS_pure ⟨aq,.inl ⟨_,rfl,J3.first C (beq_iff_eq.mp az) h0⟩⟩
      rw[if_neg az]
      by_cases de:(k1==0)=true
      ·rw[if_pos de]
       exact wpS_pure ⟨aq,.inl ⟨_,rfl,J3.done C (.inr (beq_iff_eq.mp de))⟩⟩
      rw[if_neg de]
      have lu:¬(k1=1):=fun z=>az (beq_iff_eq.mpr z)
      have vY:¬(k1=0):=fun z=>de (beq_iff_eq.mpr z)
      obtain⟨x4,ar⟩:=Zd (xs:=a) (i:=at_ - 1) (by omega)
      refine wpS_bind (Zj ar ?_)
      have J4:=J3.cU C (by omega) ar (fun _ y hy=>by
       have:=gZ (k1 - 1) (by omega)
       try dsimp only at this
       rw[Nat.zero_add,hy]at this
       have e:x4=x3:=by rw[aQ]at ar;exact(Option.some.inj ar).symm
       rw[e]
       exact C.o.bL _ _ this)
      by_cases hz:(at_ - 1==0)=true
      ·rw[if_pos hz]
       exact wpS_pure ⟨aq,.inl ⟨_,rfl,J4.done C (.inl (by have:=beq_iff_eq.mp hz;omega))⟩⟩
      ·rw[if_neg hz]
       have aY:¬(at_ - 1=0):=fun z=>hz (beq_iff_eq.mpr z)
       by_cases h7:(decide (na - at_<7)&&decide (nb - 1 - k1<7))=true
       ·rw[if_pos h7]
        exact wpS_pure ⟨aq,.inr ⟨_,_,_,_,_,_,rfl,J4,by omega,by omega,by omega⟩⟩
       ·rw[if_neg h7]
        exact wpS_pure ⟨aq,_,_,_,_,_,_,rfl,J4,by omega,by omega,by omega⟩
     ·rw[if_neg bK]
      obtain rfl:k1=nb - 1:=by omega
      obtain⟨x4,ar⟩:=Zd (xs:=a) (i:=at_ - 1) (by omega)
      refine wpS_bind (Zj ar ?_)
      have J4:=J2.cU C (by omega) ar (fun _ y hy=>by
       have:=gZ (nb - 1 - 1) (by omega)
       try dsimp only at this
       rw[Nat.zero_add,hy]at this
       have e:x4=x3:=by rw[aQ]at ar;exact(Option.some.inj ar).symm
       rw[e]
       exact C.o.bL _ _ this)
      by_cases hz:(at_ - 1==0)=true
      ·rw[if_pos hz]
       exact wpS_pure ⟨aq,.inl ⟨_,rfl,J4.done C (.inl (by have:=beq_iff_eq.mp hz;omega))⟩⟩
      ·rw[if_neg hz]
       have aY:¬(at_ - 1=0):=fun z=>hz (beq_iff_eq.mpr z)
       by_cases h7:(decide (na - at_<7)&&decide (nb - 1 - (nb - 1)<7))=true
       ·rw[if_pos h7]
        exact wpS_pure ⟨aq,.inr ⟨_,_,_,_,_,_,rfl,J4,by omega,by omega,by omega⟩⟩
       ·rw[if_neg h7]
        exact wpS_pure ⟨aq,_,_,_,_,_,_,rfl,J4,by omega,by omega,by omega⟩
    ·rw[if_neg ik]
     obtain rfl:at_=na:=by omega
     refine wpS_bind (Zj aX ?_)
     have J2:=J.fq C (by omega) aX (fun _ x hx=>by
      have:=dB (at_ - 1) (by omega)
      try dsimp only at this
      rw[Nat.zero_add,hx,Bool.not_eq_true']at this
      exact this)
     by_cases hz:(nb - 1==1)=true
     ·rw[if_pos hz]
      exact wpS_pure ⟨aq,.inl ⟨_,rfl,J2.first C (beq_iff_eq.mp hz) h0⟩⟩
     rw[if_neg hz]
     have aY:¬(nb - 1=1):=fun z=>hz (beq_iff_eq.mpr z)
     obtain⟨x3,aQ⟩:=Zd (xs:=a) (i:=at_ - 1) (by omega)
     refine wpS_bind (Zj aQ ?_)
     refine wpS_bind (ZF hc fg (fun i=>match b[0+i]? with |some y=>r y x3 |none=>false) (fun i hi=> ?_) (ma x3 (Zr aQ)) (fun i j cz hj hp=> ?_) (by omega) fun k1 lg gZ kZ=> ?_)
     ·obtain⟨y,hy⟩:=Zd (xs:=b) (i:=0+i) (by omega)
      refine⟨y,hy,mb y (Zr hy),?_⟩
      try dsimp only
      rw[hy]
      rfl
     ·obtain⟨yj,cm⟩:=Zd (xs:=b) (i:=0+j) (by omega)
      obtain⟨yi,cq⟩:=Zd (xs:=b) (i:=0+i) (by omega)
      try dsimp only at hp ⊢
      rw[cm]at hp
      rw[cq]
      exact Je C.o hp (Ya C.o C.sb (Zt cq) (Zt cm) (by omega))
     try dsimp only
     by_cases bK:nb - 1 - k1>0
     ·rw[if_pos bK]
      have J3:=J2.rB C (m:=k1) (by omega) (fun i il fO y x hy hx=>by
       rw[aQ]at hx
       cases hx
       have:=kZ i il fO
       try dsimp only at this
       rw[Nat.zero_add,hy]at this
       exact this)
      by_cases az:(k1==1)=true
      ·rw[if_pos az]
       exact wpS_pure ⟨aq,.inl ⟨_,rfl,J3.first C (beq_iff_eq.mp az) h0⟩⟩
      rw[if_neg az]
      by_cases de:(k1==0)=true
      ·rw[if_pos de]
       exact wpS_pure ⟨aq,.inl ⟨_,rfl,J3.done C (.inr (beq_iff_eq.mp de))⟩⟩
      rw[if_neg de]
      have lu:¬(k1=1):=fun z=>az (beq_iff_eq.mpr z)
      have vY:¬(k1=0):=fun z=>de (beq_iff_eq.mpr z)
      obtain⟨x4,ar⟩:=Zd (xs:=a) (i:=at_ - 1) (by omega)
      refine wpS_bind (Zj ar ?_)
      have J4:=J3.cU C (by omega) ar (fun _ y hy=>by
       have:=gZ (k1 - 1) (by omega)
       try dsimp only at this
       rw[Nat.zero_add,hy]at this
       have e:x4=x3:=by rw[aQ]at ar;exact(Option.some.inj ar).symm
       rw[e]
       exact C.o.bL _ _ this)
      by_cases hz:(at_ - 1==0)=true
      ·rw[if_pos hz]
       exact wpS_pure ⟨aq,.inl ⟨_,rfl,J4.done C (.inl (by have:=beq_iff_eq.mp hz;omega))⟩⟩
      ·rw[if_neg hz]
       have aY:¬(at_ - 1=0):=fun z=>hz (beq_iff_eq.mpr z)
       by_cases h7:(decide (at_ - at_<7)&&decide (nb - 1 - k1<7))=true
       ·rw[if_pos h7]
        exact wpS_pure ⟨aq,.inr ⟨_,_,_,_,_,_,rfl,J4,by omega,by omega,by omega⟩⟩
       ·rw[if_neg h7]
        exact wpS_pure ⟨aq,_,_,_,_,_,_,rfl,J4,by omega,by omega,by omega⟩
     ·rw[if_neg bK]
      obtain rfl:k1=nb - 1:=by omega
      obtain⟨x4,ar⟩:=Zd (xs:=a) (i:=at_ - 1) (by omega)
      refine wpS_bind (Zj ar ?_)
      have J4:=J2.cU C (by omega) ar (fun _ y hy=>by
       have:=gZ (nb - 1 - 1) (by omega)
       try dsimp only at this
       rw[Nat.zero_add,hy]at this
       have e:x4=x3:=by rw[aQ]at ar;exact(Option.some.inj ar).symm
       rw[e]
       exact C.o.bL _ _ this)
      by_cases hz:(at_ - 1==0)=true
      ·rw[if_pos hz]
       exact wpS_pure ⟨aq,.inl ⟨_,rfl,J4.done C (.inl (by have:=beq_iff_eq.mp hz;omega))⟩⟩
      ·rw[if_neg hz]
       have aY:¬(at_ - 1=0):=fun z=>hz (beq_iff_eq.mpr z)
       by_cases h7:(decide (at_ - at_<7)&&decide (nb - 1 - (nb - 1)<7))=true
       ·rw[if_pos h7]
        exact wpS_pure ⟨aq,.inr ⟨_,_,_,_,_,_,rfl,J4,by omega,by omega,by omega⟩⟩
       ·rw[if_neg h7]
        exact wpS_pure ⟨aq,_,_,_,_,_,_,rfl,J4,by omega,by omega,by omega⟩
   ·rw[if_neg pP]
    refine wpS_bind (Yu ?_)
    generalize lL:SortSt.mk' _ _ _ _ _=aU
    have aq:SG st aU:=by rw[←lL];exact fK
    have fg:kindOf aU=κ:=by rw[aq.1];exact hk
    obtain⟨y2,aX⟩:=Zd (xs:=b) (i:=nb - 1) (by omega)
    refine wpS_bind (Zj aX ?_)
    refine wpS_bind (ZF hc fg (fun i=>match a[0+i]? with |some x=> !r y2 x |none=>false) (fun i hi=> ?_) (mb y2 (Zr aX)) (fun i j cz hj hp=> ?_) (by omega) fun at_ kn dB cP=> ?_)
    ·obtain⟨x,hx⟩:=Zd (xs:=a) (i:=0+i) (by omega)
     refine⟨x,hx,ma x (Zr hx),?_⟩
     try dsimp only
     rw[hx]
     rfl
    ·obtain⟨xj,fw⟩:=Zd (xs:=a) (i:=0+j) (by omega)
     obtain⟨xi,fA⟩:=Zd (xs:=a) (i:=0+i) (by omega)
     try dsimp only at hp ⊢
     rw[fw]at hp
     rw[fA]
     rw[Bool.not_eq_true']at hp ⊢
     exact C.o.dc _ _ _ (Ya C.o C.sa (Zt fA) (Zt fw) (by omega)) hp
    try dsimp only
    by_cases ik:na - at_>0
    ·rw[if_pos ik]
     have J1:=J.zU C (m:=at_) (by omega) (fun i il fO x y hx hy=>by
      rw[aX]at hy
      cases hy
      have:=cP i il fO
      try dsimp only at this
      rw[Nat.zero_add,hx,Bool.not_eq_false']at this
      exact C.o.bL _ _ this)
     by_cases bt:(at_==0)=true
     ·rw[if_pos bt]
      exact wpS_pure ⟨aq,.inl ⟨_,rfl,J1.done C (.inl (beq_iff_eq.mp bt))⟩⟩
     rw[if_neg bt]
     have nE:¬(at_=0):=fun z=>bt (beq_iff_eq.mpr z)
     refine wpS_bind (Zj aX ?_)
     have J2:=J1.fq C (by omega) aX (fun _ x hx=>by
      have:=dB (at_ - 1) (by omega)
      try dsimp only at this
      rw[Nat.zero_add,hx,Bool.not_eq_true']at this
      exact this)
     by_cases hz:(nb - 1==1)=true
     ·rw[if_pos hz]
      exact wpS_pure ⟨aq,.inl ⟨_,rfl,J2.first C (beq_iff_eq.mp hz) h0⟩⟩
     rw[if_neg hz]
     have aY:¬(nb - 1=1):=fun z=>hz (beq_iff_eq.mpr z)
     obtain⟨x3,aQ⟩:=Zd (xs:=a) (i:=at_ - 1) (by omega)
     refine wpS_bind (Zj aQ ?_)
     refine wpS_bind (ZF hc fg (fun i=>match b[0+i]? with |some y=>r y x3 |none=>false) (fun i hi=> ?_) (ma x3 (Zr aQ)) (fun i j cz hj hp=> ?_) (by omega) fun k1 lg gZ kZ=> ?_)
     ·obtain⟨y,hy⟩:=Zd (xs:=b) (i:=0+i) (by omega)
      refine⟨y,hy,mb y (Zr hy),?_⟩
      try dsimp only
      rw[hy]
      rfl
     ·obtain⟨yj,cm⟩:=Zd (xs:=b) (i:=0+j) (by omega)
      obtain⟨yi,cq⟩:=Zd (xs:=b) (i:=0+i) (by omega)
      try dsimp only at hp ⊢
      rw[cm]at hp
      rw[cq]
      exact Je C.o hp (Ya C.o C.sb (Zt cq) (Zt cm) (by omega))
     try dsimp only
     by_cases bK:nb - 1 - k1>0
     ·rw[if_pos bK]
      have J3:=J2.rB C (m:=k1) (by omega) (fun i il fO y x hy hx=>by
       rw[aQ]at hx
       cases hx
       have:=kZ i il fO
       try dsimp only at this
       rw[Nat.zero_add,hy]at this
       exact this)
      by_cases az:(k1==1)=true
      ·rw[if_pos az]
       exact wpS_pure ⟨aq,.inl ⟨_,rfl,J3.first C (beq_iff_eq.mp az) h0⟩⟩
      rw[if_neg az]
      by_cases de:(k1==0)=true
      ·rw[if_pos de]
       exact wpS_pure ⟨aq,.inl ⟨_,rfl,J3.done C (.inr (beq_iff_eq.mp de))⟩⟩
      rw[if_neg de]
      have lu:¬(k1=1):=fun z=>az (beq_iff_eq.mpr z)
      have vY:¬(k1=0):=fun z=>de (beq_iff_eq.mpr z)
      obtain⟨x4,ar⟩:=Zd (xs:=a) (i:=at_ - 1) (by omega)
      refine wpS_bind (Zj ar ?_)
      have J4:=J3.cU C (by omega) ar (fun _ y hy=>by
       have:=gZ (k1 - 1) (by omega)
       try dsimp only at this
       rw[Nat.zero_add,hy]at this
       have e:x4=x3:=by rw[aQ]at ar;exact(Option.some.inj ar).symm
       rw[e]
       exact C.o.bL _ _ this)
      by_cases hz:(at_ - 1==0)=true
      ·rw[if_pos hz]
       exact wpS_pure ⟨aq,.inl ⟨_,rfl,J4.done C (.inl (by have:=beq_iff_eq.mp hz;omega))⟩⟩
      ·rw[if_neg hz]
       have aY:¬(at_ - 1=0):=fun z=>hz (beq_iff_eq.mpr z)
       by_cases h7:(decide (na - at_<7)&&decide (nb - 1 - k1<7))=true
       ·rw[if_pos h7]
        exact wpS_pure ⟨aq,.inr ⟨_,_,_,_,_,_,rfl,J4,by omega,by omega,by omega⟩⟩
       ·rw[if_neg h7]
        exact wpS_pure ⟨aq,_,_,_,_,_,_,rfl,J4,by omega,by omega,by omega⟩
     ·rw[if_neg bK]
      obtain rfl:k1=nb - 1:=by omega
      obtain⟨x4,ar⟩:=Zd (xs:=a) (i:=at_ - 1) (by omega)
      refine wpS_bind (Zj ar ?_)
      have J4:=J2.cU C (by omega) ar (fun _ y hy=>by
       have:=gZ (nb - 1 - 1) (by omega)
       try dsimp only at this
       rw[Nat.zero_add,hy]at this
       have e:x4=x3:=by rw[aQ]at ar;exact(Option.some.inj ar).symm
       rw[e]
       exact C.o.bL _ _ this)
      by_cases hz:(at_ - 1==0)=true
      ·rw[if_pos hz]
       exact wpS_pure ⟨aq,.inl ⟨_,rfl,J4.done C (.inl (by have:=beq_iff_eq.mp hz;omega))⟩⟩
      ·rw[if_neg hz]
       have aY:¬(at_ - 1=0):=fun z=>hz (beq_iff_eq.mpr z)
       by_cases h7:(decide (na - at_<7)&&decide (nb - 1 - (nb - 1)<7))=true
       ·rw[if_pos h7]
        exact wpS_pure ⟨aq,.inr ⟨_,_,_,_,_,_,rfl,J4,by omega,by omega,by omega⟩⟩
       ·rw[if_neg h7]
        exact wpS_pure ⟨aq,_,_,_,_,_,_,rfl,J4,by omega,by omega,by omega⟩
    ·rw[if_neg ik]
     obtain rfl:at_=na:=by omega
     refine wpS_bind (Zj aX ?_)
     have J2:=J.fq C (by omega) aX (fun _ x hx=>by
      have:=dB (at_ - 1) (by omega)
      try dsimp only at this
      rw[Nat.zero_add,hx,Bool.not_eq_true']at this
      exact this)
     by_cases hz:(nb - 1==1)=true
     ·rw[if_pos hz]
      exact wpS_pure ⟨aq,.inl ⟨_,rfl,J2.first C (beq_iff_eq.mp hz) h0⟩⟩
     rw[if_neg hz]
     have aY:¬(nb - 1=1):=fun z=>hz (beq_iff_eq.mpr z)
     obtain⟨x3,aQ⟩:=Zd (xs:=a) (i:=at_ - 1) (by omega)
     refine wpS_bind (Zj aQ ?_)
     refine wpS_bind (ZF hc fg (fun i=>match b[0+i]? with |some y=>r y x3 |none=>false) (fun i hi=> ?_) (ma x3 (Zr aQ)) (fun i j cz hj hp=> ?_) (by omega) fun k1 lg gZ kZ=> ?_)
     ·obtain⟨y,hy⟩:=Zd (xs:=b) (i:=0+i) (by omega)
      refine⟨y,hy,mb y (Zr hy),?_⟩
      try dsimp only
      rw[hy]
      rfl
     ·obtain⟨yj,cm⟩:=Zd (xs:=b) (i:=0+j) (by omega)
      obtain⟨yi,cq⟩:=Zd (xs:=b) (i:=0+i) (by omega)
      try dsimp only at hp ⊢
      rw[cm]at hp
      rw[cq]
      exact Je C.o hp (Ya C.o C.sb (Zt cq) (Zt cm) (by omega))
     try dsimp only
     by_cases bK:nb - 1 - k1>0
     ·rw[if_pos bK]
      have J3:=J2.rB C (m:=k1) (by omega) (fun i il fO y x hy hx=>by
       rw[aQ]at hx
       cases hx
       have:=kZ i il fO
       try dsimp only at this
       rw[Nat.zero_add,hy]at this
       exact this)
      by_cases az:(k1==1)=true
      ·rw[if_pos az]
       exact wpS_pure ⟨aq,.inl ⟨_,rfl,J3.first C (beq_iff_eq.mp az) h0⟩⟩
      rw[if_neg az]
      by_cases de:(k1==0)=true
      ·rw[if_pos de]
       exact wpS_pure ⟨aq,.inl ⟨_,rfl,J3.done C (.inr (beq_iff_eq.mp de))⟩⟩
      rw[if_neg de]
      have lu:¬(k1=1):=fun z=>az (beq_iff_eq.mpr z)
      have vY:¬(k1=0):=fun z=>de (beq_iff_eq.mpr z)
      obtain⟨x4,ar⟩:=Zd (xs:=a) (i:=at_ - 1) (by omega)
      refine wpS_bind (Zj ar ?_)
      have J4:=J3.cU C (by omega) ar (fun _ y hy=>by
       have:=gZ (k1 - 1) (by omega)
       try dsimp only at this
       rw[Nat.zero_add,hy]at this
       have e:x4=x3:=by rw[aQ]at ar;exact(Option.some.inj ar).symm
       rw[e]
       exact C.o.bL _ _ this)
      by_cases hz:(at_ - 1==0)=true
      ·rw[if_pos hz]
       exact wpS_pure ⟨aq,.inl ⟨_,rfl,J4.done C (.inl (by have:=beq_iff_eq.mp hz;omega))⟩⟩
      ·rw[if_neg hz]
       have aY:¬(at_ - 1=0):=fun z=>hz (beq_iff_eq.mpr z)
       by_cases h7:(decide (at_ - at_<7)&&decide (nb - 1 - k1<7))=true
       ·rw[if_pos h7]
        exact wpS_pure ⟨aq,.inr ⟨_,_,_,_,_,_,rfl,J4,by omega,by omega,by omega⟩⟩
       ·rw[if_neg h7]
        exact wpS_pure ⟨aq,_,_,_,_,_,_,rfl,J4,by omega,by omega,by omega⟩
     ·rw[if_neg bK]
      obtain rfl:k1=nb - 1:=by omega
      obtain⟨x4,ar⟩:=Zd (xs:=a) (i:=at_ - 1) (by omega)
      refine wpS_bind (Zj ar ?_)
      have J4:=J2.cU C (by omega) ar (fun _ y hy=>by
       have:=gZ (nb - 1 - 1) (by omega)
       try dsimp only at this
       rw[Nat.zero_add,hy]at this
       have e:x4=x3:=by rw[aQ]at ar;exact(Option.some.inj ar).symm
       rw[e]
       exact C.o.bL _ _ this)
      by_cases hz:(at_ - 1==0)=true
      ·rw[if_pos hz]
       exact wpS_pure ⟨aq,.inl ⟨_,rfl,J4.done C (.inl (by have:=beq_iff_eq.mp hz;omega))⟩⟩
      ·rw[if_neg hz]
       have aY:¬(at_ - 1=0):=fun z=>hz (beq_iff_eq.mpr z)
       by_cases h7:(decide (at_ - at_<7)&&decide (nb - 1 - (nb - 1)<7))=true
       ·rw[if_pos h7]
        exact wpS_pure ⟨aq,.inr ⟨_,_,_,_,_,_,rfl,J4,by omega,by omega,by omega⟩⟩
       ·rw[if_neg h7]
        exact wpS_pure ⟨aq,_,_,_,_,_,_,rfl,J4,by omega,by omega,by omega⟩
  ·rintro c ak ⟨fK,na,nb,out,g,ac,bc,rfl,J,i1,i2,i4⟩
   rw[Nat.max_eq_right (Nat.zero_le _)]at i4
   have la:=J'.la
   have lb:=J'.lb
   omega
  rintro c ak ⟨fK,⟨res,ec,gd⟩ |⟨oS,Ax,out,g,ac,bc,rfl,J2,k1,k2,k3⟩⟩
  ·rw[ec]
   exact wpS_pure ⟨fK,res,rfl,gd⟩
  dsimp only
  refine wpS_bind (Yu (wpS_pure ⟨fK,_,_,_,_,rfl,J2,k1,k2,by omega⟩))
end
def SI (r:Keyed→Keyed→Bool) (xs:Array Keyed) (lo hi:Nat):Prop:=∀i j x y,lo≤i→i≤j→j<hi→xs[i]? =some x→xs[j]? =some y→r y x=false
def NI (r:Keyed→Keyed→Bool) (xs:Array Keyed) (lo hi:Nat):Prop:=∀i j x y,lo≤i→i≤j→j<hi→xs[i]? =some x→xs[j]? =some y→r x y=false
def EQ (r:Keyed→Keyed→Bool) (xs:Array Keyed) (lo hi:Nat):Prop:=∀i j x y,lo≤i→i<hi→lo≤j→j<hi→xs[i]? =some x→xs[j]? =some y→r x y=false
section
variable {r:Keyed→Keyed→Bool}{xs:Array Keyed}{lo hi:Nat}
theorem SI.one (o:Ord r):SI r xs lo (lo+1):=fun i j x y h1 h2 h3 hx hy=>by
 obtain rfl:i=j:=by omega
 rw[hx]at hy;cases hy;exact o.jY _
theorem NI.one (o:Ord r):NI r xs lo (lo+1):=fun i j x y h1 h2 h3 hx hy=>by
 obtain rfl:i=j:=by omega
 rw[hx]at hy;cases hy;exact o.jY _
theorem EQ.one (o:Ord r):EQ r xs lo (lo+1):=fun i j x y h1 h2 h3 h4 hx hy=>by
 obtain rfl:i=j:=by omega
 rw[hx]at hy;cases hy;exact o.jY _
theorem SI.snoc (o:Ord r) (h:SI r xs lo hi) {p q:Keyed}(hl:lo<hi) (hp:xs[hi - 1]? =some p) (hq:xs[hi]? =some q) (hr:r q p=false):SI r xs lo (hi+1):=fun i j x y h1 h2 h3 hx hy=>by
 by_cases hj:j<hi
 ·exact h i j x y h1 h2 hj hx hy
 ·obtain rfl:j=hi:=by omega
  rw[hq]at hy;cases hy
  by_cases aS:i=j
  ·subst aS
   rw[hq]at hx;cases hx;exact o.jY _
  ·exact o.dc x p q (h i (j - 1) x p h1 (by omega) (by omega) hx hp) hr
theorem NI.snoc (o:Ord r) (h:NI r xs lo hi) {p q:Keyed}(hl:lo<hi) (hp:xs[hi - 1]? =some p) (hq:xs[hi]? =some q) (hr:r p q=false):NI r xs lo (hi+1):=fun i j x y h1 h2 h3 hx hy=>by
 by_cases hj:j<hi
 ·exact h i j x y h1 h2 hj hx hy
 ·obtain rfl:j=hi:=by omega
  rw[hq]at hy;cases hy
  by_cases aS:i=j
  ·subst aS
   rw[hq]at hx;cases hx;exact o.jY _
  ·exact o.dc q p x hr (h i (j - 1) x p h1 (by omega) (by omega) hx hp)
theorem EQ.snoc (o:Ord r) (h:EQ r xs lo hi) {p q:Keyed}(hl:lo<hi) (hp:xs[hi - 1]? =some p) (hq:xs[hi]? =some q) (hr:r p q=false) (fe:r q p=false):EQ r xs lo (hi+1):=fun i j x y h1 h2 h3 h4 hx hy=>by
 have one:∀i x,lo≤i→i<hi→xs[i]? =some x→r x q=false∧r q x=false:=fun i x h1 h2 hx=>
  ⟨o.dc q p x hr (h i (hi - 1) x p h1 h2 (by omega) (by omega) hx hp),o.dc x p q (h (hi - 1) i p x (by omega) (by omega) h1 h2 hp hx) fe⟩
 by_cases hj:j<hi
 ·by_cases aS:i<hi
  ·exact h i j x y h1 aS h3 hj hx hy
  ·obtain rfl:i=hi:=by omega
   rw[hq]at hx;cases hx
   exact(one j y h3 hj hy).2
 ·obtain rfl:j=hi:=by omega
  rw[hq]at hy;cases hy
  by_cases aS:i<j
  ·exact(one i x h1 aS hx).1
  ·obtain rfl:i=j:=by omega
   rw[hq]at hx;cases hx
   exact o.jY _
abbrev ba (xs:Array Keyed) (i j:Nat):Array Keyed:=mirror xs i j ((j - i)/2)
theorem Wd (hh:hi≤xs.size) (k:Nat):(ba xs lo hi)[k]? =if lo≤k∧k<hi then xs[lo+hi - 1 - k]? else xs[k]? :=getElem?_mirror_all hh k
theorem SI.ba (h:SI r xs lo hi) (hh:hi≤xs.size):NI r (ba xs lo hi) lo hi:=fun i j x y h1 h2 h3 hx hy=>by
 rw[Wd hh,if_pos ⟨by omega,by omega⟩]at hx hy
 exact h _ _ y x (by omega) (by omega) (by omega) hy hx
theorem NI.ba (h:NI r xs lo hi) (hh:hi≤xs.size):SI r (ba xs lo hi) lo hi:=fun i j x y h1 h2 h3 hx hy=>by
 rw[Wd hh,if_pos ⟨by omega,by omega⟩]at hx hy
 exact h _ _ y x (by omega) (by omega) (by omega) hy hx
theorem NI.rO {m:Nat}(h:NI r xs lo hi) (e:EQ r xs m hi) (hm:lo≤m) (hh:hi≤xs.size):NI r (PyProof.Rows.jH.ba xs m hi) lo hi:=fun i j x y h1 h2 h3 hx hy=>by
 rw[Wd hh]at hx hy
 by_cases hj:m≤j
 ·rw[if_pos ⟨hj,h3⟩]at hy
  by_cases aS:m≤i
  ·rw[if_pos ⟨aS,by omega⟩]at hx
   exact e _ _ x y (by omega) (by omega) (by omega) (by omega) hx hy
  ·rw[if_neg (by omega)]at hx
   exact h i _ x y h1 (by omega) (by omega) hx hy
 ·rw[if_neg (by omega)]at hx hy
  exact h i j x y h1 h2 h3 hx hy
theorem Wc {m:Nat}(hh:hi≤xs.size) (hm:m<hi) {p:Keyed}(hp:(ba xs m hi)[hi - 1]? =some p):xs[m]? =some p:=by
 rw[Wd hh,if_pos ⟨by omega,by omega⟩,show m+hi - 1 - (hi - 1)=m by omega]at hp
 exact hp
theorem JQ (hh:hi≤xs.size) {k:Nat}(h:k<lo∨hi≤k):(ba xs lo hi)[k]? =xs[k]? :=by rw[Wd hh,if_neg (by omega)]
end
structure CB (a₀:Array Keyed) (κ:SortKind) (lo:Nat) (st aa:SortSt):Prop where
 kind:kindOf aa=κ
 pend:pendingOf aa=pendingOf st
 fail:failedOf aa=failedOf st
 perm:(arrOf aa).Perm a₀
 pre:∀k,k<lo→(arrOf aa)[k]? =(arrOf st)[k]?
theorem CB.size {a₀:Array Keyed}{κ:SortKind}{lo:Nat}{st aa:SortSt}(h:CB a₀ κ lo st aa):(arrOf aa).size=a₀.size:=h.perm.size_eq
theorem CB.mem {a₀:Array Keyed}{κ:SortKind}{lo:Nat}{st aa:SortSt}(h:CB a₀ κ lo st aa) {i:Nat}{x:Keyed}(hx:(arrOf aa)[i]? =some x):x∈a₀.toList:=(Array.perm_iff_toList_perm.mp h.perm).mem_iff.mp (Zr hx)
theorem CB.rev {a₀:Array Keyed}{κ:SortKind}{lo m hi:Nat}{st aa:SortSt}(h:CB a₀ κ lo st aa) (hm:lo≤m) (hh:hi≤a₀.size):CB a₀ κ lo st (setArr aa (ba (arrOf aa) m hi)):=
 ⟨h.kind,h.pend,h.fail,(mirror_perm _ _ _ _).trans h.perm,fun k hk=>by
  show(ba (arrOf aa) m hi)[k]? =_
  rw[JQ (by rw[h.size];exact hh) (.inl (by omega))]
  exact h.pre k hk⟩
section
variable {prog:Program}{w:World}{A:Around}{E:Value→Shared→Prop}{s:Shared}{κ:SortKind}{a₀:Array Keyed}{r:Keyed→Keyed→Bool}
theorem Z2 {st aa:SortSt}{lo i j:Nat}{x y:Keyed}{Q:Option Bool→SortSt→Prop}(hc:iI prog w A E s κ a₀ r) (B:CB a₀ κ lo st aa) (hx:(arrOf aa)[i]? =some x) (hy:(arrOf aa)[j]? =some y) (h:Q (some (r x y)) aa):wpS (model prog w) A E s (ltAt' i j) Q aa:=by
 rw[ltAt'_eq]
 exact wpS_bind (wpS_get (wpS_bind (Zj hx (wpS_bind (Zj hy (hc _ _ _ _ (B.mem hx) (B.mem hy) B.kind h))))))
theorem Z1 {st:SortSt}{i j:Nat}{Q:Unit→SortSt→Prop}(h:Q () (setArr st (ba (arrOf st) i j))):wpS (model prog w) A E s (reverseSlice' i j) Q st:=by
 rw[reverseSlice'_eq]
 exact wpS_modify h
theorem EQ.mY {xs:Array Keyed}{lo hi:Nat}(o:Ord r) (h:hi=lo+1):EQ r xs lo hi:=by subst h;exact EQ.one o
theorem Wz {st:SortSt}{lo bF:Nat}{Q:Option Nat→SortSt→Prop}(o:Ord r) (hc:iI prog w A E s κ a₀ r) (B0:CB a₀ κ lo st st) (h1:1≤bF) (hz:lo+bF≤a₀.size)
  (h:∀n aa,CB a₀ κ lo st aa→1≤n→n≤bF→SI r (arrOf aa) lo (lo+n)→Q (some n) aa):wpS (model prog w) A E s (countRun' lo bF) Q st:=by
 rw[countRun'_eq]
 dsimp only
 have z0:=B0.size
 refine wpS_bind (wpS_mono (wpS_forRange (I:=fun y c aa=>aa=st∧c=(none,y)∧SI r (arrOf st) lo (lo+y))
  (Q:=fun c aa=>aa=st∧∃n,c=(none,n)∧1≤n∧n≤bF∧SI r (arrOf st) lo (lo+n)∧(n=bF∨∃p q,(arrOf st)[lo+n - 1]? =some p∧(arrOf st)[lo+n]? =some q∧r q p=true)) ?_ ?_ ⟨rfl,rfl,SI.one o⟩) ?_)
 ·rintro y c aa iT aX ⟨rfl,rfl,S⟩
  dsimp only
  obtain⟨p,hp⟩:=Zd (xs:=arrOf aa) (i:=lo+y - 1) (by omega)
  obtain⟨q,hq⟩:=Zd (xs:=arrOf aa) (i:=lo+y) (by omega)
  refine wpS_bind (Z2 hc B0 hq hp ?_)
  cases hr:r q p with
  |true=>exact wpS_pure ⟨rfl,y,rfl,iT,by omega,S,.inr ⟨p,q,hp,hq,hr⟩⟩
  |false=>exact wpS_pure ⟨rfl,rfl,S.snoc (hi:=lo+y) o (by omega) hp hq hr⟩
 ·rintro c aa ⟨rfl,rfl,S⟩
  have e9:max 1 bF=bF:=Nat.max_eq_right h1
  rw[e9]at S
  exact⟨rfl,bF,by rw[e9],h1,Nat.le_refl _,S,.inl rfl⟩
 rintro c aa ⟨rfl,n,rfl,n1,n2,S,hn⟩
 dsimp only
 by_cases fN:(n==bF)=true
 ·rw[if_pos fN]
  exact wpS_pure (h n aa B0 n1 n2 S)
 rw[if_neg fN]
 have Kl:¬(n=bF):=fun z=>fN (beq_iff_eq.mpr z)
 rcases hn with hn |⟨p,q,hp,hq,hr⟩
 ·exact absurd hn Kl
 by_cases sD:n>1
 ·rw[if_pos sD]
  obtain⟨f,hf⟩:=Zd (xs:=arrOf aa) (i:=lo) (by omega)
  refine wpS_bind (Z2 hc B0 hf hp ?_)
  cases IW:r f p with
  |true=>exact wpS_pure (h n aa B0 n1 n2 S)
  |false=>
   dsimp only
   rw[if_neg Bool.false_ne_true]
   refine wpS_bind (Z1 ?_)
   have B1:=B0.rev (m:=lo) (hi:=lo+n) (Nat.le_refl _) (by omega)
   have N1:NI r (ba (arrOf aa) lo (lo+n)) lo (lo+n):=S.ba (by omega)
   obtain⟨p1,nG⟩:=Zd (xs:=ba (arrOf aa) lo (lo+n)) (i:=lo+n - 1) (by rw[mirror_size];omega)
   have Ba:=Wc (by omega) (by omega) nG
   rw[hf]at Ba
   cases Ba
   have ff:(ba (arrOf aa) lo (lo+n))[lo+n]? =some q:=by rw[JQ (by omega) (.inr (Nat.le_refl _))];exact hq
   have tX:NI r (arrOf (setArr aa (ba (arrOf aa) lo (lo+n)))) lo (lo+(n+1)):=N1.snoc (hi:=lo+n) o (by omega) nG ff (o.dc q p f (o.bL _ _ hr) IW)
   generalize setArr aa (ba (arrOf aa) lo (lo+n))=av at B1 tX
   refine wpS_bind (wpS_lift (wpAny_rule ⟨rfl,?_⟩))
   refine wpS_bind (wpS_mono (wpS_forRange (I:=fun y c stx=>CB a₀ κ lo aa stx∧∃aO,c=(none,y,aO)∧NI r (arrOf stx) lo (lo+y)∧aO+1≤y∧EQ r (arrOf stx) (lo+y - (aO+1)) (lo+y))
    (Q:=fun c stx=>CB a₀ κ lo aa stx∧∃m aO,c=(none,m,aO)∧n+1≤m∧m≤bF∧NI r (arrOf stx) lo (lo+m)∧aO+1≤m∧EQ r (arrOf stx) (lo+m - (aO+1)) (lo+m)) ?_ ?_ ⟨B1,0,rfl,tX,by omega,EQ.mY o (by omega)⟩) ?_)
   ·rintro y c ak iT aX ⟨B2,aO,rfl,N2,g1,e2⟩
    dsimp only
    have z2:=B2.size
    obtain⟨p2,cV⟩:=Zd (xs:=arrOf ak) (i:=lo+y - 1) (by omega)
    obtain⟨q2,bJ⟩:=Zd (xs:=arrOf ak) (i:=lo+y) (by omega)
    refine wpS_bind (Z2 hc B2 bJ cV ?_)
    cases fe:r q2 p2 with
    |true=>
     dsimp only
     rw[if_pos rfl]
     by_cases hW:aO>0
     ·rw[if_pos hW]
      refine wpS_bind (Z1 ?_)
      have B3:=B2.rev (m:=lo+y - (aO+1)) (hi:=lo+y) (by omega) (by omega)
      have N3:NI r (ba (arrOf ak) (lo+y - (aO+1)) (lo+y)) lo (lo+y):=N2.rO e2 (by omega) (by omega)
      obtain⟨p3,j8⟩:=Zd (xs:=ba (arrOf ak) (lo+y - (aO+1)) (lo+y)) (i:=lo+y - 1) (by rw[mirror_size];omega)
      have wx:=Wc (by omega) (by omega) j8
      have wq:(ba (arrOf ak) (lo+y - (aO+1)) (lo+y))[lo+y]? =some q2:=by rw[JQ (by omega) (.inr (Nat.le_refl _))];exact bJ
      have h3:r p3 q2=false:=o.dc q2 p2 p3 (o.bL _ _ fe) (e2 _ _ p3 p2 (Nat.le_refl _) (by omega) (by omega) (by omega) wx cV)
      exact wpS_pure ⟨B3,0,rfl,N3.snoc (hi:=lo+y) o (by omega) j8 wq h3,by omega,EQ.mY o (by omega)⟩
     ·rw[if_neg hW]
      exact wpS_pure ⟨B2,0,rfl,N2.snoc (hi:=lo+y) o (by omega) cV bJ (o.bL _ _ fe),by omega,EQ.mY o (by omega)⟩
    |false=>
     dsimp only
     rw[if_neg Bool.false_ne_true]
     refine wpS_bind (Z2 hc B2 cV bJ ?_)
     cases pC:r p2 q2 with
     |true=>exact wpS_pure ⟨B2,y,aO,rfl,by omega,by omega,N2,g1,e2⟩
     |false=>
      refine wpS_pure ⟨B2,aO+1,rfl,N2.snoc (hi:=lo+y) o (by omega) cV bJ pC,by omega,?_⟩
      have:=e2.snoc (hi:=lo+y) o (by omega) cV bJ pC fe
      rw[show lo+(y+1) - (aO+1+1)=lo+y - (aO+1) by omega]
      exact this
   ·rintro c ak ⟨B2,aO,rfl,N2,g1,e2⟩
    have e9:max (n+1) bF=bF:=Nat.max_eq_right (by omega)
    rw[e9]at N2 g1 e2
    exact⟨B2,bF,aO,by rw[e9],by omega,by omega,N2,g1,e2⟩
   rintro c aU ⟨B3,m,aO,rfl,m1,m2,N3,g3,e3⟩
   dsimp only
   have z3:=B3.size
   by_cases hW:aO>0
   ·rw[if_pos hW]
    refine wpS_bind (Z1 ?_)
    have B4:=B3.rev (m:=lo+m - (aO+1)) (hi:=lo+m) (by omega) (by omega)
    have N4:NI r (arrOf (setArr aU (ba (arrOf aU) (lo+m - (aO+1)) (lo+m)))) lo (lo+m):=N3.rO e3 (by omega) (by omega)
    generalize setArr aU (ba (arrOf aU) (lo+m - (aO+1)) (lo+m))=eR at B4 N4
    refine wpS_bind (Z1 ?_)
    have B9:=B4.rev (m:=lo) (hi:=lo+m) (Nat.le_refl _) (by omega)
    have S9:SI r (arrOf (setArr eR (ba (arrOf eR) lo (lo+m)))) lo (lo+m):=NI.ba N4 (by rw[B4.size];omega)
    generalize setArr eR (ba (arrOf eR) lo (lo+m))=gR at B9 S9
    have z9:=B9.size
    refine wpS_bind (wpS_forRange (I:=fun y c stx=>stx=gR∧c=(none,y)∧SI r (arrOf gR) lo (lo+y)) ?_ ?_ ⟨rfl,rfl,S9⟩)
    ·rintro y c stx iT aX ⟨rfl,rfl,S⟩
     dsimp only
     obtain⟨p9,hX⟩:=Zd (xs:=arrOf stx) (i:=lo+y - 1) (by omega)
     obtain⟨q9,hV⟩:=Zd (xs:=arrOf stx) (i:=lo+y) (by omega)
     refine wpS_bind (Z2 hc B9 hV hX ?_)
     cases lF:r q9 p9 with
     |true=>exact wpS_pure (wpS_pure (h y stx B9 (by omega) (by omega) S))
     |false=>exact wpS_pure ⟨rfl,rfl,S.snoc (hi:=lo+y) o (by omega) hX hV lF⟩
    ·rintro c stx ⟨rfl,rfl,S⟩
     rw[Nat.max_eq_right (by omega)]at S
     have e9:max m bF=bF:=Nat.max_eq_right (by omega)
     dsimp only
     rw[e9]
     exact wpS_pure (h bF stx B9 (by omega) (by omega) S)
   ·rw[if_neg hW]
    refine wpS_bind (Z1 ?_)
    have B9:=B3.rev (m:=lo) (hi:=lo+m) (Nat.le_refl _) (by omega)
    have S9:SI r (arrOf (setArr aU (ba (arrOf aU) lo (lo+m)))) lo (lo+m):=NI.ba N3 (by rw[B3.size];omega)
    generalize setArr aU (ba (arrOf aU) lo (lo+m))=gR at B9 S9
    have z9:=B9.size
    refine wpS_bind (wpS_forRange (I:=fun y c stx=>stx=gR∧c=(none,y)∧SI r (arrOf gR) lo (lo+y)) ?_ ?_ ⟨rfl,rfl,S9⟩)
    ·rintro y c stx iT aX ⟨rfl,rfl,S⟩
     dsimp only
     obtain⟨p9,hX⟩:=Zd (xs:=arrOf stx) (i:=lo+y - 1) (by omega)
     obtain⟨q9,hV⟩:=Zd (xs:=arrOf stx) (i:=lo+y) (by omega)
     refine wpS_bind (Z2 hc B9 hV hX ?_)
     cases lF:r q9 p9 with
     |true=>exact wpS_pure (wpS_pure (h y stx B9 (by omega) (by omega) S))
     |false=>exact wpS_pure ⟨rfl,rfl,S.snoc (hi:=lo+y) o (by omega) hX hV lF⟩
    ·rintro c stx ⟨rfl,rfl,S⟩
     rw[Nat.max_eq_right (by omega)]at S
     have e9:max m bF=bF:=Nat.max_eq_right (by omega)
     dsimp only
     rw[e9]
     exact wpS_pure (h bF stx B9 (by omega) (by omega) S)
 ·rw[if_neg sD]
  obtain rfl:n=1:=by omega
  have tX:NI r (arrOf aa) lo (lo+(1+1)):=(NI.one o).snoc (hi:=lo+1) o (by omega) hp hq (o.bL _ _ hr)
  refine wpS_bind (wpS_lift (wpAny_rule ⟨rfl,?_⟩))
  refine wpS_bind (wpS_mono (wpS_forRange (I:=fun y c stx=>CB a₀ κ lo aa stx∧∃aO,c=(none,y,aO)∧NI r (arrOf stx) lo (lo+y)∧aO+1≤y∧EQ r (arrOf stx) (lo+y - (aO+1)) (lo+y))
   (Q:=fun c stx=>CB a₀ κ lo aa stx∧∃m aO,c=(none,m,aO)∧1+1≤m∧m≤bF∧NI r (arrOf stx) lo (lo+m)∧aO+1≤m∧EQ r (arrOf stx) (lo+m - (aO+1)) (lo+m)) ?_ ?_ ⟨B0,0,rfl,tX,by omega,EQ.mY o (by omega)⟩) ?_)
  ·rintro y c ak iT aX ⟨B2,aO,rfl,N2,g1,e2⟩
   dsimp only
   have z2:=B2.size
   obtain⟨p2,cV⟩:=Zd (xs:=arrOf ak) (i:=lo+y - 1) (by omega)
   obtain⟨q2,bJ⟩:=Zd (xs:=arrOf ak) (i:=lo+y) (by omega)
   refine wpS_bind (Z2 hc B2 bJ cV ?_)
   cases fe:r q2 p2 with
   |true=>
    dsimp only
    rw[if_pos rfl]
    by_cases hW:aO>0
    ·rw[if_pos hW]
     refine wpS_bind (Z1 ?_)
     have B3:=B2.rev (m:=lo+y - (aO+1)) (hi:=lo+y) (by omega) (by omega)
     have N3:NI r (ba (arrOf ak) (lo+y - (aO+1)) (lo+y)) lo (lo+y):=N2.rO e2 (by omega) (by omega)
     obtain⟨p3,j8⟩:=Zd (xs:=ba (arrOf ak) (lo+y - (aO+1)) (lo+y)) (i:=lo+y - 1) (by rw[mirror_size];omega)
     have wx:=Wc (by omega) (by omega) j8
     have wq:(ba (arrOf ak) (lo+y - (aO+1)) (lo+y))[lo+y]? =some q2:=by rw[JQ (by omega) (.inr (Nat.le_refl _))];exact bJ
     have h3:r p3 q2=false:=o.dc q2 p2 p3 (o.bL _ _ fe) (e2 _ _ p3 p2 (Nat.le_refl _) (by omega) (by omega) (by omega) wx cV)
     exact wpS_pure ⟨B3,0,rfl,N3.snoc (hi:=lo+y) o (by omega) j8 wq h3,by omega,EQ.mY o (by omega)⟩
    ·rw[if_neg hW]
     exact wpS_pure ⟨B2,0,rfl,N2.snoc (hi:=lo+y) o (by omega) cV bJ (o.bL _ _ fe),by omega,EQ.mY o (by omega)⟩
   |false=>
    dsimp only
    rw[if_neg Bool.false_ne_true]
    refine wpS_bind (Z2 hc B2 cV bJ ?_)
    cases pC:r p2 q2 with
    |true=>exact wpS_pure ⟨B2,y,aO,rfl,by omega,by omega,N2,g1,e2⟩
    |false=>
     refine wpS_pure ⟨B2,aO+1,rfl,N2.snoc (hi:=lo+y) o (by omega) cV bJ pC,by omega,?_⟩
     have:=e2.snoc (hi:=lo+y) o (by omega) cV bJ pC fe
     rw[show lo+(y+1) - (aO+1+1)=lo+y - (aO+1) by omega]
     exact this
  ·rintro c ak ⟨B2,aO,rfl,N2,g1,e2⟩
   have e9:max (1+1) bF=bF:=Nat.max_eq_right (by omega)
   rw[e9]at N2 g1 e2
   exact⟨B2,bF,aO,by rw[e9],by omega,by omega,N2,g1,e2⟩
  rintro c aU ⟨B3,m,aO,rfl,m1,m2,N3,g3,e3⟩
  dsimp only
  have z3:=B3.size
  by_cases hW:aO>0
  ·rw[if_pos hW]
   refine wpS_bind (Z1 ?_)
   have B4:=B3.rev (m:=lo+m - (aO+1)) (hi:=lo+m) (by omega) (by omega)
   have N4:NI r (arrOf (setArr aU (ba (arrOf aU) (lo+m - (aO+1)) (lo+m)))) lo (lo+m):=N3.rO e3 (by omega) (by omega)
   generalize setArr aU (ba (arrOf aU) (lo+m - (aO+1)) (lo+m))=eR at B4 N4
   refine wpS_bind (Z1 ?_)
   have B9:=B4.rev (m:=lo) (hi:=lo+m) (Nat.le_refl _) (by omega)
   have S9:SI r (arrOf (setArr eR (ba (arrOf eR) lo (lo+m)))) lo (lo+m):=NI.ba N4 (by rw[B4.size];omega)
   generalize setArr eR (ba (arrOf eR) lo (lo+m))=gR at B9 S9
   have z9:=B9.size
   refine wpS_bind (wpS_forRange (I:=fun y c stx=>stx=gR∧c=(none,y)∧SI r (arrOf gR) lo (lo+y)) ?_ ?_ ⟨rfl,rfl,S9⟩)
   ·rintro y c stx iT aX ⟨rfl,rfl,S⟩
    dsimp only
    obtain⟨p9,hX⟩:=Zd (xs:=arrOf stx) (i:=lo+y - 1) (by omega)
    obtain⟨q9,hV⟩:=Zd (xs:=arrOf stx) (i:=lo+y) (by omega)
    refine wpS_bind (Z2 hc B9 hV hX ?_)
    cases lF:r q9 p9 with
    |true=>exact wpS_pure (wpS_pure (h y stx B9 (by omega) (by omega) S))
    |false=>exact wpS_pure ⟨rfl,rfl,S.snoc (hi:=lo+y) o (by omega) hX hV lF⟩
   ·rintro c stx ⟨rfl,rfl,S⟩
    rw[Nat.max_eq_right (by omega)]at S
    have e9:max m bF=bF:=Nat.max_eq_right (by omega)
    dsimp only
    rw[e9]
    exact wpS_pure (h bF stx B9 (by omega) (by omega) S)
  ·rw[if_neg hW]
   refine wpS_bind (Z1 ?_)
   have B9:=B3.rev (m:=lo) (hi:=lo+m) (Nat.le_refl _) (by omega)
   have S9:SI r (arrOf (setArr aU (ba (arrOf aU) lo (lo+m)))) lo (lo+m):=NI.ba N3 (by rw[B3.size];omega)
   generalize setArr aU (ba (arrOf aU) lo (lo+m))=gR at B9 S9
   have z9:=B9.size
   refine wpS_bind (wpS_forRange (I:=fun y c stx=>stx=gR∧c=(none,y)∧SI r (arrOf gR) lo (lo+y)) ?_ ?_ ⟨rfl,rfl,S9⟩)
   ·rintro y c stx iT aX ⟨rfl,rfl,S⟩
    dsimp only
    obtain⟨p9,hX⟩:=Zd (xs:=arrOf stx) (i:=lo+y - 1) (by omega)
    obtain⟨q9,hV⟩:=Zd (xs:=arrOf stx) (i:=lo+y) (by omega)
    refine wpS_bind (Z2 hc B9 hV hX ?_)
    cases lF:r q9 p9 with
    |true=>exact wpS_pure (wpS_pure (h y stx B9 (by omega) (by omega) S))
    |false=>exact wpS_pure ⟨rfl,rfl,S.snoc (hi:=lo+y) o (by omega) hX hV lF⟩
   ·rintro c stx ⟨rfl,rfl,S⟩
    rw[Nat.max_eq_right (by omega)]at S
    have e9:max m bF=bF:=Nat.max_eq_right (by omega)
    dsimp only
    rw[e9]
    exact wpS_pure (h bF stx B9 (by omega) (by omega) S)
theorem Np {x y z:Keyed}(o:Ord r) (h:r z x=true) (h2:r y x=false):r z y=true:=by
 cases e:r z y with
 |true=>rfl
 |false=>
  have:=o.dc x y z h2 e
  rw[h]at this
  cases this
theorem PN {st:SortSt}{i j:Nat}{Q:Unit→SortSt→Prop}(h:Q () (setArr st (bubble (arrOf st) i (i - j)))):wpS (model prog w) A E s (moveDown' i j) Q st:=by
 rw[moveDown'_eq]
 exact wpS_modify h
theorem SI.put {xs:Array Keyed}{lo k l:Nat}{q:Keyed}(o:Ord r) (S:SI r xs lo (lo+k)) (hq:xs[lo+k]? =some q) (hl:l≤k) (h1:∀i x,i<l→xs[lo+i]? =some x→r q x=false) (h2:∀i x,l≤i→i<k→xs[lo+i]? =some x→r q x=true):SI r (bubble xs (lo+k) (lo+k - (lo+l))) lo (lo+(k+1)):=by
 have hs:lo+k<xs.size:=(Array.getElem?_eq_some_iff.mp hq).1
 intro i j x y g1 g2 g3 hx hy
 rw[getElem?_bubble hs _ (by omega)]at hx hy
 rw[show lo+k - (lo+k - (lo+l))=lo+l by omega]at hx hy
 by_cases ei:i=lo+l
 ·rw[if_pos ei,hq]at hx
  cases hx
  by_cases ej:j=lo+l
  ·rw[if_pos ej,hq]at hy
   cases hy
   exact o.jY _
  ·rw[if_neg ej,if_pos (by omega)]at hy
   exact o.bL _ _ (h2 (j - 1 - lo) y (by omega) (by omega) (by rw[show lo+(j - 1 - lo)=j - 1 by omega];exact hy))
 ·rw[if_neg ei]at hx
  by_cases ej:j=lo+l
  ·rw[if_pos ej,hq]at hy
   cases hy
   rw[if_neg (by omega)]at hx
   exact h1 (i - lo) x (by omega) (by rw[show lo+(i - lo)=i by omega];exact hx)
  ·rw[if_neg ej]at hy
   by_cases gi:lo+l<i
   ·rw[if_pos (by omega)]at hx hy
    exact S (i - 1) (j - 1) x y (by omega) (by omega) (by omega) hx hy
   ·rw[if_neg (by omega)]at hx
    by_cases gj:lo+l<j
    ·rw[if_pos (by omega)]at hy
     exact S i (j - 1) x y (by omega) (by omega) (by omega) hx hy
    ·rw[if_neg (by omega)]at hy
     exact S i j x y (by omega) (by omega) (by omega) hx hy
theorem JJ {st eT:SortSt}{lo n ok:Nat}{Q:Bool→SortSt→Prop}(o:Ord r) (hc:iI prog w A E s κ a₀ r) (B0:CB a₀ κ lo eT st) (h1:1≤ok) (hn:ok≤n) (hz:lo+n≤a₀.size) (S0:SI r (arrOf st) lo (lo+ok))
  (h:∀aa,CB a₀ κ lo eT aa→SI r (arrOf aa) lo (lo+n)→Q true aa):wpS (model prog w) A E s (binarySort' lo n ok) Q st:=by
 rw[binarySort'_eq]
 dsimp only
 rw[Nat.max_eq_left h1]
 refine wpS_bind (wpS_forRange (I:=fun k c aa=>c=(none,())∧CB a₀ κ lo eT aa∧SI r (arrOf aa) lo (lo+k)) ?_ ?_ ⟨rfl,B0,S0⟩)
 ·rintro k c av bK Bn ⟨rfl,B1,S1⟩
  try dsimp only
  have z1:=B1.size
  obtain⟨q,hq⟩:=Zd (xs:=arrOf av) (i:=lo+k) (by omega)
  refine wpS_bind (wpS_mono (wpS_forRange (I:=fun y c aa=>aa=av∧∃l u,c=(none,l,u)∧l≤u∧u≤k∧(∀i x,i<l→(arrOf av)[lo+i]? =some x→r q x=false)∧(∀i x,u≤i→i<k→(arrOf av)[lo+i]? =some x→r q x=true)∧u - l≤k - y)
   (Q:=fun c aa=>aa=av∧∃l u,c=(none,l,u)∧l≤k∧(∀i x,i<l→(arrOf av)[lo+i]? =some x→r q x=false)∧(∀i x,l≤i→i<k→(arrOf av)[lo+i]? =some x→r q x=true)) ?_ ?_ ⟨rfl,0,k,rfl,by omega,by omega,fun i x hi=>absurd hi (by omega),fun i x g1 g2=>absurd g2 (by omega),by omega⟩) ?_)
  ·rintro y c aa _ hy ⟨rfl,l,u,rfl,g1,g2,g3,g4,g5⟩
   dsimp only
   by_cases bu:l≥u
   ·rw[if_pos bu]
    exact wpS_pure ⟨rfl,l,u,rfl,by omega,g3,fun i x g6=>g4 i x (by omega)⟩
   ·rw[if_neg bu]
    have hm:(l+u)/2<u:=by omega
    have pJ:l≤(l+u)/2:=by omega
    generalize (l+u)/2=m at hm pJ
    obtain⟨p,hp⟩:=Zd (xs:=arrOf aa) (i:=lo+m) (by omega)
    refine wpS_bind (Z2 hc B1 hq hp ?_)
    cases hr:r q p with
    |true=>
     refine wpS_pure ⟨rfl,l,m,rfl,pJ,by omega,g3,fun i x g6 g7 hx=> ?_,by omega⟩
     exact Np o hr (S1 (lo+m) (lo+i) p x (by omega) (by omega) (by omega) hp hx)
    |false=>
     refine wpS_pure ⟨rfl,m+1,u,rfl,by omega,g2,fun i x g6 hx=> ?_,g4,by omega⟩
     exact o.dc x p q (S1 (lo+i) (lo+m) x p (by omega) (by omega) (by omega) hx hp) hr
  ·rintro c aa ⟨rfl,l,u,rfl,g1,g2,g3,g4,g5⟩
   rw[Nat.max_eq_right (Nat.zero_le _)]at g5
   exact⟨rfl,l,u,rfl,by omega,g3,fun i x g6=>g4 i x (by omega)⟩
  rintro c aa ⟨rfl,l,u,rfl,g1,g3,g4⟩
  dsimp only
  refine wpS_bind (PN (wpS_pure ⟨rfl,⟨B1.kind,B1.pend,B1.fail,(bubble_perm _ _ _).trans B1.perm,fun i hi=> ?_⟩,S1.put o hq g1 g3 g4⟩))
  show(bubble (arrOf aa) (lo+k) (lo+k - (lo+l)))[i]? =_
  rw[getElem?_bubble (by omega) _ (by omega),if_neg (by omega),if_neg (by omega)]
  exact B1.pre i hi
 ·rintro c av ⟨rfl,B1,S1⟩
  rw[Nat.max_eq_right hn]at S1
  exact wpS_pure (h av B1 S1)
end
def seg (L:List Keyed) (s n:Nat):List Keyed:=(L.drop s).take n
theorem YD {L:List Keyed}{s n i:Nat}(h:i<n):(seg L s n)[i]? =L[s+i]? :=by
 unfold seg
 rw[List.getElem?_take_of_lt h,List.getElem?_drop]
theorem DF {L:List Keyed}{s n:Nat}(h:s+n≤L.length):(seg L s n).length=n:=by
 unfold seg
 rw[List.length_take,List.length_drop];omega
theorem SI.pw {r:Keyed→Keyed→Bool}{xs:Array Keyed}{lo n:Nat}(h:SI r xs lo (lo+n)):Pw r (seg xs.toList lo n):=by
 unfold Pw
 rw[List.pairwise_iff_getElem]
 intro i j hi hj cz
 have hn:j<n:=by unfold seg at hj;rw[List.length_take]at hj;omega
 have e1:(seg xs.toList lo n)[i]? =some (seg xs.toList lo n)[i]:=List.getElem?_eq_getElem hi
 have e2:(seg xs.toList lo n)[j]? =some (seg xs.toList lo n)[j]:=List.getElem?_eq_getElem hj
 rw[YD (by omega),Array.getElem?_toList]at e1
 rw[YD hn,Array.getElem?_toList]at e2
 exact h (lo+i) (lo+j) _ _ (by omega) (by omega) (by omega) e1 e2
def Runs (r:Keyed→Keyed→Bool) (L:List Keyed):List (Nat×Nat×Nat)→Nat→Nat→Prop
 | [],p,q=>p=q
 |x::rest,p,q=>x.1=p∧1≤x.2.1∧Pw r (seg L x.1 x.2.1)∧Runs r L rest (p+x.2.1) q
section
variable {r:Keyed→Keyed→Bool}{L L':List Keyed}
theorem Runs.le:∀{ps:List (Nat×Nat×Nat)}{p q:Nat},Runs r L ps p q→p+ps.length≤q
 | [],_,_,h=>by cases h;exact Nat.le_refl _
 |x::ps,p,q,h=>by
  have:=Runs.le h.2.2.2
  have:=h.2.1
  rw[List.length_cons]
  omega
theorem Runs.app:∀{l1 l2:List (Nat×Nat×Nat)}{p q:Nat},Runs r L (l1++l2) p q↔∃m,Runs r L l1 p m∧Runs r L l2 m q
 | [],l2,p,q=> ⟨fun h=> ⟨p,rfl,h⟩,fun⟨m,h1,h2⟩=>by cases h1;exact h2⟩
 |x::l1,l2,p,q=>by
  constructor
  ·rintro⟨h1,h2,h3,h4⟩
   obtain⟨m,g1,g2⟩:=Runs.app.mp h4
   exact⟨m,⟨h1,h2,h3,g1⟩,g2⟩
  ·rintro⟨m,⟨h1,h2,h3,g1⟩,g2⟩
   exact⟨h1,h2,h3,Runs.app.mpr ⟨m,g1,g2⟩⟩
theorem Runs.congr:∀{ps:List (Nat×Nat×Nat)}{p q:Nat},Runs r L ps p q→(∀s n,p≤s→s+n≤q→seg L s n=seg L' s n)→Runs r L' ps p q
 | [],_,_,h,_=>h
 |x::ps,p,q,⟨h1,h2,h3,h4⟩,e=>by
  have:=Runs.le h4
  refine⟨h1,h2,?_,Runs.congr h4 fun s n g1 g2=>e s n (by omega) g2⟩
  rw[←e x.1 x.2.1 (by omega) (by omega)]
  exact h3
theorem DG {m s n:Nat}(h:L.take m=L'.take m) (hs:s+n≤m):seg L s n=seg L' s n:=by
 have key:∀M:List Keyed,seg M s n=seg (M.take m) s n:=fun M=>by
  unfold seg
  rw[List.drop_take,List.take_take,Nat.min_eq_left (by omega)]
 rw[key L,key L',h]
theorem JY {m s n:Nat}(h:L.drop m=L'.drop m) (hs:m≤s):seg L s n=seg L' s n:=by
 have key:∀M:List Keyed,seg M s n=((M.drop m).drop (s - m)).take n:=fun M=>by
  unfold seg
  rw[List.drop_drop,show m+(s - m)=s by omega]
 rw[key L,key L',h]
theorem P8 {A B M:List Keyed}{k n:Nat}(o:Ord r) (sA:Pw r A) (sB:Pw r B) (hM:M.Perm (A.drop k++B.take n)) (sM:Pw r M) (h1:∀x∈A.take k,∀y∈B,r y x=false) (h2:∀z∈A,∀w∈B.drop n,r w z=false):Pw r (A.take k++(M++B.drop n)):=by
 have pa:Pw r (A.take k):=List.Pairwise.sublist (List.take_sublist _ _) sA
 have pb:Pw r (B.drop n):=List.Pairwise.sublist (List.drop_sublist _ _) sB
 have FO:Pw r (A.take k++A.drop k):=by rw[List.take_append_drop];exact sA
 have FN:Pw r (B.take n++B.drop n):=by rw[List.take_append_drop];exact sB
 refine List.pairwise_append.mpr ⟨pa,List.pairwise_append.mpr ⟨sM,pb,fun z hz w hw=> ?_⟩,fun x hx z hz=> ?_⟩
 ·rcases List.mem_append.mp (hM.mem_iff.mp hz) with hz |hz
  ·exact h2 z (List.mem_of_mem_drop hz) w hw
  ·exact(List.pairwise_append.mp FN).2.2 z hz w hw
 ·rcases List.mem_append.mp hz with hz |hz
  ·rcases List.mem_append.mp (hM.mem_iff.mp hz) with hz |hz
   ·exact(List.pairwise_append.mp FO).2.2 x hx z hz
   ·exact h1 x hx z (List.mem_of_mem_take hz)
  ·exact h1 x hx z (List.mem_of_mem_drop hz)
theorem DC (off:Nat):∀(M:List Keyed) (j:Nat) (xs:Array Keyed),off+j+M.length≤xs.size→((M.zipIdx j).foldl (fun a x=>a.setIfInBounds (off+x.snd) x.fst) xs).toList=xs.toList.take (off+j)++(M++xs.toList.drop (off+j+M.length))
 | [],j,xs,_=>by
  show xs.toList=_
  rw[List.nil_append,List.length_nil,Nat.add_zero,List.take_append_drop]
 |m::M,j,xs,h=>by
  rw[List.length_cons]at h
  rw[List.zipIdx_cons,List.foldl_cons,DC off M (j+1) _ (by rw[Array.size_setIfInBounds];omega),Array.toList_setIfInBounds]
  have hl:off+j<xs.toList.length:=by rw[Array.length_toList];omega
  rw[List.drop_set_of_lt (by omega),←Nat.add_assoc,List.take_add_one,List.take_set_of_le (Nat.le_refl _),List.getElem?_set_self hl]
  rw[List.append_assoc,List.length_cons,show off+j+1+M.length=off+j+(M.length+1) by omega]
  rfl
end
section
variable {prog:Program}{w:World}{A:Around}{E:Value→Shared→Prop}{s:Shared}{κ:SortKind}{a₀:Array Keyed}{r:Keyed→Keyed→Bool}
theorem Ph {st aa:SortSt}{Q:PUnit→SortSt→Prop}(h:Q ⟨⟩ aa):wpS (model prog w) A E s (set aa:StateT SortSt Sem PUnit) Q st:=by
 unfold wpS
 exact wpAny_pure ⟨rfl,h⟩
theorem Pg {α:Type}{m:StateT SortSt Sem α}{Q:α→SortSt→Prop}{st:SortSt}(P:SortSt→Prop) (hp:P st) (h:∀eT,P eT→wpS (model prog w) A E s m Q eT):wpS (model prog w) A E s m Q st:=h st hp
theorem UM {st:SortSt}{i:Nat}{Q:Bool→SortSt→Prop}(o:Ord r) (hc:iI prog w A E s κ a₀ r) (hk:kindOf st=κ) (hP:(arrOf st).Perm a₀) (hF:failedOf st=none) {pre post:List (Nat×Nat×Nat)}{sa na pw sb nb rD:Nat}
  (hp:(pendingOf st).toList=pre++(sa,na,pw)::(sb,nb,rD)::post) (hi:pre.length=i) (FJ:sb=sa+na) (n1:1≤na) (n2:1≤nb) (hz:sb+nb≤a₀.size) (SA:Pw r (seg (arrOf st).toList sa na)) (SB:Pw r (seg (arrOf st).toList sb nb))
  (h:∀aa,kindOf aa=κ→(arrOf aa).Perm a₀→failedOf aa=none→(pendingOf aa).toList=pre++(sa,na+nb,pw)::post→(arrOf aa).toList.take sa=(arrOf st).toList.take sa→(arrOf aa).toList.drop (sb+nb)=(arrOf st).toList.drop (sb+nb)→Pw r (seg (arrOf aa).toList sa (na+nb))→Q true aa):
  wpS (model prog w) A E s (mergeAt' i) Q st:=by
 have bG:(arrOf st).size=a₀.size:=hP.size_eq
 have e1:(pendingOf st)[i]? =some (sa,na,pw):=by
  rw[←Array.getElem?_toList,hp,←hi]
  simp
 have e2:(pendingOf st)[i+1]? =some (sb,nb,rD):=by
  rw[←Array.getElem?_toList,hp,←hi,List.getElem?_append_right (by omega),show pre.length+1 - pre.length=1 by omega]
  rfl
 have A9:(((pendingOf st).setIfInBounds i (sa,na+nb,pw)).eraseIdxIfInBounds (i+1)).toList=pre++(sa,na+nb,pw)::post:=by
  rw[Array.toList_eraseIdxIfInBounds,Array.toList_setIfInBounds,hp,←hi,List.set_append_right _ _ (Nat.le_refl _),Nat.sub_self,List.set_cons_zero,List.eraseIdx_append_of_length_le (by omega),show pre.length+1 - pre.length=1 by omega]
  rfl
 show wpS (model prog w) A E s (_ >>=_) _ _
 obtain⟨kd,xs,pd,ga,fl⟩:=st
 refine wpS_bind (wpS_get ?_)
 replace e1:pd[i]? =some (sa,na,pw):=e1
 replace e2:pd[i+1]? =some (sb,nb,rD):=e2
 dsimp only
 rw[e1,e2]
 dsimp only
 refine wpS_bind (Ph ?_)
 refine Pg (fun eT=>kindOf eT=κ∧arrOf eT=xs∧(pendingOf eT).toList=pre++(sa,na+nb,pw)::post∧failedOf eT=none) ⟨hk,rfl,A9,hF⟩ ?_
 rintro eT ⟨g1,g2,g3,g4⟩
 clear A9 e1 e2
 replace hP:xs.Perm a₀:=hP
 replace bG:xs.size=a₀.size:=bG
 replace SA:Pw r (seg xs.toList sa na):=SA
 replace SB:Pw r (seg xs.toList sb nb):=SB
 have mm:∀{j:Nat}{x:Keyed},xs[j]? =some x→x∈a₀.toList:=fun hx=> (Array.perm_iff_toList_perm.mp hP).mem_iff.mp (Zr hx)
 have lA:(seg xs.toList sa na).length=na:=DF (by rw[Array.length_toList];omega)
 have lB:(seg xs.toList sb nb).length=nb:=DF (by rw[Array.length_toList];omega)
 have xY:∀{j:Nat}{x:Keyed},j<na→xs[sa+j]? =some x→(seg xs.toList sa na)[j]? =some x:=fun hj hx=>by rw[YD hj,Array.getElem?_toList];exact hx
 have xX:∀{j:Nat}{x:Keyed},j<nb→xs[sb+j]? =some x→(seg xs.toList sb nb)[j]? =some x:=fun hj hx=>by rw[YD hj,Array.getElem?_toList];exact hx
 have tR:∀{j:Nat}{x:Keyed},(seg xs.toList sa na)[j]? =some x→j<na∧xs[sa+j]? =some x:=fun {j x} hx=>by
  have hj:j<na:=by have:=(List.getElem?_eq_some_iff.mp hx).1;omega
  exact⟨hj,by rw[YD hj,Array.getElem?_toList]at hx;exact hx⟩
 have xW:∀{j:Nat}{x:Keyed},(seg xs.toList sb nb)[j]? =some x→j<nb∧xs[sb+j]? =some x:=fun {j x} hx=>by
  have hj:j<nb:=by have:=(List.getElem?_eq_some_iff.mp hx).1;omega
  exact⟨hj,by rw[YD hj,Array.getElem?_toList]at hx;exact hx⟩
 have fin:∀(k n:Nat) (M:List Keyed) (aa:SortSt),k≤na→n≤nb→kindOf aa=κ→failedOf aa=none→(pendingOf aa).toList=pre++(sa,na+nb,pw)::post→M.Perm ((seg xs.toList sa na).drop k++(seg xs.toList sb nb).take n)→Pw r M→
   (∀x∈(seg xs.toList sa na).take k,∀y∈seg xs.toList sb nb,r y x=false)→(∀z∈seg xs.toList sa na,∀w∈(seg xs.toList sb nb).drop n,r w z=false)→
   (arrOf aa).toList=xs.toList.take (sa+k)++(M++xs.toList.drop (sa+k+M.length))→Q true aa:=fun k n M aa KA fN f1 f2 f3 f4 f5 f6 f7 f8=>by
  have lM:M.length=(na - k)+n:=by
   rw[f4.length_eq,List.length_append,List.length_drop,List.length_take,lA,lB,Nat.min_eq_left fN]
  have hL:xs.toList.length=a₀.size:=by rw[Array.length_toList];exact bG
  have eA:xs.toList.take (sa+k)=xs.toList.take sa++(seg xs.toList sa na).take k:=by
   rw[List.take_add]
   unfold seg
   rw[List.take_take,Nat.min_eq_left KA]
  have eB:xs.toList.drop (sa+k+M.length)=(seg xs.toList sb nb).drop n++xs.toList.drop (sb+nb):=by
   rw[lM,show sa+k+(na - k+n)=sb+n by omega,←List.drop_drop]
   have:xs.toList.drop sb=seg xs.toList sb nb++xs.toList.drop (sb+nb):=by
    unfold seg
    rw[←List.drop_drop,List.take_append_drop]
   rw[this,List.drop_append_of_le_length (by rw[lB];exact fN)]
  have Mn:xs.toList=xs.toList.take sa++((seg xs.toList sa na++seg xs.toList sb nb)++xs.toList.drop (sb+nb)):=by
   have a1:xs.toList.drop sa=seg xs.toList sa na++xs.toList.drop sb:=by
    unfold seg
    rw[FJ,←List.drop_drop,List.take_append_drop]
   have a2:xs.toList.drop sb=seg xs.toList sb nb++xs.toList.drop (sb+nb):=by
    unfold seg
    rw[←List.drop_drop,List.take_append_drop]
   rw[List.append_assoc,←a2,←a1,List.take_append_drop]
  have eN:(arrOf aa).toList=xs.toList.take sa++(((seg xs.toList sa na).take k++(M++(seg xs.toList sb nb).drop n))++xs.toList.drop (sb+nb)):=by
   rw[f8,eA,eB]
   simp only[List.append_assoc]
  have lX:(xs.toList.take sa).length=sa:=by rw[List.length_take];omega
  have lY:((seg xs.toList sa na).take k++(M++(seg xs.toList sb nb).drop n)).length=na+nb:=by
   rw[List.length_append,List.length_append,List.length_take,List.length_drop,lA,lB,lM];omega
  have pY:((seg xs.toList sa na).take k++(M++(seg xs.toList sb nb).drop n)).Perm (seg xs.toList sa na++seg xs.toList sb nb):=by
   refine List.Perm.trans (List.Perm.append_left _ (List.Perm.append_right _ f4)) ?_
   rw[List.append_assoc,List.take_append_drop,←List.append_assoc,List.take_append_drop]
  refine h aa f1 ?_ f2 f3 ?_ ?_ ?_
  ·refine Array.perm_iff_toList_perm.mpr (List.Perm.trans ?_ (Array.perm_iff_toList_perm.mp hP))
   rw[eN]
   refine List.Perm.trans (List.Perm.append_left _ (List.Perm.append_right _ pY)) ?_
   rw[←Mn]
  ·rw[eN,List.take_left' lX]
  ·rw[eN,←List.append_assoc,List.drop_left' (by rw[List.length_append,lX,lY];omega)]
  ·have:seg (arrOf aa).toList sa (na+nb)=(seg xs.toList sa na).take k++(M++(seg xs.toList sb nb).drop n):=by
    rw[eN]
    show List.take (na+nb) (List.drop sa (xs.toList.take sa++(((seg xs.toList sa na).take k++(M++(seg xs.toList sb nb).drop n))++xs.toList.drop (sb+nb))))=_
    rw[List.drop_left' lX,List.take_left' lY]
   rw[this]
   exact P8 o SA SB f4 f5 f6 f7
 obtain⟨y0,jZ⟩:=Zd (xs:=xs) (i:=sb) (by omega)
 refine wpS_bind (Zj jZ ?_)
 have Ly:∀y∈seg xs.toList sb nb,r y y0=false:=fun y hy=>by
  obtain⟨j,hj⟩:=List.getElem?_of_mem hy
  exact Ya o SB (xX (j:=0) (by omega) jZ) hj (Nat.zero_le _)
 refine wpS_bind (ZF hc g1 (fun i=>match xs[sa+i]? with |some x=> !r y0 x |none=>false) (fun i hi=> ?_) (mm jZ) (fun i j cz hj hp=> ?_) (by omega) fun k kn dB cP=> ?_)
 ·obtain⟨x,hx⟩:=Zd (xs:=xs) (i:=sa+i) (by omega)
  refine⟨x,hx,mm hx,?_⟩
  try dsimp only
  rw[hx]
  rfl
 ·obtain⟨xj,fw⟩:=Zd (xs:=xs) (i:=sa+j) (by omega)
  obtain⟨xi,fA⟩:=Zd (xs:=xs) (i:=sa+i) (by omega)
  try dsimp only at hp ⊢
  rw[fw]at hp
  rw[fA]
  rw[Bool.not_eq_true']at hp ⊢
  exact o.dc _ _ _ (Ya o SA (xY (by omega) fA) (xY (by omega) fw) cz) hp
 dsimp only
 have low:∀x∈(seg xs.toList sa na).take k,∀y∈seg xs.toList sb nb,r y x=false:=fun x hx y hy=>by
  obtain⟨j,hj⟩:=List.getElem?_of_mem hx
  have Bp:j<k:=by have:=(List.getElem?_eq_some_iff.mp hj).1;rw[List.length_take]at this;omega
  rw[List.getElem?_take_of_lt Bp]at hj
  obtain⟨pL,lJ⟩:=tR hj
  have:=dB j Bp
  try dsimp only at this
  rw[lJ,Bool.not_eq_true']at this
  exact o.dc x y0 y this (Ly y hy)
 by_cases bt:(na - k==0)=true
 ·rw[if_pos bt]
  have ek:k=na:=by have:=beq_iff_eq.mp bt;omega
  subst ek
  refine wpS_pure (fin k 0 [] eT (Nat.le_refl _) (Nat.zero_le _) g1 g4 g3 (by rw[List.drop_eq_nil_of_le (by omega)];exact .refl _) .nil low (fun z hz w hw=> ?_) ?_)
  ·exact low z (by rw[List.take_of_length_le (by omega)];exact hz) w (List.mem_of_mem_drop hw)
  ·rw[g2,List.nil_append,List.length_nil,Nat.add_zero,List.take_append_drop]
 rw[if_neg bt]
 have nE:¬(na - k=0):=fun z=>bt (beq_iff_eq.mpr z)
 obtain⟨x0,lC⟩:=Zd (xs:=xs) (i:=sa+k+(na - k) - 1) (by omega)
 refine wpS_bind (Zj lC ?_)
 have AX:xs[sa+(na - 1)]? =some x0:=by rw[←lC];congr 1;omega
 have LA:∀x∈seg xs.toList sa na,r x0 x=false:=fun x hx=>by
  obtain⟨j,hj⟩:=List.getElem?_of_mem hx
  exact Ya o SA hj (xY (j:=na - 1) (by omega) AX) (by have:=(tR hj).1;omega)
 refine wpS_bind (ZF hc g1 (fun i=>match xs[sb+i]? with |some y=>r y x0 |none=>false) (fun i hi=> ?_) (mm lC) (fun i j cz hj hp=> ?_) (by omega) fun n nn G4 G7=> ?_)
 ·obtain⟨y,hy⟩:=Zd (xs:=xs) (i:=sb+i) (by omega)
  refine⟨y,hy,mm hy,?_⟩
  try dsimp only
  rw[hy]
  rfl
 ·obtain⟨yj,cm⟩:=Zd (xs:=xs) (i:=sb+j) (by omega)
  obtain⟨yi,cq⟩:=Zd (xs:=xs) (i:=sb+i) (by omega)
  try dsimp only at hp ⊢
  rw[cm]at hp
  rw[cq]
  exact Je o hp (Ya o SB (xX (by omega) cq) (xX (by omega) cm) cz)
 dsimp only
 have high:∀z∈seg xs.toList sa na,∀w∈(seg xs.toList sb nb).drop n,r w z=false:=fun z hz w hw=>by
  obtain⟨j,hj⟩:=List.getElem?_of_mem hw
  rw[List.getElem?_drop]at hj
  obtain⟨pL,lJ⟩:=xW hj
  have:=G7 (n+j) (by omega) pL
  try dsimp only at this
  rw[lJ]at this
  exact o.dc z x0 w (LA z hz) this
 by_cases bI:(n==0)=true
 ·rw[if_pos bI]
  have en:n=0:=beq_iff_eq.mp bI
  subst en
  refine wpS_pure (fin na 0 [] eT (Nat.le_refl _) (Nat.zero_le _) g1 g4 g3 (by rw[List.drop_eq_nil_of_le (by omega)];exact .refl _) .nil (fun x hx y hy=> ?_) high ?_)
  ·exact high x (List.mem_of_mem_take hx) y (by rw[List.drop_zero];exact hy)
  ·rw[g2,List.nil_append,List.length_nil,Nat.add_zero,List.take_append_drop]
 rw[if_neg bI]
 have rX:¬(n=0):=fun z=>bI (beq_iff_eq.mpr z)
 have xA:(xs.extract (sa+k) sb).toList=(seg xs.toList sa na).drop k:=by
  rw[Jz]
  unfold seg
  rw[List.drop_take,List.drop_drop,show sb - (sa+k)=na - k by omega]
 have xB:(xs.extract sb (sb+n)).toList=(seg xs.toList sb nb).take n:=by
  rw[Jz,show sb+n - sb=n by omega]
  unfold seg
  rw[List.take_take,Nat.min_eq_left nn]
 have Fu:(xs.extract (sa+k) sb).size=na - k:=by rw[←Array.length_toList,xA,List.length_drop,lA]
 have RI:(xs.extract sb (sb+n)).size=n:=by rw[←Array.length_toList,xB,List.length_take,lB];omega
 have C:eG r (xs.extract (sa+k) sb) (xs.extract sb (sb+n)):=⟨o,by rw[xA];exact List.Pairwise.sublist (List.drop_sublist _ _) SA,by rw[xB];exact List.Pairwise.sublist (List.take_sublist _ _) SB⟩
 have mA:∀x∈(xs.extract (sa+k) sb).toList,x∈a₀.toList:=fun x hx=>by
  rw[xA]at hx
  obtain⟨j,hj⟩:=List.getElem?_of_mem (List.mem_of_mem_drop hx)
  exact mm (tR hj).2
 have mB:∀x∈(xs.extract sb (sb+n)).toList,x∈a₀.toList:=fun x hx=>by
  rw[xB]at hx
  obtain⟨j,hj⟩:=List.getElem?_of_mem (List.mem_of_mem_take hx)
  exact mm (xW hj).2
 have m0:∀y,(xs.extract sb (sb+n))[0]? =some y→∀x∈(xs.extract (sa+k) sb).toList,r x y=false:=fun y hy x hx=>by
  have iT:=Zt hy
  rw[xB,List.getElem?_take_of_lt (by omega),YD (by omega),Nat.add_zero,Array.getElem?_toList,jZ]at iT
  cases iT
  rw[xA]at hx
  obtain⟨j,hj⟩:=List.getElem?_of_mem hx
  rw[List.getElem?_drop]at hj
  obtain⟨pL,lJ⟩:=tR hj
  have:=cP (k+j) (by omega) pL
  try dsimp only at this
  rw[lJ,Bool.not_eq_false']at this
  exact o.bL _ _ this
 have ml:∀x,(xs.extract (sa+k) sb)[(xs.extract (sa+k) sb).size - 1]? =some x→∀y∈(xs.extract sb (sb+n)).toList,r x y=false:=fun x hx y hy=>by
  have v8:=Zt hx
  rw[Fu,xA,List.getElem?_drop,YD (by omega),Array.getElem?_toList,show sa+(k+(na - k - 1))=sa+(na - 1) by omega,AX]at v8
  cases v8
  rw[xB]at hy
  obtain⟨j,hj⟩:=List.getElem?_of_mem hy
  have Bo:j<n:=by have:=(List.getElem?_eq_some_iff.mp hj).1;rw[List.length_take]at this;omega
  rw[List.getElem?_take_of_lt Bo]at hj
  obtain⟨pL,lJ⟩:=xW hj
  have:=G4 j Bo
  try dsimp only at this
  rw[lJ]at this
  exact o.bL _ _ this
 have done:∀(res:Array Keyed) (av:SortSt),SG eT av→Good r (xs.extract (sa+k) sb) (xs.extract sb (sb+n)) res→Q true (setArr av (List.foldl (fun a x=>a.setIfInBounds (sa+k+x.snd) x.fst) (arrOf av) res.toList.zipIdx)):=fun res av sg gd=>by
  have p1:=gd.1
  rw[xA,xB]at p1
  have lR:res.toList.length=na - k+n:=by rw[p1.length_eq,List.length_append,List.length_drop,List.length_take,lA,lB];omega
  refine fin k n res.toList _ kn nn (by show kindOf av=κ;rw[sg.1];exact g1) (by show failedOf av=none;rw[sg.2.2.2];exact g4) (by show(pendingOf av).toList=_;rw[sg.2.2.1];exact g3) p1 gd.2 low high ?_
  show(List.foldl (fun a x=>a.setIfInBounds (sa+k+x.snd) x.fst) (arrOf av) res.toList.zipIdx).toList=_
  rw[sg.2.1,g2]
  exact DC (sa+k) res.toList 0 xs (by rw[lR];omega)
 by_cases hle:na - k≤n
 ·rw[if_pos hle]
  refine wpS_bind (UK hc g1 C mA mB (by omega) (by omega) m0 ml fun res av sg gd=> ?_)
  refine wpS_bind (wpS_modify (wpS_bind (wpS_get ?_)))
  have ef:(failedOf (setArr av (List.foldl (fun a x=>a.setIfInBounds (sa+k+x.snd) x.fst) (arrOf av) res.toList.zipIdx))).isNone=true:=by
   show(failedOf av).isNone=true
   rw[sg.2.2.2,g4]
   rfl
  rw[ef]
  exact wpS_pure (done res av sg gd)
 ·rw[if_neg hle]
  refine wpS_bind (UL hc g1 C mA mB (by omega) (by omega) m0 ml fun res av sg gd=> ?_)
  refine wpS_bind (wpS_modify (wpS_bind (wpS_get ?_)))
  have ef:(failedOf (setArr av (List.foldl (fun a x=>a.setIfInBounds (sa+k+x.snd) x.fst) (arrOf av) res.toList.zipIdx))).isNone=true:=by
   show(failedOf av).isNone=true
   rw[sg.2.2.2,g4]
   rfl
  rw[ef]
  exact wpS_pure (done res av sg gd)
structure RS (a₀:Array Keyed) (κ:SortKind) (r:Keyed→Keyed→Bool) (st:SortSt) (lo:Nat):Prop where
 kind:kindOf st=κ
 perm:(arrOf st).Perm a₀
 fail:failedOf st=none
 runs:Runs r (arrOf st).toList (pendingOf st).toList 0 lo
 le:lo≤a₀.size
theorem MK {α:Type}{l:List α}{i:Nat}(h:i+1<l.length):∃pre a b post,l=pre++a::b::post∧pre.length=i:=by
 refine⟨l.take i,l[i],l[i+1],l.drop (i+2),?_,by rw[List.length_take];omega⟩
 rw[←List.drop_eq_getElem_cons h,←List.drop_eq_getElem_cons (by omega),List.take_append_drop]
theorem RS.merge {st:SortSt}{lo i:Nat}{Q:Bool→SortSt→Prop}(o:Ord r) (hc:iI prog w A E s κ a₀ r) (R:RS a₀ κ r st lo) (hi:i+1< (pendingOf st).size)
  (h:∀aa,RS a₀ κ r aa lo→(pendingOf aa).size+1=(pendingOf st).size→(arrOf aa).toList.drop lo=(arrOf st).toList.drop lo→Q true aa):wpS (model prog w) A E s (mergeAt' i) Q st:=by
 obtain⟨pre,⟨sa,na,pw⟩,⟨sb,nb,rD⟩,post,hp,hl⟩:=MK (l:=(pendingOf st).toList) (i:=i) (by rw[Array.length_toList];exact hi)
 have hr:=R.runs
 rw[hp]at hr
 obtain⟨m,h1,h2⟩:=Runs.app.mp hr
 obtain⟨a1,a2,a3,h3⟩:=h2
 obtain⟨b1,b2,b3,h4⟩:=h3
 dsimp only at a1 a2 a3 b1 b2 b3 h4
 subst a1
 have l4:=h4.le
 have l1:=h1.le
 have le:=R.le
 refine UM o hc R.kind R.perm R.fail hp hl b1 a2 b2 (by omega) a3 b3 fun aa g1 g2 g3 g4 g5 g6 g7=> ?_
 refine h aa ⟨g1,g2,g3,?_,le⟩ ?_ ?_
 ·rw[g4]
  refine Runs.app.mpr ⟨sa,h1.congr fun s n q1 q2=>DG g5.symm q2,rfl,(show 1≤na+nb by omega),g7,?_⟩
  show Runs r (arrOf aa).toList post (sa+(na+nb)) lo
  rw[←Nat.add_assoc]
  exact h4.congr fun s n q1 q2=>JY (m:=sb+nb) g6.symm (by omega)
 ·rw[←Array.length_toList,←Array.length_toList,g4,hp]
  simp only[List.length_append,List.length_cons]
  omega
 ·have key:∀M:List Keyed,M.drop lo=(M.drop (sb+nb)).drop (lo - (sb+nb)):=fun M=>by
   rw[List.drop_drop]
   congr 1
   omega
  rw[key,key (arrOf st).toList,g6]
theorem RS.push {st:SortSt}{lo n:Nat}(R:RS a₀ κ r st lo) (n1:1≤n) (hz:lo+n≤a₀.size) (S:Pw r (seg (arrOf st).toList lo n)):RS a₀ κ r (setPending st ((pendingOf st).push (lo,n,0))) (lo+n):=by
 refine⟨R.kind,R.perm,R.fail,?_,hz⟩
 show Runs r (arrOf st).toList ((pendingOf st).push (lo,n,0)).toList 0 (lo+n)
 rw[Array.toList_push]
 exact Runs.app.mpr ⟨lo,R.runs,rfl,n1,S,rfl⟩
theorem US {L:List Keyed}{pw:Nat} :∀{ps:List (Nat×Nat×Nat)}{i p q:Nat},Runs r L ps p q→Runs r L (ps.modify i fun x=> (x.fst,x.2.fst,pw)) p q
 | [],i,p,q,h=>by rw[List.modify_nil];exact h
 |x::ps,0,p,q,h=>by
  rw[List.modify_zero_cons]
  exact h
 |x::ps,i+1,p,q,⟨h1,h2,h3,h4⟩=>by
  rw[List.modify_succ_cons]
  exact⟨h1,h2,h3,US h4⟩
theorem RS.pow {st:SortSt}{lo i pw:Nat}(R:RS a₀ κ r st lo):RS a₀ κ r (setPending st ((pendingOf st).modify i fun x=> (x.fst,x.2.fst,pw))) lo:=by
 refine⟨R.kind,R.perm,R.fail,?_,R.le⟩
 show Runs r (arrOf st).toList ((pendingOf st).modify i fun x=> (x.fst,x.2.fst,pw)).toList 0 lo
 rw[Array.toList_modify]
 exact US R.runs
theorem Qn {xs ys:Array Keyed}{lo:Nat}(h:∀k,k<lo→xs[k]? =ys[k]?):xs.toList.take lo=ys.toList.take lo:=by
 refine List.ext_getElem? fun k=> ?_
 by_cases hk:k<lo
 ·rw[List.getElem?_take_of_lt hk,List.getElem?_take_of_lt hk,Array.getElem?_toList,Array.getElem?_toList]
  exact h k hk
 ·rw[List.getElem?_eq_none (by rw[List.length_take];omega),List.getElem?_eq_none (by rw[List.length_take];omega)]
theorem CB.rs {st aa:SortSt}{lo:Nat}(R:RS a₀ κ r st lo) (B:CB a₀ κ lo st aa):RS a₀ κ r aa lo:=by
 refine⟨B.kind,B.perm,B.fail.trans R.fail,?_,R.le⟩
 rw[B.pend]
 exact R.runs.congr fun s n q1 q2=>DG (Qn fun k hk=> (B.pre k hk).symm) q2
theorem Wy {st:SortSt}{Q:Unit→SortSt→Prop}(o:Ord r) (hc:iI prog w A E s κ a₀ r) (h2:2≤a₀.size) (k0:kindOf st=κ) (p0:(arrOf st).Perm a₀) (f0:failedOf st=none) (e0:pendingOf st= #[])
  (h:∀aa,(arrOf aa).Perm a₀→failedOf aa=none→Pw r (arrOf aa).toList→Q () aa):wpS (model prog w) A E s sortRuns' Q st:=by
 rw[sortRuns'_eq]
 dsimp only
 refine wpS_bind (wpS_get ?_)
 have z0:(arrOf st).size=a₀.size:=p0.size_eq
 rw[z0]
 generalize minRun' a₀.size a₀.size 0=mr
 refine wpS_bind (wpS_mono (wpS_forRange (I:=fun x c av=> ∃lo,c=(none,lo)∧RS a₀ κ r av lo∧x≤lo) (Q:=fun c av=>c=(none,a₀.size)∧RS a₀ κ r av a₀.size) ?step ?fin ⟨0,rfl,⟨k0,p0,f0,by rw[e0];exact rfl,Nat.zero_le _⟩,Nat.le_refl _⟩) ?post)
 case fin=>
  rintro c av ⟨lo,rfl,R,hx⟩
  rw[Nat.max_eq_right (Nat.zero_le _)]at hx
  have:=R.le
  obtain rfl:lo=a₀.size:=by omega
  exact⟨rfl,R⟩
 case step=>
  rintro x c av _ hx ⟨lo,rfl,R1,vZ⟩
  dsimp only
  by_cases bu:lo≥a₀.size
  ·rw[if_pos bu]
   have:=R1.le
   obtain rfl:lo=a₀.size:=by omega
   exact wpS_pure ⟨rfl,R1⟩
  rw[if_neg bu]
  refine wpS_bind (Wz o hc (st:=av) ⟨R1.kind,rfl,rfl,R1.perm,fun _ _=>rfl⟩ (by omega) (by omega) fun found ak B2 f1 f2 S=> ?_)
  dsimp only
  by_cases aw:found<mr
  ·rw[if_pos aw]
   refine wpS_bind (wpS_lift (wpAny_rule ⟨rfl,?_⟩))
   have eD:found≤min (a₀.size - lo) mr:=by omega
   have KU:min (a₀.size - lo) mr≤a₀.size - lo:=by omega
   generalize min (a₀.size - lo) mr=n at eD KU
   refine wpS_bind (JJ o hc B2 f1 eD (by omega) S fun aU B3 S3=> ?_)
   rw[if_neg (by decide)]
   have R2:=CB.rs R1 B3
   have S2:=S3.pw
   have n1:1≤n:=by omega
   clear S3 B3 B2 S
   clear ak
   revert R2 S2
   generalize aU=ak
   intro R2 S2
   refine wpS_bind (wpS_get ?_)
   cases hb:(pendingOf ak).back? with
   |none=>
    try dsimp only
    exact wpS_bind (wpS_modify (wpS_pure ⟨_,rfl,R2.push n1 (by omega) S2,by omega⟩))
   |some z=>
    obtain⟨s1,m1,p1⟩:=z
    try dsimp only
    refine wpS_bind (wpS_mono (wpS_forRange (I:=fun _ c aa=>c=(none,())∧RS a₀ κ r aa lo∧(arrOf aa).toList.drop lo=(arrOf ak).toList.drop lo) (Q:=fun c aa=>c=(none,())∧RS a₀ κ r aa lo∧(arrOf aa).toList.drop lo=(arrOf ak).toList.drop lo) ?_ (fun c aa hh=>hh) ⟨rfl,R2,rfl⟩) ?_)
    ·rintro y c aa _ _ ⟨rfl,R,hd⟩
     refine wpS_bind (wpS_get ?_)
     by_cases hs:(pendingOf aa).size>1
     ·rw[if_pos hs]
      cases hq:(pendingOf aa)[(pendingOf aa).size - 2]? with
      |none=>exact wpS_pure ⟨rfl,R,hd⟩
      |some z=>
       obtain⟨z1,z2,Gm⟩:=z
       dsimp only
       split
       ·exact wpS_pure ⟨rfl,R,hd⟩
       ·refine wpS_bind (R.merge o hc (by omega) fun dh qi _ wY=> ?_)
        rw[if_neg (by decide)]
        exact wpS_pure ⟨rfl,qi,wY.trans hd⟩
     ·rw[if_neg hs]
      exact wpS_pure ⟨rfl,R,hd⟩
    rintro c aa ⟨rfl,R,hd⟩
    dsimp only
    refine wpS_bind (wpS_modify (wpS_bind (wpS_modify (wpS_pure ⟨_,rfl,R.pow.push n1 (by omega) ?_,by omega⟩))))
    show Pw r (seg (arrOf aa).toList lo _)
    rw[JY (L':=(arrOf ak).toList) hd (Nat.le_refl _)]
    exact S2
  ·rw[if_neg aw]
   have R2:=CB.rs R1 B2
   have S2:=S.pw
   have n1:=f1
   clear S B2
   clear R1
   refine wpS_bind (wpS_get ?_)
   cases hb:(pendingOf ak).back? with
   |none=>
    try dsimp only
    exact wpS_bind (wpS_modify (wpS_pure ⟨_,rfl,R2.push n1 (by omega) S2,by omega⟩))
   |some z=>
    obtain⟨s1,m1,p1⟩:=z
    try dsimp only
    refine wpS_bind (wpS_mono (wpS_forRange (I:=fun _ c aa=>c=(none,())∧RS a₀ κ r aa lo∧(arrOf aa).toList.drop lo=(arrOf ak).toList.drop lo) (Q:=fun c aa=>c=(none,())∧RS a₀ κ r aa lo∧(arrOf aa).toList.drop lo=(arrOf ak).toList.drop lo) ?_ (fun c aa hh=>hh) ⟨rfl,R2,rfl⟩) ?_)
    ·rintro y c aa _ _ ⟨rfl,R,hd⟩
     refine wpS_bind (wpS_get ?_)
     by_cases hs:(pendingOf aa).size>1
     ·rw[if_pos hs]
      cases hq:(pendingOf aa)[(pendingOf aa).size - 2]? with
      |none=>exact wpS_pure ⟨rfl,R,hd⟩
      |some z=>
       obtain⟨z1,z2,Gm⟩:=z
       dsimp only
       split
       ·exact wpS_pure ⟨rfl,R,hd⟩
       ·refine wpS_bind (R.merge o hc (by omega) fun dh qi _ wY=> ?_)
        rw[if_neg (by decide)]
        exact wpS_pure ⟨rfl,qi,wY.trans hd⟩
     ·rw[if_neg hs]
      exact wpS_pure ⟨rfl,R,hd⟩
    rintro c aa ⟨rfl,R,hd⟩
    dsimp only
    refine wpS_bind (wpS_modify (wpS_bind (wpS_modify (wpS_pure ⟨_,rfl,R.pow.push n1 (by omega) ?_,by omega⟩))))
    show Pw r (seg (arrOf aa).toList lo _)
    rw[JY (L':=(arrOf ak).toList) hd (Nat.le_refl _)]
    exact S2
 case post=>
  rintro c av ⟨rfl,R1⟩
  dsimp only
  refine wpS_bind (wpS_mono (wpS_forRange (I:=fun x c aa=>c=(none,())∧RS a₀ κ r aa a₀.size∧(pendingOf aa).size+x≤a₀.size) (Q:=fun c aa=>c=(none,())∧RS a₀ κ r aa a₀.size∧(pendingOf aa).size≤1) ?_ ?_ ⟨rfl,R1,by have:=R1.runs.le;rw[Array.length_toList]at this;omega⟩) ?_)
  ·rintro x c aa _ _ ⟨rfl,R,hx⟩
   refine wpS_bind (wpS_get ?_)
   by_cases hs:(pendingOf aa).size≤1
   ·rw[if_pos hs]
    exact wpS_pure ⟨rfl,R,hs⟩
   rw[if_neg hs]
   have idx:∀c:Prop,∀_:Decidable c,(if c then (pendingOf aa).size - 2 - 1 else (pendingOf aa).size - 2)+1< (pendingOf aa).size:=fun c _=>by split<;>omega
   refine wpS_bind (R.merge o hc (idx _ _) fun dh qi RC _=> ?_)
   rw[if_neg (by decide)]
   exact wpS_pure ⟨rfl,qi,by omega⟩
  ·rintro c aa ⟨rfl,R,hx⟩
   rw[Nat.max_eq_right (Nat.zero_le _)]at hx
   exact⟨rfl,R,by omega⟩
  rintro c aa ⟨rfl,R,hs⟩
  refine wpS_pure (h aa R.perm R.fail ?_)
  have hr:=R.runs
  have hl:(pendingOf aa).toList.length≤1:=by rw[Array.length_toList];exact hs
  match hp:(pendingOf aa).toList,hl with
  | [],_=>
   rw[hp]at hr
   have:0=a₀.size:=hr
   omega
  | [x],_=>
   rw[hp]at hr
   obtain⟨q1,q2,q3,q4⟩:=hr
   have R6:0+x.2.1=a₀.size:=q4
   rw[q1]at q3
   have:seg (arrOf aa).toList 0 x.2.1=(arrOf aa).toList:=by
    unfold seg
    rw[List.drop_zero,List.take_of_length_le (by rw[Array.length_toList,R.perm.size_eq];omega)]
   rw[this]at q3
   exact q3
  |_::_::_,h=>simp at h
end
end PyProof.Rows.jH
namespace PyProof.Rows.jH
open PySem PySem.W
section
variable {prog:Program}{w:World}{A:Around}{E:Value→Shared→Prop}{s:Shared}{κ:SortKind}{r:Keyed→Keyed→Bool}
def yP (prog:Program) (w:World) (A:Around) (E:Value→Shared→Prop) (κ:SortKind) (r:Keyed→Keyed→Bool) (a:Addr) (h:Heap) (vs:List Value):Prop:=
 ∀s6:Shared,(∀b o,b≠a→h.get? b=some o→s6.heap.get? b=some o)→(2≤vs.length→∀Q:SortKind→Shared→Prop,Q κ s6→wpAny (model prog w) A (keyKind' vs.toArray) Q E s6)∧iI prog w A E s6 κ (pairsOf vs) r
theorem U8 (o:Ord r) {a:Addr}{vs:List Value}{n:Nat}{P:PySem.Fin→Shared→Prop}(ho:s.heap.get? a=some (seqObj "list" vs.toArray n)) (hc:yP prog w A E κ r a s.heap vs) (hz:vs.length≤1000)
  (h:∀xs:Array Keyed,xs.Perm (pairsOf vs)→Pw r xs.toList→P (.done (.ret .none)) {s with heap:=sortedHeap s.heap a vs (xs.map (·.2))}):
  wpAny (model prog w) A (Builtin.«list.sort» ⟨[.ref a],[]⟩) P E s:=by
 rw[list_sort_plain]
 have ha:a<s.heap.objs.size:=Heap.lt_size ho
 have pB:vs.toArray.size≤sizeLine:=by rw[List.size_toArray,sizeLine_eq];omega
 refine wpAny_bind (listItems_at ho rfl ?_)
 refine wpAny_bind (listUpdate_at ho rfl ?_ pB)
 obtain⟨e1,Bd⟩:∃e1,(s.heap.update a (Obj.mapSeq fun _=> #[])).get? a=some (seqObj "list" #[] e1):=⟨_,get?_update_seq ho (fun _=> #[])⟩
 refine wpAny_bind (seqEpoch_at Bd rfl ?_)
 refine wpAny_bind (wpAny_newTuple ?_ (by simpa using pB))
 refine wpAny_bind (wpAny_newList ?_)
 refine wpAny_holding ?_
 have sv:(((s.heap.update a (Obj.mapSeq fun _=> #[])).push (seqObj "tuple" vs.toArray 0)).push (seqObj "list" #[] 0)).get? a=some (seqObj "list" #[] e1):=by
  rw[Heap.get?_push_ne _ _ _ (by rw[size_push',Heap.size_update];exact Nat.ne_of_lt (Nat.lt_succ_of_lt ha)),Heap.get?_push_ne _ _ _ (by rw[Heap.size_update];exact Nat.ne_of_lt ha)]
  exact Bd
 show wpAny (model prog w) A _ P E {s with heap:=((s.heap.update a (Obj.mapSeq fun _=> #[])).push (seqObj "tuple" vs.toArray 0)).push (seqObj "list" #[] 0)}
 dsimp only
 have keep:∀b o,b≠a→s.heap.get? b=some o→((((s.heap.update a (Obj.mapSeq fun _=> #[])).push (seqObj "tuple" vs.toArray 0)).push (seqObj "list" #[] 0))).get? b=some o:=fun b ob hb e=>
  Heap.get?_push_of_some _ (Heap.get?_push_of_some _ (by rw[Heap.get?_update_ne _ _ _ _ hb];exact e))
 obtain⟨hk,BB⟩:=hc {s with heap:=((s.heap.update a (Obj.mapSeq fun _=> #[])).push (seqObj "tuple" vs.toArray 0)).push (seqObj "list" #[] 0)} keep
 have bG:vs.toArray.size=vs.length:=by simp
 by_cases h2:vs.toArray.size<2
 ·rw[if_pos h2,if_pos h2]
  refine wpAny_bind (wpAny_pure ?_)
  rw[StateT.run_pure]
  refine wpAny_bind (wpAny_pure ?_)
  dsimp only
  refine wpAny_bind (seqEpoch_at sv rfl ?_)
  refine wpAny_bind (listUpdate_at sv rfl ?_ (hsz2:=by rw[Array.size_map];show(pairsOf vs).size≤_;rw[pairsOf_size,sizeLine_eq];omega))
  simp only[bne_self_eq_false,Bool.false_eq_true,if_false]
  refine wpAny_pure (h (pairsOf vs) (Array.Perm.refl _) ?_)
  have hl:(pairsOf vs).toList.length<2:=by rw[Array.length_toList,pairsOf_size];omega
  match (pairsOf vs).toList,hl with
  | [],_=>exact .nil
  | [x],_=>exact List.pairwise_singleton _ _
  |_::_::_,h=>exact absurd h (by simp)
 ·rw[if_neg h2,if_neg h2]
  refine wpAny_bind (hk (by omega) _ ?_)
  refine wpAny_bind (wpAny_mono (Wy (κ:=κ) (r:=r) (a₀:=pairsOf vs) (st:=SortSt.mk' κ (vs.toArray.zip vs.toArray) #[] 7 none)
   (Q:=fun _ aa=> (arrOf aa).Perm (pairsOf vs)∧failedOf aa=none∧Pw r (arrOf aa).toList) o BB (by rw[pairsOf_size];omega) rfl (Array.Perm.refl _) rfl rfl fun aa a1 a2 a3=> ⟨a1,a2,a3⟩) ?_ fun _ _ e=>e)
  rintro⟨⟨⟩,aa⟩ s' ⟨rfl,hp,hf,hs⟩
  dsimp only
  refine wpAny_bind (seqEpoch_at sv rfl ?_)
  refine wpAny_bind (listUpdate_at sv rfl ?_ (hsz2:=by refine Nat.le_trans (Nat.le_of_eq ((Array.size_map ..).trans (hp.size_eq.trans (pairsOf_size _)))) ?_;rw[sizeLine_eq];omega))
  rw[hf]
  simp only[bne_self_eq_false,Bool.false_eq_true,if_false]
  exact wpAny_pure (h _ hp hs)
theorem Qm (o:Ord r) {l:Addr}{vs:List Value}{Q:Value→Shared→Prop}(hl:s.heap.IsList l vs.toArray) (hc:∀h' a,(∀b ob,s.heap.get? b=some ob→h'.get? b=some ob)→(∀b ob,s.heap.get? b=some ob→b≠a)→yP prog w A.in1.in1 (fun _ _=>False) κ r a h' vs) (hz:vs.length≤1000)
  (h:∀xs:Array Keyed,xs.Perm (pairsOf vs)→Pw r xs.toList→Q (.ref (s.heap.objs.size+1)) {s with heap:=sortedAll s.heap vs (xs.map (·.2))}):
  wpAny (model prog w) A (call (.builtin "sorted") [.ref l]) Q E s:=by
 have pB:vs.length≤sizeLine:=by rw[sizeLine_eq];omega
 refine Calls.call_function_entry kind_sorted plain_sorted entry_sorted (args_sorted1 _) ?_
 unfold Builtin.«sorted»
 refine wpAny_bind (m:=checkCount "sorted" 1 1 _) (wpAny_pure ?_)
 refine wpAny_bind (collect_list hl ?_ pB)
 refine wpAny_bind (wpAny_newList ?_ pB)
 have bG:((s.heap.push (seqObj "list" #[] 0)).update s.heap.objs.size (Obj.mapSeq (· ++vs.toArray))).objs.size=s.heap.objs.size+1:=by
  rw[Heap.size_update,size_push']
 have pF:(((s.heap.push (seqObj "list" #[] 0)).update s.heap.objs.size (Obj.mapSeq (· ++vs.toArray))).push (seqObj "list" vs.toArray 0)).get? (s.heap.objs.size+1)=some (seqObj "list" vs.toArray 0):=by
  rw[←bG];exact Heap.get?_push_size _ rfl
 show wpAny _ _ _ _ _ {s with heap:=((s.heap.push (seqObj "list" #[] 0)).update s.heap.objs.size (Obj.mapSeq (· ++vs.toArray))).push (seqObj "list" vs.toArray 0)}
 rw[bG]
 have asks:=hc (((s.heap.push (seqObj "list" #[] 0)).update s.heap.objs.size (Obj.mapSeq (· ++vs.toArray))).push (seqObj "list" vs.toArray 0)) (s.heap.objs.size+1)
  (fun b ob e=>Heap.get?_push_of_some _ (by rw[Heap.get?_update_ne _ _ _ _ (Nat.ne_of_lt (Heap.lt_size e))];exact Heap.get?_push_of_some _ e)) (fun b ob e=>Nat.ne_of_lt (Nat.lt_succ_of_lt (Heap.lt_size e)))
 have MY:yP prog w A.in1.in1 E κ r (s.heap.objs.size+1) (((s.heap.push (seqObj "list" #[] 0)).update s.heap.objs.size (Obj.mapSeq (· ++vs.toArray))).push (seqObj "list" vs.toArray 0)) vs:=fun s6 h6=>by
  obtain⟨q1,q2⟩:=asks s6 h6
  refine⟨fun g Q hq=>wpAny_mono (q1 g Q hq) (fun _ _ x=>x) fun _ _ x=>x.elim,fun x y st Q m1 m2 hk hq=> ?_⟩
  exact wpAny_mono (q2 x y st Q m1 m2 hk hq) (fun _ _ x=>x) fun _ _ x=>x.elim
 refine wpAny_bind (wpAny_holding (wpAny_call_entry slot_list_sort ⟨_,pF,rfl⟩ entry_list_sort (U8 o pF MY hz fun xs a1 a2=> ⟨_,rfl,?_⟩) (args_list_sort _)))
 exact wpAny_pure ⟨_,rfl,h xs a1 a2⟩
end
def aC:List Int→List Int→Bool
 | [],[]=>false
 | [],_::_=>true
 |_::_,[]=>false
 |a::l,b::m=>if a=b then aC l m else decide (a<b)
theorem Yx:∀x y,aC x y=true→aC y x=false
 | [],[],h=>by cases h
 | [],_::_,_=>rfl
 |_::_,[],h=>by cases h
 |a::l,b::m,h=>by
  unfold aC at h ⊢
  by_cases e:a=b
  ·rw[if_pos e]at h
   rw[if_pos e.symm]
   exact Yx l m h
  ·rw[if_neg e]at h
   rw[if_neg (Ne.symm e)]
   have:=of_decide_eq_true h
   exact decide_eq_false (by omega)
theorem YF:∀x y z,aC y x=false→aC z y=false→aC z x=false
 | [],[],[],_,_=>rfl
 | [],[],_::_,_,_=>rfl
 | [],_::_,[],_,h=>by cases h
 | [],_::_,_::_,_,_=>rfl
 |_::_,[],_,h,_=>by cases h
 |_::_,_::_,[],_,h=>by cases h
 |a::l,b::m,c::n,h1,h2=>by
  unfold aC at h1 h2 ⊢
  by_cases e1:b=a
  ·rw[if_pos e1]at h1
   by_cases e2:c=b
   ·rw[if_pos e2]at h2
    rw[if_pos (e2.trans e1)]
    exact YF l m n h1 h2
   ·rw[if_neg e2]at h2
    have:=of_decide_eq_false h2
    rw[if_neg (by omega)]
    exact decide_eq_false (by omega)
  ·rw[if_neg e1]at h1
   have q1:=of_decide_eq_false h1
   by_cases e2:c=b
   ·rw[if_neg (by omega)]
    exact decide_eq_false (by omega)
   ·rw[if_neg e2]at h2
    have q2:=of_decide_eq_false h2
    rw[if_neg (by omega)]
    exact decide_eq_false (by omega)
theorem DP:∀x y,aC x y=false→aC y x=false→x=y
 | [],[],_,_=>rfl
 | [],_::_,h,_=>by cases h
 |_::_,[],_,h=>by cases h
 |a::l,b::m,h1,h2=>by
  unfold aC at h1 h2
  by_cases e:a=b
  ·rw[if_pos e]at h1
   rw[if_pos e.symm]at h2
   rw[e,DP l m h1 h2]
  ·rw[if_neg e]at h1
   rw[if_neg (Ne.symm e)]at h2
   have q1:=of_decide_eq_false h1
   have q2:=of_decide_eq_false h2
   omega
theorem NM (key:Value→List Int):Ord fun x y:Keyed=>aC (key x.1) (key y.1):=⟨fun _ _=>Yx _ _,fun _ _ _=>YF _ _ _⟩
section
variable {prog:Program}{w:World}{A:Around}{s:Shared}{b:Bool}{Q:Bool→Shared→Prop}
theorem NG {c:Bool}{x y:Int}{t u:Tok}(h:Q (decide (x<y)) s):wpAny (model prog w) A (oneLt' c (.int x t) (.int y u)) Q (fun _ _=>False) s:=by
 cases c with
 |true=>exact oneLt_int h
 |false=>exact kat_one _ _ (lt_int (Q:=PySem.W.BoolBack Q) h)
theorem Dx {fin:Bool} :∀{us vs:List Value}{xs ys:List Int}{i:Nat},IntsAre us xs→IntsAre vs ys→fin=decide (xs.length<ys.length)→Q (aC xs ys) s→KatLex prog w A b fin Q (us.zip vs) i s
 |_,_,_,_,i,.nil,.nil,hf,h=>by
  subst hf
  exact h
 |_,_,_,_,i,.nil,.cons _ _ _,hf,h=>by
  subst hf
  exact h
 |_,_,_,_,i,.cons _ _ _,.nil,hf,h=>by
  subst hf
  exact h
 |_,_,_,_,i,.cons x t ix,.cons y u iy,hf,h=>by
  rw[List.zip_cons_cons]
  refine kat_cons (SeqAt.EqAt.int_int (A:=A) (s:=s) x t y u _ _ _ _ ?_)
  unfold aC at h
  by_cases e:x=y
  ·rw[if_pos e]at h
   rw[beq_iff_eq.mpr e]
   exact kat_yes (Dx ix iy (by rw[hf];exact decide_eq_decide.mpr (by simp only[List.length_cons];omega)) h)
  ·rw[if_neg e]at h
   rw[beq_eq_false_iff_ne.mpr e]
   exact kat_no (NG h)
end
end PyProof.Rows.jH
namespace L2
open PySem PySem.Spec PyProof.Rows PyProof.Rows.jH
def cZ (H:Hp) (v:V) (k:List Int):Prop:=∃t:Addr,v=.ref t∧H t=some (.tup (k.map V.int))
theorem cZ.same {H H':Hp}{v:V}{k:List Int}(h:cZ H v k) (s:ae H H'):cZ H' v k:=by
 obtain⟨t,e,h1⟩:=h
 exact⟨t,e,s _ _ h1⟩
def eY (h:Heap):Value→List Int
 | .ref t=>match h.get? t with
  |some o=>match o.data with
   | .seq its _=>its.toList.map numOf
   |_=> []
  |none=> []
 |_=> []
theorem YG {h:Heap}{t:Addr}{o:Obj}{its:Array Value}{n:Nat}{k:List Int}(e:h.get? t=some o) (d:o.data=.seq its n) (i:IntsAre its.toList k):eY h (.ref t)=k:=by
 unfold eY
 dsimp only
 rw[e]
 dsimp only
 rw[d]
 dsimp only
 clear d e
 generalize its.toList=us at i
 induction i with
 |nil=>rfl
 |cons x t _ ih=>rw[List.map_cons,ih];rfl
def toV:Value→V
 | .ref t=> .ref t
 |_=> .af
def QZ (h:Heap) (u:Value) (k:List Int):Prop:=∃(t:Addr) (o:Obj) (its:Array Value) (n:Nat),u=.ref t∧h.get? t=some o∧o.cls=.type "tuple" ∧o.data=.seq its n∧IntsAre its.toList k
theorem YA {α β:Type}{R:α→β→Prop} :∀{xs:List α}{ys:List β}{x:α},Paired R xs ys→x∈xs→∃y∈ys,R x y
 |_,_,_,.cons h r,m=>by
  rcases List.mem_cons.mp m with rfl |m
  ·exact⟨_,List.mem_cons_self,h⟩
  ·obtain⟨y,hy,q⟩:=YA r m
   exact⟨y,List.mem_cons_of_mem _ hy,q⟩
theorem YZ {α β:Type}{R:α→β→Prop}{f:α→β} :∀{xs:List α}{ys:List β},Paired R xs ys→(∀x y,R x y→f x=y)→xs.map f=ys
 |_,_,.nil,_=>rfl
 |_,_,.cons h r,e=>by rw[List.map_cons,e _ _ h,YZ r e]
theorem Jt {vs:List Value}{p:Keyed}(h:p∈(pairsOf vs).toList):p.1∈vs∧p.2=p.1:=by
 unfold pairsOf at h
 rw[Array.toList_zip,List.toList_toArray]at h
 have:∀(l:List Value),p∈l.zip l→p.1∈l∧p.2=p.1:=fun l=>by
  induction l with
  |nil=>intro h;cases h
  |cons a l ih=>
   intro h
   rw[List.zip_cons_cons]at h
   rcases List.mem_cons.mp h with rfl |h
   ·exact⟨List.mem_cons_self,rfl⟩
   ·exact⟨List.mem_cons_of_mem _ (ih h).1,(ih h).2⟩
 exact this vs h
abbrev I4:=Int×Int×Int×Int
def bf (q:I4):List Int:=[q.1,q.2.1,q.2.2.1,q.2.2.2]
theorem O9 {a b:I4}(h:bf a=bf b):a=b:=by
 obtain⟨a1,a2,a3,a4⟩:=a
 obtain⟨b1,b2,b3,b4⟩:=b
 simp only[bf,List.cons.injEq,and_true]at h
 obtain⟨h1,h2,h3,h4⟩:=h
 subst h1 h2 h3 h4
 rfl
def mi (H:Hp) (v:V) (q:I4):Prop:=∃t t':Addr,v=.ref t∧H t=some (.tup [.ref t',.int q.2.2.1,.int q.2.2.2])∧H t'=some (.tup [.int q.1,.int q.2.1])
def jG (h:Heap) (u:Value) (k:I4):Prop:=∃(t:Addr) (o:Obj) (n:Nat) (t':Addr) (o':Obj) (n':Nat) (k1 k2 k3 k4:Tok),u=.ref t∧h.get? t=some o∧o.cls=.type "tuple" ∧o.data=.seq #[.ref t',.int k.2.2.1 k3,.int k.2.2.2 k4] n∧
 h.get? t'=some o'∧o'.cls=.type "tuple" ∧o'.data=.seq #[.int k.1 k1,.int k.2.1 k2] n'
theorem jG.keep {h h':Heap}{u:Value}{k:I4}{a:Addr}(x:jG h u k) (kp:∀b o,b≠a→h.get? b=some o→h'.get? b=some o) (na:∀b o,h.get? b=some o→b≠a):jG h' u k:=by
 obtain⟨t,o,n,t',o',n',k1,k2,k3,k4,e,g,c,d,g',c',d'⟩:=x
 exact⟨t,o,n,t',o',n',k1,k2,k3,k4,e,kp t o (na t o g) g,c,d,kp t' o' (na t' o' g') g',c',d'⟩
def jq (h:Heap):Value→List Int
 | .ref t=>match h.get? t with
  |some o=>match o.data with
   | .seq its _=>eY h (its.toList.getD 0 .none)++(its.toList.drop 1).map numOf
   |_=> []
  |none=> []
 |_=> []
theorem JR {h:Heap}{u:Value}{k:I4}(x:jG h u k):jq h u=bf k:=by
 obtain⟨t,o,n,t',o',n',k1,k2,k3,k4,rfl,g,c,d,g',c',d'⟩:=x
 have e:=YG g' d' (k:=[k.1,k.2.1]) (.cons _ _ (.cons _ _ .nil))
 unfold jq
 dsimp only
 rw[g]
 dsimp only
 rw[d]
 dsimp only
 show eY h (.ref t')++_=_
 rw[e]
 rfl
theorem WL {h:Heap} :∀{us:List Value}{ks:List I4},Paired (jG h) us ks→∃fs,PySem.W.KatTups h us fs∧fs.length=us.length∧∀f∈fs,∃t o,f=.ref t∧h.get? t=some o∧o.cls=.type "tuple"
 |_,_,.nil=> ⟨[],.nil,rfl,fun f hf=>by cases hf⟩
 |_,_,.cons (a:=u) (b:=k) ⟨t,o,n,t',o',n',k1,k2,k3,k4,e,g,c,d,g',c',d'⟩ r=>by
  obtain⟨fs,h1,h2,h3⟩:=WL r
  subst e
  refine⟨.ref t'::fs,.cons g c d rfl h1,by rw[List.length_cons,List.length_cons,h2],fun f hf=> ?_⟩
  rcases List.mem_cons.mp hf with rfl |hf
  ·exact⟨_,_,rfl,g',c'⟩
  ·exact h3 f hf
theorem Pc (a b a' b':Int) (l m:List Int):aC (a::b::l) (a'::b'::m)=if [a,b]=[a',b'] then aC l m else HT.lexLt [a,b] [a',b']:=by
 by_cases e1:a=a'
 ·subst e1
  by_cases e2:b=b'
  ·subst e2
   simp[aC]
  ·simp[aC,e2,HT.lexLt]
 ·simp[aC,e1,HT.lexLt]
theorem O0 {A:Around}{s:Shared}{t t':Addr}{o o':Obj}{n n':Nat}{a b a' b':Int}{k1 k2 k3 k4:Tok}(hu:A.units<cLine) (g:s.heap.get? t=some o) (c:o.cls=.type "tuple") (d:o.data=.seq #[.int a k1,.int b k2] n)
  (g':s.heap.get? t'=some o') (c':o'.cls=.type "tuple") (d':o'.data=.seq #[.int a' k3,.int b' k4] n'):SeqAt.EqAt A s (.ref t) (.ref t') (decide ([a,b]=[a',b'])):=by
 by_cases h:t=t'
 ·subst h
  rw[g]at g'
  cases g'
  rw[d]at d'
  have e:a=a'∧b=b':=by
   injection d' with e1 e2
   simp at e1
   exact⟨e1.1.1,e1.2.1⟩
  rw[e.1,e.2]
  have:=SeqAt.EqAt.same (A:=A) (s:=s) (.ref t)
  simpa using this
 ·refine SeqAt.EqAt.of_refs h ?_
  have z:=SeqAt.RcAt.tuples (A:=A) (s:=s) (l:=t) (b:=t') (items:= #[.int a k1,.int b k2]) (items2:= #[.int a' k3,.int b' k4]) (e:=fun j=>if j=0 then a==a' else b==b') ⟨o,g,c,n,d⟩ ⟨o',g',c',n',d'⟩ hu (fun j h1 h2=>by
   have LG:j<2:=h1
   match j,LG with
   |0,_=>exact SeqAt.EqAt.int_int _ _ _ _
   |1,_=>exact SeqAt.EqAt.int_int _ _ _ _)
  have e:((List.range (min (#[Value.int a k1,Value.int b k2]:Array Value).size (#[Value.int a' k3,Value.int b' k4]:Array Value).size)).all (fun j=>if j=0 then a==a' else b==b')&&(#[Value.int a k1,Value.int b k2]:Array Value).size==(#[Value.int a' k3,Value.int b' k4]:Array Value).size)=decide ([a,b]=[a',b']):=by
   show((List.range 2).all (fun j=>if j=0 then a==a' else b==b')&&2==2)=_
   rw[Bool.eq_iff_iff]
   simp[List.range_succ]
  rw[e]at z
  exact z
section
variable {X:Cx}
theorem UI (hu:X.A.units+2<cLine):fX X (.builtin "sorted") (fun xs H Q=> ∃(p:Addr) (vs:List V) (ks:List I4),xs=[.ref p]∧ag X.K H p vs∧Paired (mi H) vs ks∧vs.length≤1000∧
  ∀(q:Addr) (mG:List V) (oX:List I4),H q=none→oX.Perm ks→(oX.map bf).Pairwise (fun a b=>aC b a=false)→Paired (mi H) mG oX→Q (.ref q) (upd H q (.lst mG))):=by
 intro pins s σ H xs us Q I r h
 obtain⟨p,vs,ks,rfl,hp,pr,hz,q⟩:=h
 obtain⟨u,rfl,ru⟩:=vals1 r
 cases ru
 obtain⟨its,rv,pl,_⟩:=I.list hp
 have hl:=rv.length
 have key:∀{vs:List V}{ks:List I4}{its:List Value},Paired (mi H) vs ks→Vals vs its→Paired (fun u k=>jG s.heap u k∧mi H (toV u) k) its ks:=by
  intro vs ks its pr
  induction pr generalizing its with
  |nil=>intro rv;cases rv;exact .nil
  |cons hh _ ih=>
   intro rv
   cases rv with
   |cons r1 r2=>
    refine .cons ?_ (ih r2)
    obtain⟨t,t',rfl,ht,jt⟩:=hh
    cases r1
    obtain⟨i1,ri,⟨o,go,oc,n,od⟩,_⟩:=I.tuple (ai.of ht)
    obtain⟨i2,FY,⟨o',go',GU,n',GS⟩,_⟩:=I.tuple (ai.of jt)
    refine⟨?_,t,t',rfl,ht,jt⟩
    cases ri with
    |cons a1 a2=>
     cases a2 with
     |cons a3 a4=>
      cases a4 with
      |cons a5 a6=>
       cases a6
       cases FY with
       |cons b1 b2=>
        cases b2 with
        |cons b3 b4=>
         cases b4
         cases a1
         obtain⟨k3,rfl⟩:=a3
         obtain⟨k4,rfl⟩:=a5
         obtain⟨k1,rfl⟩:=b1
         obtain⟨k2,rfl⟩:=b3
         exact⟨t,o,n,t',o',n',k1,k2,k3,k4,rfl,go,oc,od,go',GU,GS⟩
 have tp:=key pr rv
 have tu:Paired (jG s.heap) its ks:=Paired.br tp fun _ _ h=>h.1
 refine Qm (κ:=tuples' false) (r:=fun x y=>aC (jq s.heap x.1) (jq s.heap y.1)) (NM _) pl.isList (fun h' a kp na s6 h6=> ?_) (by omega) fun xs AW gB=> ?_
 ·have Ew:Paired (jG s6.heap) its ks:=Paired.br tu fun u k x=>x.keep (a:=a) (fun b o hb e=>h6 b o hb (kp b o e)) na
  refine⟨fun h2 Q' hq=> ?_,fun x y st Q' mx my hk hq=> ?_⟩
  ·obtain⟨fs,kt,kl,kf⟩:=WL Ew
   refine PySem.W.kat_kind (T:=.type "tuple") kt (by omega) (fun v hv=> ?_) (by rfl) hq
   obtain⟨t,o,rfl,g,c⟩:=kf v hv
   rw[←c]
   exact(PySem.W.Looks.ld g).andThen .now
  ·rw[lt'_eq]
   refine wpS_bind (wpS_get ?_)
   rw[hk]
   obtain⟨Hv,_⟩:=Jt mx
   obtain⟨Hu,_⟩:=Jt my
   obtain⟨kx,_,nx⟩:=YA tu Hv
   obtain⟨ky,_,ny⟩:=YA tu Hu
   dsimp only at hq
   rw[JR nx,JR ny]at hq
   obtain⟨tx,ox,n1,Eu,R8,Ht,c1,c2,c3,c4,ex,gx,cx,dx,BU,Cv,Cm⟩:=nx.keep (h':=s6.heap) (a:=a) (fun b o hb e=>h6 b o hb (kp b o e)) na
   obtain⟨ty,oy,n2,Et,R7,Hs,d1,d2,d3,d4,ey,gy,cy,dy,BS,Cu,Ck⟩:=ny.keep (h':=s6.heap) (a:=a) (fun b o hb e=>h6 b o hb (kp b o e)) na
   rw[ex,ey]
   refine wpS_bind (wpS_lift (wpAny_attempt (PySem.W.kat_lt gx dx gy dy ?_)))
   show PySem.W.KatLex _ _ _ false (decide (3<3)) _ ((Value.ref Eu,Value.ref Et)::([Value.int kx.2.2.1 c3,Value.int kx.2.2.2 c4].zip [Value.int ky.2.2.1 d3,Value.int ky.2.2.2 d4])) 0 _
   refine PySem.W.kat_cons (O0 (A:=X.A.in1.in1) hu BU Cv Cm BS Cu Ck _ _ _ _ ?_)
   have wO:aC (bf kx) (bf ky)=if [kx.1,kx.2.1]=[ky.1,ky.2.1] then aC [kx.2.2.1,kx.2.2.2] [ky.2.2.1,ky.2.2.2] else HT.lexLt [kx.1,kx.2.1] [ky.1,ky.2.1]:=Pc ..
   rw[wO]at hq
   by_cases e:[kx.1,kx.2.1]=[ky.1,ky.2.1]
   ·rw[if_pos e]at hq
    rw[decide_eq_true e]
    exact PySem.W.kat_yes (Dx (xs:=[kx.2.2.1,kx.2.2.2]) (ys:=[ky.2.2.1,ky.2.2.2]) (.cons _ _ (.cons _ _ .nil)) (.cons _ _ (.cons _ _ .nil)) rfl ⟨rfl,wpS_pure hq⟩)
   ·rw[if_neg e]at hq
    rw[decide_eq_false e]
    exact PySem.W.kat_no (PySem.W.kat_one _ _ (HT.AG ⟨_,BU,Cv,Ht,Cm⟩ ⟨_,BS,Cu,Hs,Ck⟩ (ns:=[kx.1,kx.2.1]) (ms:=[ky.1,ky.2.1]) (.cons _ _ (.cons _ _ .nil)) (.cons _ _ (.cons _ _ .nil)) hu ⟨rfl,wpS_pure hq⟩))
 ·have bS:∀pq∈xs.toList,pq.1∈its∧pq.2=pq.1:=fun pq wu=>Jt ((Array.perm_iff_toList_perm.mp AW).mem_iff.mp wu)
  have eo:(xs.map (·.2)).toList=xs.toList.map (·.1):=by
   rw[Array.toList_map]
   exact List.map_congr_left fun pq wu=> (bS pq wu).2
  have po:(xs.toList.map (·.1)).Perm its:=by
   refine List.Perm.trans ((Array.perm_iff_toList_perm.mp AW).map _) ?_
   unfold pairsOf
   rw[Array.toList_zip,List.toList_toArray]
   have:∀l:List Value,(l.zip l).map (·.1)=l:=fun l=>by
    induction l with
    |nil=>rfl
    |cons a l ih=>rw[List.zip_cons_cons,List.map_cons,ih]
   rw[this]
  generalize Sy:xs.map (·.2)=out at eo
  let kk:Value→I4:=fun u=>match jq s.heap u with
   | [a,b,c,d]=> (a,b,c,d)
   |_=> (0,0,0,0)
  have Bm:∀u k,jG s.heap u k→kk u=k:=fun u k x=>by
   show(match jq s.heap u with
    | [a,b,c,d]=> (a,b,c,d)
    |_=> (0,0,0,0))=k
   rw[JR x]
   rfl
  have ek:its.map kk=ks:=YZ tu Bm
  have rel:∀u∈out.toList,mi H (toV u) (kk u)∧bf (kk u)=jq s.heap u∧RelV (toV u) u:=fun u hu=>by
   rw[eo]at hu
   obtain⟨k,_,hT,hS⟩:=YA tp (po.mem_iff.mp hu)
   have e:=Bm u k hT
   rw[e]
   refine⟨hS,(JR hT).symm,?_⟩
   obtain⟨t,t',e2,_⟩:=hS
   obtain⟨t2,_,_,_,_,_,_,_,_,_,e3,_⟩:=hT
   subst e3
   rfl
  have vals:∀l:List Value,(∀u∈l,mi H (toV u) (kk u)∧bf (kk u)=jq s.heap u∧RelV (toV u) u)→Vals (l.map toV) l∧Paired (mi H) (l.map toV) (l.map kk)∧(l.map kk).map bf=l.map (jq s.heap):=fun l=>by
   induction l with
   |nil=>intro _;exact⟨.nil,.nil,rfl⟩
   |cons u l ih=>
    intro hl
    obtain⟨i1,i2,i3⟩:=ih fun v hv=>hl v (List.mem_cons_of_mem _ hv)
    obtain⟨a1,a2,a3⟩:=hl u List.mem_cons_self
    exact⟨.cons a3 i1,.cons a1 i2,by rw[List.map_cons,List.map_cons,List.map_cons,i3,a2]⟩
  obtain⟨v1,v2,v3⟩:=vals out.toList rel
  obtain⟨e,he⟩:=sortedAll_at s.heap its out
  have lo:out.toList.length=its.length:=by rw[eo];exact po.length_eq
  have hlen:(out.toList.map toV).length≤sizeLine:=by rw[List.length_map,lo,sizeLine_eq];omega
  refine⟨.ref (s.heap.objs.size+1),_,I.laid (t':=s.toks) (a:=s.heap.objs.size+1) (o:=.lst (out.toList.map toV)) (fun b o=>sortedAll_old) (Nat.le_succ _) ⟨hlen,out.toList,e,v1,by simpa using he⟩,rfl,q _ _ (out.toList.map kk) (I.ah.fresh (Nat.le_succ _)) ?_ ?_ v2⟩
  ·rw[←ek,eo]
   exact po.map _
  ·rw[v3,eo,List.map_map,List.pairwise_map]
   exact gB
end
end L2
namespace PyProof.Rows.jH
open PySem
def iD (lt:Value→Value→Bool):Value→List Value→Value
 |b,[]=>b
 |b,v::r=>iD lt (if lt v b=true then v else b) r
section
variable {prog:Program}{w:World}{A:Around}{R:Result→Shared→Prop}{lt:Value→Value→Bool}{vs:List Value}{h0:Heap}{kw:List (Str×Value)}
def Kp (h0 h:Heap):Prop:=∀b o,h0.get? b=some o→h.get? b=some o
theorem OE (hh:A.in1.handled=none) {I l S:Addr}(sG:l≠I) (lU:S≠I) (sV:S≠l) (zI:h0.get? I=none) (zS:h0.get? S=none)
  (wZ:∀(s':Shared) u v (Q:Value→Shared→Prop) (E:Value→Shared→Prop),Kp h0 s'.heap→u∈vs→v∈vs→Q (.bool (lt u v)) s'→wpAny (model prog w) A.in1 (richCompare .Lt u v) Q E s'):
  ∀(k j:Nat) (s:Shared) (vb:Value) (c:Nat),vs.length - j=k→j≤vs.length→s.heap.IsListIter I l j→s.heap.IsList l vs.toArray→vb∈vs→Kp h0 s.heap→
  s.heap.get? S=some {cls:=.type "list",dict:=none,data:=.seq #[vb,vb] c,slots:= #[]}→
  (∀h' tk,Kp h0 h'→R (.ok (.ret (iD lt vb (vs.drop j)))) {s with heap:=h',toks:=tk})→
  codeAny (model prog w) A (.builtin "min.loop" ⟨[.ref I,.none,.ref S],kw⟩) R s:=by
 have pH:(toString "min" ++toString ".loop" :String)= "min.loop" :=by decide
 have W:=Walks.list (prog:=prog) (w:=w) (A:=A.in1) hh I l sG vs.toArray
 have bG:vs.toArray.size=vs.length:=List.size_toArray ..
 have ne:∀b o,h0.get? b=some o→b∉[I]∧b≠S:=fun b o e=> ⟨fun m=> (by rw[List.mem_singleton.mp m,zI]at e;cases e),fun m=> (by rw[m,zS]at e;cases e)⟩
 intro k
 induction k with
 |zero=>
  intro j s vb c hk hj hit wJ hb wM hS hR
  have pN:j=vs.toArray.size:=by omega
  refine codeAny_builtin F.entry_min_loop ?_
  rw[Around.under_plainId F.plain_min_loop _]
  show wpAny _ A.in1 (seqItems? (.ref S) >>=_) _ _ s
  refine wpAny_bind (wpAny_seqItems hS rfl ?_)
  show wpAny _ A.in1 (tryCatch (pyNext (.ref I)) _ >>=_) _ _ s
  refine wpAny_bind (wpAny_tryCatch (W.done s _ _ (pN▸⟨hit,wJ⟩) fun h' tk aK=> ?_))
  have gE:=aK S _ (by simpa using lU) hS
  show wpAny _ A.in1 (updateSeq S (fun _=> #[]) >>=_) _ _ _
  refine wpAny_bind ?_
  refine wpAny_updateSeq gE rfl (wpAny_bind (wpAny_letGo (wpAny_pure ?_)))
  have e:vs.drop j=[]:=List.drop_eq_nil_of_le (by omega)
  rw[e]at hR
  exact hR _ tk fun b o q=> (Heap.get?_update_other _ _ (Ne.symm (ne b o q).2)).trans (aK b o (ne b o q).1 (wM b o q))
 |succ k ih=>
  intro j s vb c hk hj hit wJ hb wM hS hR
  have aw:j<vs.length:=by omega
  refine codeAny_builtin F.entry_min_loop ?_
  rw[Around.under_plainId F.plain_min_loop _]
  show wpAny _ A.in1 (seqItems? (.ref S) >>=_) _ _ s
  refine wpAny_bind (wpAny_seqItems hS rfl ?_)
  show wpAny _ A.in1 (tryCatch (pyNext (.ref I)) _ >>=_) _ _ s
  refine wpAny_bind (wpAny_tryCatch (W.item j s _ _ (by omega) ⟨hit,wJ⟩ fun v h' tk hP gC aK=> ?_))
  have hv:vs[j]? =some v:=by simpa using hP
  have AY:v∈vs:=List.mem_of_getElem? hv
  have gE:=aK S _ (by simpa using lU) hS
  have oZ:Kp h0 h':=fun b o q=>aK b o (ne b o q).1 (wM b o q)
  have ed:vs.drop j=v::vs.drop (j+1):=by
   have e2:vs[j]=v:=(List.getElem?_eq_some_iff.mp hv).2
   rw[List.drop_eq_getElem_cons aw,e2]
  rw[ed]at hR
  show wpAny _ A.in1 (tryCatch (holding [v,v] (richCompare .Lt v vb >>=_)) _ >>=_) _ _ _
  refine wpAny_bind (wpAny_tryCatch (wpAny_holding (wpAny_bind (wZ _ v vb _ _ oZ AY hb ?_))))
  refine wpAny_bind (wpAny_holding (wpAny_truthy_bool ?_))
  refine wpAny_bind (wpAny_letGo (wpAny_pure ?_))
  cases dn:lt v vb with
  |true=>
   simp only[if_true]
   refine wpAny_bind ?_
   refine wpAny_updateSeq gE rfl (wpAny_bind (wpAny_letGo ?_))
   rw[pH]
   have fr:=W.frame (j+1) _ (h'.update S (Obj.mapSeq fun _=> #[v,v])) gC fun b pS o e=> (Heap.get?_update_other _ _ (fun h:S=b=>by
    simp only[List.mem_cons,List.not_mem_nil,or_false]at pS
    rcases pS with q |q
    ·exact lU (h.trans q)
    ·exact sV (h.trans q))).trans e
   refine wpAny_pure ⟨plainId_quiet F.plain_min_loop _,ih (j+1) _ v _ (by omega) aw fr.1 fr.2 AY (fun b o q=> (Heap.get?_update_other _ _ (Ne.symm (ne b o q).2)).trans (oZ b o q)) (Heap.get?_update_self _ gE rfl) fun cH n8 eC=> ?_⟩
   have z:=hR cH n8 eC
   unfold iD at z
   rw[if_pos dn]at z
   exact z
  |false=>
   simp only[Bool.false_eq_true,if_false]
   refine wpAny_bind (wpAny_letGo ?_)
   rw[pH]
   refine wpAny_pure ⟨plainId_quiet F.plain_min_loop _,ih (j+1) _ vb c (by omega) aw gC.1 gC.2 hb oZ gE fun cH n8 eC=> ?_⟩
   have z:=hR cH n8 eC
   unfold iD at z
   rw[if_neg (by rw[dn];exact Bool.false_ne_true)]at z
   exact z
theorem JD (a v:Value):argsOk "min" ⟨[a],[(Str.ofString "default",v)]⟩:=by unfold argsOk;kernel_rfl
theorem PU {E:Value→Shared→Prop}{s:Shared}{Q:Value→Shared→Prop}{l:Addr}(hh:A.in1.handled=none) (wF:s.heap.IsList l vs.toArray)
  (wZ:∀(s':Shared) u v (Q:Value→Shared→Prop) (E:Value→Shared→Prop),Kp s.heap s'.heap→u∈vs→v∈vs→Q (.bool (lt u v)) s'→wpAny (model prog w) A.in1 (richCompare .Lt u v) Q E s')
  (h1:∀h' tk,vs=[]→Kp s.heap h'→Q .none {s with heap:=h',toks:=tk}) (h2:∀v r h' tk,vs=v::r→Kp s.heap h'→Q (iD lt v r) {s with heap:=h',toks:=tk}):
  wpAny (model prog w) A (call (.builtin "min") [.ref l] [(Str.ofString "default",.none)]) Q E s:=by
 have pH:(toString "min" ++toString ".loop" :String)= "min.loop" :=by decide
 obtain⟨ol,su,_⟩:=id wF
 have Bi:l<s.heap.objs.size:=Heap.lt_size su
 refine kmk_tree PySem.F.kind_min PySem.F.plain_min PySem.F.entry_min (JD _ _) ?_
 show wpAny _ A.in1 (Builtin.Builtins.bindParams "min" ["key", "default"] 0 ⟨[],[(Str.ofString "default",.none)]⟩ >>=_) _ _ s
 refine wpAny_bind (wpAny_of_eq (show Builtin.Builtins.bindParams "min" ["key", "default"] 0 ⟨[],[(Str.ofString "default",.none)]⟩=pure [none,some .none] from rfl) ?_)
 refine wpAny_bind (wpAny_pure ?_)
 refine wpAny_bind (wpAny_pyIter_list wF ?_)
 refine wpAny_bind (wpAny_newList ?_ (Nat.zero_le _))
 rw[pH]
 have hS:(s.heap.push {cls:=.type "list_iterator",data:=.fields #[.ref l,.int 0 0]}).objs.size=s.heap.objs.size+1:=size_push' ..
 have sG:l≠s.heap.objs.size:=Nat.ne_of_lt Bi
 have lU:(s.heap.push {cls:=.type "list_iterator",data:=.fields #[.ref l,.int 0 0]}).objs.size≠s.heap.objs.size:=by rw[hS];exact Nat.ne_of_gt (Nat.lt_succ_self _)
 have sV:(s.heap.push {cls:=.type "list_iterator",data:=.fields #[.ref l,.int 0 0]}).objs.size≠l:=by rw[hS];exact Nat.ne_of_gt (Nat.lt_succ_of_lt Bi)
 have zI:s.heap.get? s.heap.objs.size=none:=Heap.get?_none_of_le (Nat.le_refl _)
 have zS:s.heap.get? (s.heap.push {cls:=.type "list_iterator",data:=.fields #[.ref l,.int 0 0]}).objs.size=none:=Heap.get?_none_of_le (by rw[hS];exact Nat.le_succ _)
 refine wpAny_pure ⟨plainId_quiet PySem.F.plain_min_loop _,?_⟩
 have vU:Kp s.heap ((s.heap.push {cls:=.type "list_iterator",data:=.fields #[.ref l,.int 0 0]}).push (seqObj "list" #[] 0)):=fun b o e=>Heap.get?_push_of_some _ (Heap.get?_push_of_some _ e)
 have gI:((s.heap.push {cls:=.type "list_iterator",data:=.fields #[.ref l,.int 0 0]}).push (seqObj "list" #[] 0)).get? s.heap.objs.size=some {cls:=.type "list_iterator",data:=.fields #[.ref l,.int 0 0]} :=
  Heap.get?_push_of_some _ (Heap.get?_push_size _ rfl)
 have gS:((s.heap.push {cls:=.type "list_iterator",data:=.fields #[.ref l,.int 0 0]}).push (seqObj "list" #[] 0)).get? (s.heap.push {cls:=.type "list_iterator",data:=.fields #[.ref l,.int 0 0]}).objs.size=some (seqObj "list" #[] 0):=Heap.get?_push_size _ rfl
 have lH:((s.heap.push {cls:=.type "list_iterator",data:=.fields #[.ref l,.int 0 0]}).push (seqObj "list" #[] 0)).IsList l vs.toArray:=wF.at fun o e=>vU _ _ e
 have W:=Walks.list (prog:=prog) (w:=w) (A:=A.in1) hh s.heap.objs.size l sG vs.toArray
 have bG:vs.toArray.size=vs.length:=List.size_toArray ..
 have ne:∀b o,s.heap.get? b=some o→b∉[s.heap.objs.size]∧b≠(s.heap.push {cls:=.type "list_iterator",data:=.fields #[.ref l,.int 0 0]}).objs.size:=fun b o e=> ⟨fun m=> (by rw[List.mem_singleton.mp m,zI]at e;cases e),fun m=> (by rw[m,zS]at e;cases e)⟩
 refine codeAny_builtin PySem.F.entry_min_loop ?_
 rw[Around.under_plainId PySem.F.plain_min_loop _]
 show wpAny _ A.in1 (seqItems? (.ref _) >>=_) _ _ _
 refine wpAny_bind (wpAny_seqItems gS rfl ?_)
 show wpAny _ A.in1 (tryCatch (pyNext (.ref s.heap.objs.size)) _ >>=_) _ _ _
 cases hJ:vs with
 |nil=>
  refine wpAny_bind (wpAny_tryCatch (W.done _ _ _ ⟨⟨_,gI,rfl,by rw[bG,hJ];rfl⟩,lH⟩ fun h' tk aK=> ?_))
  refine wpAny_bind (wpAny_rule ?_)
  exact wpAny_pure (h1 h' tk hJ fun b o q=>aK b o (ne b o q).1 (vU b o q))
 |cons v0 r0=>
  refine wpAny_bind (wpAny_tryCatch (W.item 0 _ _ _ (by rw[bG,hJ];exact Nat.succ_pos _) ⟨⟨_,gI,rfl,rfl⟩,lH⟩ fun v h' um hP gC aK=> ?_))
  have hv:v0=v:=by
   rw[hJ]at hP
   simpa using hP
  subst hv
  have B5:=aK _ _ (by simpa using lU) gS
  have oZ:Kp s.heap h':=fun b o q=>aK b o (ne b o q).1 (vU b o q)
  show wpAny _ A.in1 (updateSeq (s.heap.push {cls:=.type "list_iterator",data:=.fields #[.ref l,.int 0 0]}).objs.size (fun _=> #[v0,v0]) >>=_) _ _ _
  refine wpAny_bind ?_
  refine wpAny_updateSeq B5 rfl ?_
  rw[pH]
  have fr:=W.frame (0+1) _ (h'.update (s.heap.push {cls:=.type "list_iterator",data:=.fields #[.ref l,.int 0 0]}).objs.size (Obj.mapSeq fun _=> #[v0,v0])) gC fun b pS o e=> (Heap.get?_update_other _ _ (fun h=>by
    simp only[List.mem_cons,List.not_mem_nil,or_false]at pS
    rcases pS with q |q
    ·exact lU (h.trans q)
    ·exact sV (h.trans q))).trans e
  refine wpAny_pure ⟨plainId_quiet PySem.F.plain_min_loop _,OE (lt:=lt) (vs:=vs) (h0:=s.heap) hh sG lU sV zI zS wZ _ 1 _ v0 _ rfl (by rw[hJ];exact Nat.succ_le_succ (Nat.zero_le _)) fr.1 fr.2 (by rw[hJ];exact List.mem_cons_self) (fun b o q=> (Heap.get?_update_other _ _ (Ne.symm (ne b o q).2)).trans (oZ b o q)) (Heap.get?_update_self _ B5 rfl) fun cH n8 eC=> ?_⟩
  have z:=h2 v0 r0 cH n8 hJ eC
  rw[hJ]
  exact z
end
theorem JG {lt:Value→Value→Bool} :∀{r:List Value}{b:Value},iD lt b r∈b::r
 | [],b=>List.mem_cons_self
 |v::r,b=>by
  unfold iD
  rcases List.mem_cons.mp (JG (lt:=lt) (r:=r) (b:=if lt v b=true then v else b)) with h |h
  ·rw[h]
   by_cases e:lt v b=true
   ·rw[if_pos e];exact List.mem_cons_of_mem _ List.mem_cons_self
   ·rw[if_neg e];exact List.mem_cons_self
  ·exact List.mem_cons_of_mem _ (List.mem_cons_of_mem _ h)
theorem Wr (key:Value→List Int):∀{r:List Value}{b:Value},∀v∈b::r,aC (key v) (key (iD (fun a b=>aC (key a) (key b)) b r))=false
 | [],b,v,hv=>by
  rw[List.mem_singleton.mp hv]
  cases h:aC (key b) (key (iD (fun a b=>aC (key a) (key b)) b [])) with
  |false=>rfl
  |true=>
   have:=Yx _ _ h
   exact absurd (h.symm.trans this) (by decide)
 |w::r,b,v,hv=>by
  have ih:=fun v hv=>Wr key (r:=r) (b:=if aC (key w) (key b)=true then w else b) v hv
  show aC (key v) (key (iD (fun a b=>aC (key a) (key b)) (if aC (key w) (key b)=true then w else b) r))=false
  have hd:=ih _ List.mem_cons_self
  by_cases e:aC (key w) (key b)=true
  ·rw[if_pos e]at hd ih ⊢
   rcases List.mem_cons.mp hv with rfl |hv
   ·exact YF _ _ _ hd (Yx _ _ e)
   ·exact ih v hv
  ·rw[if_neg e]at hd ih ⊢
   rcases List.mem_cons.mp hv with rfl |hv
   ·exact hd
   ·rcases List.mem_cons.mp hv with rfl |hv
    ·exact YF _ _ _ hd (by simpa using e)
    ·exact ih v (List.mem_cons_of_mem _ hv)
end PyProof.Rows.jH
namespace L2
open PySem PySem.Spec PyProof.Rows PyProof.Rows.jH
theorem Wl:∀a b:List Int,HT.lexLt a b=aC a b
 | [],[]=>rfl
 | [],_::_=>rfl
 |_::_,[]=>rfl
 |x::a,y::b=>by
  unfold aC
  rw[HT.AM,Wl a b]
section
variable {X:Cx}
def ET (K:PySem.W.Frag) (te:TE):TE:=fun σ H Q=>te σ H fun v H1=> ∃(a:Addr) (vs:List V) (ks:List (List Int)),v=.ref a∧ag K H1 a vs∧Paired (cZ H1) vs ks∧(vs=[]→Q .af H1)∧
 ∀v k,v∈vs→k∈ks→cZ H1 v k→(∀k'∈ks,aC k' k=false)→Q v H1
theorem NO {x:Str}{te:TE}{p px kp oY pos:Pos}(hc:X.calm=true) (hu:X.A.units+1<cLine) (hg:Gl X "min") (hm:X.mg "min" =none) (he:PE X (.Name x px) te)
  (cW:(backToKw pos (keywordEach [⟨some "default",.Constant .none 0 kp,oY⟩] X.env)).filterMap (·.1)=[Str.ofString "default"]:=by rfl):
  PE X (.Call (.Name "min" p) [.Name x px] [⟨some "default",.Constant .none 0 kp,oY⟩] pos) (ET X.K te):=by
 intro pins s σ H Q I h
 refine wpAny_Call_Name_kw (Ym I hg hm PyProof.Rows.Boot.«min» ?_ (by decide) (by decide))
 have pa:PA X [.Name x px] (om te oj):=Za he Zb
 have pk:PK X [⟨some "default",.Constant .none 0 kp,oY⟩] (om (tC .af) oj):=NR Yr Ox
 refine PyProof.Rows.callWith_kw (au (pa pos pins s σ H (fun us H1=>match us with
  | [v]=> ∃(a:Addr) (vs:List V) (ks:List (List Int)),v=.ref a∧ag X.K H1 a vs∧Paired (cZ H1) vs ks∧(vs=[]→Q .af H1)∧∀v k,v∈vs→k∈ks→cZ H1 v k→(∀k'∈ks,aC k' k=false)→Q v H1
  |_=>False) I h) fun us s1 ⟨dw,H1,I1,r1,q1⟩=> ?_)
 match dw,q1 with
 | [v],q1=>
  obtain⟨a,vs,ks,rfl,hq,pr,q1,q2⟩:=q1
  refine au (pk pos pins s1 σ H1 (fun zs H2=>zs=[.af]∧H2=H1) I1 ⟨rfl,rfl⟩) fun ws s2 ⟨zs,H2,I2,rz,e1,e2⟩=> ?_
  subst e1 e2
  obtain⟨u,rfl,ru⟩:=vals1 r1
  obtain⟨z,rfl,FW⟩:=vals1 rz
  cases ru
  have ez:z=.none:=FW
  subst ez
  rw[cW]
  show wpAny _ _ (call (.builtin "min") [.ref a] [(Str.ofString "default",.none)]) _ _ _
  obtain⟨its,rv,pl,_⟩:=I2.list hq
  have key:∀{vs:List V}{ks:List (List Int)}{its:List Value},Paired (cZ H2) vs ks→Vals vs its→∀u∈its,∃v∈vs,∃k∈ks,RelV v u∧cZ H2 v k∧QZ s2.heap u k:=by
   intro vs ks its pr
   induction pr generalizing its with
   |nil=>intro rv;cases rv;intro u hu;cases hu
   |cons hh _ ih=>
    intro rv
    cases rv with
    |cons r1 r2=>
     intro u hu
     rcases List.mem_cons.mp hu with rfl |hu
     ·obtain⟨t,e,ht⟩:=id hh
      obtain⟨items,ri,⟨o,go,oc,n,od⟩,_⟩:=I2.tuple (ai.of ht)
      refine⟨_,List.mem_cons_self,_,List.mem_cons_self,r1,hh,?_⟩
      subst e
      cases r1
      exact⟨t,o,_,n,rfl,go,oc,od,by simpa using YB ri⟩
     ·obtain⟨v,hv,k,hk,w⟩:=ih r2 u hu
      exact⟨v,List.mem_cons_of_mem _ hv,k,List.mem_cons_of_mem _ hk,w⟩
  have HY:∀{vs:List V}{ks:List (List Int)}{its:List Value},Paired (cZ H2) vs ks→Vals vs its→∀k∈ks,∃u∈its,eY s2.heap u=k:=by
   intro vs ks its pr
   induction pr generalizing its with
   |nil=>intro rv k hk;cases hk
   |cons hh _ ih=>
    intro rv
    cases rv with
    |cons r1 r2=>
     intro k hk
     rcases List.mem_cons.mp hk with rfl |hk
     ·obtain⟨t,e,ht⟩:=id hh
      obtain⟨items,ri,⟨o,go,oc,n,od⟩,_⟩:=I2.tuple (ai.of ht)
      refine⟨_,List.mem_cons_self,?_⟩
      subst e
      cases r1
      exact YG go od (by simpa using YB ri)
     ·obtain⟨u,hu,e⟩:=ih r2 k hk
      exact⟨u,List.mem_cons_of_mem _ hu,e⟩
  refine PU (lt:=fun u v=>aC (eY s2.heap u) (eY s2.heap v)) (I2.ok.hd hc) pl.isList (fun s' u v Q' E' kp IB Iz dP=> ?_) (fun h' tk e kp=> ?_) (fun v0 r h' tk e kp=> ?_)
  ·obtain⟨_,_,ku,_,_,_,tu,ou,iu,nu,rfl,gu,cu,du,ju⟩:=key pr rv u IB
   obtain⟨_,_,kv,_,_,_,tv,ov,iv,nv,rfl,gv,cv,dv,jv⟩:=key pr rv v Iz
   have e1:eY s2.heap (.ref tu)=ku:=YG gu du ju
   have e2:eY s2.heap (.ref tv)=kv:=YG gv dv jv
   try dsimp only at dP
   rw[e1,e2,←Wl]at dP
   exact HT.AG ⟨_,kp _ _ gu,cu,nu,du⟩ ⟨_,kp _ _ gv,cv,nv,dv⟩ ju jv hu dP
  ·subst e
   cases rv
   exact⟨.af,H2,I2.kept kp,rfl,q1 rfl⟩
  ·have hm:=JG (lt:=fun u v=>aC (eY s2.heap u) (eY s2.heap v)) (r:=r) (b:=v0)
   have hle:=Wr (eY s2.heap) (r:=r) (b:=v0)
   generalize iD (fun u v=>aC (eY s2.heap u) (eY s2.heap v)) v0 r=m at hm hle
   rw[←e]at hm hle
   obtain⟨v,hv,k,hk,FX,nF,tu,ou,iu,nu,e3,gu,cu,du,ju⟩:=key pr rv m hm
   have e1:eY s2.heap m=k:=by rw[e3];exact YG gu du ju
   refine⟨v,H2,I2.kept kp,FX,q2 v k hv hk nF fun k' aK=> ?_⟩
   obtain⟨u',js,e4⟩:=HY pr rv k' aK
   have:=hle u' js
   rw[e1,e4]at this
   exact this
end
end L2
namespace L2
open PySem PySem.Spec PyProof.Rows
def ub (K:PySem.W.Frag) (l1 l2:Addr):It:=
 ⟨fun i H=> ∃xs ys x y,ag K H l1 xs∧ag K H l2 ys∧xs[i]? =some x∧ys[i]? =some y,
  fun i H v H'=> ∃(T:Addr) (x y:V),v=.ref T∧H T=none∧H'=upd H T (.par [x,y])∧∀xs ys,ag K H l1 xs→ag K H l2 ys→xs[i]? =some x∧ys[i]? =some y,
  fun i H=> ∃xs ys,ag K H l1 xs∧ag K H l2 ys∧min xs.length ys.length=i⟩
theorem PL {P:Program}{w:World}{K:PySem.W.Frag}{elts:List Expr}{kk:Nat}{pos:Pos}(z TI TO i1 i2 l1 l2:Addr) (D:ZipApart z TI TO i1 i2 l1 l2):
  Turn P w K (.Tuple elts kk pos) (ub K l1 l2) [z,TI,TO,i1,i2] z (fun i h=>IsZip h z TI TO .none∧IsPair h TI (.ref i1) (.ref i2)∧(∃a b,IsPair h TO a b)∧h.IsListIter i1 l1 i∧h.IsListIter i2 l2 i) where
 mem:=by simp
 obj:=fun i h st b hb=>by
  obtain⟨a1,a2,⟨u,v,a3⟩,⟨o4,h4,_,d4⟩,⟨o5,h5,_,d5⟩⟩:=st
  simp only[List.mem_cons,List.not_mem_nil,or_false]at hb
  rcases hb with rfl |rfl |rfl |rfl |rfl
  ·exact⟨_,a1,fun v z=>by cases z⟩
  ·exact⟨_,a2,fun v z=>by cases z⟩
  ·exact⟨_,a3,fun v z=>by cases z⟩
  ·exact⟨_,h4,fun v z=>by rw[d4]at z;cases z⟩
  ·exact⟨_,h5,fun v z=>by rw[d5]at z;cases z⟩
 keep:=fun i h h' st k=>by
  obtain⟨a1,a2,⟨u,v,a3⟩,a4,a5⟩:=st
  exact⟨k z (by simp) _ a1,k TI (by simp) _ a2,⟨u,v,k TO (by simp) _ a3⟩,a4.at fun o q=>k i1 (by simp) o q,a5.at fun o q=>k i2 (by simp) o q⟩
 item:=by
  intro X hP hw hK hc i pins s σ H E I hf st hg
  subst hP hw hK
  obtain⟨xs,ys,x,y,ff,bJ,hx,hy⟩:=hg
  obtain⟨ee,iN,dH,bI⟩:=I.list ff
  obtain⟨fc,gU,eV,az⟩:=I.list bJ
  obtain⟨u,hu,ru⟩:=iN.get hx
  obtain⟨v,hv,rv⟩:=gU.get hy
  have lK:i<min ee.toArray.size fc.toArray.size:=by
   have e1:=(List.getElem?_eq_some_iff.mp hu).1
   have e2:=(List.getElem?_eq_some_iff.mp hv).1
   simp only[List.size_toArray]
   omega
  have W:=WalksT.zip2 (prog:=X.prog) (w:=X.w) (A:=X.A) (I.ok.hd hc) z TI TO i1 i2 l1 l2 D ee.toArray fc.toArray
  obtain⟨a1,a2,a3,a4,a5⟩:=st
  refine W.item i s _ _ lK ⟨a1,a2,a3,a4,a5,dH.isList,eV.isList⟩ fun T vals h' tk hP eK lQ ij hk=> ⟨_,rfl,W.go elts kk pos i T _ _ _ ij fun cH dh eC=> ?_⟩
  obtain⟨x2,y2,jr,aX,rfl⟩:=hP
  have j4:ee[i]? =some x2:=by simpa using jr
  have AV:fc[i]? =some y2:=by simpa using aX
  rw[hu]at j4
  rw[hv]at AV
  cases j4
  cases AV
  have iz:H T=none:=I.ah.fresh eK
  have both:∀b o,b∉[z,TO,i1,i2]→s.heap.get? b=some o→cH.get? b=some o:=fun b o hb q=>eC b o hb (hk b o hb q)
  have sub:∀b,b∉[z,TI,TO,i1,i2]→b∉[z,TO,i1,i2]:=fun b hb hm=>hb (by
   simp only[List.mem_cons,List.not_mem_nil,or_false]at hm ⊢
   rcases hm with h |h |h |h
   ·exact .inl h
   ·exact .inr (.inr (.inl h))
   ·exact .inr (.inr (.inr (.inl h)))
   ·exact .inr (.inr (.inr (.inr h))))
  have jz:T∉[z,TO,i1,i2]:=W.apart _ _ _ ij
  have lT:cH.IsTuple T #[u,v]:=lQ.at fun o q=>eC T o jz q
  have neT:∀b o,s.heap.get? b=some o→b≠T:=fun b o q=>Nat.ne_of_lt (Nat.lt_of_lt_of_le (Heap.lt_size q) eK)
  have cO:∀b o,H b=some o→b≠T:=fun b o q=>Zg q iz
  have bQ:∀b o,H b=some o→b∉[z,TI,TO,i1,i2]:=fun b o q hm=>by
   have:=(hf b hm).1
   rw[this]at q;cases q
  refine⟨.ref T,upd H T (.par [x,y]),?_,rfl,⟨T,x,y,rfl,iz,rfl,fun as bs ha hb=>by rw[I.rP ha ff,I.rP hb bJ];exact⟨hx,hy⟩⟩,⟨dh.1,dh.2.1,dh.2.2.1,dh.2.2.2.1,dh.2.2.2.2.1⟩,fun b hb=> ?_⟩
  ·refine(show Inv X pins σ (upd H T (.par [x,y])) {s with heap:=cH,toks:=tk} from ?_)
   refine I.call (g':=s.gens) (d':=s.drawn) (t':=tk) (h':=cH) (ch:=[z,TI,TO,i1,i2]) ⟨fun b o q _ _ hx=>both b o (sub b hx) q,fun b o q _ _ hx=> ⟨o.slots,both b o (sub b hx) q⟩,fun b o q n hx=>by rw[Zf (neT b o q)];exact n,fun b o q hx=> ⟨o,both b o (sub b hx) q⟩,
    fun b ys q=>by rw[Zf (cO b _ q)];exact q,fun b o u q=>by rw[Zf (cO b _ q)];exact q,fun b ps q=> ⟨#[],by rw[Zf (cO b _ q),q];simp⟩⟩ (fun b o q=> ?_) I.bare fun b hb=> ?_
   ·by_cases hb:b=T
    ·subst hb
     rw[Zc]at q
     cases q
     exact⟨by show 2≤sizeLine;decide,[u,v],.cons ru (.cons rv .nil),lT⟩
    ·rw[Zf hb]at q
     refine(I.ah b o q).bE (fun c ob bj q'=>both c ob ?_ q') (fun c q'=>by rw[Zf (cO c _ q')];exact q') fun c ys q'=>by rw[Zf (cO c _ q')];exact q'
     rcases bj with z' |z'
     ·rw[z'];exact sub _ (bQ b o q)
     ·exact sub _ (bQ c _ z')
   ·obtain⟨f0,f1,f2,f3,f4,f5⟩:=hf b hb
    exact⟨f3,f1,f4,f5⟩
  ·have bA:b≠T:=by
    obtain⟨f0,_⟩:=hf b hb
    have:∃o,s.heap.get? b=some o:=by
     obtain⟨u',v',x6⟩:=a3
     obtain⟨o4,h4,_⟩:=a4
     obtain⟨o5,h5,_⟩:=a5
     simp only[List.mem_cons,List.not_mem_nil,or_false]at hb
     rcases hb with rfl |rfl |rfl |rfl |rfl
     ·exact⟨_,a1⟩
     ·exact⟨_,a2⟩
     ·exact⟨_,x6⟩
     ·exact⟨_,h4⟩
     ·exact⟨_,h5⟩
    obtain⟨o,ho⟩:=this
    exact neT b o ho
   rw[Zf bA]
   exact(hf b hb).1
 done:=by
  intro X hP hw hK hc i pins s σ H E I hf st hg
  subst hP hw hK
  obtain⟨xs,ys,ff,bJ,hx⟩:=hg
  obtain⟨ee,iN,dH,bI⟩:=I.list ff
  obtain⟨fc,gU,eV,az⟩:=I.list bJ
  have e1:=iN.length
  have e2:=gU.length
  have W:=WalksT.zip2 (prog:=X.prog) (w:=X.w) (A:=X.A) (I.ok.hd hc) z TI TO i1 i2 l1 l2 D ee.toArray fc.toArray
  have hn:i=min ee.toArray.size fc.toArray.size:=by simp only[List.size_toArray];omega
  obtain⟨a1,a2,a3,a4,a5⟩:=st
  rw[hn]at a4 a5
  have sub:∀b,b∉[z,TI,TO,i1,i2]→b∉[z,TO,i1,i2]:=fun b hb hm=>hb (by
   simp only[List.mem_cons,List.not_mem_nil,or_false]at hm ⊢
   rcases hm with h |h |h |h
   ·exact .inl h
   ·exact .inr (.inr (.inl h))
   ·exact .inr (.inr (.inr (.inl h)))
   ·exact .inr (.inr (.inr (.inr h))))
  refine W.done s _ _ ⟨a1,a2,a3,a4,a5,dH.isList,eV.isList⟩ fun h' tk hk=> ⟨rfl,?_⟩
  have bQ:∀b o,H b=some o→b∉[z,TI,TO,i1,i2]:=fun b o q hm=>by
   have:=(hf b hm).1
   rw[this]at q;cases q
  refine I.call (g':=s.gens) (d':=s.drawn) (t':=tk) (h':=h') (ch:=[z,TI,TO,i1,i2]) ⟨fun b o q _ _ hx=>hk b o (sub b hx) q,fun b o q _ _ hx=> ⟨o.slots,hk b o (sub b hx) q⟩,fun b o q n hx=>n,fun b o q hx=> ⟨o,hk b o (sub b hx) q⟩,fun b ys q=>q,fun b o u q=>q,fun b ps q=> ⟨#[],by rw[q];simp⟩⟩ (fun b o q=> ?_) I.bare fun b hb=> ?_
  ·refine(I.ah b o q).bE (fun c ob bj q'=>hk c ob ?_ q') (fun _ q'=>q') fun _ _ q'=>q'
   rcases bj with z' |z'
   ·rw[z'];exact sub _ (bQ b o q)
   ·exact sub _ (bQ c _ z')
  ·obtain⟨f0,f1,f2,f3,f4,f5⟩:=hf b hb
   exact⟨f3,f1,f4,f5⟩
 self:=fun A i s Q E st h=>wpAny_pyIter_zip st.1 h
section
variable {X:Cx}{elts:List Expr}{kk:Nat}{tp:Pos}
def Ig (K:PySem.W.Frag) (ta:TA):TI:=fun σ H R=>ta σ H fun vs H1=> ∃l1 l2,vs=[.ref l1,.ref l2]∧(∃xs ys,ag K H1 l1 xs∧ag K H1 l2 ys)∧R (ub K l1 l2) H1
theorem Us {a b:Expr}{ta:TA}{p pos:Pos}(hg:Gl X "zip") (hm:X.mg "zip" =none) (ha:PA X [a,b] ta) (hs:starEach [a,b] X.env=[(false,eval a X.env),(false,eval b X.env)]:=by rfl) (j7:starEach [b] X.env=[(false,eval b X.env)]:=by rfl):
  PI X (.Tuple elts kk tp) (.Call (.Name "zip" p) [a,b] [] pos) (Ig X.K ta):=by
 intro pins s σ H R I h
 refine Call_ (Ym I hg hm PyProof.Rows.Boot.«zip» (PyProof.Rows.callWith_type1 (au (ha pos pins s σ H _ I h) fun us s1 ⟨vs,H1,I1,r1,q1⟩=> ?_) (by rw[hs,j7]) (by rw[j7];rfl)))
 obtain⟨l1,l2,e,⟨xs,ys,ff,bJ⟩,q⟩:=q1
 subst e
 obtain⟨u,v,rfl,ru,rv⟩:=vals2 r1
 cases ru
 cases rv
 obtain⟨ee,iN,dH,bI⟩:=I1.list ff
 obtain⟨fc,gU,eV,az⟩:=I1.list bJ
 have t1:l1<s1.heap.objs.size:=by obtain⟨o,ho,_⟩:=dH.isList;exact Heap.lt_size ho
 have t2:l2<s1.heap.objs.size:=by obtain⟨o,ho,_⟩:=eV.isList;exact Heap.lt_size ho
 have D:=WI s1.heap.objs.size l1 l2 t1 t2
 refine call_zip_2 dH.isList eV.isList fun h' b1 b2 b3 b4 b5 b6 hk=>wpAny_pyIter_zip b1 ?_
 have I2:Inv X pins σ H1 {s1 with heap:=h'} :=I1.kept (t':=s1.toks) hk
 refine⟨s1.heap.objs.size+4,[s1.heap.objs.size+4,s1.heap.objs.size+2,s1.heap.objs.size+3,s1.heap.objs.size,s1.heap.objs.size+1],_,_,H1,rfl,I2,
  PL _ _ _ _ _ l1 l2 D,⟨b1,b2,⟨_,_,b3⟩,b4,b5⟩,fun b hb=> ?_,q⟩
 have iw:s1.heap.objs.size≤b:=by
  simp only[List.mem_cons,List.not_mem_nil,or_false]at hb
  rcases hb with z |z |z |z |z<;>rw[z]<;>first |exact Nat.le_refl _ |exact Nat.le_add_right _ _
 exact I1.kh iw (I1.ah.fresh iw)
end
theorem WU {K:PySem.W.Frag}{l1 l2:Addr}{xs zs:List V}{g:TG}{tt:TT}{ti:TC}{ys:List V}{σ:St}{H:Hp}{Q:List V→St→Hp→Prop}(Pv:Nat→List V→St→Hp→Prop) (h0:Pv 0 ys σ H)
  (hl:∀i ys σ H,i≤min xs.length zs.length→Pv i ys σ H→ag K H l1 xs∧ag K H l2 zs)
  (hs:∀i x y T ys σ H,xs[i]? =some x→zs[i]? =some y→H T=none→Pv i ys σ H→g (.ref T) σ (upd H T (.par [x,y])) fun aR H2=>tt aR H2 fun b H3=>if b=true then ti ys aR H3 (Pv (i+1)) else Pv (i+1) ys aR H3)
  (hd:∀ys σ H,Pv (min xs.length zs.length) ys σ H→Q ys σ H):fZ g tt ti (ub K l1 l2) ys σ H Q:=by
 refine⟨fun i m ys σ H=>m=min xs.length zs.length - i∧i≤min xs.length zs.length∧Pv i ys σ H,⟨min xs.length zs.length,by simp,Nat.zero_le _,h0⟩,?_⟩
 rintro i m ys σ H ⟨rfl,hi,p⟩
 obtain⟨q1,q2⟩:=hl i ys σ H hi p
 by_cases aw:i<min xs.length zs.length
 ·have h1:i<xs.length:=by omega
  have h2:i<zs.length:=by omega
  refine .inr ⟨⟨xs,zs,xs[i],zs[i],q1,q2,by simp[h1],by simp[h2]⟩,Pv (i+1),fun cg aj H' p'=> ⟨min xs.length zs.length - (i+1),by omega,rfl,aw,p'⟩,fun x H' y=> ?_⟩
  obtain⟨T,a,b,e1,e2,e3,e4⟩:=y
  subst e1 e3
  obtain⟨f1,f2⟩:=e4 xs zs q1 q2
  exact hs i a b T ys σ H f1 f2 e2 p
 ·have e:i=min xs.length zs.length:=by omega
  subst e
  exact .inl ⟨⟨xs,zs,q1,q2,rfl⟩,hd ys σ H p⟩
end L2
namespace L2
open PySem PySem.Spec PyProof.Rows SeqAt
end L2
namespace U
open PySem L2 PyProof.Rows
def fT (K:PySem.W.Frag) (H:Hp) (a:Addr) (ns:List Int):Prop:=(∃o,H a=some (.cA o (.lst (ns.map V.int))))∨∃(o:Obj) (its:Array Value) (n:Nat),K.lookup a=some o∧o.cls=.type "list" ∧o.dict=none∧o.data=.seq its n∧its.size≤sizeLine∧Vals (ns.map V.int) its.toList
theorem fT.sq {K:PySem.W.Frag}{H:Hp}{a:Addr}{ns:List Int}(h:fT K H a ns):ag K H a (ns.map V.int):=by
 rcases h with ⟨o,h⟩ |h
 ·exact .inl (.inr ⟨o,h⟩)
 ·exact .inr h
theorem fT.same {K:PySem.W.Frag}{H H':Hp}{a:Addr}{ns:List Int}(h:fT K H a ns) (s:ae H H'):fT K H' a ns:=by
 rcases h with ⟨o,h⟩ |h
 ·exact .inl ⟨o,s _ _ h⟩
 ·exact .inr h
theorem fT.x {K:PySem.W.Frag}{H H':Hp}{a p:Addr}{ns:List Int}{o:HO}(h:fT K H a ns) (s:aL p H H') (hp:H p=some o) (hn:∀ob u,o≠.cA ob u):fT K H' a ns:=by
 rcases h with ⟨ob,h⟩ |h
 ·exact .inl ⟨ob,s _ _ h fun z=>by rw[z,hp]at h;cases h;exact hn _ _ rfl⟩
 ·exact .inr h
end U
namespace U
open PySem L2 PyProof.Rows PySem.Spec
def qt (mg:Str→Option Value) (h:Heap):Prop:=∃bm ob,mg "__builtins__" =some (.ref bm)∧bm≠builtinsNs∧h.get? bm=some ob∧ob.cls=.type "module" ∧ob.dict=some builtinsNs∧ob.data=.plain
theorem QM {P:Program}{w:World}{K:PySem.W.Frag}{mg mb:Str→Option Value}{k:Nat}{fa a:Addr}{Pts:List Addr}{fd:FuncData}{x:Str}{sp:Sp}{aJ:Shared}{vs:List Value}{ns:List Int}
  (KX:K.In aJ.heap) (pG:aJ.heap.Ns mainGlobals mg) (hb:aJ.heap.Ns builtinsNs mb) (dF:∀x:Str,x≠ "__name__" →mb x=bootBuiltins x) (Kw:aJ.heap.NoLimit) (hg:aJ.gens= #[])
  (ha:aJ.heap.get? a=some {cls:=.type "list",data:=.seq vs.toArray}) (hi:IntsAre vs ns) (hl:ns.length≤sizeLine) (hr:bP k callerA)
  (eK:∀Pt∈Pts,aJ.heap.get? Pt=some (PySem.W.tabObj #[])) (Lw:∀Pt∈Pts,∃c,PySem.W.CodeHd aJ.heap c Pt) (Ls:∀Pt∈Pts,K.lookup Pt=none) (xb:qt mg aJ.heap)
  (F:∀base:Heap,K.In base→base.Ns mainGlobals mg→qt mg base→aA P w K mg base aI k fa fd [x] sp) (Lc:∀(s:Shared) (u:Value),BindsTo s fd ⟨[u],[]⟩ [(x,u)])
  (dD:∀H:Hp,fT K H a ns→(∀Pt∈Pts,H Pt=some (.bO #[]))→sp [.ref a] H (fun v _=>v=.bl true) fun _ _ _=>False):
  codeAny (model P w) callerA (.call (.ref fa) ⟨[.ref a],[]⟩) (fun r s'=>r=.ok (.ret (.bool true))∧OldK aJ.heap s'.heap∧s'.os=aJ.os∧AllBare s'.gens) aJ:=by
 have rv:=WK hi
 have HP:=hi.length
 have pT:∀{Pt:Addr},Pt∈Pts→aJ.heap.get? Pt=some {cls:=.none,data:=.fields #[]} :=fun h=>eK _ h
 have BK:a∉Pts:=fun z=>by have h:=pT z;rw[ha]at h;cases h
 have core:∀H:Hp,(∀b,b∉Pts→H b=none∨∃o xs,H b=some (.cA o (.lst xs)))→fT K H a ns→(∀Pt∈Pts,H Pt=some (.bO #[]))→bM P w H aJ.heap→(∀b,H b≠none→b=a∨b∈Pts)→(H a≠none→K.lookup a=none)→
   codeAny (model P w) callerA (.call (.ref fa) ⟨[.ref a],[]⟩) (fun r s'=>r=.ok (.ret (.bool true))∧OldK aJ.heap s'.heap∧s'.os=aJ.os∧AllBare s'.gens) aJ:=by
  intro H hO hS hP ah hA hK
  have xU:∀{b:Addr}{o:Obj},aJ.heap.get? b=some o→H b=none→(gD aJ.heap H).get? b=some o:=fun e n=>Du e n
  have bR:∀{b:Addr}{o:Obj},aJ.heap.get? b=some o→(∀vs n,o.data≠.seq vs n)→(∀ps,o.data≠.fields ps)→H b=none:=fun {b o} e d1 d2=>by
   cases q:H b with
   |none=>rfl
   |some u=>
    rcases hA b (by rw[q];simp) with e' |e'
    ·subst e'
     rw[ha]at e;cases e
     exact absurd rfl (d1 _ _)
    ·rw[pT e']at e;cases e
     exact absurd rfl (d2 _)
  have rL:∀{b:Addr}{m:Str→Option Value},aJ.heap.Ns b m→(gD aJ.heap H).Ns b m:=fun {b m} ⟨o,es,ep,e,d,r⟩=> ⟨o,es,ep,xU e (bR e (fun _ _ z=>by rw[d]at z;cases z) fun _ z=>by rw[d]at z;cases z),d,r⟩
  have BN:K.In (gD aJ.heap H):=fun b o e=>xU (KX b o e) (by
   cases q:H b with
   |none=>rfl
   |some u=>
    rcases hA b (by rw[q];simp) with e' |e'
    ·subst e'
     rw[hK (by rw[q];simp)]at e;cases e
    ·rw[Ls _ e']at e;cases e)
  have hM:Mod K mg (gD aJ.heap H):=⟨BN,rL pG,⟨mb,rL hb,dF⟩,let ⟨mc,h1,h2⟩:=Kw;⟨mc,rL h1,h2⟩⟩
  have Lb:qt mg (gD aJ.heap H):=let ⟨bm,ob,b1,b2,b3,b4,b5,b6⟩:=xb;⟨bm,ob,b1,b2,xU b3 (bR b3 (fun _ _ z=>by rw[b6]at z;cases z) fun _ z=>by rw[b6]at z;cases z),b4,b5,b6⟩
  have e0:qo P w K mg (gD aJ.heap H) callerA [] aJ H:=⟨rfl,hM,fun b o e=>DT e,Nat.le_of_eq (W0 _ _),trivial,fun b hb=>absurd (show b∈([]:List Addr) from hb) (by simp),ah,.of_eq hg⟩
  refine codeAny_mono ((F _ BN (rL pG) Lb).run callerA [] aJ H ⟨[.ref a],[]⟩ [.ref a] [.ref a] _ _ hr e0 (Lc aJ (.ref a)) (.cons rfl .nil) (dD H hS hP)) fun r s' h=> ?_
  cases r with
  |error e=>exact False.elim h
  |ok fl=>
   cases fl with
   |next=>exact False.elim h
   |brk=>exact False.elim h
   |cont=>exact False.elim h
   |ret u=>
    obtain⟨v,H',os,bare,un,Bb,r',q⟩:=h
    have q':v=.bl true:=q
    subst q'
    obtain rfl:u=Value.bool true:=r'
    have old:∀b o,aJ.heap.get? b=some o→asItWas aJ.heap s'.heap b o:=fun b o e=>by
     cases q:H b with
     |none=>exact .inl (un.keep b o e q (by intro z;exact absurd (show b∈([]:List Addr) from z) (by simp)) (by simp))
     |some u=>
      by_cases lO:b∈Pts
      ·obtain⟨more,z⟩:=un.fo b _ (hP b lO)
       have e2:s'.heap.get? b=some {cls:=.none,data:=.fields (#[]++more)} :=Bb b _ z
       rw[pT lO]at e
       cases e
       obtain⟨c,hC⟩:=Lw b lO
       exact .inr (.inl ⟨(hC.tab (eK b lO)).isCodeTable,rfl, #[],more,rfl,e2⟩)
      ·rcases hO b lO with z |⟨ob,xs,z⟩
       ·rw[q]at z;cases z
       ·have z2:=un.fE b ob _ z
        obtain⟨e1,_⟩:=ah b _ z
        obtain⟨e2,_⟩:=Bb b _ z2
        rw[e]at e1;cases e1
        exact .inl e2
    exact⟨rfl,⟨old,fun b o e=>un.there b o e (by simp)⟩,os,bare⟩
 cases hk:K.lookup a with
 |some o=>
  have e:=KX a o hk
  rw[ha]at e
  cases e
  refine core (fun b=>if b∈Pts then some (.bO #[]) else none) (fun b n=> .inl (if_neg n)) (.inr ⟨_,vs.toArray,_,hk,rfl,rfl,rfl,by rw[List.size_toArray,HP];exact hl,by simpa using rv⟩) (fun Pt h=>if_pos h) (fun b u z=> ?_) (fun b z=> ?_) fun z=>absurd (if_neg BK) z
  ·by_cases hb:b∈Pts
   ·have z':=(if_pos hb).symm.trans z
    cases z'
    exact pT hb
   ·have z':=(if_neg hb).symm.trans z
    cases z'
  ·by_cases hb:b∈Pts
   ·exact .inr hb
   ·exact absurd (if_neg hb) z
 |none=>
  refine core (fun b=>if b∈Pts then some (.bO #[]) else if b=a then some (.cA {cls:=.type "list",data:=.seq vs.toArray} (.lst (ns.map V.int))) else none) (fun b n=> ?_) (.inl ⟨{cls:=.type "list",data:=.seq vs.toArray},(if_neg BK).trans (if_pos rfl)⟩) (fun Pt h=>if_pos h) (fun b u z=> ?_) (fun b z=> ?_) fun _=>hk
  ·by_cases hb:b=a
   ·exact .inr ⟨_,_,(if_neg n).trans (if_pos hb)⟩
   ·exact .inl ((if_neg n).trans (if_neg hb))
  ·by_cases hP:b∈Pts
   ·have z':=(if_pos hP).symm.trans z
    cases z'
    exact pT hP
   ·by_cases hb:b=a
    ·have z':=((if_neg hP).trans (if_pos hb)).symm.trans z
     cases z'
     subst hb
     exact⟨ha,by rw[List.length_map];exact hl,vs,_,rv,ha⟩
    ·have z':=((if_neg hP).trans (if_neg hb)).symm.trans z
     cases z'
  ·by_cases hP:b∈Pts
   ·exact .inr hP
   ·by_cases hb:b=a
    ·exact .inl hb
    ·exact absurd ((if_neg hP).trans (if_neg hb)) z
theorem Em {l:PySem.W.OpenLaw}{n k:Nat}{q:Program}{loose:List Str}{XP:(Str→Option Value)→Heap→Prop}{YP:World→Heap→Prop}{d:DefRec}{K:Params→PySem.W.Frag}{sp:PySem.W.Frag→Sp}{x:Str}{Pts:List Addr}
    (hn:l.most=some n) (sy:n≤sizeLine) (wX:d.params.defaults=[]) (hr:bP k callerA)
    (hY:∀(w:World) (h:Heap),YP w h→(K w.params).In h) (Lm:∀(w:World) (h:Heap),YP w h→∀Pt∈Pts,h.get? Pt=some (PySem.W.tabObj #[]))
    (hC:∀(w:World) (h:Heap),(K w.params).In h→∀Pt∈Pts,∃c,PySem.W.CodeHd h c Pt) (Lu:∀w:World,∀Pt∈Pts,(K w.params).lookup Pt=none)
    (F:∀(w:World) (mg:Str→Option Value) (fa:Addr) (h:Heap),(K w.params).In h→h.Ns mainGlobals mg→mg d.name=some (.ref fa)→
      ∃fd:FuncData,(∀(s:Shared) (u:Value),BindsTo s fd ⟨[u],[]⟩ [(x,u)])∧
       ∀base:Heap,(K w.params).In base→base.Ns mainGlobals mg→qt mg base→aA l.prog w (K w.params) mg base aI k fa fd [x] (sp (K w.params)))
    (dD:∀(K:PySem.W.Frag) (H:Hp) (a:Addr) (ns:List Int),ns.length≤n→fT K H a ns→(∀Pt∈Pts,H Pt=some (.bO #[]))→sp K [.ref a] H (fun v _=>v=.bl true) fun _ _ _=>False):
    PySem.W.WalkO q loose XP YP l.row.toRowW d [] (fun f vs=>PySem.call f vs):=by
  refine Ei.MW hn wX fun w bW aJ mg mb fa o pm cd doc a vs ns G Y ho hd cQ hmg wB hints hlen hg=> ?_
  have KX:=hY w _ Y
  obtain⟨fd,hb,hF⟩:=F w mg fa _ KX G.T.g hmg
  exact QM KX G.T.g G.T.b G.T.builtins G.T.nolimit hg wB hints (Nat.le_trans hlen sy) hr (Lm w _ Y) (hC w _ KX) (Lu w) G.T.bmain hF hb (fun H hS hP=>dD (K w.params) H a ns hlen hS hP)
def bh (K:PySem.W.Frag) (x:Str) (st:Stmt):Prop:=∃f fd,PySem.W.nsIn K mainGlobals x=some (some (.ref f))∧aH K x x st f fd
theorem bB {K:PySem.W.Frag}{x:Str}{st:Stmt}{f:Addr}{oc:Value}{od an:Option Addr}{eX:Array (Option Value)}{kV doc pm ao ct:Value}(e1:PySem.W.nsIn K mainGlobals x=some (some (.ref f)))
  (e2:K.lookup f=some ⟨oc,od,.func (PySem.W.fnOf x x (fQ st) (dG st) (ay st) .none kV doc pm an ao ct),eX⟩) (e3:PySem.W.codeIn K ao x=true) (e4:PySem.W.keepIn K (.ref f)=true):bh K x st:=⟨f,_,e1,Nf e2 e3 e4⟩
section
variable {P:Program}{w:World}{K:PySem.W.Frag}{mg:Str→Option Value}{base:Heap}
abbrev qu (x:Str) (st:Stmt) (ps:List Str):Prop:=∀(kV doc pm:Value) (an:Option Addr) (ao ct:Value) (us:List Value),us.length=ps.length→bindArgs (PySem.W.fnOf x x (fQ st) (dG st) (ay st) .none kV doc pm an ao ct) ⟨us,[]⟩=pure (ps.zip us)
theorem bh.to {h:Heap}{x:Str}{st:Stmt}{ps:List Str}{k:Nat}{sp:Sp}(d:bh K x st) (KX:K.In h) (G:h.Ns mainGlobals mg) (hb:qu x st ps) (ok:∀f fd,aH K x x st f fd→aA P w K mg base aI k f fd ps sp):Def P w K mg base k x ps sp:=by
 obtain⟨f,fd,e,F⟩:=d
 exact⟨f,fd,ok f fd F,PySem.W.mg_of KX G e,F.kp,F.binds hb⟩
theorem bh.jN {h:Heap}{x:Str}{st:Stmt}{ps:List Str}{k:Nat}{sp:Sp}(d:bh K x st) (KX:K.In h) (G:h.Ns mainGlobals mg) (hb:qu x st ps) (ok:∀f fd,aH K x x st f fd→aA P w K mg base (bH P w) k f fd ps sp):cf P w K mg base k x ps sp:=by
 obtain⟨f,fd,e,F⟩:=d
 exact⟨f,fd,ok f fd F,PySem.W.mg_of KX G e,F.kp,F.binds hb⟩
def rM (K:PySem.W.Frag) (x:Str):Bool:=match PySem.W.nsIn K mainGlobals x with |some none=>true |_=>false
theorem Qf {h:Heap}{x:Str}(KX:K.In h) (G:h.Ns mainGlobals mg) (e:rM K x=true):mg x=none:=by
 unfold rM at e
 split at e
 ·rename_i q
  exact PySem.W.mg_none_of KX G q
 ·cases e
abbrev RA (x a:Str) (st:Stmt):Prop:=∀(kV doc pm:Value) (an:Option Addr) (ao ct u:Value),bindArgs (PySem.W.fnOf x x (fQ st) (dG st) (ay st) .none kV doc pm an ao ct) ⟨[u],[]⟩=pure [(a,u)]
theorem b1 {x a:Str}{st:Stmt}(h:RA x a st):qu x st [a]:=fun kV doc pm an ao ct us hl=>match us,hl with | [u],_=>h kV doc pm an ao ct u
theorem b2 {x a b:Str}{st:Stmt}(h:∀(kV doc pm:Value) (an:Option Addr) (ao ct u v:Value),bindArgs (PySem.W.fnOf x x (fQ st) (dG st) (ay st) .none kV doc pm an ao ct) ⟨[u,v],[]⟩=pure [(a,u),(b,v)]):qu x st [a,b]:=fun kV doc pm an ao ct us hl=>match us,hl with | [u,v],_=>h kV doc pm an ao ct u v
theorem b3 {x a b c:Str}{st:Stmt}(h:∀(kV doc pm:Value) (an:Option Addr) (ao ct u v w:Value),bindArgs (PySem.W.fnOf x x (fQ st) (dG st) (ay st) .none kV doc pm an ao ct) ⟨[u,v,w],[]⟩=pure [(a,u),(b,v),(c,w)]):qu x st [a,b,c]:=fun kV doc pm an ao ct us hl=>match us,hl with | [u,v,w],_=>h kV doc pm an ao ct u v w
end
end U
namespace HS
open PySem PySem.SetTable
abbrev gL (l:List Nat):Prop:=l.Pairwise (· < ·)
theorem Di {xs:Array Nat}(hr:gL xs.toList) {i k:Nat}(hi:i<xs.size) (hk:k<xs.size) (h:i<k):xs[i]<xs[k]:=by
 have:=List.pairwise_iff_getElem.mp hr i k (by simpa using hi) (by simpa using hk) h
 simpa using this
theorem Dj {xs:Array Nat}(hr:gL xs.toList) {i k:Nat}(hi:i<xs.size) (hk:k<xs.size) (h:i≤k):xs[i]≤xs[k]:=by
 rcases Nat.lt_or_eq_of_le h with h |h
 ·exact Nat.le_of_lt (Di hr hi hk h)
 ·subst h;exact Nat.le_refl _
theorem Ww {xs:Array Nat}{j:Nat}(hr:gL xs.toList):∀(fuel lo hi:Nat),hi≤xs.size→lo≤hi→hi - lo≤fuel→(∀i (h:i<xs.size),i<lo→xs[i]<j)→(∀i (h:i<xs.size),hi≤i→j≤xs[i])→
  below.go xs j fuel lo hi≤xs.size∧(∀i (h:i<xs.size),i<below.go xs j fuel lo hi→xs[i]<j)∧(∀i (h:i<xs.size),below.go xs j fuel lo hi≤i→j≤xs[i])
 |0,lo,hi,h1,h2,h3,h4,h5=>by
  have e:lo=hi:=by omega
  subst e
  exact⟨h1,h4,h5⟩
 |fuel+1,lo,hi,h1,h2,h3,h4,h5=>by
  unfold below.go
  by_cases aw:lo<hi
  ·rw[if_pos aw]
   dsimp only
   have hm:(lo+hi)/2<xs.size:=by omega
   have e:xs.getD ((lo+hi)/2) j=xs[(lo+hi)/2]:=by
    unfold Array.getD
    rw[dif_pos hm]
    rfl
   rw[e]
   by_cases hc:xs[(lo+hi)/2]<j
   ·rw[if_pos hc]
    refine Ww hr fuel _ hi h1 (by omega) (by omega) (fun i h aS=> ?_) h5
    exact Nat.lt_of_le_of_lt (Dj hr h hm (by omega)) hc
   ·rw[if_neg hc]
    refine Ww hr fuel lo _ (by omega) (by omega) (by omega) h4 (fun i h aS=> ?_)
    exact Nat.le_trans (Nat.le_of_not_lt hc) (Dj hr hm h aS)
  ·rw[if_neg aw]
   have e:lo=hi:=by omega
   subst e
   exact⟨h1,h4,h5⟩
theorem Y5 {xs:Array Nat}{j:Nat}(hr:gL xs.toList):below xs j≤xs.size∧(∀i (h:i<xs.size),i<below xs j→xs[i]<j)∧(∀i (h:i<xs.size),below xs j≤i→j≤xs[i]):=
 Ww hr _ _ _ (Nat.le_refl _) (Nat.zero_le _) (by omega) (fun i h z=>absurd z (Nat.not_lt_zero _)) (fun i h z=>by omega)
theorem YJ {xs:Array Nat}{i j:Nat}(hr:gL xs.toList) (h:xs[i]? =some j):below xs j=i:=by
 obtain⟨hi,e⟩:=Array.getElem?_eq_some_iff.mp h
 obtain⟨h1,h2,h3⟩:=Y5 (j:=j) hr
 rcases Nat.lt_trichotomy (below xs j) i with q |q |q
 ·have a:=h3 (below xs j) (by omega) (Nat.le_refl _)
  have b:=Di hr (by omega) hi q
  omega
 ·exact q
 ·have:=h2 i hi q
  omega
theorem WN {t:SetTable}{i j:Nat}(hr:gL t.place.toList) (h:t.place[i]? =some j):t.slot j=.live i:=by
 unfold slot
 rw[YJ hr h]
 dsimp only
 rw[h,if_pos (by simp)]
theorem Qv {t:SetTable}{j:Nat}(hd:t.dummies= #[]) (h:j∉t.place.toList):t.slot j=.empty:=by
 unfold slot
 dsimp only
 have h1:¬(t.place[below t.place j]? ==some j)=true:=by
  intro z
  have z':=eq_of_beq z
  obtain⟨hi,e⟩:=Array.getElem?_eq_some_iff.mp z'
  exact h (by rw[←e];simp)
 have h2:¬has t.dummies j=true:=by
  rw[hd]
  unfold has
  simp
 rw[if_neg h1,if_neg h2]
theorem Nq {xs:Array Nat}{j:Nat}(h:j∈xs.toList):∃i:Nat,xs[i]? =some j:=by
 obtain⟨i,hi,e⟩:=List.getElem_of_mem h
 exact⟨i,by rw[←Array.getElem?_toList,List.getElem?_eq_getElem hi,e]⟩
theorem M9 {xs:Array Nat}{i j:Nat}(h:xs[i]? =some j):j∈xs.toList:=by
 rw[←Array.getElem?_toList]at h
 exact List.mem_of_getElem? h
theorem WQ {t:SetTable}{j:Nat} :(t.put j).1.place.toList=t.place.toList.take (below t.place j)++j::t.place.toList.drop (below t.place j):=by
 unfold put
 exact toList_insertAt _ _ _
theorem NV {t:SetTable}{j:Nat}(hr:gL t.place.toList) (h:j∉t.place.toList):gL (t.put j).1.place.toList:=by
 rw[WQ]
 obtain⟨h1,h2,h3⟩:=Y5 (j:=j) hr
 generalize below t.place j=p at *
 have a:∀x∈t.place.toList.take p,x<j:=fun x hx=>by
  obtain⟨i,hi,e⟩:=List.getElem_of_mem hx
  rw[List.length_take]at hi
  rw[List.getElem_take]at e
  rw[←e]
  have:=h2 i (by simp at hi;omega) (by omega)
  simpa using this
 have b:∀x∈t.place.toList.drop p,j<x:=fun x hx=>by
  obtain⟨i,hi,e⟩:=List.getElem_of_mem hx
  rw[List.length_drop]at hi
  rw[List.getElem_drop]at e
  have:=h3 (p+i) (by simp at hi;omega) (by omega)
  have e':t.place[p+i]'(by simp at hi;omega)=x:=by simpa using e
  rw[e']at this
  rcases Nat.lt_or_eq_of_le this with q |q
  ·exact q
  ·exact absurd (List.mem_of_mem_drop hx) (by rw[←q];exact h)
 refine List.pairwise_append.mpr ?_
 refine⟨hr.sublist (List.take_sublist ..),List.pairwise_cons.mpr ⟨b,hr.sublist (List.drop_sublist ..)⟩,fun x hx y hy=> ?_⟩
 rcases List.mem_cons.mp hy with rfl |hy
 ·exact a x hx
 ·exact Nat.lt_trans (a x hx) (b y hy)
abbrev tb (m:Nat):SetTable:= {mask:=m,place:= #[],dummies:= #[],finger:=0,led:=false,moves:=0,plain:=false}
def dS (m:Nat) (p:Probe):Probe:=(tb m).advance p
theorem M8 (t:SetTable) (p:Probe):t.advance p=dS t.mask p:=rfl
def it (m:Nat) (p:Probe):Nat→Probe
 |0=>p
 |k+1=>dS m (it m p k)
theorem Yo (m:Nat) (p:Probe):∀k,it m p (k+1)=it m (dS m p) k
 |0=>rfl
 |k+1=>by
  show dS m (it m p (k+1))=dS m (it m (dS m p) k)
  rw[Yo m p k]
theorem Wp (m:Nat) (p:Probe) (a:Nat):∀b,it m p (a+b)=it m (it m p a) b
 |0=>rfl
 |b+1=>by
  show dS m (it m p (a+b))=dS m (it m (it m p a) b)
  rw[Wp m p a b]
theorem Uk (m:Nat) (p:Probe):(dS m p).dummy=p.dummy:=by
 unfold dS advance
 split<;>rfl
theorem Dv (m:Nat) (p:Probe):∀k,(it m p k).dummy=p.dummy
 |0=>rfl
 |k+1=> (Uk m _).trans (Dv m p k)
theorem DK {t:SetTable}{hashAt:Nat→Int}{h:Int}(hr:gL t.place.toList) (hd:t.dummies= #[]):∀(n fuel:Nat) (p:Probe),p.dummy=none→n<fuel→(∀k<n,(it t.mask p k).j∈t.place.toList)→(it t.mask p n).j∉t.place.toList→
  (probe.go t hashAt h fuel p=some (.empty (it t.mask p n).j none)∧∀k<n,∀i:Nat,t.place[i]? =some (it t.mask p k).j→hashAt i≠h)∨
  ∃k i:Nat,k<n∧t.place[i]? =some (it t.mask p k).j∧hashAt i=h∧probe.go t hashAt h fuel p=some (.candidate (it t.mask p k).j i (it t.mask p (k+1)))∧∀k'<k,∀i:Nat,t.place[i]? =some (it t.mask p k').j→hashAt i≠h
 |0,0,p,_,h1,_,_=>absurd h1 (Nat.lt_irrefl _)
 |n+1,0,p,_,h1,_,_=>absurd h1 (Nat.not_lt_zero _)
 |0,fuel+1,p,hp,h1,h2,h3=>by
  refine .inl ⟨?_,fun k hk=>absurd hk (Nat.not_lt_zero _)⟩
  unfold probe.go
  have e:t.slot p.j=.empty:=Qv hd h3
  rw[e]
  dsimp only
  rw[hp]
  rfl
 |n+1,fuel+1,p,hp,h1,h2,h3=>by
  obtain⟨i,hi⟩:=Nq (h2 0 (Nat.succ_pos _))
  have e:t.slot p.j=.live i:=WN hr hi
  unfold probe.go
  rw[e]
  dsimp only
  rw[M8]
  by_cases hh:hashAt i=h
  ·rw[if_pos (by simp[hh])]
   exact .inr ⟨0,i,Nat.succ_pos _,hi,hh,rfl,fun k' aK=>absurd aK (Nat.not_lt_zero _)⟩
  ·rw[if_neg (by simp[hh])]
   have uniq:∀i':Nat,t.place[i']? =some (it t.mask p 0).j→hashAt i'≠h:=fun i' aS=>by
    have q1:=YJ hr aS
    have q2:=YJ hr hi
    have:i'=i:=q1.symm.trans q2
    subst this
    exact hh
   rcases DK (hashAt:=hashAt) (h:=h) hr hd n fuel (dS t.mask p) (by rw[Uk];exact hp) (by omega) (fun k hk=>by rw[←Yo];exact h2 (k+1) (by omega)) (by rw[←Yo];exact h3) with ⟨g1,g2⟩ |⟨k,i2,g1,g2,g3,g4,g5⟩
   ·rw[←Yo]at g1
    refine .inl ⟨g1,fun k hk=> ?_⟩
    cases k with
    |zero=>exact uniq
    |succ k=>rw[Yo];exact g2 k (by omega)
   ·rw[←Yo]at g2 g4
    rw[←Yo]at g4
    refine .inr ⟨k+1,i2,by omega,g2,g3,g4,fun k' aK=> ?_⟩
    cases k' with
    |zero=>exact uniq
    |succ k'=>rw[Yo];exact g5 k' (by omega)
abbrev fr (m i pt:Nat):Probe:= {j:=i,more:=runEnd m i - i,i,perturb:=pt,dummy:=none}
abbrev st (m:Nat) (h:Int):Probe:=fr m (bits h%(m+1)) (bits h)
def lp (m:Nat) (x:Nat×Nat):Nat×Nat:=leap m x.1 x.2
def ck (m:Nat) (x:Nat×Nat):Nat→Nat×Nat
 |0=>x
 |k+1=>lp m (ck m x k)
theorem Wh (m:Nat) (x:Nat×Nat):∀k,ck m x (k+1)=ck m (lp m x) k
 |0=>rfl
 |k+1=>by
  show lp m (ck m x (k+1))=lp m (ck m (lp m x) k)
  rw[Wh m x k]
theorem DR (m:Nat) (x:Nat×Nat) (a:Nat):∀b,ck m x (a+b)=ck m (ck m x a) b
 |0=>rfl
 |b+1=>by
  show lp m (ck m x (a+b))=lp m (ck m (ck m x a) b)
  rw[DR m x a b]
theorem OC (m i:Nat):runEnd m i - i≤9:=by
 unfold runEnd
 split<;>omega
theorem Wo (m i pt:Nat):∀k,k≤runEnd m i - i→it m (fr m i pt) k= {j:=i+k,more:=runEnd m i - i - k,i:=i,perturb:=pt,dummy:=none}
 |0,_=>rfl
 |k+1,h=>by
  show dS m (it m (fr m i pt) k)=_
  rw[Wo m i pt k (by omega)]
  unfold dS advance
  dsimp only
  rw[if_pos (by omega)]
  have e:runEnd m i - i - k - 1=runEnd m i - i - (k+1):=by omega
  rw[e,Nat.add_assoc]
theorem UE (m i pt:Nat):it m (fr m i pt) (runEnd m i - i+1)=fr m (lp m (i,pt)).1 (lp m (i,pt)).2:=by
 show dS m (it m (fr m i pt) (runEnd m i - i))=_
 rw[Wo m i pt _ (Nat.le_refl _)]
 unfold dS advance
 dsimp only
 rw[if_neg (by omega)]
 rfl
theorem Dw (m:Nat):∀(k:Nat) (x:Nat×Nat),∃d,d≤10*k∧it m (fr m x.1 x.2) d=fr m (ck m x k).1 (ck m x k).2
 |0,x=> ⟨0,by omega,rfl⟩
 |k+1,x=>by
  obtain⟨d,h1,h2⟩:=Dw m k (lp m x)
  refine⟨runEnd m x.1 - x.1+1+d,by have:=OC m x.1;omega,?_⟩
  rw[Wp,UE m x.1 x.2]
  rw[Wh]
  exact h2
theorem C2 (m:Nat) (x:Nat×Nat):∀k,(ck m x k).2=x.2/32^k
 |0=>by simp[ck]
 |k+1=>by
  show(ck m x k).2/32=_
  rw[C2 m x k,Nat.div_div_eq_div_mul,Nat.pow_succ]
theorem Nm (m:Nat) (x:Nat×Nat) (h:x.1<m+1):∀k,(ck m x k).1<m+1
 |0=>h
 |k+1=>Nat.mod_lt _ (Nat.succ_pos _)
def nx (m i:Nat):Nat:=(i*5+1)%(m+1)
def dz (m:Nat):Nat→Nat
 |0=>0
 |k+1=>nx m (dz m k)
def rK (m:Nat):Nat→Nat→List Nat
 |0,_=> []
 |k+1,i=>i::rK m k (nx m i)
theorem CT (m:Nat):∀(k n:Nat) (f:Nat),f∈rK m k (dz m n)→∃u,n≤u∧u<n+k∧dz m u=f
 |0,n,f,h=>by cases h
 |k+1,n,f,h=>by
  rcases List.mem_cons.mp h with rfl |h
  ·exact⟨n,Nat.le_refl _,by omega,rfl⟩
  ·obtain⟨u,h1,h2,h3⟩:=CT m k (n+1) f h
   exact⟨u,by omega,by omega,h3⟩
def gM (m:Nat):Prop:=m=7∨m=31∨m=127∨m=511
def qa (m:Nat):Bool:=(List.range (m+1)).all fun f=> (rK m (m+1) 0).contains f
theorem MG:qa 7=true∧dz 7 8=0:=by decide+kernel
theorem MI:qa 31=true∧dz 31 32=0:=by decide+kernel
theorem MJ:qa 127=true∧dz 127 128=0:=by decide+kernel
theorem MH:qa 511=true∧dz 511 512=0:=by decide+kernel
theorem Dc {m:Nat}(hm:gM m):qa m=true∧dz m (m+1)=0:=by
 rcases hm with rfl |rfl |rfl |rfl
 ·exact MG
 ·exact MI
 ·exact MJ
 ·exact MH
theorem CY {m f:Nat}(hm:gM m) (hf:f<m+1):∃u,u<m+1∧dz m u=f:=by
 have:=List.all_eq_true.mp (Dc hm).1 f (List.mem_range.mpr hf)
 obtain⟨u,_,h2,h3⟩:=CT m (m+1) 0 f (show f∈rK m (m+1) 0 by simpa using this)
 exact⟨u,by omega,h3⟩
theorem vS (m:Nat):∀(k s:Nat),ck m (dz m s,0) k=(dz m (s+k),0)
 |0,s=>rfl
 |k+1,s=>by
  show lp m (ck m (dz m s,0) k)=_
  rw[vS m k s]
  unfold lp leap
  simp[dz,nx]
theorem U6 {m a:Nat}(hm:gM m):∀k,dz m (m+1+k)=dz m k
 |0=> (Dc hm).2
 |k+1=>by
  show nx m (dz m (m+1+k))=nx m (dz m k)
  rw[U6 (a:=a) hm k]
theorem full {m a f:Nat}(hm:gM m) (ha:a<m+1) (hf:f<m+1):∃k,k<m+1∧(ck m (a,0) k).1=f:=by
 obtain⟨s,hs,rfl⟩:=CY hm ha
 obtain⟨u,hu,rfl⟩:=CY hm hf
 by_cases h:s≤u
 ·exact⟨u - s,by omega,by rw[vS];show dz m (s+(u - s))=_;congr 1;omega⟩
 ·refine⟨m+1+u - s,by omega,?_⟩
  rw[vS]
  show dz m (s+(m+1+u - s))=_
  rw[show s+(m+1+u - s)=m+1+u by omega,U6 (a:=0) hm]
theorem C8 (h:Int):bits h<2^64:=by
 unfold bits
 have h1:0≤h%(2^64:Int):=Int.emod_nonneg _ (by decide)
 have h2:h%(2^64:Int)<2^64:=Int.emod_lt_of_pos _ (by decide)
 omega
theorem Ud {m i pt f:Nat}(hm:gM m) (hi:i<m+1) (hp:pt<2^64) (hf:f<m+1):∃k,k<m+14∧(ck m (i,pt) k).1=f:=by
 have e:(ck m (i,pt) 13).2=0:=by
  rw[C2]
  exact Nat.div_eq_of_lt (Nat.lt_of_lt_of_le hp (by decide))
 have l:=Nm m (i,pt) hi 13
 obtain⟨k,h1,h2⟩:=full hm l hf
 refine⟨13+k,by omega,?_⟩
 rw[DR]
 have e2:ck m (i,pt) 13=((ck m (i,pt) 13).1,0):=by rw[←e]
 rw[e2]
 exact h2
theorem cover {m f:Nat}(hm:gM m) (h:Int) (hf:f<m+1):∃n,n<10*turns m∧(it m (st m h) n).j=f:=by
 obtain⟨k,h1,h2⟩:=Ud hm (Nat.mod_lt _ (Nat.succ_pos _)) (C8 h) hf (i:=bits h%(m+1))
 obtain⟨d,h3,h4⟩:=Dw m k (bits h%(m+1),bits h)
 refine⟨d,by unfold turns;omega,?_⟩
 show(it m (fr m (bits h%(m+1)) (bits h)) d).j=f
 rw[h4]
 exact h2
def mq (m:Nat) (dm:Nat→Prop) (p:Probe) (j:Nat):Prop:=∃n,(it m p n).j=j∧∀k<n,dm (it m p k).j
theorem mq.mono {m:Nat}{dm Aj:Nat→Prop}{p:Probe}{j:Nat}(h:mq m dm p j) (w:∀x,dm x→Aj x):mq m Aj p j:=
 let ⟨n,a,b⟩:=h;⟨n,a,fun k hk=>w _ (b k hk)⟩
theorem QI {m f:Nat}{dm:Nat→Prop}(hm:gM m) (h:Int) (hf:f<m+1) (ho:¬dm f):∃n,n<10*turns m∧(∀k<n,dm (it m (st m h) k).j)∧¬dm (it m (st m h) n).j:=by
 obtain⟨n,h1,h2⟩:=cover hm h hf
 have key:∀n,n<10*turns m→¬dm (it m (st m h) n).j→∃n,n<10*turns m∧(∀k<n,dm (it m (st m h) k).j)∧¬dm (it m (st m h) n).j:=by
  intro n
  induction n using Nat.strongRecOn with
  |_ n ih=>
   intro g1 g2
   by_cases z:∀k<n,dm (it m (st m h) k).j
   ·exact⟨n,g1,z,g2⟩
   ·have:∃k,k<n∧¬dm (it m (st m h) k).j:=Classical.byContradiction fun c=>z fun k hk=>Classical.byContradiction fun o=>c ⟨k,hk,o⟩
    obtain⟨k,hk,o⟩:=this
    exact ih k hk (by omega) o
 exact key n h1 (by rw[h2];exact ho)
theorem W9 {m:Nat}{owner:Array (Option Nat)} :∀(fuel k:Nat) (i pt:Nat),k<fuel→((owner.getD (ck m (i,pt) k).1 (some 0)).isNone=true)→
  ∃j,layClean.free m owner fuel i pt=some j∧(owner.getD j (some 0)).isNone=true∧mq m (fun x=> (owner.getD x (some 0)).isNone=false) (fr m i pt) j
 |0,k,i,pt,h,_=>absurd h (Nat.not_lt_zero _)
 |fuel+1,k,i,pt,h,ho=>by
  unfold layClean.free
  cases hq:(List.range (runEnd m i+1 - i)).find? fun k=> (owner.getD (i+k) (some 0)).isNone with
  |some d=>
   dsimp only
   have h1:=List.find?_some hq
   have bS:=List.mem_of_find?_eq_some hq
   rw[List.mem_range]at bS
   refine⟨i+d,rfl,h1,d,?_,fun k hk=> ?_⟩
   ·rw[Wo m i pt d (by unfold runEnd at *;split at bS<;>split<;>omega)]
   ·rw[Wo m i pt k (by unfold runEnd at *;split at bS<;>split<;>omega)]
    obtain⟨as,bs,e,cW⟩:=(List.find?_eq_some_iff_append.mp hq).2
    have Bn:k∈as:=by
     have hp:(List.range (runEnd m i+1 - i)).Pairwise (· < ·):=List.pairwise_lt_range
     have Bl:k∈List.range (runEnd m i+1 - i):=List.mem_range.mpr (by omega)
     rw[e]at hp Bl
     rcases List.mem_append.mp Bl with q |q
     ·exact q
     ·rcases List.mem_cons.mp q with q |q
      ·omega
      ·have:=(List.pairwise_cons.mp (List.pairwise_append.mp hp).2.1).1 k q
       omega
    have:=cW k Bn
    simpa using this
  |none=>
   dsimp only
   have cW:=List.find?_eq_none.mp hq
   have nH:∀d,d≤runEnd m i - i→(owner.getD (i+d) (some 0)).isNone=false:=fun d hd=>by
    have:=cW d (List.mem_range.mpr (by unfold runEnd at *;split at hd<;>split<;>omega))
    exact Bool.eq_false_iff.mpr this
   cases k with
   |zero=>
    have:=nH 0 (Nat.zero_le _)
    rw[show(ck m (i,pt) 0).1=i+0 from rfl,this]at ho
    cases ho
   |succ k=>
    rw[Wh]at ho
    obtain⟨j,g1,g2,n,g3,g4⟩:=W9 (m:=m) (owner:=owner) fuel k (lp m (i,pt)).1 (lp m (i,pt)).2 (by omega) ho
    refine⟨j,g1,g2,runEnd m i - i+1+n,?_,fun d hd=> ?_⟩
    ·rw[Wp,UE]
     exact g3
    ·by_cases hd2:d≤runEnd m i - i
     ·rw[Wo m i pt d hd2]
      exact nH d hd2
     ·obtain⟨c,rfl⟩:∃c,d=runEnd m i - i+1+c:=⟨d - (runEnd m i - i+1),by omega⟩
      rw[Wp,UE]
      exact g4 c (by omega)
theorem O6 {m:Nat}{p:Probe}(h:p.j+p.more≤m):(dS m p).j+(dS m p).more≤m:=by
 unfold dS advance
 split
 ·dsimp only;omega
 ·dsimp only[leap,runEnd]
  have:=Nat.mod_lt (p.i*5+1+p.perturb/32) (show 0<m+1 by omega)
  split<;>omega
theorem DL {m:Nat}{p:Probe}(h:p.j+p.more≤m):∀k,(it m p k).j+(it m p k).more≤m
 |0=>h
 |k+1=>O6 (DL h k)
theorem CK {m:Nat}(h:Int) (k:Nat):(it m (st m h) k).j<m+1:=by
 have:=DL (m:=m) (p:=st m h) (by
  have:=Nat.mod_lt (bits h) (show 0<m+1 by omega)
  dsimp only[fr,runEnd]
  split<;>omega) k
 omega
structure T0 (t:SetTable) (es:Array (Int×Value)):Prop where
 sz:t.place.size=es.size
 kM:gL t.place.toList
 tN:t.dummies= #[]
 le:∀j∈t.place.toList,j<t.mask+1
 ld:∀z∈t.place.toList.zip es.toList,mq t.mask (·∈t.place.toList) (st t.mask z.2.1) z.1
def i8 (m n:Nat):Prop:=(m=7∧n≤4)∨(m=31∧n≤18)∨(m=127∧n≤76)∨(m=511∧n≤306)
theorem i8.rN {m n:Nat}(h:i8 m n):gM m:=by
 rcases h with ⟨h,_⟩ |⟨h,_⟩ |⟨h,_⟩ |⟨h,_⟩
 ·exact .inl h
 ·exact .inr (.inl h)
 ·exact .inr (.inr (.inl h))
 ·exact .inr (.inr (.inr h))
theorem i8.lt {m n:Nat}(h:i8 m n):n+1<m:=by
 rcases h with ⟨h,_⟩ |⟨h,_⟩ |⟨h,_⟩ |⟨h,_⟩<;>omega
theorem i8.small {m n:Nat}(h:i8 m n):n≤306:=by
 rcases h with ⟨h,_⟩ |⟨h,_⟩ |⟨h,_⟩ |⟨h,_⟩<;>omega
theorem WO {l:List Nat}(h:gL l):l.Nodup:=List.Pairwise.imp (fun h=>Nat.ne_of_lt h) h
theorem T0.free {t:SetTable}{es:Array (Int×Value)}(T:T0 t es) (h:es.size<t.mask+1):∃f,f<t.mask+1∧f∉t.place.toList:=by
 refine Classical.byContradiction fun c=> ?_
 have all:∀f,f<t.mask+1→f∈t.place.toList:=fun f hf=>Classical.byContradiction fun n=>c ⟨f,hf,n⟩
 have p:(t.place.toList).Perm (List.range (t.mask+1)):=(List.perm_ext_iff_of_nodup (WO T.kM) List.nodup_range).mpr fun f=> ⟨fun hf=>List.mem_range.mpr (T.le f hf),fun hf=>all f (List.mem_range.mp hf)⟩
 have:=p.length_eq
 rw[List.length_range,Array.length_toList,T.sz]at this
 omega
theorem T0.fits {t:SetTable}{es:Array (Int×Value)}(T:T0 t es) (h:es.size≤t.mask):t.fits es.size=true:=by
 unfold SetTable.fits SetTable.fill
 rw[T.tN,T.sz]
 simp[h]
theorem Pk {α β:Type}{a:List α}{b:List β}(p:Nat) (x:α) (y:β) (h:a.length=b.length):(a.take p++x::a.drop p).zip (b.take p++y::b.drop p)=(a.zip b).take p++(x,y)::(a.zip b).drop p:=by
 rw[List.zip_append (by rw[List.length_take,List.length_take,h]),List.zip_cons_cons]
 simp only[List.zip,List.take_zipWith,List.drop_zipWith]
theorem T0.put {t:SetTable}{es:Array (Int×Value)}(T:T0 t es) {h:Int}{x:Value}{n:Nat}(h1:∀k<n,(it t.mask (st t.mask h) k).j∈t.place.toList) (h2:(it t.mask (st t.mask h) n).j∉t.place.toList) (pl:Bool):
  T0 {(t.put (it t.mask (st t.mask h) n).j).1 with plain:=pl} (insertAt es (t.put (it t.mask (st t.mask h) n).j).2 (h,x)):=by
 have lt:=CK (m:=t.mask) h n
 generalize hf:(it t.mask (st t.mask h) n).j=f at *
 have dH:=WQ (t:=t) (j:=f)
 have e2:(t.put f).2=below t.place f:=rfl
 have em:(t.put f).1.mask=t.mask:=rfl
 have dm:∀y,y∈t.place.toList→y∈(t.put f).1.place.toList:=fun y hy=>by
  rw[dH]
  rw[←List.take_append_drop (below t.place f) t.place.toList]at hy
  rcases List.mem_append.mp hy with q |q
  ·exact List.mem_append_left _ q
  ·exact List.mem_append_right _ (List.mem_cons_of_mem _ q)
 have lz:t.place.toList.length=es.toList.length:=by rw[Array.length_toList,Array.length_toList,T.sz]
 refine⟨?_,NV T.kM h2,?_,fun j hj=> ?_,fun z hz=> ?_⟩
 ·have a:(t.put f).1.place.size=t.place.size+1:=by
   rw[←Array.length_toList,dH,List.length_append,List.length_cons,List.length_take,List.length_drop,Array.length_toList]
   have:=(Y5 (j:=f) T.kM).1
   omega
  have b:(insertAt es (t.put f).2 (h,x)).size=es.size+1:=by
   rw[←Array.length_toList,(insertAt_perm es _ (h,x)).length_eq,Array.length_toList,Array.size_push]
  show(t.put f).1.place.size=_
  rw[a,b,T.sz]
 ·show(if has t.dummies f then _ else t.dummies)= #[]
  rw[T.tN]
  simp[has]
 ·show j<t.mask+1
  have Bq:j∈(t.put f).1.place.toList:=hj
  rw[dH]at Bq
  rcases List.mem_append.mp Bq with q |q
  ·exact T.le j (List.mem_of_mem_take q)
  ·rcases List.mem_cons.mp q with q |q
   ·rw[q];exact lt
   ·exact T.le j (List.mem_of_mem_drop q)
 ·have aY:z∈(t.put f).1.place.toList.zip (insertAt es (t.put f).2 (h,x)).toList:=hz
  rw[dH,toList_insertAt,e2,Pk _ _ _ lz]at aY
  have old:∀z∈t.place.toList.zip es.toList,mq t.mask (·∈(t.put f).1.place.toList) (st t.mask z.2.1) z.1:=fun z hz=> (T.ld z hz).mono dm
  rcases List.mem_append.mp aY with q |q
  ·exact old z (List.mem_of_mem_take q)
  ·rcases List.mem_cons.mp q with q |q
   ·rw[q]
    exact⟨n,hf,fun k hk=>dm _ (h1 k hk)⟩
   ·exact old z (List.mem_of_mem_drop q)
structure jb (m:Nat) (hs:List Int) (owner:Array (Option Nat)):Prop where
 sz:owner.size=m+1
 lt:∀(j k:Nat),owner[j]? =some (some k)→k<hs.length
 at_:∀(k:Nat) (h:Int),hs[k]? =some h→∃j:Nat,owner[j]? =some (some k)∧mq m (fun x=> ∃k,owner[x]? =some (some k)) (st m h) j
 inj:∀(j j' k:Nat),owner[j]? =some (some k)→owner[j']? =some (some k)→j=j'
def live (m:Nat) (owner:Array (Option Nat)):List (Nat×Nat):=(List.range (m+1)).filterMap fun j=> (owner.getD j none).map (j, ·)
theorem getD_none {owner:Array (Option Nat)}{j k:Nat} :owner.getD j none=some k↔owner[j]? =some (some k):=by
 rw[Array.getD_eq_getD_getElem?]
 cases owner[j]? with
 |none=>simp
 |some o=>cases o<;>simp
theorem ZX {m:Nat}{owner:Array (Option Nat)}(hs:owner.size=m+1) {x:Nat×Nat} :x∈live m owner↔owner[x.1]? =some (some x.2):=by
 unfold live
 rw[List.mem_filterMap]
 constructor
 ·rintro⟨j,hj,e⟩
  obtain⟨k,hk,rfl⟩:=Option.map_eq_some_iff.mp e
  exact getD_none.mp hk
 ·intro h
  obtain⟨hl,_⟩:=Array.getElem?_eq_some_iff.mp h
  exact⟨x.1,List.mem_range.mpr (by omega),by rw[getD_none.mpr h];rfl⟩
theorem Wi (m:Nat) (owner:Array (Option Nat)):gL ((live m owner).map (·.1)):=by
 refine List.pairwise_map.mpr ?_
 unfold live
 refine List.pairwise_filterMap.mpr (List.Pairwise.imp ?_ (List.pairwise_lt_range (n:=m+1)))
 intro a b xh x hx y hy
 obtain⟨_,_,rfl⟩:=Option.map_eq_some_iff.mp hx
 obtain⟨_,_,rfl⟩:=Option.map_eq_some_iff.mp hy
 exact xh
theorem WY {m:Nat}{hs:List Int}{owner:Array (Option Nat)}(L:jb m hs owner):((live m owner).map (·.2)).Perm (List.range hs.length):=by
 refine(List.perm_ext_iff_of_nodup ?_ List.nodup_range).mpr fun k=> ?_
 ·refine List.nodup_iff_pairwise_ne.mpr (List.pairwise_map.mpr ?_)
  refine List.Pairwise.imp_of_mem ?_ (List.pairwise_map.mp (Wi m owner))
  intro a b ha hb xh e
  have h1:=(ZX L.sz).mp ha
  have h2:=(ZX L.sz).mp hb
  rw[e]at h1
  have:=L.inj _ _ _ h1 h2
  omega
 ·rw[List.mem_range]
  constructor
  ·intro h
   obtain⟨x,hx,rfl⟩:=List.mem_map.mp h
   exact L.lt _ _ ((ZX L.sz).mp hx)
  ·intro h
   obtain⟨j,hj,_⟩:=L.at_ k _ (List.getElem?_eq_getElem h)
   exact List.mem_map.mpr ⟨(j,k),(ZX L.sz).mpr hj,rfl⟩
theorem U7 {m:Nat}{hs:List Int}{owner:Array (Option Nat)}(L:jb m hs owner):(live m owner).length=hs.length:=by
 have:=(WY L).length_eq
 rw[List.length_map,List.length_range]at this
 exact this
theorem jb.free {m:Nat}{hs:List Int}{owner:Array (Option Nat)}(L:jb m hs owner) (h:hs.length<m+1):∃f,f<m+1∧owner[f]? =some none:=by
 refine Classical.byContradiction fun c=> ?_
 have all:∀f,f<m+1→∃k,owner[f]? =some (some k):=fun f hf=>by
  have pR:f<owner.size:=by rw[L.sz];exact hf
  cases e:owner[f] with
  |none=>exact absurd ⟨f,hf,by rw[Array.getElem?_eq_getElem pR,e]⟩ c
  |some k=>exact⟨k,by rw[Array.getElem?_eq_getElem pR,e]⟩
 have p:((live m owner).map (·.1)).Perm (List.range (m+1)):=(List.perm_ext_iff_of_nodup (WO (Wi m owner)) List.nodup_range).mpr fun f=>by
  rw[List.mem_range,List.mem_map]
  constructor
  ·rintro⟨x,hx,rfl⟩
   obtain⟨hl,_⟩:=Array.getElem?_eq_some_iff.mp ((ZX L.sz).mp hx)
   rw[L.sz]at hl
   exact hl
  ·intro hf
   obtain⟨k,hk⟩:=all f hf
   exact⟨(f,k),(ZX L.sz).mpr hk,rfl⟩
 have:=p.length_eq
 rw[List.length_map,U7 L,List.length_range]at this
 omega
theorem getD_some {owner:Array (Option Nat)}{j:Nat} :(owner.getD j (some 0)).isNone=true↔owner[j]? =some none:=by
 rw[Array.getD_eq_getD_getElem?]
 cases owner[j]? with
 |none=>simp
 |some o=>cases o<;>simp
theorem jb.step {m:Nat}{hs:List Int}{owner:Array (Option Nat)}(hm:gM m) (L:jb m hs owner) (hl:hs.length<m+1) (h:Int):
  ∃j,layClean.free m owner (turns m) (bits h%(m+1)) (bits h)=some j∧jb m (hs++[h]) (owner.setIfInBounds j (some hs.length)):=by
 obtain⟨f,hf,hn⟩:=L.free hl
 obtain⟨k,hk,e⟩:=Ud hm (Nat.mod_lt (bits h) (show 0<m+1 by omega)) (C8 h) hf
 obtain⟨j,g1,g2,g3⟩:=W9 (m:=m) (owner:=owner) (turns m) k (bits h%(m+1)) (bits h) (by unfold turns;omega) (by rw[e];exact getD_some.mpr hn)
 have tE:=getD_some.mp g2
 obtain⟨jl,_⟩:=Array.getElem?_eq_some_iff.mp tE
 have tQ:(owner.setIfInBounds j (some hs.length))[j]? =some (some hs.length):=by simp[jl]
 have me:∀{i:Nat},i≠j→(owner.setIfInBounds j (some hs.length))[i]? =owner[i]? :=fun {i} hi=>by
  rw[Array.getElem?_setIfInBounds]
  rw[if_neg (Ne.symm hi)]
 have JF:∀{i k:Nat},owner[i]? =some (some k)→i≠j:=fun {i k} hi z=>by rw[z,tE]at hi;cases hi
 have dm:∀x:Nat,(∃k:Nat,owner[x]? =some (some k))→∃k:Nat,(owner.setIfInBounds j (some hs.length))[x]? =some (some k):=fun x hx=>by
  obtain⟨k,hk⟩:=hx
  exact⟨k,by rw[me (JF hk)];exact hk⟩
 refine⟨j,g1,⟨by rw[Array.size_setIfInBounds];exact L.sz,fun i k hi=> ?_,fun k h' aK=> ?_,fun i i' k hi aS=> ?_⟩⟩
 ·rw[List.length_append]
  by_cases cz:i=j
  ·rw[cz,tQ]at hi
   cases hi
   simp
  ·rw[me cz]at hi
   have:=L.lt _ _ hi
   simp;omega
 ·by_cases KC:k<hs.length
  ·rw[List.getElem?_append_left KC]at aK
   obtain⟨i,hi,ld⟩:=L.at_ k h' aK
   exact⟨i,by rw[me (JF hi)];exact hi,ld.mono dm⟩
  ·rw[List.getElem?_append_right (by omega)]at aK
   have ek:k=hs.length:=by
    have:=(List.getElem?_eq_some_iff.mp aK).1
    simp at this
    omega
   subst ek
   simp at aK
   subst aK
   obtain⟨n,en,cW⟩:=g3
   refine⟨j,tQ,n,en,fun d hd=> ?_⟩
   have hx:=cW d hd
   have aw:(it m (fr m (bits h%(m+1)) (bits h)) d).j<owner.size:=by rw[L.sz];exact CK h d
   show ∃k:Nat,(owner.setIfInBounds j (some hs.length))[(it m (fr m (bits h%(m+1)) (bits h)) d).j]? =some (some k)
   generalize (it m (fr m (bits h%(m+1)) (bits h)) d).j=x at *
   have e:=Array.getElem?_eq_getElem aw
   cases e2:owner[x] with
   |none=>
    rw[e2]at e
    rw[getD_some.mpr e]at hx
    cases hx
   |some k=>
    rw[e2]at e
    exact dm x ⟨k,e⟩
 ·by_cases cz:i=j
  ·by_cases pO:i'=j
   ·rw[cz,pO]
   ·rw[cz,tQ]at hi
    rw[me pO]at aS
    cases hi
    exact absurd (L.lt _ _ aS) (Nat.lt_irrefl _)
  ·by_cases pO:i'=j
   ·rw[pO,tQ]at aS
    rw[me cz]at hi
    cases aS
    exact absurd (L.lt _ _ hi) (Nat.lt_irrefl _)
   ·rw[me cz]at hi
    rw[me pO]at aS
    exact L.inj _ _ _ hi aS
def oV (m:Nat) (acc:Option (Array (Option Nat)×Nat)) (h:Int):Option (Array (Option Nat)×Nat):=do
 let (owner,k) ←acc
 let j ←layClean.free m owner (turns m) (bits h%(m+1)) (bits h)
 pure (owner.setIfInBounds j (some k),k+1)
theorem U9 (m:Nat) (hs:Array Int):layClean m hs=(hs.toList.foldl (oV m) (some (Array.replicate (m+1) none,0))).map (·.1):=by
 unfold layClean
 rw[←Array.foldl_toList]
 rfl
theorem Ub {m:Nat}(hm:gM m):∀(rest hs:List Int) (owner:Array (Option Nat)),jb m hs owner→hs.length+rest.length≤m+1→
  ∃Ah,rest.foldl (oV m) (some (owner,hs.length))=some (Ah,(hs++rest).length)∧jb m (hs++rest) Ah
 | [],hs,owner,L,_=> ⟨owner,by rw[List.append_nil];rfl,by rw[List.append_nil];exact L⟩
 |h::rest,hs,owner,L,hl=>by
  rw[List.length_cons]at hl
  obtain⟨j,g1,g2⟩:=L.step hm (by omega) h
  obtain⟨o',g3,g4⟩:=Ub hm rest (hs++[h]) _ g2 (by rw[List.length_append,List.length_singleton];omega)
  refine⟨o',?_,by rw[←List.append_cons]at g4;exact g4⟩
  rw[List.foldl_cons]
  have e:oV m (some (owner,hs.length)) h=some (owner.setIfInBounds j (some hs.length),(hs++[h]).length):=by
   unfold oV
   simp[g1]
  rw[e,g3,←List.append_cons]
theorem Jj {es:Array (Int×Value)} :∀{L:List (Nat×Nat)},(∀x∈L,x.2<es.size)→(L.map (·.2)).filterMap (fun k=>es[k]?)=L.map fun x=> (es[x.2]?).getD (0,.none)
 | [],_=>rfl
 |x::L,h=>by
  have hx:=h x List.mem_cons_self
  rw[List.map_cons,List.filterMap_cons,List.map_cons,Array.getElem?_eq_getElem hx]
  dsimp only
  rw[Jj fun y hy=>h y (List.mem_cons_of_mem _ hy)]
  rfl
theorem P5 {m:Nat}(hm:gM m) (es:Array (Int×Value)) (hl:es.size≤m+1) (fi mo:Nat) (le pl:Bool):
  ∃t order,laid m fi mo le pl (es.map (·.1))=some (t,order)∧t.mask=m∧T0 t (order.filterMap (es[·]?))∧(order.filterMap (es[·]?)).toList.Perm es.toList:=by
 have L0:jb m [] (Array.replicate (m+1) none):=by
  refine⟨Array.size_replicate ..,fun j k h=> ?_,fun k h hk=>by simp at hk,fun j j' k h=> ?_⟩<;>
  ·rw[Array.getElem?_replicate]at h
   split at h<;>cases h
 obtain⟨owner,e1,L⟩:=Ub hm (es.map (·.1)).toList [] _ L0 (by simp;exact hl)
 rw[List.nil_append]at e1 L
 have bG:((es.map (·.1)).toList).length=es.size:=by simp
 have e2:layClean m (es.map (·.1))=some owner:=by
  rw[U9]
  have tM:List.foldl (oV m) (some (Array.replicate (m+1) none,0)) (es.map (·.1)).toList=_:=e1
  rw[tM]
  rfl
 have aw:∀x∈live m owner,x.2<es.size:=fun x hx=>by
  have:=L.lt _ _ ((ZX L.sz).mp hx)
  rw[bG]at this
  exact this
 have Mf:(((live m owner).map (·.2)).toArray.filterMap (es[·]?)).toList=(live m owner).map fun x=> (es[x.2]?).getD (0,.none):=by
  rw[Array.toList_filterMap]
  exact Jj aw
 have perm:(((live m owner).map (·.2)).toArray.filterMap (es[·]?)).toList.Perm es.toList:=by
  rw[Array.toList_filterMap]
  have p:=(WY L).filterMap (fun i=>es[i]?)
  rw[bG,filterMap_getElem?_range]at p
  exact p
 refine⟨{mask:=m,place:=((live m owner).map (·.1)).toArray,dummies:= #[],finger:=fi,led:=le,moves:=mo,plain:=pl},((live m owner).map (·.2)).toArray,?_,rfl,?_,perm⟩
 ·unfold laid
  rw[e2]
  rfl
 ·refine⟨?_,Wi m owner,rfl,fun j hj=> ?_,fun z hz=> ?_⟩
  ·have:=perm.length_eq
   rw[Array.length_toList,Array.length_toList]at this
   rw[this]
   show((live m owner).map (·.1)).toArray.size=_
   rw[List.size_toArray,List.length_map,U7 L,bG]
  ·obtain⟨x,hx,rfl⟩:=List.mem_map.mp (show j∈(live m owner).map (·.1) from hj)
   obtain⟨hq,_⟩:=Array.getElem?_eq_some_iff.mp ((ZX L.sz).mp hx)
   rw[L.sz]at hq
   exact hq
  ·have aY:z∈((live m owner).map (·.1)).zip (((live m owner).map (·.2)).toArray.filterMap (es[·]?)).toList:=hz
   rw[Mf,List.zip_map',List.mem_map]at aY
   obtain⟨x,hx,rfl⟩:=aY
   have gB:=(ZX L.sz).mp hx
   have vZ:=aw x hx
   have eh:(es.map (·.1)).toList[x.2]? =some (es[x.2].1):=by simp[vZ]
   obtain⟨j,g1,g2⟩:=L.at_ _ _ eh
   have ej:=L.inj _ _ _ g1 gB
   subst ej
   dsimp only
   rw[Array.getElem?_eq_getElem vZ,Option.getD_some]
   refine g2.mono fun y hy=> ?_
   obtain⟨k,hk⟩:=hy
   exact List.mem_map.mpr ⟨(y,k),(ZX L.sz).mpr hk,rfl⟩
theorem grow {m n:Nat}(h:i8 m n) (hn:n+1≤306):((n+1)*5≥m*3∧i8 (sizeAbove (grown (n+1)) - 1) (n+1)∧sizeAbove (grown (n+1))≤512)∨(¬(n+1)*5≥m*3∧i8 m (n+1)):=by
 rcases h with ⟨rfl,h⟩ |⟨rfl,h⟩ |⟨rfl,h⟩ |⟨rfl,h⟩
 ·by_cases q:n=4
  ·subst q
   exact .inl ⟨by decide,.inr (.inl ⟨by decide,by decide⟩),by decide⟩
  ·exact .inr ⟨by omega,.inl ⟨rfl,by omega⟩⟩
 ·by_cases q:n=18
  ·subst q
   exact .inl ⟨by decide,.inr (.inr (.inl ⟨by decide,by decide⟩)),by decide⟩
  ·exact .inr ⟨by omega,.inr (.inl ⟨rfl,by omega⟩)⟩
 ·by_cases q:n=76
  ·subst q
   exact .inl ⟨by decide,.inr (.inr (.inr ⟨by decide,by decide⟩)),by decide⟩
  ·exact .inr ⟨by omega,.inr (.inr (.inl ⟨rfl,by omega⟩))⟩
 ·exact .inr ⟨by omega,.inr (.inr (.inr ⟨rfl,by omega⟩))⟩
section
variable {prog:Program}{w:World}{K:Type} [DecidableEq K]
structure HK (knd:HeapKind prog w K):Prop where
 MS:∀{A:Around}{E:Value→Shared→Prop}{s:Shared}{k:K}{a:Addr}{Q:Bool→Shared→Prop},knd.is s.heap k a→(∀b,Q b s)→wpAny (model prog w) A (hashByValue 8 (.ref a)) Q E s
 notCls:∀{A:Around}{E:Value→Shared→Prop}{s:Shared}{k:K}{a:Addr}{Q:Bool→Shared→Prop},knd.is s.heap k a→Q false s→wpAny (model prog w) A (ofAClassStatement 8 (.ref a)) Q E s
 HZ:∀{h h':Heap}{k:K}{a d:Addr}{o:Obj}{es ep t},knd.is h k a→h.get? d=some o→o.data=.set es ep t→Heap.SameBut d h h'→knd.is h' k a
variable {knd:HeapKind prog w K}{A:Around}{E:Value→Shared→Prop}{s:Shared}
def gN (knd:HeapKind prog w K) (h:Heap) (k:K) (e:Int×Value):Prop:=∃a,e.2=.ref a∧knd.is h k a∧e.1=knd.hash k
theorem Pj (hk:HK knd) {k:K}{x:Addr}(hx:knd.is s.heap k x):∀{ys:List Value}{Q:Bool→Shared→Prop},(∀y∈ys,∃k' b,y=.ref b∧knd.is s.heap k' b)→Q false s→wpAny (model prog w) A (searchCouldBeSeen (.ref x) ys) Q E s:=by
 intro ys Q hy hq
 unfold searchCouldBeSeen
 refine wpAny_bind ?_
 refine wpAny_forIn_list _ (fun rest r s'=>r.1=none∧s'=s∧∀y∈rest,∃k' b,y=.ref b∧knd.is s.heap k' b) _ ?_ ?_ _ _ ⟨rfl,rfl,hy⟩
 ·rintro v rest r s' ⟨hr,rfl,cW⟩
  obtain⟨k',b,rfl,hb⟩:=cW v List.mem_cons_self
  have BD:∀y∈rest,∃k' b,y=Value.ref b∧knd.is s'.heap k' b:=fun y hy=>cW y (List.mem_cons_of_mem _ hy)
  dsimp only
  split
  ·exact wpAny_pure ⟨rfl,rfl,BD⟩
  ·refine wpAny_bind (knd.quiet hx ?_)
   simp only[Bool.not_true,Bool.false_eq_true,if_false]
   refine wpAny_bind (knd.quiet hb ?_)
   simp only[Bool.not_true,Bool.false_eq_true,if_false]
   refine wpAny_bind (hk.notCls hx ?_)
   simp only[Bool.false_eq_true,if_false]
   refine wpAny_bind (hk.notCls hb ?_)
   simp only[Bool.false_eq_true,if_false]
   exact wpAny_pure ⟨rfl,rfl,BD⟩
 ·rintro⟨r1,r2⟩ s' ⟨hr,rfl,_⟩
  simp only at hr
  subst hr
  exact wpAny_pure hq
theorem Na {t:SetTable}{es:Array (Int×Value)}(T:T0 t es) {i:Nat}{e:Int×Value}(h:es[i]? =some e):∃j,t.place[i]? =some j∧(j,e)∈t.place.toList.zip es.toList:=by
 obtain⟨hi,_⟩:=Array.getElem?_eq_some_iff.mp h
 have hp:i<t.place.size:=by rw[T.sz];exact hi
 refine⟨t.place[i],Array.getElem?_eq_getElem hp,List.mem_of_getElem? (i:=i) ?_⟩
 rw[List.getElem?_zip_eq_some]
 exact⟨by rw[Array.getElem?_toList];exact Array.getElem?_eq_getElem hp,by rw[Array.getElem?_toList];exact h⟩
theorem Nx {t:SetTable}{es:Array (Int×Value)}(T:T0 t es) {i j:Nat}(h:t.place[i]? =some j):∃e,es[i]? =some e:=by
 obtain⟨hi,_⟩:=Array.getElem?_eq_some_iff.mp h
 exact⟨es[i]'(by rw[←T.sz];exact hi),Array.getElem?_eq_getElem _⟩
theorem Qq {t:SetTable}{es:Array (Int×Value)}(T:T0 t es) {hashAt:Nat→Int}{h:Int}{p:Probe}{met:Option Met}{n:Nat}(hp:p.dummy=none) (hn:n<10*turns t.mask) (h1:∀k<n,(it t.mask p k).j∈t.place.toList) (h2:(it t.mask p n).j∉t.place.toList)
  (sj:t.probe hashAt h p=met) (hH:∀i:Nat,hashAt i=(es[i]?.map (·.1)).getD 0):
  (met=some (.empty (it t.mask p n).j none)∧∀k<n,∀(i:Nat) (e:Int×Value),t.place[i]? =some (it t.mask p k).j→es[i]? =some e→e.1≠h)∨
  ∃(k i:Nat) (e:Int×Value),k<n∧t.place[i]? =some (it t.mask p k).j∧es[i]? =some e∧e.1=h∧met=some (.candidate (it t.mask p k).j i (it t.mask p (k+1)))∧∀k'<k,∀(i:Nat) (e:Int×Value),t.place[i]? =some (it t.mask p k').j→es[i]? =some e→e.1≠h:=by
 have conv:∀{i:Nat}{e:Int×Value},es[i]? =some e→hashAt i=e.1:=fun {i e} he=>by rw[hH,he];rfl
 rcases DK (hashAt:=hashAt) (h:=h) T.kM T.tN n (10*turns t.mask) p hp hn h1 h2 with ⟨g1,g2⟩ |⟨k,i,g1,g2,g3,g4,g5⟩
 ·exact .inl ⟨sj.symm.trans g1,fun k hk i e hi he=>by rw[←conv he];exact g2 k hk i hi⟩
 ·obtain⟨e,he⟩:=Nx T g2
  exact .inr ⟨k,i,e,g1,g2,he,by rw[←conv he];exact g3,sj.symm.trans g4,fun k' aK i e hi he=>by rw[←conv he];exact g5 k' aK i hi⟩
theorem WJ (hk:HK knd) {S x:Addr}{k:K}{o:Obj}{es:Array (Int×Value)}{ep:Nat}{t:SetTable}{n:Nat}{Q:SetFound→Shared→Prop}
  (hroom:knd.room A) (hx:knd.is s.heap k x) (ho:s.heap.get? S=some o) (hd:o.data=.set es ep t) (T:T0 t es) (hm:t.mask%2=1) (hf:es.size≤t.mask)
  (nM:∀e∈es.toList,∃k',gN knd s.heap k' e)
  (hn:n<10*turns t.mask) (h1:∀i<n,(it t.mask (st t.mask (knd.hash k)) i).j∈t.place.toList) (h2:(it t.mask (st t.mask (knd.hash k)) n).j∉t.place.toList)
  (xl:(∃e∈es.toList,gN knd s.heap k e)→Q (.there none) s) (BP:(¬∃e∈es.toList,gN knd s.heap k e)→Q (.free (it t.mask (st t.mask (knd.hash k)) n).j false) s):
  ∀(d fuel m0:Nat) (qJ:Option Probe),m0+d=n→d<fuel→qJ.getD (t.probeStart (knd.hash k))=it t.mask (st t.mask (knd.hash k)) m0→
   (∀i'<m0,∀(i:Nat) (e:Int×Value),t.place[i]? =some (it t.mask (st t.mask (knd.hash k)) i').j→es[i]? =some e→¬gN knd s.heap k e)→
   wpAny (model prog w) A (setSearchFrom S (.ref x) (knd.hash k) true fuel qJ) Q E s
 |d,0,m0,qJ,_,Bt,_,_=>absurd Bt (Nat.not_lt_zero _)
 |d,fuel+1,m0,qJ,By,Bt,jw,hold=>by
  have ka:=T.fits hf
  unfold setSearchFrom
  refine wpAny_bind (wpAny_setState_of ho hd ka ?_)
  dsimp only
  have hg:t.gaveWay=false:=by unfold SetTable.gaveWay;rw[hm];rfl
  rw[hg]
  simp only[Bool.false_eq_true,if_false]
  rw[jw]
  generalize sj:t.probe _ (knd.hash k) _=met
  have K1:(it t.mask (st t.mask (knd.hash k)) m0).dummy=none:=Dv _ _ _
  have jX:∀i,it t.mask (it t.mask (st t.mask (knd.hash k)) m0) i=it t.mask (st t.mask (knd.hash k)) (m0+i):=fun i=> (Wp _ _ _ _).symm
  rcases Qq (es:=es) T K1 (n:=d) (by omega) (fun i hi=>by rw[jX];exact h1 _ (by omega)) (by rw[jX,By];exact h2) sj (fun i=>rfl) with ⟨rfl,g2⟩ |⟨c,i,e,g1,g2,g3,g4,rfl,g5⟩
  ·dsimp only
   rw[jX,By]
   refine wpAny_pure (BP ?_)
   rintro⟨e,he,el⟩
   obtain⟨i,hi,rfl⟩:=List.getElem_of_mem he
   have aS:es[i]? =some es.toList[i]:=by rw[←Array.getElem?_toList];exact List.getElem?_eq_getElem hi
   obtain⟨j,hj,hz⟩:=Na T aS
   obtain⟨a,ea,lI,eh⟩:=id el
   obtain⟨nn,fN,nH⟩:=T.ld _ hz
   dsimp only at fN nH
   rw[eh]at fN nH
   have aw:nn<n:=by
    rcases Nat.lt_trichotomy nn n with q |q |q
    ·exact q
    ·rw[q]at fN
     exact absurd (by rw[fN];exact M9 hj) h2
    ·exact absurd (nH n q) h2
   by_cases Kt:nn<m0
   ·exact hold nn Kt i _ (by rw[fN];exact hj) aS el
   ·obtain⟨c,rfl⟩:∃c,nn=m0+c:=⟨nn - m0,by omega⟩
    exact g2 c (by omega) i _ (by rw[jX,fN];exact hj) aS eh
  ·have wQ:e∈es.toList:=by rw[←Array.getElem?_toList]at g3;exact List.mem_of_getElem? g3
   obtain⟨k2,b,eb,lG,Cd⟩:=nM e wQ
   rw[jX]at g2
   have IS:∀y∈List.map (fun x=>x.snd) (Array.filter (fun x=>x.fst==knd.hash k) es).toList,∃k' b,y=Value.ref b∧knd.is s.heap k' b:=fun y hy=>by
    obtain⟨z,hz,rfl⟩:=List.mem_map.mp hy
    have aY:z∈es.toList:=by
     rw[Array.toList_filter]at hz
     exact(List.mem_filter.mp hz).1
    obtain⟨k3,b3,e3,h3,_⟩:=nM z aY
    exact⟨k3,b3,e3,h3⟩
   have A4:t.slot (it t.mask (it t.mask (st t.mask (knd.hash k)) m0) c).j=.live i:=WN T.kM (by rw[jX];exact g2)
   have sf:¬k2=k→wpAny (model prog w) A (setSearchFrom S (.ref x) (knd.hash k) true fuel (some (it t.mask (it t.mask (st t.mask (knd.hash k)) m0) (c+1)))) Q E s:=fun bA=>by
    refine WJ hk hroom hx ho hd T hm hf nM hn h1 h2 xl BP (d - c - 1) fuel (m0+c+1) _ (by omega) (by omega) (by rw[jX];rfl) fun i' aS i2 e2 cV sR xG=> ?_
    by_cases q1:i'<m0
    ·exact hold i' q1 i2 e2 cV sR xG
    ·by_cases q2:i'<m0+c
     ·obtain⟨c',rfl⟩:∃c',i'=m0+c':=⟨i' - m0,by omega⟩
      obtain⟨_,_,_,Me⟩:=xG
      exact g5 c' (by omega) i2 e2 (by rw[jX];exact cV) sR Me
     ·have e0:i'=m0+c:=by omega
      subst e0
      have ei:i2=i:=(YJ T.kM cV).symm.trans (YJ T.kM g2)
      subst ei
      rw[g3]at sR
      cases sR
      obtain⟨b',Cg,wN,_⟩:=xG
      rw[eb]at Cg
      cases Cg
      exact bA (knd.inj lG wN)
   dsimp only
   cases hl:t.led with
   |false=>
    simp only[Bool.not_false,if_true]
    refine wpAny_bind (Pj hk hx IS ?_)
    simp only[Bool.false_eq_true,if_false]
    rw[g3]
    dsimp only
    refine wpAny_bind (wpAny_holding ?_)
    rw[eb]
    refine knd.eqBool hroom lG hx ?_
    refine wpAny_bind (wpAny_setState_of ho hd ka ?_)
    by_cases hq:k2=k
    ·rw[decide_eq_true hq]
     simp only[Bool.and_self,if_true]
     refine wpAny_pure (xl ⟨e,wQ,b,eb,by rw[←hq];exact lG,by rw[←hq];exact Cd⟩)
    ·rw[decide_eq_false hq]
     simp only[Bool.and_false,Bool.false_eq_true,if_false]
     have wk:t.sameMemory t.moves t.mask=some true:=by unfold SetTable.sameMemory;simp
     rw[wk]
     dsimp only
     rw[if_pos rfl,A4]
     dsimp only
     rw[g3]
     dsimp only
     rw[eb]
     refine wpAny_bind (wpAny_isSame_ref_self ?_)
     refine wpAny_bind (wpAny_pure ?_)
     rw[if_pos rfl]
     dsimp only
     exact sf hq
   |true=>
    simp only[Bool.not_true,Bool.false_eq_true,if_false]
    rw[g3]
    dsimp only
    refine wpAny_bind (wpAny_holding ?_)
    rw[eb]
    refine knd.eqBool hroom lG hx ?_
    refine wpAny_bind (wpAny_setState_of ho hd ka ?_)
    by_cases hq:k2=k
    ·rw[decide_eq_true hq]
     simp only[Bool.and_self,if_true]
     refine wpAny_pure (xl ⟨e,wQ,b,eb,by rw[←hq];exact lG,by rw[←hq];exact Cd⟩)
    ·rw[decide_eq_false hq]
     simp only[Bool.and_false,Bool.false_eq_true,if_false]
     have wk:t.sameMemory t.moves t.mask=some true:=by unfold SetTable.sameMemory;simp
     rw[wk]
     dsimp only
     rw[if_pos rfl,A4]
     dsimp only
     rw[g3]
     dsimp only
     rw[eb]
     refine wpAny_bind (wpAny_isSame_ref_self ?_)
     refine wpAny_bind (wpAny_pure ?_)
     rw[if_pos rfl]
     dsimp only
     exact sf hq
end
section
variable {prog:Program}{w:World}{K:Type} [DecidableEq K] {knd:HeapKind prog w K}{A:Around}{E:Value→Shared→Prop}{s:Shared}
structure Q1 (knd:HeapKind prog w K) (h:Heap) (S:Addr) (ks:List K) (o:Obj) (es:Array (Int×Value)) (ep:Nat) (t:SetTable):Prop where
 ho:h.get? S=some o
 ex:o.ExactSet
 hd:o.data=.set es ep t
 T:T0 t es
 room:i8 t.mask es.size
 el:∀e∈es.toList,∃k∈ks,gN knd h k e
 all:∀k∈ks,∃e∈es.toList,gN knd h k e
 sz:es.size=ks.length
def jc (knd:HeapKind prog w K) (h:Heap) (S:Addr) (ks:List K):Prop:=∃o es ep t,Q1 knd h S ks o es ep t
theorem YT (hk:HK knd) {h h':Heap}{S:Addr}{o:Obj}{es ep t} (ho:h.get? S=some o) (hd:o.data=.set es ep t) (hs:Heap.SameBut S h h') {k:K}{e:Int×Value}(x:gN knd h k e):gN knd h' k e:=by
 obtain⟨a,e1,e2,e3⟩:=x
 exact⟨a,e1,hk.HZ e2 ho hd hs,e3⟩
theorem PQ {S:Addr}{o:Obj}{es:Array (Int×Value)}{ep:Nat}{t:SetTable}{Q:Unit→Shared→Prop}(ho:s.heap.get? S=some o) (hd:o.data=.set es ep t) (hf:t.fits es.size=true) {wanted:Nat}(hm:gM (sizeAbove wanted - 1)) (hw:sizeAbove wanted≤512) (hl:es.size≤sizeAbove wanted - 1)
  (h:∀fj t',t'.mask=sizeAbove wanted - 1→T0 t' fj→fj.toList.Perm es.toList→Q () {s with heap:=s.heap.update S (Obj.putSet fj t')}):wpAny (model prog w) A (setRelay S wanted) Q E s:=by
 unfold setRelay
 refine wpAny_bind (wpAny_setState_of ho hd hf ?_)
 dsimp only
 rw[if_neg (by rw[sizeLine_eq];omega)]
 obtain⟨t',order,e,em,T',pm⟩:=P5 hm es (by omega) t.finger (t.movedTo (sizeAbove wanted - 1)) t.led t.plain
 have er:t.relaid (es.map (·.1)) wanted=some (t',order):=e
 rw[er]
 refine wpAny_bind ?_
 have hz:(order.filterMap (es[·]?)).size=es.size:=by rw[←Array.length_toList,pm.length_eq,Array.length_toList]
 refine(show wpAny _ _ (if ((order.filterMap (es[·]?)).size !=es.size)=true then _ else pure _) _ _ s from ?_)
 rw[if_neg (by rw[hz];simp)]
 refine wpAny_pure ?_
 dsimp only
 refine wpAny_storeSet_of ho hd (h _ _ em T' pm) (by rw[hz,sizeLine_eq];omega)
theorem DD {h:Heap}{S:Addr}{o:Obj}{es:Array (Int×Value)}{ep:Nat}{t:SetTable}(ho:h.get? S=some o) (hd:o.data=.set es ep t) (fj:Array (Int×Value)) (t':SetTable):(h.update S (Obj.putSet fj t')).get? S=some {o with data:=.set fj (ep+1) t'} :=by
 have:=Heap.get?_update_self (Obj.putSet fj t') ho (by rw[putSet_of fj t' hd];rfl)
 rw[putSet_of fj t' hd]at this
 exact this
theorem N9 (hk:HK knd) {S x:Addr}{k:K}{ks:List K}{Q:Bool→Shared→Prop}(hroom:knd.room A) (hx:knd.is s.heap k x) (H:jc knd s.heap S ks) (hn:ks.length+1≤306)
  (h:∀h' b,Heap.SameBut S s.heap h'→jc knd h' S (if k∈ks then ks else ks++[k])→Q b {s with heap:=h'}):
  wpAny (model prog w) A (setAddHashed S (.ref x) (knd.hash k)) Q E s:=by
 obtain⟨o,es,ep,t,H⟩:=H
 have ka:=H.T.fits (Nat.le_of_lt (Nat.lt_of_succ_lt H.room.lt))
 unfold setAddHashed setAddHashedIn
 refine wpAny_holding (wpAny_bind (wpAny_setState_of H.ho H.hd ka ?_))
 dsimp only
 have hb:byScan (.ref x) es=false:=rfl
 rw[hb]
 simp only[Bool.false_eq_true,if_false]
 obtain⟨f,hf,sO⟩:=H.T.free (by have:=H.room.lt;omega)
 obtain⟨n,sD,sy,Bg⟩:=QI (dm:=(·∈t.place.toList)) H.room.rN (knd.hash k) hf sO
 have odd:t.mask%2=1:=by rcases H.room.rN with q |q |q |q<;>rw[q]
 unfold setSearch
 refine wpAny_bind ?_
 refine WJ hk hroom hx H.ho H.hd H.T odd (by have:=H.room.lt;omega) (fun e he=>let ⟨k',_,el⟩:=H.el e he;⟨k',el⟩) sD sy Bg (fun IE=> ?_) (fun ip=> ?_) n 100000 0 none (by omega) ?_ rfl (fun i' aS=>absurd aS (Nat.not_lt_zero _))
 ·dsimp only
  refine wpAny_pure ?_
  have bS:k∈ks:=by
   obtain⟨e,he,a,ea,lI,_⟩:=IE
   obtain⟨k',aK,a',Ci,KH,_⟩:=H.el e he
   rw[ea]at Ci
   cases Ci
   rw[knd.inj lI KH]
   exact aK
  have:=h s.heap false (Heap.SameBut.refl _ _) (by rw[if_pos bS];exact⟨o,es,ep,t,H⟩)
  exact this
 ·dsimp only
  have bS:k∉ks:=fun m=>ip (H.all k m)
  refine wpAny_bind (wpAny_setState_of H.ho H.hd ka ?_)
  dsimp only
  generalize KY:(it t.mask (st t.mask (knd.hash k)) n).j=f'
  have Tp:=fun pl=>H.T.put (x:=.ref x) sy Bg pl
  rw[KY]at Tp
  have l0:(insertAt es (t.put f').2 (knd.hash k,.ref x)).size=es.size+1:=by rw[←Array.length_toList,(insertAt_perm es _ _).length_eq,Array.length_toList,Array.size_push]
  have xE:∀e,e∈(insertAt es (t.put f').2 (knd.hash k,Value.ref x)).toList↔e∈es.toList∨e=(knd.hash k,Value.ref x):=fun e=>by
   rw[(insertAt_perm es _ _).mem_iff,Array.toList_push,List.mem_append,List.mem_singleton]
  have nM:∀e∈(insertAt es (t.put f').2 (knd.hash k,Value.ref x)).toList,∃k'∈ks++[k],gN knd s.heap k' e:=fun e he=>by
   rcases (xE e).mp he with q |q
   ·obtain⟨k',h1,h2⟩:=H.el e q
    exact⟨k',List.mem_append_left _ h1,h2⟩
   ·exact⟨k,by simp,x,by rw[q],hx,by rw[q]⟩
  have BE:∀k'∈ks++[k],∃e∈(insertAt es (t.put f').2 (knd.hash k,Value.ref x)).toList,gN knd s.heap k' e:=fun k' aK=>by
   rcases List.mem_append.mp aK with q |q
   ·obtain⟨e,h1,h2⟩:=H.all k' q
    exact⟨e,(xE e).mpr (.inl h1),h2⟩
   ·rw[List.mem_singleton.mp q]
    exact⟨_,(xE _).mpr (.inr rfl),x,rfl,hx,rfl⟩
  have Bk:(insertAt es (t.put f').2 (knd.hash k,Value.ref x)).size=(ks++[k]).length:=by rw[l0,List.length_append,List.length_singleton,H.sz]
  have h':=fun h' b=>h h' b
  rw[if_neg bS]at h'
  generalize SF:insertAt es (t.put f').2 (knd.hash k,Value.ref x)=nQ at *
  have tail:∀t1,(∃pl,t1= {(t.put f').1 with plain:=pl})→wpAny (model prog w) A (storeSet S nQ t1 >>=fun _=>if (!false&&t1.tooFull)=true then (setRelay S (grown (es.size+1)) >>=fun _=>pure true) else pure true) Q E s:=by
   rintro t1 ⟨pl,rfl⟩
   have T1:=Tp pl
   have g1:=DD H.ho H.hd nQ {(t.put f').1 with plain:=pl}
   have sb:=Heap.SameBut.update s.heap S (Obj.putSet nQ {(t.put f').1 with plain:=pl})
   refine wpAny_bind (wpAny_storeSet_of H.ho H.hd ?_ (by rw[l0,sizeLine_eq];have:=H.room.small;omega))
   have fill:({(t.put f').1 with plain:=pl} :SetTable).tooFull=decide ((es.size+1)*5≥t.mask*3):=by
    unfold SetTable.tooFull SetTable.fill
    have a:({(t.put f').1 with plain:=pl} :SetTable).place.size=es.size+1:=by rw[T1.sz,l0]
    have b:=T1.tN
    rw[b,a]
    rfl
   rw[fill]
   rcases grow H.room (by rw[H.sz];exact hn) with ⟨q1,q2,q3⟩ |⟨q1,q2⟩
   ·rw[decide_eq_true q1]
    simp only[Bool.not_false,Bool.and_self,if_true]
    refine wpAny_bind (PQ g1 rfl (T1.fits (by rw[l0];exact Nat.le_of_lt H.room.lt)) q2.rN q3 (by have:=q2.lt;rw[l0];omega) fun tI t2 Mc T2 vF=>wpAny_pure (h' _ true (sb.trans (Heap.SameBut.update _ S _)) ?_))
    have zc:tI.size=nQ.size:=by rw[←Array.length_toList,vF.length_eq,Array.length_toList]
    have zL:=sb.trans (Heap.SameBut.update _ S (Obj.putSet tI t2))
    exact⟨_,tI,ep+1+1,t2,DD g1 rfl tI t2,H.ex,rfl,T2,by rw[Mc,zc,l0];exact q2,fun e he=>let ⟨k',a,b⟩:=nM e (vF.mem_iff.mp he);⟨k',a,YT hk H.ho H.hd zL b⟩,fun k' aK=>let ⟨e,a,b⟩:=BE k' aK;⟨e,vF.mem_iff.mpr a,YT hk H.ho H.hd zL b⟩,by rw[zc,Bk]⟩
   ·rw[decide_eq_false q1]
    simp only[Bool.not_false,Bool.and_false,Bool.false_eq_true,if_false]
    refine wpAny_pure (h' _ true sb ?_)
    exact⟨_,nQ,ep+1,_,g1,H.ex,rfl,T1,by rw[l0];exact q2,fun e he=>let ⟨k',a,b⟩:=nM e he;⟨k',a,YT hk H.ho H.hd sb b⟩,fun k' aK=>let ⟨e,a,b⟩:=BE k' aK;⟨e,a,YT hk H.ho H.hd sb b⟩,Bk⟩
  split
  ·refine wpAny_bind (hk.MS hx fun b=> ?_)
   cases b with
   |true=>exact tail _ ⟨(t.put f').1.plain,rfl⟩
   |false=>exact tail _ ⟨false,rfl⟩
  ·refine wpAny_bind (wpAny_pure ?_)
   exact tail _ ⟨(t.put f').1.plain,rfl⟩
 ·have:10*turns t.mask≤5260:=by
   unfold turns
   rcases H.room.rN with q |q |q |q<;>rw[q]<;>decide
  omega
end
end HS
namespace HS
open PySem PySem.SetTable PySem.Spec
theorem O7 (n:Nat) {v:Value}(h:carriedByValue v=true):∃b,hashByValue n v=pure b:=by
 cases n<;>cases v<;>first |exact⟨_,rfl⟩ |(simp[carriedByValue]at h)
theorem OF (n:Nat) {v:Value}(h:carriedByValue v=true):ofAClassStatement n v=pure false:=by
 cases n<;>cases v<;>first |rfl |(simp[carriedByValue]at h) |(unfold ofAClassStatement;rfl)
section
variable {prog:Program}{w:World}{K:Type} [DecidableEq K] {knd:KeyKind prog w K}{A:Around}{E:Value→Shared→Prop}{s:Shared}
theorem QA {ks:List K}{a:Addr}{Q:Bool→Shared→Prop}(hk:IsTupleKey knd s.heap ks a) (h:∀b,Q b s):wpAny (model prog w) A (hashByValue 8 (.ref a)) Q E s:=by
 have hT:=hk.typeIs
 obtain⟨o,items,n,ho,_,hd,hi⟩:=hk
 unfold hashByValue
 refine wpAny_bind (wpAny_specialOf hT F.slot_tuple_hash.lookup ?_)
 refine(show wpAny _ _ (seqItems? (.ref a) >>=_) _ _ s from wpAny_bind (wpAny_seqItems ho hd ?_))
 refine wpAny_bind ?_
 show wpAny _ _ (forIn items _ _) _ _ s
 rw[←Array.forIn_toList]
 refine wpAny_forIn_list _ (fun rest r s'=>r.1=none∧s'=s∧∀v∈rest,carriedByValue v=true) _ ?_ ?_ _ _ ⟨rfl,rfl,hi.byValue⟩
 ·rintro v rest r s' ⟨hr,rfl,cW⟩
  obtain⟨b,e⟩:=O7 7 (cW v List.mem_cons_self)
  rw[e]
  refine wpAny_bind (wpAny_pure ?_)
  cases b with
  |true=>
   simp only[Bool.not_true,Bool.false_eq_true,if_false]
   exact wpAny_pure ⟨rfl,rfl,fun u js=>cW u (List.mem_cons_of_mem _ js)⟩
  |false=>
   simp only[Bool.not_false,if_true]
   exact wpAny_pure (wpAny_pure (h false))
 ·rintro⟨r1,r2⟩ s' ⟨hr,rfl,_⟩
  simp only at hr
  subst hr
  exact wpAny_pure (h true)
theorem Uy {ks:List K}{a:Addr}{Q:Bool→Shared→Prop}(hk:IsTupleKey knd s.heap ks a) (h:Q false s):wpAny (model prog w) A (ofAClassStatement 8 (.ref a)) Q E s:=by
 have hT:=hk.typeIs
 obtain⟨o,items,n,ho,_,hd,hi⟩:=hk
 unfold ofAClassStatement
 refine wpAny_bind (wpAny_typeOf hT ?_)
 dsimp only
 rw[if_pos (by decide)]
 refine wpAny_bind (wpAny_pure ?_)
 simp only[Bool.not_true,Bool.false_eq_true,if_false]
 refine wpAny_bind (wpAny_seqItems ho hd ?_)
 dsimp only
 refine wpAny_bind ?_
 rw[←Array.forIn_toList]
 refine wpAny_forIn_list _ (fun rest r s'=>r.1=none∧s'=s∧∀v∈rest,carriedByValue v=true) _ ?_ ?_ _ _ ⟨rfl,rfl,hi.byValue⟩
 ·rintro v rest r s' ⟨hr,rfl,cW⟩
  rw[OF 7 (cW v List.mem_cons_self)]
  refine wpAny_bind (wpAny_pure ?_)
  simp only[Bool.false_eq_true,if_false]
  exact wpAny_pure ⟨rfl,rfl,fun u js=>cW u (List.mem_cons_of_mem _ js)⟩
 ·rintro⟨r1,r2⟩ s' ⟨hr,rfl,_⟩
  simp only at hr
  subst hr
  exact wpAny_pure h
theorem O8 (knd:KeyKind prog w K):HK (tupleKind knd):=by
 refine⟨fun hk h=>QA hk h,fun hk h=>Uy hk h,?_⟩
 intro h h' k a d o es ep t x ho hd hs
 obtain⟨o',items,n,cw,hc,lN,hi⟩:=x
 have bA:a≠d:=by
  rintro rfl
  obtain rfl:o'=o:=Option.some.inj (cw.symm.trans ho)
  rw[hd]at lN
  exact nomatch lN
 exact⟨o',items,n,(hs.2 a bA).trans cw,hc,lN,hi⟩
end
section
variable {K:Type} [DecidableEq K]
def met (val:Nat→K):Nat→List K
 |0=> []
 |n+1=>if val n∈met val n then met val n else met val n++[val n]
theorem Jd (val:Nat→K) (n:Nat):met val (n+1)=if val n∈met val n then met val n else met val n++[val n]:=rfl
theorem UA (val:Nat→K):∀n,(met val n).length≤n
 |0=>Nat.le_refl _
 |n+1=>by
  rw[Jd]
  have:=UA val n
  split
  ·omega
  ·rw[List.length_append,List.length_singleton];omega
theorem DS (val:Nat→K):∀n k,k∈met val n↔k∈(List.range n).map val
 |0,k=>by simp[met]
 |n+1,k=>by
  rw[List.range_succ,List.map_append,List.mem_append,←DS val n k,Jd]
  split
  ·rename_i h
   simp only[List.map_cons,List.map_nil,List.mem_singleton]
   exact⟨.inl,fun z=>z.elim id fun e=>by rw[e];exact h⟩
  ·simp
theorem AE (val:Nat→K):∀n,((met val n).length=n↔((List.range n).map val).Nodup)
 |0=>by simp[met]
 |n+1=>by
  have ih:=AE val n
  have le:=UA val n
  have mm:=DS val n (val n)
  rw[List.range_succ,List.map_append]
  have nd:((List.range n).map val++List.map val [n]).Nodup↔((List.range n).map val).Nodup∧¬val n∈(List.range n).map val:=by
   rw[List.nodup_append]
   constructor
   ·rintro⟨h1,_,h3⟩
    exact⟨h1,fun m=>h3 _ m (val n) (by simp) rfl⟩
   ·rintro⟨h1,h2⟩
    refine⟨h1,by simp,fun a ha b hb q=>h2 ?_⟩
    have dn:b=val n:=by simpa using hb
    rw[←dn,←q];exact ha
  rw[nd,←ih,←mm,Jd]
  split
  ·rename_i h
   constructor
   ·intro z;omega
   ·rintro⟨_,z⟩;exact absurd h z
  ·rename_i h
   rw[List.length_append,List.length_singleton]
   constructor
   ·intro z;exact⟨by omega,h⟩
   ·rintro⟨z,_⟩;omega
variable {prog:Program}{w:World}{kk:KeyKind prog w K}{A:Around}{E:Value→Shared→Prop}{s:Shared}{R:Result→Shared→Prop}{I:Addr}{fp wr:List Addr}{G:Array GenState→Array GenState→Prop}{n:Nat}{P:Nat→Value→Prop}{St:Nat→Shared→Prop}
def qk (h:Heap) (b:Addr):Prop:=∃o,h.get? b=some o∧o.cls≠.type "tuple"
theorem Jh {h h':Heap}{ws:List Addr}{ks:List K}{a:Addr}(hw:∀b∈ws,qk h b) (sI:∀b o,b∉ws→h.get? b=some o→h'.get? b=some o) (x:IsTupleKey kk h ks a):IsTupleKey kk h' ks a:=by
 obtain⟨o',items,n,cw,hc,lN,hi⟩:=x
 have bA:a∉ws:=fun m=>by
  obtain⟨o,ho,hn⟩:=hw a m
  rw[cw]at ho
  cases ho
  exact hn hc
 exact⟨o',items,n,sI _ _ bA cw,hc,lN,hi⟩
theorem UR {h h':Heap}{ws:List Addr}{S:Addr}{ks:List (List K)}(hw:∀b∈ws,qk h b) (hS:S∉ws) (sI:∀b o,b∉ws→h.get? b=some o→h'.get? b=some o) (x:jc (tupleKind kk) h S ks):jc (tupleKind kk) h' S ks:=by
 obtain⟨o,es,ep,t,X⟩:=x
 have ke:∀{k:List K}{e:Int×Value},gN (tupleKind kk) h k e→gN (tupleKind kk) h' k e:=fun⟨a,e1,e2,e3⟩=> ⟨a,e1,Jh hw sI e2,e3⟩
 exact⟨o,es,ep,t,sI _ _ hS X.ho,X.ex,X.hd,X.T,X.room,fun e he=>let ⟨k,a,b⟩:=X.el e he;⟨k,a,ke b⟩,fun k hk=>let ⟨e,a,b⟩:=X.all k hk;⟨e,a,ke b⟩,X.sz⟩
theorem PD {h:Heap}{S:Addr}{ks:List (List K)}(x:jc (tupleKind kk) h S ks):qk h S:=by
 obtain⟨o,es,ep,t,X⟩:=x
 exact⟨o,X.ho,by rw[X.ex.1];decide⟩
theorem HL (hroom:A.in1.units<cLine) (W:WalksS prog w A.in1 I fp wr G n P St) (S:Addr) (BJ:S∉fp) (val:Nat→List K) (hb:n≤305) (hI:∀i s,St i s→∀b∈wr,qk s.heap b):
  ∀(k i:Nat) (s:Shared),n - i=k→i≤n→St i s→jc (tupleKind kk) s.heap S (met val i)→(∀i v,P i v→∃a,v=.ref a∧IsTupleKey kk s.heap (val i) a)→
   (∀s',Moved (S::wr) G s s'→jc (tupleKind kk) s'.heap S (met val n)→R (.ok (.ret .none)) s')→
   codeAny (model prog w) A (.builtin "set.update.loop" ⟨[.ref S,.ref I],[]⟩) R s:=by
 have BI:S∉wr:=fun h=>BJ (W.sub _ h)
 have lD:∀b∈wr,b∈S::wr:=fun b hb=>List.mem_cons_of_mem _ hb
 intro k
 induction k with
 |zero=>
  intro i s aK hi gC hS tm hR
  have pN:i=n:=by omega
  subst pN
  refine codeAny_builtin PyProof.Rows.F.entry_set_update_loop ?_
  rw[Around.under_plainId PyProof.Rows.F.plain_set_update_loop _]
  show wpAny _ A.in1 (pyNext (.ref I) >>=_) _ _ s
  refine wpAny_bind (W.done s _ _ gC fun s' hm=> ?_)
  show wpAny _ A.in1 (ret Value.none) _ _ s'
  exact wpAny_pure (hR s' (hm.mono lD) (UR (hI _ _ gC) BI (fun b o hb e=>hm.heap b o hb e) hS))
 |succ k ih=>
  intro i s aK hi gC hS tm hR
  have aw:i<n:=by omega
  refine codeAny_builtin PyProof.Rows.F.entry_set_update_loop ?_
  rw[Around.under_plainId PyProof.Rows.F.plain_set_update_loop _]
  show wpAny _ A.in1 (pyNext (.ref I) >>=_) _ _ s
  refine wpAny_bind (W.item i s _ _ aw gC fun v s' hP IP hm=> ?_)
  have kp:∀b o,b∉wr→s.heap.get? b=some o→s'.heap.get? b=some o:=fun b o hb e=>hm.heap b o hb e
  have gE:=UR (hI _ _ gC) BI kp hS
  have BM:∀i v,P i v→∃a,v=.ref a∧IsTupleKey kk s'.heap (val i) a:=fun i v hv=>let ⟨a,e,x⟩:=tm i v hv;⟨a,e,Jh (hI _ _ gC) kp x⟩
  obtain⟨a,rfl,lI⟩:=BM i v hP
  show wpAny _ A.in1 (holding [Value.ref a] (setAdd S (.ref a)) >>=_) _ _ s'
  refine wpAny_bind (wpAny_holding ?_)
  unfold setAdd
  refine wpAny_holding ?_
  refine wpAny_bind ((tupleKind kk).pyHash hroom lI ?_)
  refine N9 (s:= {s' with toks:=s'.toks+(tupleKind kk).draws (val i)}) (O8 kk) hroom lI gE (by have:=UA val i;omega) fun h' b sb Ln=> ?_
  have FI:∀b o,b∉[S]→s'.heap.get? b=some o→h'.get? b=some o:=fun b o hb e=>by
   rw[sb.2 b (fun z=>hb (by rw[z];exact List.mem_singleton.mpr rfl))];exact e
  have nS:∀b∈[S],qk s'.heap b:=fun b hb=>by rw[List.mem_singleton.mp hb];exact PD gE
  refine wpAny_pure ⟨plainId_quiet PyProof.Rows.F.plain_set_update_loop _,ih (i+1) _ (by omega) aw (W.frame _ s' _ _ IP (Nat.le_add_right _ _) fun b hb o e=> ?_) (by rw[Jd];exact Ln) (fun i v hv=>let ⟨a,e,x⟩:=BM i v hv;⟨a,e,Jh nS FI x⟩) fun eU Ku Lp=> ?_⟩
  ·rw[sb.2 b (fun h:b=S=>BJ (by rw[←h];exact hb))];exact e
  ·refine hR eU (Moved.trans W.gtrans ((hm.mono lD).then_heap (Nat.le_add_right _ _) fun b o hb e=> ?_) Ku) Lp
   rw[sb.2 b (fun h:b=S=>hb (by rw[h];exact List.mem_cons_self))];exact e
end
section
variable {K:Type} [DecidableEq K] {prog:Program}{w:World}{kk:KeyKind prog w K}{A:Around}{E:Value→Shared→Prop}{s:Shared}
abbrev jn (led:Bool):Obj:= {cls:=.type "set",dict:=none,data:=.set #[] 0 (.fresh 0 0 led)}
theorem PZ {h:Heap}{S:Addr}(led:Bool) (g:h.get? S=some (jn led)):jc (tupleKind kk) h S []:=by
 refine⟨_, #[],0,_,g,⟨rfl,rfl,rfl⟩,rfl,⟨rfl,.nil,rfl,fun j hj=> ?_,fun z hz=> ?_⟩,.inl ⟨rfl,Nat.zero_le _⟩,fun e he=> ?_,fun k hk=> ?_,rfl⟩
 ·exact absurd hj (by simp[SetTable.fresh])
 ·exact absurd hz (by simp[SetTable.fresh])
 ·exact absurd he (by simp)
 ·exact absurd hk (by simp)
set_option maxHeartbeats 8000000 in
theorem MR {l:Addr}{items:Array Value}{val:Nat→List K}{Q:Value→Shared→Prop}
  (hh:A.handled=none) (hu:A.in1.in1.in1.units<cLine) (hl:s.heap.IsList l items) (hi:∀i v,items[i]? =some v→∃a,v=.ref a∧IsTupleKey kk s.heap (val i) a) (hb:items.size≤305)
  (h:∀(h':Heap) (tk:Nat),jc (tupleKind kk) h' s.heap.objs.size (met val items.size)→(∀b o,b<s.heap.objs.size→s.heap.get? b=some o→h'.get? b=some o)→Q (.ref s.heap.objs.size) {s with heap:=h',toks:=tk}):
  wpAny (model prog w) A (call (.type "set") [.ref l]) Q E s:=by
 have cS:=F.called_set
 obtain⟨c0,RE,Sg⟩:=cS.mro
 have Sh:=cS.made;have RG:=cS.sub
 refine wpAny_call (codeAny_of_tree (show wpAny _ _ (callAny (.type "set") _) _ _ _ from ?_))
 refine wpAny_pure ⟨Code.quiet_builtin _ (by decide+kernel),codeAny_builtin F.entry_type_call ?_⟩
 rw[Around.under_plain (weight_type_call_type "set" [.ref l] []) rfl]
 have k1:=cS.notType;have k2:=cS.canCreate;have k3:=F.typeCall_set_1 (.ref l)
 repeat (any_goals (first |assumption |wp_step))
 refine codeAny_mono (code_set_new_1 (.ref l) (E:=E) (Q₁:=fun ob aJ=> ∃led:Bool,ob=.ref s.heap.objs.size∧aJ= {s with heap:=s.heap.push (jn led)}) fun led=> ⟨led,rfl,rfl⟩) fun FV aJ xq=> ?_
 cases FV with
 |error e=>exact xq
 |ok LW=>
  cases LW with
  |ret ob=>
   obtain⟨led,rfl,rfl⟩:=xq
   have gS:(s.heap.push (jn led)).get? s.heap.objs.size=some (jn led):=Heap.get?_push_size _ rfl
   have tS:Shared.TypeIs {s with heap:=s.heap.push (jn led)} (.ref s.heap.objs.size) "set" :=⟨_,gS,rfl⟩
   have So:=cS.init.lookup;have SR:=cS.init.bind (.ref s.heap.objs.size)
   repeat (any_goals (first |assumption |wp_step))
   refine codeAny_mono (codeAny_call_builtin (R:=wants (fun r mK=>r=.none∧∃h' tk,mK= {s with heap:=h',toks:=tk}∧jc (tupleKind kk) h' s.heap.objs.size (met val items.size)∧(∀b o,b<s.heap.objs.size→s.heap.get? b=some o→h'.get? b=some o)) E) cS.init.plain F.entry_set_init (check_set_init_1 tS ?_)) fun FU mK xp=> ?_
   ·obtain⟨⟨lc,ld,lt,ls⟩,su,fP,nl,Bx⟩:=hl
    simp only at fP Bx
    subst fP;subst Bx
    have Ki:=Heap.get?_push_of_some (jn led) su
    have zm:=F.sub_list_set;have gk:=F.sub_list_frozenset
    have Sa:(Value.type "list" ==Value.type "dict")=false:=by decide
    have sH:(s.heap.push (jn led)).IsList l items:=⟨_,Ki,rfl,nl,rfl⟩
    unfold Builtin.«set.__init__» noKeywords Builtin.Frozenset.updateFrom
    generalize Lr:pyIter=PI
    wp_walk
    subst Lr
    refine wpAny_pyIter_list sH (wpAny_bind (wpAny_runValue ?_))
    have AI:l<s.heap.objs.size:=Heap.lt_size su
    have KL:A.in1.in1.in1.handled=none:=by simp[hh]
    have nI:l≠(s.heap.push (jn led)).objs.size:=by rw[Heap.size_push];exact Nat.ne_of_lt (Nat.lt_succ_of_lt AI)
    have Sf:s.heap.objs.size∉[(s.heap.push (jn led)).objs.size,l]:=by
     rw[Heap.size_push]
     simp only[List.mem_cons,List.mem_singleton,List.not_mem_nil,or_false,not_or]
     exact⟨Nat.ne_of_lt (Nat.lt_succ_self _),Nat.ne_of_gt AI⟩
    refine HL (kk:=kk) ?hroom ((Walks.list KL _ l nI items).toS) s.heap.objs.size Sf val hb ?hI (items.size - 0) 0 _ (by omega) (Nat.zero_le _) ⟨⟨_,Heap.get?_push_size _ rfl,rfl,rfl⟩,(sH.push _)⟩ ?Lo ?tm ?hR
    case hroom=>exact hu
    case hI=>
     rintro i s1 ⟨⟨o1,e1,e2,_⟩,_⟩ b hb
     rw[List.mem_singleton.mp hb]
     exact⟨o1,e1,by rw[e2];decide⟩
    case Lo=>exact PZ led (Heap.get?_push_of_some _ gS)
    case tm=>
     intro i v hv
     obtain⟨a,e,x⟩:=hi i v hv
     refine⟨a,e,Jh (ws:=[]) (fun b hb=>absurd hb (by simp)) (fun b o _ eb=>Heap.get?_push_of_some _ (Heap.get?_push_of_some _ eb)) x⟩
    case hR=>
     rintro⟨h',g',d',um,vH⟩ hm gE
     obtain rfl:g'=s.gens:=hm.gens
     obtain rfl:d'=s.drawn:=hm.drawn
     obtain rfl:vH=s.os:=hm.os
     show wpAny _ _ _ _ _ _
     refine wpAny_pure (show wpAny _ _ (ret Value.none) _ _ _ from wpAny_pure ⟨rfl,h',um,rfl,gE,fun b o hb e=> ?_⟩)
     refine hm.heap b o ?_ (Heap.get?_push_of_some _ (Heap.get?_push_of_some _ e))
     simp only[List.mem_cons,List.mem_singleton,List.not_mem_nil,or_false,not_or]
     exact⟨Nat.ne_of_lt hb,by rw[Heap.size_push];exact Nat.ne_of_lt (Nat.lt_succ_of_lt hb)⟩
   ·cases FU with
    |error e=>exact xp
    |ok LV=>
     cases LV with
     |ret r=>
      obtain⟨rfl,h',tk,rfl,gE,aK⟩:=xp
      repeat (any_goals (first |assumption |wp_step))
      exact h _ _ gE aK
     |_=>exact xp.elim
  |_=>exact xq.elim
end
end HS
namespace L2
open PySem PySem.Spec PyProof.Rows
def gY (ks:List (List Int)):Nat:=(HS.met (fun i=>ks.getD i []) ks.length).length
theorem Oi (ks:List (List Int)):gY ks=ks.length↔ks.Nodup:=by
 unfold gY
 rw[HS.AE]
 have e:(List.range ks.length).map (fun i=>ks.getD i [])=ks:=by
  refine List.ext_getElem (by simp) fun i h1 h2=> ?_
  rw[List.getElem_map,List.getElem_range,List.getD_eq_getElem?_getD,List.getElem?_eq_getElem h2,Option.getD_some]
 rw[e]
theorem items_int {prog:Program}{w:World} :∀{ks:List Int}{us:List Value},Vals (ks.map V.int) us→ItemsAre (intKind prog w) ks us
 | [],_,.nil=> .nil
 |k::ks,_,.cons r rs=>by
  obtain⟨t,rfl⟩:=r
  exact .cons (intKind_is _ _ _ _) (items_int rs)
section
variable {X:Cx}
theorem Ex {pins:List (Addr×Obj)}{σ:St}{H:Hp}{s:Shared}{v:V}{u:Value}{k:List Int}(I:Inv X pins σ H s) (h:cZ H v k) (r:RelV v u):∃a,u=.ref a∧IsTupleKey (intKind X.prog X.w) s.heap k a:=by
 obtain⟨t,rfl,ht⟩:=h
 cases r
 obtain⟨us,rv,⟨o,ho,hc,n,hd⟩,_⟩:=I.tuple (ai.of ht)
 exact⟨t,rfl,o,us.toArray,n,ho,hc,hd,by simpa using items_int rv⟩
def EU (K:PySem.W.Frag) (te:TE):TE:=fun σ H Q=>te σ H fun v H1=> ∃(l:Addr) (ts:List V) (ks:List (List Int)),v=.ref l∧ag K H1 l ts∧Paired (cZ H1) ts ks∧ts.length≤305∧Q (.int (gY ks)) H1
theorem Pu {e:Expr}{te:TE}{p p2 pos oO:Pos}(hc:X.calm=true) (hu:X.A.units+4<cLine) (hg:Gl X "len") (hm:X.mg "len" =none) (KR:Gl X "set") (pJ:X.mg "set" =none) (he:PE X e te)
  (A5:starEach [.Call (.Name "set" p2) [e] [] oO] X.env=[(false,eval (.Call (.Name "set" p2) [e] [] oO) X.env)]:=by rfl) (j7:starEach [e] X.env=[(false,eval e X.env)]:=by rfl):
  PE X (.Call (.Name "len" p) [.Call (.Name "set" p2) [e] [] oO] [] pos) (EU X.K te):=by
 intro pins s σ H Q I h
 refine wpAny_Call_Name_kw (Ym I hg hm boot_len ?_)
 refine PyProof.Rows.callWith_builtin1 ?_ A5 rfl
 rw[A5]
 show wpAny _ _ (spliced ((false,eval (.Call (.Name "set" p2) [e] [] oO) X.env)::backTo pos (starEach [] X.env))) _ _ s
 refine Calls.spliced_cons ?_
 refine wpAny_Call_Name_kw (Ym I KR pJ boot_set ?_)
 have h2:om te oj σ H fun vs H1=> ∃v,vs=[v]∧∃(l:Addr) (ts:List V) (ks:List (List Int)),v=.ref l∧ag X.K H1 l ts∧Paired (cZ H1) ts ks∧ts.length≤305∧Q (.int (gY ks)) H1:=by
  have e0:(fun(v:V) (H1:Hp)=> ∃v':V,[v]=[v']∧∃(l:Addr) (ts:List V) (ks:List (List Int)),v'=.ref l∧ag X.K H1 l ts∧Paired (cZ H1) ts ks∧ts.length≤305∧Q (.int (gY ks)) H1)=(fun(v:V) (H1:Hp)=> ∃(l:Addr) (ts:List V) (ks:List (List Int)),v=.ref l∧ag X.K H1 l ts∧Paired (cZ H1) ts ks∧ts.length≤305∧Q (.int (gY ks)) H1):=by
   funext v H1
   refine propext ⟨fun⟨v',z,q⟩=> ?_,fun q=> ⟨v,rfl,q⟩⟩
   cases z
   exact q
  show te σ H (fun(v:V) (H1:Hp)=> ∃v':V,[v]=[v']∧∃(l:Addr) (ts:List V) (ks:List (List Int)),v'=.ref l∧ag X.K H1 l ts∧Paired (cZ H1) ts ks∧ts.length≤305∧Q (.int (gY ks)) H1)
  rw[e0]
  exact h
 refine PyProof.Rows.callWith_type1 (au (Za he Zb j7 oO pins s σ H _ I h2) fun us s1 ⟨vs,H1,I1,r1,q1⟩=> ?_) j7 rfl
 obtain⟨v,rfl,l,ts,ks,rfl,hl,pr,hn,q⟩:=q1
 obtain⟨u,rfl,ru⟩:=vals1 r1
 cases ru
 obtain⟨its,rv,pl,hz⟩:=I1.list hl
 have ll:=rv.length
 have lk:=Paired.length pr
 refine HS.MR (kk:=intKind X.prog X.w) (val:=fun i=>ks.getD i []) (items:=its.toArray) (I1.ok.hd hc) (by show X.A.units+1+1+1<cLine;omega) pl.isList (fun i u js=> ?_) (by rw[List.size_toArray];omega) fun h' tk hS hk=> ?_
 ·have A0:its[i]? =some u:=by simpa using js
  have hi:i<ts.length:=by rw[ll];exact(List.getElem?_eq_some_iff.mp A0).1
  obtain⟨u',e1,r2⟩:=rv.get (List.getElem?_eq_getElem hi)
  rw[A0]at e1
  cases e1
  obtain⟨k,hk,tp⟩:=Y9 pr (List.getElem?_eq_getElem hi)
  obtain⟨a,e,x⟩:=Ex I1 tp r2
  refine⟨a,e,?_⟩
  show IsTupleKey _ _ (ks.getD i []) a
  rw[List.getD_eq_getElem?_getD,hk]
  exact x
 ·have I2:Inv X pins σ H1 {s1 with heap:=h',toks:=tk} :=I1.kept fun b o eb=>hk b o (Heap.lt_size eb) eb
  refine Calls.spliced_nil ?_
  obtain⟨o,es,ep,t,SH⟩:=hS
  have sm:=SH.room.small
  refine call_len_set SH.ho SH.ex SH.hd (SH.T.fits (Nat.le_of_lt (Nat.lt_of_succ_lt SH.room.lt))) (by omega) ?_
  have ez:(es.size:Int)=(gY ks:Int):=by
   rw[SH.sz]
   unfold gY
   rw[List.size_toArray,←ll,lk]
  exact⟨.int (gY ks),H1,I2.tok _,⟨_,by rw[←ez]⟩,q⟩
end
end L2
namespace L2
open PySem PySem.Spec PyProof.Rows SeqAt
end L2
namespace L2
open PySem PySem.Spec PyProof.Rows
def qm (K:PySem.W.Frag) (t:Addr):It:=
 ⟨fun i H=> ∃xs x,ag K H t xs∧xs[i]? =some x,fun i H x H'=> ∃(T:Addr) (y:V),x=.ref T∧H T=none∧H'=upd H T (.par [.int (i:Int),y])∧∀xs,ag K H t xs→xs[i]? =some y,fun i H=> ∃xs,ag K H t xs∧xs.length=i⟩
theorem Qw {P:Program}{w:World}{K:PySem.W.Frag}{elts:List Expr}{kk:Nat}{pos:Pos}(t e j:Addr) (jy:e≠j) (pz:t≠e) (pj:t≠j):
  Turn P w K (.Tuple elts kk pos) (qm K t) [e,j] e (fun i h=> (∃old,IsEnum h e j i old)∧h.IsListIter j t i) where
 mem:=by simp
 obj:=fun i h st b hb=>by
  obtain⟨⟨old,he⟩,o,ho,hc,hd⟩:=st
  rcases List.mem_cons.mp hb with rfl |hb
  ·exact⟨_,he,fun v z=>by cases z⟩
  ·rw[List.mem_singleton.mp hb]
   exact⟨o,ho,fun v z=>by rw[hd]at z;cases z⟩
 keep:=fun i h h' st k=> ⟨let ⟨old,he⟩:=st.1;⟨old,k e (by simp) _ he⟩,st.2.at fun o q=>k j (by simp) o q⟩
 item:=by
  intro X hP hw hK hc i pins s σ H E I hf st hg
  subst hP hw hK
  obtain⟨xs,x,hq,hx⟩:=hg
  obtain⟨its,rv,p,hz⟩:=I.list hq
  obtain⟨u,hu,ru⟩:=rv.get hx
  have hl:=rv.length
  have lK:i<its.toArray.size:=by
   have:=(List.getElem?_eq_some_iff.mp hu).1
   simpa using this
  have W:=WalksT.enumerateD (prog:=X.prog) (w:=X.w) (A:=X.A) (Draws.list (A:=X.A.in1) (show X.A.in1.handled=none from I.ok.hd hc) j t pj its.toArray) e jy (by simp[jy,pz.symm]) (by simp)
  have hT:s.heap.IsList t its.toArray:=p.isList
  refine W.item i s _ _ lK ⟨st.1,st.2,hT⟩ fun T vals h' tk hP eK lQ ij hk=> ⟨_,rfl,W.go elts kk pos i T _ _ _ ij fun cH dh eC=> ?_⟩
  obtain⟨jh,x2,jr,rfl⟩:=hP
  have j4:its[i]? =some x2:=by simpa using jr
  rw[hu]at j4
  cases j4
  have iz:H T=none:=I.ah.fresh eK
  have both:∀b o,b∉[e,j]→s.heap.get? b=some o→cH.get? b=some o:=fun b o hb q=>eC b o hb (hk b o hb q)
  have jz:T∉[e,j]:=W.apart _ _ _ ij
  have lT:cH.IsTuple T #[.int i jh,u]:=lQ.at fun o q=>eC T o jz q
  have neT:∀b o,s.heap.get? b=some o→b≠T:=fun b o q=>Nat.ne_of_lt (Nat.lt_of_lt_of_le (Heap.lt_size q) eK)
  have cO:∀b o,H b=some o→b≠T:=fun b o q=>Zg q iz
  have bQ:∀b o,H b=some o→b∉[e,j]:=fun b o q z=>by
   have:=(hf b z).1
   rw[this]at q;cases q
  refine⟨.ref T,upd H T (.par [.int (i:Int),x]),?_,rfl,⟨T,x,rfl,iz,rfl,fun ys hy=>by rw[I.rP hy hq];exact hx⟩,⟨dh.1,dh.2.1⟩,fun b hb=> ?_⟩
  ·refine(show Inv X pins σ (upd H T (.par [.int (i:Int),x])) {s with heap:=cH,toks:=tk} from ?_)
   refine I.call (g':=s.gens) (d':=s.drawn) (t':=tk) (h':=cH) (ch:=[e,j]) ⟨fun b o q _ _ hx=>both b o hx q,fun b o q _ _ hx=> ⟨o.slots,both b o hx q⟩,fun b o q n hx=>by rw[Zf (neT b o q)];exact n,fun b o q hx=> ⟨o,both b o hx q⟩,
    fun b ys q=>by rw[Zf (cO b _ q)];exact q,fun b o u q=>by rw[Zf (cO b _ q)];exact q,fun b ps q=> ⟨#[],by rw[Zf (cO b _ q),q];simp⟩⟩ (fun b v q=> ?_) I.bare fun b hb=> ?_
   ·by_cases hb:b=T
    ·subst hb
     rw[Zc]at q
     cases q
     exact⟨by show 2≤sizeLine;decide,[.int i jh,u],.cons ⟨jh,rfl⟩ (.cons ru .nil),lT⟩
    ·rw[Zf hb]at q
     refine(I.ah b v q).bE (fun c z bj q'=>both c z ?_ q') (fun c q'=>by rw[Zf (cO c _ q')];exact q') fun c ys q'=>by rw[Zf (cO c _ q')];exact q'
     rcases bj with z' |z'
     ·rw[z'];exact bQ b v q
     ·exact bQ c _ z'
   ·obtain⟨f0,f1,f2,f3,f4,f5⟩:=hf b hb
    exact⟨f3,f1,f4,f5⟩
  ·rw[Zf (fun z=>jz (by rw[←z];exact hb))]
   exact(hf b hb).1
 done:=by
  intro X hP hw hK hc i pins s σ H E I hf st hg
  subst hP hw hK
  obtain⟨xs,hq,hx⟩:=hg
  obtain⟨its,rv,p,hz⟩:=I.list hq
  have hl:=rv.length
  have W:=WalksT.enumerateD (prog:=X.prog) (w:=X.w) (A:=X.A) (Draws.list (A:=X.A.in1) (show X.A.in1.handled=none from I.ok.hd hc) j t pj its.toArray) e jy (by simp[jy,pz.symm]) (by simp)
  have hn:i=its.toArray.size:=by rw[List.size_toArray];omega
  have hT:s.heap.IsList t its.toArray:=p.isList
  rw[hn]at st
  refine W.done s _ _ ⟨st.1,st.2,hT⟩ fun h' tk hk=> ⟨rfl,?_⟩
  have bQ:∀b o,H b=some o→b∉[e,j]:=fun b o q z=>by
   have:=(hf b z).1
   rw[this]at q;cases q
  refine I.call (g':=s.gens) (d':=s.drawn) (t':=tk) (h':=h') (ch:=[e,j]) ⟨fun b o q _ _ hx=>hk b o hx q,fun b o q _ _ hx=> ⟨o.slots,hk b o hx q⟩,fun b o q n hx=>n,fun b o q hx=> ⟨o,hk b o hx q⟩,fun b ys q=>q,fun b o u q=>q,fun b ps q=> ⟨#[],by rw[q];simp⟩⟩ (fun b v q=> ?_) I.bare fun b hb=> ?_
  ·refine(I.ah b v q).bE (fun c z bj q'=>hk c z ?_ q') (fun _ q'=>q') fun _ _ q'=>q'
   rcases bj with z' |z'
   ·rw[z'];exact bQ b v q
   ·exact bQ c _ z'
  ·obtain⟨f0,f1,f2,f3,f4,f5⟩:=hf b hb
   exact⟨f3,f1,f4,f5⟩
 self:=fun A i s Q E st h=>let ⟨old,he⟩:=st.1;wpAny_pyIter_enum he h
section
variable {X:Cx}{elts:List Expr}{kk:Nat}{tp:Pos}
def Ij (K:PySem.W.Frag) (ta:TA):TI:=fun σ H R=>ta σ H fun vs H1=> ∃t,vs=[.ref t]∧(∃xs,ag K H1 t xs)∧R (qm K t) H1
theorem OS {a:Expr}{ta:TA}{p pos:Pos}(hg:Gl X "enumerate") (hm:X.mg "enumerate" =none) (ha:PA X [a] ta) (hs:starEach [a] X.env=[(false,eval a X.env)]:=by rfl):PI X (.Tuple elts kk tp) (.Call (.Name "enumerate" p) [a] [] pos) (Ij X.K ta):=by
 intro pins s σ H R I h
 refine Call_ (Ym I hg hm boot_enumerate (PyProof.Rows.callWith_type1 (au (ha pos pins s σ H _ I h) fun us s1 ⟨vs,H1,I1,r1,q1⟩=> ?_) hs rfl))
 obtain⟨t,e,⟨xs,hq⟩,q⟩:=q1
 subst e
 obtain⟨u,rfl,ru⟩:=vals1 r1
 cases ru
 obtain⟨its,rv,pl,hz⟩:=I1.list hq
 have hT:s1.heap.IsList t its.toArray:=pl.isList
 have ht:t<s1.heap.objs.size:=by obtain⟨o,ho,_⟩:=hT;exact Heap.lt_size ho
 refine call_enumerate_list hT fun h' he hj az hk=>wpAny_pyIter_enum he ?_
 have I2:Inv X pins σ H1 {s1 with heap:=h'} :=I1.kept (t':=s1.toks) hk
 refine⟨s1.heap.objs.size+1,[s1.heap.objs.size+1,s1.heap.objs.size],_,_,H1,rfl,I2,Qw t _ _ (Nat.succ_ne_self _) (Nat.ne_of_lt (Nat.lt_succ_of_lt ht)) (Nat.ne_of_lt ht),⟨⟨_,he⟩,hj⟩,fun b hb=> ?_,q⟩
 have iw:s1.heap.objs.size≤b:=by
  rcases List.mem_cons.mp hb with z |z
  ·rw[z];exact Nat.le_succ _
  ·rw[List.mem_singleton.mp z];exact Nat.le_refl _
 exact I1.kh iw (I1.ah.fresh iw)
end
theorem PY {K:PySem.W.Frag}{a:Addr}{xs:List V}{g:TG}{tb:TS}{D:Ends}{σ:St}{H:Hp}(Pv:Nat→St→Hp→Prop) (h0:Pv 0 σ H) (hl:∀i σ H,i≤xs.length→Pv i σ H→ag K H a xs)
  (hs:∀i x T σ H,xs[i]? =some x→H T=none→Pv i σ H→g (.ref T) σ (upd H T (.par [.int (i:Int),x])) fun aR H2=>tb {D with nx:=Pv (i+1),ct:=Pv (i+1),bk:=D.nx} aR H2) (hd:∀σ H,Pv xs.length σ H→D.nx σ H):
  ∃W:Nat→Nat→St→Hp→Prop,(∃m,W 0 m σ H)∧∀i m σ H,W i m σ H→
   ((qm K a).stop i H∧D.nx σ H)∨((qm K a).go i H∧∃N:St→Hp→Prop,(∀aj H',N aj H'→∃m',m'<m∧W (i+1) m' aj H')∧∀x H',(qm K a).mD i H x H'→g x σ H' fun aR H2=>tb {D with nx:=N,ct:=N,bk:=D.nx} aR H2):=by
 refine⟨fun i m σ H=>m=xs.length - i∧i≤xs.length∧Pv i σ H,⟨xs.length,by simp,Nat.zero_le _,h0⟩,?_⟩
 rintro i m σ H ⟨rfl,hi,p⟩
 have q:=hl i σ H hi p
 by_cases aw:i<xs.length
 ·refine .inr ⟨⟨xs,xs[i],q,by simp[aw]⟩,Pv (i+1),fun aj H' p'=> ⟨xs.length - (i+1),by omega,rfl,aw,p'⟩,fun x H' y=> ?_⟩
  obtain⟨T,z,e1,e2,e3,e4⟩:=y
  subst e1 e3
  exact hs i z T σ H (e4 xs q) e2 p
 ·have e:i=xs.length:=by omega
  subst e
  exact .inl ⟨⟨xs,q,rfl⟩,hd σ H p⟩
section
variable {X:Cx}
def zW (K:PySem.W.Frag):V→List V→Hp→VK→Prop:=fun v vs H Q=> ∃(a:Addr) (xs:List V) (x:V),v=.ref a∧vs=[x]∧ai K H a xs∧dq x=true∧xs.all dq=true∧Q (.int ((xs.countP fun y=>cD y x:Nat):Int)) H
theorem WW:ql X "tuple.count" (zW X.K):=by
 intro pins s σ H v vs u us Q I rv oK h
 obtain⟨a,xs,x,rfl,rfl,hq,fx,fs,q⟩:=h
 cases rv
 obtain⟨ux,rfl,rx⟩:=vals1 oK
 obtain⟨its,r,pl,hz⟩:=I.tuple hq
 obtain⟨o,ho,hc,n,hd⟩:=id pl
 obtain⟨cls,dd,dt,sl⟩:=o
 replace hc:cls=.type "tuple" :=hc
 replace hd:dt=.seq its.toArray n:=hd
 subst hc hd
 refine call_meets F.slot_tuple_count ⟨_,ho,rfl⟩ F.entry_tuple_count (F.args_tuple_count_2 _ _) (SeqAt.tuple_countAt a its.toArray n dd sl ux (fG x)) ⟨ho,fun y hy=>Yw rx fx r fs y (by simpa using hy),?_⟩
 exact⟨.int _,H,I.tok _,⟨_,by rw[show its.toArray.toList=its by simp,JB r fs]⟩,q⟩
def F7 (K:PySem.W.Frag):List V→Hp→VK→Prop:=fun xs H Q=> ∃(p:Addr) (ns:List Int),xs=[.ref p]∧ag K H p (ns.map V.int)∧ns≠[]∧∀M,M∈ns→(∀a∈ns,a≤M)→Q (.int M) H
theorem JC (hc:X.calm=true:=by rfl):fX X (.builtin "max") (F7 X.K):=by
 intro pins s σ H xs us Q I r h
 obtain⟨p,ns,rfl,hp,bA,q⟩:=h
 obtain⟨u,rfl,ru⟩:=vals1 r
 cases ru
 obtain⟨its,rv,pl,_⟩:=I.list hp
 have hi:=YB rv
 obtain⟨xs,hx⟩:=hi.allInts.items
 have Kz:s.heap.IsList p (intItems xs):=hx▸pl.isList
 have e1:ns=xs.toList.map (·.1):=by
  rw[←nums_intItems,←hx]
  exact(show numsOf its.toArray.toList=ns from hi.numsOf).symm
 have bG:0<xs.size:=by
  rcases Nat.eq_zero_or_pos xs.size with z |z
  ·exact absurd (by rw[e1];simp[Array.size_eq_zero_iff.mp z]) bA
  ·exact z
 refine max_intList (I.ok.hd hc) Kz bG fun v h' tk hv hk=> ?_
 obtain⟨b1,b2⟩:=argBest_gt (numAt xs) (xs.size - 1)
 generalize argBest (fun i j=>decide (numAt xs i>numAt xs j)) (xs.size - 1)=j at *
 have hj:j<xs.size:=by omega
 have ev:=intItems_at hv
 have num:∀i,(hi:i<xs.size)→numAt xs i∈ns:=fun i hi=>by
  rw[e1]
  unfold numAt
  simp only[Array.getD_eq_getD_getElem?,Array.getElem?_eq_getElem hi]
  exact List.mem_map.mpr ⟨xs[i],by simp,rfl⟩
 have of:∀a∈ns,∃i,i<xs.size∧a=numAt xs i:=fun a ha=>by
  rw[e1]at ha
  obtain⟨y,hy,rfl⟩:=List.mem_map.mp ha
  obtain⟨i,hi,rfl⟩:=List.getElem_of_mem hy
  refine⟨i,by simpa using hi,?_⟩
  have aS:i<xs.size:=by simpa using hi
  unfold numAt
  simp[Array.getElem?_eq_getElem aS]
 obtain⟨um,rfl⟩:=ev
 refine⟨.int (numAt xs j),H,I.kept hk,⟨_,rfl⟩,q _ (num j hj) fun a ha=> ?_⟩
 obtain⟨i,hi,rfl⟩:=of a ha
 exact b2 i (by omega)
end
end L2
namespace L2
open PySem PySem.Spec PyProof.Rows SeqAt
end L2
namespace L2
open PySem PySem.Spec PyProof.Rows
end L2
namespace U
open PySem L2 PyProof.Rows
def top (i:Nat):Stmt:=PySem.Challenge.pw_unlikesteps_k50_the_most_points.main.body.getD i (.Pass ⟨0,0,0,0⟩)
structure Gs (mg:Str→Option Value):Prop where
 isinstance:mg "isinstance" =none
 int:mg "int" =none
 bool:mg "bool" =none
 tuple:mg "tuple" =none
 list:mg "list" =none
 len:mg "len" =none
 all:mg "all" =none
 set:mg "set" =none
 range:mg "range" =none
 max:mg "max" =none
 min:mg "min" =none
 enumerate:mg "enumerate" =none
 zip:mg "zip" =none
 sorted:mg "sorted" =none
 longest:∃t,mg "LONGEST_SIDE" =some (.int 12 t)
 AA:∃t,mg "MOST_WIDE" =some (.int 5 t)
 AD:∃t,mg "MOST_HIGH" =some (.int 5 t)
section
theorem Zm {H:Hp}{p:Addr}{o:HO}(h:H p=none):ae H (upd H p o):=fun b u hb=>by rw[Zf (Zg hb h)];exact hb
theorem Ql {H H1:Hp}{a:Addr}{o:HO}(s:ae H H1) (n:H a=none):ae H (upd H1 a o):=fun b u e=>by
 rw[Zf fun z=>by rw[z,n]at e;cases e]
 exact s _ _ e
theorem Z6 {D:Ends}{σ:L2.St}{H:Hp}(h:D.nx σ H):yZ D σ H:=h
theorem Zo {t u:TS}{D:Ends}{σ:L2.St}{H:Hp}(h:t {D with nx:=u D} σ H):iL t u D σ H:=h
theorem ZK {te:TE}{g:TG}{D:Ends}{σ:L2.St}{H:Hp}(h:te σ H fun v H1=>g v σ H1 D.nx):qF te g D σ H:=h
theorem Zn {i:Nat}{v:V}{σ:L2.St}{H:Hp}{Q:L2.St→Hp→Prop}(h:Q (σ.set i (some v)) H):bT i v σ H Q:=h
end
section
variable {P:Program}{w:World}{K:PySem.W.Frag}{mg:Str→Option Value}{base:Heap}
abbrev uY:Stmt:=top 19
def uz (K:PySem.W.Frag):Sp:=fun vs H Q _=> ∃x,vs=[x]∧dr K H x∧Q (.bl (whole x)) H
theorem Fw:bg ["thing"] ["thing"] (ay uY):=⟨rfl,rfl,rfl,by decide+kernel,rfl,by decide+kernel,by decide+kernel⟩
theorem OK {f:Addr}{fd:FuncData}(F:aH K "is_whole" "is_whole" uY f fd) (G:Gs mg):aA P w K mg base aI 1 f fd ["thing"] (uz K):=by
 refine F.ok Fw (fun vs H Q E h=> ?_) (fun ao A outer s H vs Q E hr h=> ?_)
 ·obtain⟨x,rfl,_⟩:=h
  rfl
 ·obtain⟨x,rfl,⟨T,t⟩,q⟩:=h
  refine⟨_,Zk (Zs (Yj (Zl (ZD (c:= "int")) rfl G.isinstance boot_isinstance (Za (pv 0) (Za (ZJ (v:=.ty "int") rfl G.int boot_int rfl) Zb)))
   (Yq (Ow (Zl (ZD (c:= "bool")) rfl G.isinstance boot_isinstance (Za (pv 0) (Za (ZJ (v:=.ty "bool") rfl G.bool boot_bool rfl) Zb))))))),?_⟩
  refine⟨x,rfl,x,_,_,rfl,t,Og t,_,rfl,?_⟩
  rw[QE]at q
  cases e:vW x with
  |false=>rw[e]at q;exact aV q
  |true=>rw[e]at q;exact aW ⟨x,rfl,x,_,_,rfl,t,Pa t,_,rfl,q⟩
abbrev uX:Stmt:=top 20
def mM (K:PySem.W.Frag):Sp:=fun vs H Q _=> ∃x a b,vs=[x,.int a,.int b]∧dr K H x∧Q (.bl (cF x a b)) H
theorem Fv:bg ["thing", "least", "most"] ["thing", "least", "most"] (ay uX):=⟨rfl,rfl,rfl,by decide+kernel,rfl,by decide+kernel,by decide+kernel⟩
theorem Pp {f:Addr}{fd:FuncData}(F:aH K "is_whole_within" "is_whole_within" uX f fd) (D1:Def P w K mg base 1 "is_whole" ["thing"] (uz K)):aA P w K mg base aI 2 f fd ["thing", "least", "most"] (mM K):=by
 refine F.ok Fv (fun vs H Q E h=> ?_) (fun ao A outer s H vs Q E hr h=> ?_)
 ·obtain⟨x,a,b,rfl,_⟩:=h
  rfl
 ·obtain⟨x,a,b,rfl,t,q⟩:=h
  refine⟨_,Zk (Zs (Yj (Zh D1 hr (Za (pv 0) Zb)) (Yq (OO CL CL (pv 1) (pv 0) (pv 2))))),?_⟩
  refine⟨x,rfl,x,rfl,t,_,rfl,?_⟩
  cases x with
  |int i=>
   refine aW ⟨_,rfl,_,rfl,_,_,rfl,rfl,_,rfl,?_⟩
   have e:cF (.int i) a b=(decide (a≤i)&&decide (i≤b)):=rfl
   rw[e]at q
   cases e1:decide (a≤i) with
   |false=>rw[e1]at q;exact aV q
   |true=>rw[e1]at q;exact aW ⟨_,rfl,_,_,rfl,rfl,q⟩
  |_=>exact aV q
abbrev u5:Stmt:=top 22
def qQ (K:PySem.W.Frag):Sp:=fun vs H Q _=> ∃x n,vs=[x,.int n]∧dr K H x∧Q (.bl (match bz H x with |some xs=>decide ((xs.length:Int)=n) |none=>false)) H
theorem Fz:bg ["thing", "many"] ["thing", "many"] (ay u5):=⟨rfl,rfl,rfl,by decide+kernel,rfl,by decide+kernel,by decide+kernel⟩
theorem OJ {f:Addr}{fd:FuncData}(F:aH K "is_tuple_of" "is_tuple_of" u5 f fd) (G:Gs mg):aA P w K mg base aI 1 f fd ["thing", "many"] (qQ K):=by
 refine F.ok Fz (fun vs H Q E h=> ?_) (fun ao A outer s H vs Q E hr h=> ?_)
 ·obtain⟨x,n,rfl,_⟩:=h
  rfl
 ·obtain⟨x,n,rfl,⟨T,t⟩,q⟩:=h
  refine⟨_,Zk (Zs (Yj (Zl (ZD (c:= "tuple")) rfl G.isinstance boot_isinstance (Za (pv 0) (Za (ZJ (v:=.ty "tuple") rfl G.tuple boot_tuple rfl) Zb)))
   (Yq (Z8 YC (Zl Zy rfl G.len boot_len (Za (pv 0) Zb)) (pv 1) (cj _))))),?_⟩
  refine⟨x,rfl,x,_,_,rfl,t,P4 t,_,rfl,?_⟩
  cases e:bz H x with
  |none=>rw[e]at q;exact aV q
  |some xs=>
   rw[e]at q
   obtain⟨a,rfl,ha⟩:=ZC e
   refine aW ⟨_,rfl,a,xs,rfl,.inr (ai.of ha),_,rfl,rfl,?_⟩
   have z:decide (V.int (xs.length:Int)=V.int n)=decide ((xs.length:Int)=n):=by simp
   rw[z]
   exact q
abbrev vp:Stmt:=top 23
def lj:Option (List V)→Bool
 |some [a,b]=>cF a 1 12&&cF b 1 12
 |_=>false
def fU (K:PySem.W.Frag) (H:Hp) (x:V):Prop:=dr K H x∧∀xs,bz H x=some xs→∀y∈xs,dr K H y
def qX (K:PySem.W.Frag):Sp:=fun vs H Q _=> ∃x,vs=[x]∧fU K H x∧∀H',ae H H'→Q (.bl (lj (bz H x))) H'
theorem FH:bg ["thing"] ["thing"] (ay vp):=⟨rfl,rfl,rfl,by decide+kernel,rfl,by decide+kernel,by decide+kernel⟩
theorem OG {f:Addr}{fd:FuncData}(F:aH K "is_board" "is_board" vp f fd) (G:Gs mg) (D1:Def P w K mg base 1 "is_tuple_of" ["thing", "many"] (qQ K)) (D2:Def P w K mg base 2 "is_whole_within" ["thing", "least", "most"] (mM K)):
  aA P w K mg base aI 3 f fd ["thing"] (qX K):=by
 obtain⟨tk,hL⟩:=G.longest
 refine F.ok FH (fun vs H Q E h=> ?_) (fun ao A outer s H vs Q E hr h=> ?_)
 ·obtain⟨x,rfl,_⟩:=h
  rfl
 ·obtain⟨x,rfl,⟨t,hi⟩,q⟩:=h
  refine⟨_,Zk (Zs (Yj (Zh D1 (hr.mono (by decide)) (Za (pv 0) (Za Zi Zb)))
   (Yq (Zl YI rfl G.all boot_all (Za (ZQ ["side"] 1 [] (CV (pv 0)) (fun C s H fp=>pb 0) (fun C s H fp=>ZT)
    (fun C s H fp D=>Zv rfl (Zh D2 (hr.mono (by decide)) (Za (pv 0) (Za Zi (Za (Z7 (v:=.int 12) rfl hL ⟨_,rfl⟩) Zb)))))) Zb))))),?_⟩
  refine⟨x,rfl,x,2,rfl,t,_,rfl,?_⟩
  cases e:bz H x with
  |none=>rw[e]at q;exact aV (q H (ae.refl H))
  |some xs=>
   rw[e]at q
   obtain⟨a,rfl,ha⟩:=ZC e
   show if decide ((xs.length:Int)=2)=true then _ else _
   by_cases h2:xs.length=2
   ·rw[decide_eq_true (show(xs.length:Int)=2 by omega)]
    refine aW ⟨_,rfl,a,rfl,⟨xs,ai.of ha⟩,?_⟩
    refine UZ (xs:=xs) (fun i ys σ H2=>ys=(xs.take i).map (fun y=>V.bl (cF y 1 12))∧H2=H∧∃v,σ=[v]) ⟨rfl,rfl,none,rfl⟩ (fun i ys σ H2 _ ⟨_,e2,_⟩=>by rw[e2];exact ai.of ha) ?_ ?_
    ·rintro i y ys σ H2 hy ⟨rfl,rfl,v,rfl⟩
     have my:y∈xs:=List.mem_of_getElem? hy
     refine⟨y,rfl,y,1,12,rfl,hi xs e y my,?_,?_⟩
     ·rw[List.length_map,sizeLine_eq,List.length_take];omega
     ·refine⟨?_,rfl,_,rfl⟩
      rw[List.take_add_one,hy,List.map_append]
      rfl
    ·rintro ys σ H2 ⟨rfl,rfl,v,rfl⟩ p hp
     rw[List.take_length]
     refine⟨p,xs.map (fun y=>cF y 1 12),rfl,?_,?_⟩
     ·rw[List.map_map];exact ag.of Zc
     ·have e3:lj (some xs)=(xs.map (fun y=>cF y 1 12)).all id:=by
       match xs,h2 with
       | [a,b],_=>simp[lj]
      rw[←e3]
      exact q _ fun b o hb=>by rw[Zf (Zg hb hp)];exact hb
   ·rw[decide_eq_false (show ¬(xs.length:Int)=2 by omega)]
    have e3:lj (some xs)=false:=by
     match xs,h2 with
     | [],_=>rfl
     | [a],_=>rfl
     | [a,b],h=>exact absurd rfl h
     |a::b::c::r,_=>rfl
    rw[e3]at q
    exact aV (q H (ae.refl H))
abbrev vm:Stmt:=top 47
def uS (K:PySem.W.Frag):Sp:=fun vs H Q _=> ∃(a:Addr) (ns:List Int) (k:Nat),vs=[.ref a,.int k]∧ag K H a (ns.map V.int)∧∀n:Int,Q (.int n) H
theorem FG:bg ["_law_script", "_law_k"] ["_law_script", "_law_k"] (ay vm):=⟨rfl,rfl,rfl,by decide+kernel,rfl,by decide+kernel,by decide+kernel⟩
theorem NB {f:Addr}{fd:FuncData}(F:aH K "_law_cell_at" "_law_cell_at" vm f fd) (G:Gs mg):aA P w K mg base aI 1 f fd ["_law_script", "_law_k"] (uS K):=by
 refine F.ok FG (fun vs H Q E h=> ?_) (fun ao A outer s H vs Q E hr h=> ?_)
 ·obtain⟨a,ns,k,rfl,_⟩:=h
  rfl
 ·obtain⟨a,ns,k,rfl,hs,q⟩:=h
  refine⟨_,Ze (ZW (ZM CM (pv 1) (Zl Zy rfl G.len boot_len (Za (pv 0) Zb)) (cj _)) (Zk (Zs (ZO ZV (pv 0) (pv 1) (fun _ _=>rfl)))) ZG) (Zk (Zs Zi)),?_⟩
  refine⟨_,rfl,_,rfl,a,ns.map V.int,rfl,.inl hs,_,_,rfl,rfl,_,rfl,?_⟩
  by_cases hk:k<ns.length
  ·rw[decide_eq_true (by rw[List.length_map];omega)]
   refine aW ⟨_,rfl,_,rfl,a,ns.map V.int,k,V.int ns[k],rfl,rfl,hs,YV ?_,q _⟩
   rw[List.getElem?_map,List.getElem?_eq_getElem hk]
   rfl
  ·rw[decide_eq_false (by rw[List.length_map];omega)]
   exact aV (q 0)
def iF (H:Hp) (p:Addr):Prop:=∃u v:Int,H p=some (.lst [.int u,.int v])∧0≤u∧0≤v∧v<2147483647
abbrev u9:Stmt:=top 48
def uD (K:PySem.W.Frag):Sp:=fun vs H Q _=> ∃(a:Addr) (ns:List Int) (k:Nat),vs=[.ref a,.int k]∧ag K H a (ns.map V.int)∧∀p H',H p=none→ae H H'→iF H' p→Q (.ref p) H'
theorem zr:bg ["_law_script", "_law_k", "_law_cell"] ["_law_script", "_law_k"] (ay u9):=⟨rfl,rfl,rfl,by decide+kernel,rfl,by decide+kernel,by decide+kernel⟩
theorem OI {f:Addr}{fd:FuncData}(F:aH K "_law_state" "_law_state" u9 f fd) (G:Gs mg) (D1:Def P w K mg base 1 "_law_cell_at" ["_law_script", "_law_k"] (uS K)):aA P w K mg base aI 2 f fd ["_law_script", "_law_k"] (uD K):=by
 refine F.ok zr (fun vs H Q E h=> ?_) (fun ao A outer s H vs Q E hr h=> ?_)
 ·obtain⟨a,ns,k,rfl,_⟩:=h
  rfl
 ·obtain⟨a,ns,k,rfl,hs,q⟩:=h
  refine⟨_,Ze (ZA (i:=2) zr.nd rfl (Or.inl rfl) (Zh D1 hr (Za (pv 0) (Za (pv 1) Zb))))
   (Zk (Zs (ZI (Za (Zl (Uf rfl) rfl G.max boot_max (Za Zi (Za (Zq Ys (pv 2) (Zq Uw Zi Zi)) Zb))) (Za (Zq Ju (pv 2) Zi) Zb))))),?_⟩
  refine⟨_,rfl,_,rfl,a,ns,k,rfl,hs,fun n=> ?_⟩
  refine⟨_,rfl,_,_,rfl,rfl,⟨by decide,by decide,by decide⟩,_,_,rfl,rfl,_,_,rfl,?_⟩
  refine⟨_,rfl,_,_,rfl,rfl,(by show(0:Int)<2147483647;decide),(by show 2≤sizeLine;decide),fun p hp=>q p _ hp (fun b o hb=>by rw[Zf (Zg hb hp)];exact hb) ?_⟩
  refine⟨_,_,Zc,?_,Int.emod_nonneg _ (by decide),Int.emod_lt_of_pos _ (by decide)⟩
  split<;>omega
abbrev u6:Stmt:=top 49
def oA:Sp:=fun vs H Q _=> ∃(p:Addr) (m:Int),vs=[.ref p,.int m]∧iF H p∧0<m∧m<1073741824∧∀r o,0≤r→r<m→iF (upd H p o) p→Q (.int r) (upd H p o)
theorem qZ:bg ["_law_state_here", "_law_many", "_law_found", "_law_mixed"] ["_law_state_here", "_law_many"] (ay u6):=⟨rfl,rfl,rfl,by decide+kernel,rfl,by decide+kernel,by decide+kernel⟩
theorem qg {x y:V} :fk [x,y] 0=some x:=rfl
theorem cE {x y:V} :fk [x,y] 1=some y:=rfl
theorem ND {f:Addr}{fd:FuncData}(F:aH K "_law_take" "_law_take" u6 f fd):aA P w K mg base aI 1 f fd ["_law_state_here", "_law_many"] oA:=by
 refine F.ok qZ (fun vs H Q E h=> ?_) (fun ao A outer s H vs Q E hr h=> ?_)
 ·obtain⟨p,m,rfl,_⟩:=h
  rfl
 ·obtain⟨p,m,rfl,⟨u,v,hp,hu,hv,Iy⟩,hm,pJ,q⟩:=h
  refine⟨_,Ze (ZW (ZM M3 (ZO ZV (pv 0) Zi (fun _ _=>rfl)) (pv 1) (cj _))
    (Ze (ZA (i:=2) qZ.nd rfl (Or.inl rfl) (Zq Ju (ZO ZV (pv 0) Zi (fun _ _=>rfl)) (pv 1)))
    (Ze (Uq (Zq Dy (ZO ZV (pv 0) Zi (fun _ _=>rfl)) (pv 1)) (CU (pv 0) Zi UQ)) (Zk (Zs (pv 2))))) ZG)
   (Ze (Uq (Zq Ju (Zq Yl (Zq J8 (ZO ZV (pv 0) Zi (fun _ _=>rfl)) Zi) Zi) Zi) (CU (pv 0) Zi UQ))
   (Ze (ZA (i:=3) qZ.nd rfl (Or.inl rfl) (Zq Ju (Zq Yl (Zq Yl (Zq J8 (ZO ZV (pv 0) Zi (fun _ _=>rfl)) (ZO ZV (pv 0) Zi (fun _ _=>rfl))) (Zq J8 Zi (ZO ZV (pv 0) Zi (fun _ _=>rfl)))) Zi) Zi))
   (Ze (ZA (i:=3) qZ.nd rfl (Or.inl rfl) (Zq Ju (Zq Yl (Zq J8 (pv 3) (pv 3)) (Zq J8 Zi (pv 3))) Zi))
   (Zk (Zs (Zq Ju (Zq Dy (pv 3) Zi) (pv 1))))))),?_⟩
  have s0:=ag.of (K:=K) hp
  refine⟨_,rfl,p,_,_,_,rfl,rfl,s0,qg,_,rfl,_,_,rfl,rfl,_,rfl,?_⟩
  by_cases h0:m≤u
  ·rw[decide_eq_true h0]
   refine aW ?_
   refine⟨_,rfl,p,_,_,_,rfl,rfl,s0,qg,_,rfl,_,_,rfl,rfl,hm,?_⟩
   refine⟨_,rfl,p,_,_,_,rfl,rfl,s0,qg,_,rfl,_,_,rfl,rfl,⟨hm,by omega⟩,?_⟩
   refine⟨_,rfl,p,_,0,0,rfl,rfl,hp,rfl,?_⟩
   refine⟨_,rfl,q _ _ (Int.emod_nonneg _ (by omega)) (Int.emod_lt_of_pos _ hm) ?_⟩
   exact⟨u/m,v,Zc,Int.ediv_nonneg hu (by omega),hv,Iy⟩
  ·rw[decide_eq_false h0]
   refine aV ?_
   refine⟨_,rfl,p,_,_,_,rfl,rfl,s0,cE,_,_,rfl,rfl,.inr ⟨by decide,by decide⟩,_,_,rfl,rfl,_,_,rfl,rfl,(by show(0:Int)<2147483647;decide),?_⟩
   refine⟨_,rfl,p,_,1,1,rfl,rfl,hp,rfl,?_⟩
   have b1:0≤((v*48271+29)%2147483647):=Int.emod_nonneg _ (by decide)
   have b2:((v*48271+29)%2147483647)<2147483647:=Int.emod_lt_of_pos _ (by decide)
   have s1:ag K (upd H p (.lst (([V.int u,V.int v]:List V).set 1 (V.int ((v*48271+29)%2147483647))))) p [.int u,.int ((v*48271+29)%2147483647)]:=ag.of Zc
   have lo:∀{t:Int},0≤t→ -(2^64)<t:=fun h=>Int.lt_of_lt_of_le (by decide) h
   have hi:∀{t:Int},t<2147483647→t<2^64:=fun h=>Int.lt_trans h (by decide)
   refine⟨_,rfl,p,_,_,_,rfl,rfl,s1,cE,_,rfl,p,_,_,_,rfl,rfl,s1,cE,_,_,rfl,rfl,.inl ⟨lo b1,hi b2⟩,?_⟩
   refine⟨_,rfl,p,_,_,_,rfl,rfl,s1,cE,_,_,rfl,rfl,.inl ⟨by decide,by decide⟩,_,_,rfl,rfl,_,_,rfl,rfl,_,_,rfl,rfl,(by show(0:Int)<2147483629;decide),?_⟩
   have c1:0≤((((v*48271+29)%2147483647)*((v*48271+29)%2147483647)+39373*((v*48271+29)%2147483647)+7)%2147483629):=Int.emod_nonneg _ (by decide)
   have c2:((((v*48271+29)%2147483647)*((v*48271+29)%2147483647)+39373*((v*48271+29)%2147483647)+7)%2147483629)<2147483647:=Int.lt_trans (Int.emod_lt_of_pos _ (by decide)) (by decide)
   refine⟨_,rfl,_,rfl,_,_,rfl,rfl,.inl ⟨lo c1,hi c2⟩,_,rfl,_,_,rfl,rfl,.inl ⟨by decide,by decide⟩,_,_,rfl,rfl,_,_,rfl,rfl,(by show(0:Int)<2147483587;decide),?_⟩
   refine⟨_,rfl,_,_,rfl,rfl,⟨by decide,by decide⟩,_,rfl,_,_,rfl,rfl,hm,?_⟩
   refine q _ _ (Int.emod_nonneg _ (by omega)) (Int.emod_lt_of_pos _ hm) ?_
   exact⟨u,_,Zc,hu,b1,b2⟩
end
section
theorem YH (val:Nat→Int):∀n,((PyProof.Rows.firstMet val n).length=n↔((List.range n).map val).Nodup)
 |0=>by simp[PyProof.Rows.firstMet_zero]
 |n+1=>by
  have ih:=YH val n
  have le:=PyProof.Rows.firstMet_length_le val n
  rw[PyProof.Rows.firstMet_succ,PyProof.Rows.step_length,PyProof.Rows.firstMet_any,List.range_succ,List.map_append]
  have e:(((List.range n).map val).any (· ==val n))=true↔val n∈(List.range n).map val:=by
   rw[List.any_eq_true]
   constructor
   ·rintro⟨x,hx,q⟩
    have:x=val n:=by simpa using q
    rw[←this];exact hx
   ·intro h;exact⟨_,h,by simp⟩
  have nd:((List.range n).map val++List.map val [n]).Nodup↔((List.range n).map val).Nodup∧¬val n∈(List.range n).map val:=by
   rw[List.nodup_append]
   constructor
   ·rintro⟨h1,_,h3⟩
    exact⟨h1,fun m=>h3 _ m (val n) (by simp) rfl⟩
   ·rintro⟨h1,h2⟩
    refine⟨h1,by simp,fun a ha b hb q=>h2 ?_⟩
    have dn:b=val n:=by simpa using hb
    rw[←dn,←q];exact ha
  rw[nd,←ih]
  by_cases m:val n∈(List.range n).map val
  ·rw[if_pos (e.mpr m)]
   constructor
   ·intro h;omega
   ·rintro⟨_,h⟩;exact absurd m h
  ·rw[if_neg (fun z=>m (e.mp z))]
   constructor
   ·intro h;exact⟨by omega,m⟩
   ·rintro⟨h,_⟩;omega
theorem Qt (ns:List Int):mQ ns=ns.length↔ns.Nodup:=by
 unfold mQ
 rw[YH]
 have e:(List.range ns.length).map (fun i=>ns.getD i 0)=ns:=by
  refine List.ext_getElem (by simp) fun i h1 h2=> ?_
  rw[List.getElem_map,List.getElem_range,List.getD_eq_getElem?_getD,List.getElem?_eq_getElem h2,Option.getD_some]
 rw[e]
def rowsOf (xs:List V):List V:=xs.filter fun x=> !decide (x=.af)
def pe (wd hg:Int):Option (List V)→Bool
 |some xs=>decide ((xs.length:Int)=wd)&&((rowsOf xs).all fun r=>cF r 0 (hg - 1))&&decide (rowsOf xs).Nodup
 |none=>false
def bN (H:Hp) (x:V) (wd hg:Int):Prop:=bz H x=some [.int wd,.int hg]∧1≤wd∧wd≤12∧1≤hg∧hg≤12
theorem bN.same {H H':Hp}{x:V}{wd hg:Int}(b:bN H x wd hg) (s:ae H H'):bN H' x wd hg:=⟨s.bz b.1,b.2⟩
theorem bN.is {H:Hp}{x:V}{wd hg:Int}(b:bN H x wd hg):lj (bz H x)=true:=by
 obtain⟨h,h1,h2,h3,h4⟩:=b
 rw[h]
 show(decide (1≤wd)&&decide (wd≤12)&&(decide (1≤hg)&&decide (hg≤12)))=true
 simp[h1,h2,h3,h4]
theorem bN.pl {K:PySem.W.Frag}{H:Hp}{x:V}{wd hg:Int}(b:bN H x wd hg):fU K H x:=by
 obtain⟨a,rfl,ha⟩:=ZC b.1
 refine⟨⟨_,.tup ha⟩,fun xs e y hy=> ?_⟩
 rw[b.1]at e
 cases e
 rcases List.mem_cons.mp hy with z |hy
 ·rw[z];exact⟨_,.int wd⟩
 ·rw[List.mem_singleton.mp hy];exact⟨_,.int hg⟩
theorem QD {xs:List V}{lo hi:Int}(h:(xs.all fun r=>cF r lo hi)=true):∃ns:List Int,xs=ns.map V.int:=by
 induction xs with
 |nil=>exact⟨[],rfl⟩
 |cons x xs ih=>
  rw[List.all_cons,Bool.and_eq_true]at h
  obtain⟨ns,e⟩:=ih h.2
  cases x with
  |int i=>exact⟨i::ns,by rw[e];rfl⟩
  |_=>cases h.1
theorem Qe (ns:List Int):(ns.map V.int).Nodup↔ns.Nodup:=by
 induction ns with
 |nil=>simp
 |cons n ns ih=>rw[List.map_cons,List.nodup_cons,List.nodup_cons,ih];simp
end
section
variable {P:Program}{w:World}{K:PySem.W.Frag}{mg:Str→Option Value}{base:Heap}
abbrev rf:Stmt:=top 24
def kH (K:PySem.W.Frag):Sp:=fun vs H Q _=> ∃x wd hg,vs=[x]∧bN H x wd hg∧∀H',ae H H'→Q .af H'
theorem zw:bg ["board"] ["board"] (ay rf):=⟨rfl,rfl,rfl,by decide+kernel,rfl,by decide+kernel,by decide+kernel⟩
theorem Ux {f:Addr}{fd:FuncData}(F:aH K "need_board" "need_board" rf f fd) (D1:Def P w K mg base 3 "is_board" ["thing"] (qX K)):aA P w K mg base aI 4 f fd ["board"] (kH K):=by
 refine F.ok zw (fun vs H Q E h=> ?_) (fun ao A outer s H vs Q E hr h=> ?_)
 ·obtain⟨x,wd,hg,rfl,_⟩:=h
  rfl
 ·obtain⟨x,wd,hg,rfl,b,q⟩:=h
  refine⟨_,Zk (ZW (Yp (ZZ (Zh D1 hr (Za (pv 0) Zb)))) Zw ZG),?_⟩
  refine⟨x,rfl,x,rfl,b.pl,fun H' sm=> ⟨_,rfl,?_⟩⟩
  rw[b.is]
  exact aV (q H' sm)
abbrev vg:Stmt:=top 26
def uL (K:PySem.W.Frag):Sp:=fun vs H Q _=> ∃x y wd hg,vs=[x,y]∧bN H x wd hg∧fU K H y∧∀H',ae H H'→Q (.bl (pe wd hg (bz H y))) H'
theorem q0:bg ["board", "thing", "wide", "high", "rows"] ["board", "thing"] (ay vg):=⟨rfl,rfl,rfl,by decide+kernel,rfl,by decide+kernel,by decide+kernel⟩
theorem Nt {f:Addr}{fd:FuncData}(F:aH K "is_lay" "is_lay" vg f fd) (G:Gs mg) (D1:Def P w K mg base 4 "need_board" ["board"] (kH K)) (D2:Def P w K mg base 1 "is_tuple_of" ["thing", "many"] (qQ K))
  (D3:Def P w K mg base 2 "is_whole_within" ["thing", "least", "most"] (mM K)):aA P w K mg base aI 5 f fd ["board", "thing"] (uL K):=by
 refine F.ok q0 (fun vs H Q E h=> ?_) (fun ao A outer s H vs Q E hr h=> ?_)
 ·obtain⟨x,y,wd,hg,rfl,_⟩:=h
  rfl
 ·obtain⟨x,y,wd,hg,rfl,b,⟨ty,hy⟩,q⟩:=h
  refine⟨_,Ze (Zx (Zh D1 hr (Za (pv 0) Zb)))
   (Ze (Uq (pv 0) (Z5 rfl (Zp (ZY (i:=2) q0.nd rfl (Or.inl rfl)) (Zp (ZY (i:=3) q0.nd rfl (Or.inr rfl)) ZU))))
   (Ze (ZW (Yp (ZZ (Zh D2 (hr.mono (by decide)) (Za (pv 1) (Za (pv 2) Zb))))) (Zk (Zs WR)) ZG)
   (Ze (YL ["row"] 1 [] (i:=4) q0.nd rfl (Or.inl rfl) (CV (pv 1)) (fun C s H fp=>pb 0) (fun C s H fp=>Z3 (Jp (Ut (pv 0)))) (fun C s H fp D=>Zv rfl (pv 0)))
   (Zk (Zs (Yj (Zl YI rfl G.all boot_all (Za (ZQ ["row", "high"] 1 [3] (ZP (pv 4)) (fun C s H fp=>pb 0) (fun C s H fp=>ZT)
     (fun C s H fp D=>Zv rfl (Zh D3 (hr.mono (by decide)) (Za (pv 0) (Za Zi (Za (Zq Ys (pv 1) Zi) Zb)))))) Zb))
    (Yq (Z8 YC (Zl WH rfl G.len boot_len (Za (Pr WG rfl G.set boot_set (Za (pv 4) Zb)) Zb)) (Zl Zy rfl G.len boot_len (Za (pv 4) Zb)) (cj _))))))))),?_⟩
  refine⟨x,rfl,x,wd,hg,rfl,b,fun H1 s1=> ?_⟩
  have b1:=b.same s1
  obtain⟨a,rfl,ha⟩:=ZC b1.1
  refine⟨_,rfl,a,_,rfl,ai.of ha,rfl,_,_,rfl,_,_,rfl,rfl,?_⟩
  refine⟨y,rfl,_,rfl,y,wd,rfl,s1.mV ty,_,rfl,?_⟩
  cases e:bz H y with
  |none=>
   have e1:bz H1 y=none:=by
    obtain⟨T,t⟩:=ty
    cases t with
    |tup e2=>rw[Zu e2]at e;cases e
    |lst e2=>rw[ZB,s1 _ _ e2];rfl
    |cA e2=>rw[ZB,s1 _ _ e2];rfl
    |dK e2=>rw[ZB,s1 _ _ e2];rfl
    |dT e2=>rw[ZB,s1 _ _ e2];rfl
    |_=>rfl
   rw[e1]
   rw[e]at q
   exact aW (q H1 s1)
  |some xs=>
   have e1:=s1.bz e
   rw[e1]
   rw[e]at q
   obtain⟨l,rfl,hl⟩:=ZC e1
   by_cases hw:(xs.length:Int)=wd
   ·refine(show if (!decide ((xs.length:Int)=wd))=true then _ else _ from ?_)
    rw[decide_eq_true hw]
    refine aV ?_
    have Su:=b.2.2.1
    have hlen:xs.length≤12:=by omega
    refine⟨_,rfl,l,rfl,⟨xs,ai.of hl⟩,?_⟩
    refine UZ (xs:=xs) (fun i ys σ H2=>ys=rowsOf (xs.take i)∧H2=H1∧∃v,σ=[v]) ⟨rfl,rfl,none,rfl⟩ (fun i ys σ H2 _ ⟨_,e2,_⟩=>by rw[e2];exact ai.of hl) ?_ ?_
    ·rintro i r ys σ H2 eI ⟨rfl,rfl,v,rfl⟩
     have et:rowsOf (xs.take (i+1))=rowsOf (xs.take i)++(if (!decide (r=V.af))=true then [r] else []):=by
      unfold rowsOf
      rw[List.take_add_one,eI,List.filter_append]
      cases hh:(!decide (r=V.af)) with
      |true=>simp[hh]
      |false=>simp[hh]
     refine⟨r,rfl,_,rfl,?_⟩
     cases hh:(!decide (r=V.af)) with
     |true=>
      rw[hh]at et
      refine aW ?_
      refine⟨r,rfl,?_,?_⟩
      ·have:=List.length_filter_le (fun x=> !decide (x=V.af)) (xs.take i)
       unfold rowsOf
       rw[sizeLine_eq]
       rw[List.length_take]at this
       omega
      ·exact⟨by rw[et,if_pos rfl],rfl,_,rfl⟩
     |false=>
      rw[hh]at et
      exact aV ⟨by rw[et,if_neg Bool.false_ne_true,List.append_nil],rfl,_,rfl⟩
    ·rintro ys σ H2 ⟨rfl,rfl,v,rfl⟩ p hp
     rw[List.take_length]
     have Sv:(rowsOf xs).length≤12:=Nat.le_trans (List.length_filter_le _ _) hlen
     have s2:ae H2 (upd H2 p (.lst (rowsOf xs))):=fun b o hb=>by rw[Zf (Zg hb hp)];exact hb
     refine⟨_,rfl,p,rfl,⟨rowsOf xs,ag.of Zc⟩,?_⟩
     generalize BO:upd H2 p (HO.lst (rowsOf xs))=H3 at s2
     have j8:H3 p=some (.lst (rowsOf xs)):=by rw[←BO];exact Zc
     refine ZL (xs:=rowsOf xs) (fun i ys σ H4=>ys=((rowsOf xs).take i).map (fun r=>V.bl (cF r 0 (hg - 1)))∧H4=H3∧∃v,σ=[v,some (.int hg)]) ⟨rfl,rfl,none,rfl⟩ (fun i ys σ H4 _ ⟨_,e2,_⟩=>by rw[e2];exact ag.of j8) ?_ ?_
     ·rintro i r ys σ H4 eI ⟨rfl,rfl,v,rfl⟩
      have mr:r∈xs:=(List.mem_filter.mp (List.mem_of_getElem? eI)).1
      refine⟨r,rfl,_,rfl,_,_,rfl,rfl,r,0,hg - 1,rfl,(s1.trans s2).mV (hy xs e r mr),?_,?_⟩
      ·rw[List.length_map,sizeLine_eq,List.length_take];omega
      ·refine⟨?_,rfl,_,rfl⟩
       rw[List.take_add_one,eI,List.map_append]
       rfl
     ·rintro ys σ H4 ⟨rfl,rfl,v,rfl⟩ p' wA
      rw[List.take_length]
      have s3:∀o,ae H4 (upd H4 p' o):=fun o b u hb=>by rw[Zf (Zg hb wA)];exact hb
      refine⟨p',(rowsOf xs).map (fun r=>cF r 0 (hg - 1)),rfl,?_,?_⟩
      ·rw[List.map_map];exact ag.of Zc
      ·have Mj:((rowsOf xs).map (fun r=>cF r 0 (hg - 1))).all id=(rowsOf xs).all fun r=>cF r 0 (hg - 1):=by rw[List.all_map];rfl
       rw[Mj]
       have Md:pe wd hg (some xs)=(((rowsOf xs).all fun r=>cF r 0 (hg - 1))&&decide (rowsOf xs).Nodup):=by
        show(decide ((xs.length:Int)=wd)&&_&&_)=_
        rw[decide_eq_true hw,Bool.true_and]
       rw[Md]at q
       refine⟨_,rfl,?_⟩
       cases cW:((rowsOf xs).all fun r=>cF r 0 (hg - 1)) with
       |false=>
        rw[cW]at q
        exact aV (q _ (s1.trans (s2.trans (s3 _))))
       |true=>
        rw[cW,Bool.true_and]at q
        obtain⟨ns,en⟩:=QD cW
        have eJ:(upd H4 p' (.lst (((rowsOf xs).map (fun r=>V.bl (cF r 0 (hg - 1))))))) p=some (.lst (rowsOf xs)):=s3 _ _ _ j8
        refine aW ?_
        have Sz:ns.length=(rowsOf xs).length:=by rw[en,List.length_map]
        refine⟨_,rfl,p,ns,rfl,by rw[←en];exact ag.of eJ,by omega,fun q2 S bJ=> ⟨q2,S,mQ ns,rfl,Zc,_,rfl,p,rowsOf xs,rfl,.inl (ag.of ?_),rfl,?_⟩⟩
        ·rw[Zf (Zg eJ bJ)];exact eJ
        ·have ed:decide (V.int (mQ ns:Int)=V.int ((rowsOf xs).length:Int))=decide (rowsOf xs).Nodup:=by
          rw[decide_eq_decide]
          rw[en,Qe,←Qt,List.length_map]
          constructor
          ·intro h;injection h with h;omega
          ·intro h;rw[h]
         rw[ed]
         exact q _ (s1.trans (s2.trans ((s3 _).trans fun b o hb=>by rw[Zf (Zg hb bJ)];exact hb)))
   ·refine(show if (!decide ((xs.length:Int)=wd))=true then _ else _ from ?_)
    rw[decide_eq_false hw]
    have e3:pe wd hg (some xs)=false:=by
     show(decide ((xs.length:Int)=wd)&&_&&_)=false
     rw[decide_eq_false hw,Bool.false_and,Bool.false_and]
    rw[e3]at q
    exact aW (q H1 s1)
end
section
abbrev xR:List Value:=[.type "ValueError",.type "Exception",.type "BaseException",.type "object"]
structure Exc (K:PySem.W.Frag) (mg:Str→Option Value) (n:Str) (c:Addr):Prop where
 m:mg n=some (.ref c)
 x:PySem.W.excIn K c xR "ValueError.__new__" =true
def iJ (K:PySem.W.Frag) (H:Hp) (x:V):Prop:=fU K H x∧lj (bz H x)=false
theorem JK {K:PySem.W.Frag}{H H1:Hp}{y:V}(ty:dr K H y) (s1:ae H H1) (e:bz H y=none):bz H1 y=none:=by
 obtain⟨T,t⟩:=ty
 cases t with
 |tup e2=>rw[Zu e2]at e;cases e
 |lst e2=>rw[ZB,s1 _ _ e2];rfl
 |cA e2=>rw[ZB,s1 _ _ e2];rfl
 |dK e2=>rw[ZB,s1 _ _ e2];rfl
 |dT e2=>rw[ZB,s1 _ _ e2];rfl
 |_=>rfl
theorem JV {K:PySem.W.Frag}{H H1:Hp}{y:V}(ty:dr K H y) (s1:ae H H1):bz H1 y=bz H y:=by
 cases e:bz H y with
 |none=>exact JK ty s1 e
 |some xs=>exact s1.bz e
theorem fU.same {K:PySem.W.Frag}{H H1:Hp}{y:V}(p:fU K H y) (s1:ae H H1):fU K H1 y:=by
 refine⟨s1.mV p.1,fun xs e z hz=>s1.mV (p.2 xs ?_ z hz)⟩
 rw[←JV p.1 s1];exact e
theorem iJ.same {K:PySem.W.Frag}{H H1:Hp}{x:V}(b:iJ K H x) (s1:ae H H1):iJ K H1 x:=⟨b.1.same s1,by rw[JV b.1.1 s1];exact b.2⟩
end
section
variable {P:Program}{w:World}{K:PySem.W.Frag}{mg:Str→Option Value}{base:Heap}{cB cL:Addr}
def qU (K:PySem.W.Frag) (cB:Addr):Sp:=fun vs H _ E=> ∃x,vs=[x]∧iJ K H x∧∀e H',ae H H'→E (.ref e) (some cB) H'
theorem WC {f:Addr}{fd:FuncData}(F:aH K "need_board" "need_board" rf f fd) (G:Gs mg) (X:Exc K mg "NoBoard" cB) (D1:Def P w K mg base 3 "is_board" ["thing"] (qX K)):aA P w K mg base (bH P w) 4 f fd ["board"] (qU K cB):=by
 obtain⟨tk,hL⟩:=G.longest
 refine F.jS zw (fun vs H Q E h=> ?_) (fun ao A outer s H vs Q E hr h=> ?_)
 ·obtain⟨x,rfl,_⟩:=h
  rfl
 ·obtain⟨x,rfl,b,q⟩:=h
  refine⟨_,Zk (ZW (Yp (ZZ (Zh D1 hr (Za (pv 0) Zb)))) (Zk (J5 PySem.F.excBase_ValueError X.m X.x rfl (Za (NN Yd (Z7 (v:=.int 12) rfl hL ⟨_,rfl⟩)) Zb))) ZG),?_⟩
  refine⟨x,rfl,x,rfl,b.1,fun H' sm=> ⟨_,rfl,?_⟩⟩
  rw[b.2]
  exact aW ⟨_,rfl,by decide,12,rfl,by decide,by decide,fun z=> ⟨by show 1≤sizeLine;decide,fun e=>q e H' sm⟩⟩
abbrev rd:Stmt:=top 27
def qS (K:PySem.W.Frag):Sp:=fun vs H Q _=> ∃x y wd hg,vs=[x,y]∧bN H x wd hg∧fU K H y∧pe wd hg (bz H y)=true∧∀H',ae H H'→Q .af H'
end
section
theorem iF.same {H H':Hp}{p:Addr}(h:iF H p) (s:ae H H'):iF H' p:=by
 obtain⟨u,v,e,r⟩:=h
 exact⟨u,v,s _ _ e,r⟩
def kI:V→Bool
 | .int _=>true
 | .bl _=>true
 | .str _=>true
 | .af=>true
 |_=>false
theorem DB {K:PySem.W.Frag}{H:Hp} :∀{v:V},kI v=true→dr K H v
 | .int i,_=> ⟨_,.int i⟩
 | .bl b,_=> ⟨_,.bl b⟩
 | .str x,_=> ⟨_,.str x⟩
 | .af,_=> ⟨_,.af⟩
end
section
variable {P:Program}{w:World}{K:PySem.W.Frag}{mg:Str→Option Value}{base:Heap}
abbrev oH:Stmt:=top 55
def iM (R:Hp→V→V→Prop):Sp:=fun vs H Q _=> ∃x y,vs=[x,y]∧R H x y∧∀H',ae H H'→Q (.bl true) H'
theorem uU:bg ["_law_found", "_law_due"] ["_law_found", "_law_due"] (ay oH):=⟨rfl,rfl,rfl,by decide+kernel,rfl,by decide+kernel,by decide+kernel⟩
def i9 (R:Hp→V→V→Prop) (H:Hp) (x y:V):Prop:=∃(a b:Addr) (xs ys:List V),x=.ref a∧y=.ref b∧H a=some (.tup xs)∧H b=some (.tup ys)∧Paired (R H) xs ys∧xs.length≤100
theorem Qj {R:Hp→V→V→Prop}{k:Nat}(hR:∀{H H':Hp}{x y:V},R H x y→ae H H'→R H' x y) {f:Addr}{fd:FuncData}(F:aH K "_law_same" "_law_same" oH f fd) (G:Gs mg) (D:Def P w K mg base k "_law_same" ["_law_found", "_law_due"] (iM R)):
  aA P w K mg base aI (k+1) f fd ["_law_found", "_law_due"] (iM (i9 R)):=by
 refine F.ok uU (fun vs H Q E h=> ?_) (fun ao A outer s H vs Q E hr h=> ?_)
 ·obtain⟨x,y,rfl,_⟩:=h
  rfl
 ·obtain⟨x,y,rfl,⟨a,b,xs,ys,rfl,rfl,ha,hb,pr,hl⟩,q⟩:=h
  refine⟨_,Ze (ZW (ZZ (Zl (Yt (a:= "list") (b:= "tuple")) rfl G.isinstance boot_isinstance (Za (pv 1) (Za (ZH (Za (ZJ (v:=.ty "list") rfl G.list boot_list rfl) (Za (ZJ (v:=.ty "tuple") rfl G.tuple boot_tuple rfl) Zb))) Zb))))
    (Ze (ZW (PW.pt (WP (ZM UY (Zl (ZD (c:= "list")) rfl G.isinstance boot_isinstance (Za (pv 0) (Za (ZJ (v:=.ty "list") rfl G.list boot_list rfl) Zb))) (Zl (ZD (c:= "list")) rfl G.isinstance boot_isinstance (Za (pv 1) (Za (ZJ (v:=.ty "list") rfl G.list boot_list rfl) Zb))) (cj _))
      (Jo (ZM UY (Zl (ZD (c:= "tuple")) rfl G.isinstance boot_isinstance (Za (pv 0) (Za (ZJ (v:=.ty "tuple") rfl G.tuple boot_tuple rfl) Zb))) (Zl (ZD (c:= "tuple")) rfl G.isinstance boot_isinstance (Za (pv 1) (Za (ZJ (v:=.ty "tuple") rfl G.tuple boot_tuple rfl) Zb))) (cj _))))) Zw ZG)
    (Zk (Zs (Yj (Z8 YC (Zl Zy rfl G.len boot_len (Za (pv 0) Zb)) (Zl Zy rfl G.len boot_len (Za (pv 1) Zb)) (cj _))
     (Yq (Zl YI rfl G.all boot_all (Za (ZQ ["_law_one", "_law_other"] 2 [] (NQ rfl G.zip (Za (pv 0) (Za (pv 1) Zb)))
      (fun C s H fp=>show PG (aG _ _ _ C s H fp) _ (iA K 2 (cI (bT 0) (cI (bT 1) iB))) from Z5 rfl (Zp (pb 0) (Zp (pb 1) ZU))) (fun C s H fp=>ZT)
      (fun C s H fp D'=>Zv rfl (Zh D hr (Za (pv 0) (Za (pv 1) Zb))))) Zb))))))) ZG) Zw,?_⟩
  refine⟨_,rfl,(by show 2≤sizeLine;decide),fun t ht=> ?_⟩
  have s1:=Zm (o:=.tup [V.ty "list",V.ty "tuple"]) ht
  have e1:upd H t (.tup [V.ty "list",V.ty "tuple"]) t=some (.tup [V.ty "list",V.ty "tuple"]):=Zc
  generalize upd H t (HO.tup [V.ty "list",V.ty "tuple"])=H1 at s1 e1
  have fB:=s1 _ _ ha
  have fh:=s1 _ _ hb
  refine⟨_,t,_,_,rfl,ai.of e1,.inr (.inr (.inr ⟨b,ys,rfl,fh,rfl⟩)),(show _=some true from rfl),_,rfl,aW ?_⟩
  refine⟨_,rfl,_,_,_,rfl,.tup fB,(show _=some false from rfl),_,rfl,_,_,_,rfl,.tup fh,(show _=some false from rfl),rfl,_,rfl,aV ?_⟩
  refine⟨_,rfl,_,_,_,rfl,.tup fB,(show _=some true from rfl),_,rfl,_,_,_,rfl,.tup fh,(show _=some true from rfl),rfl,_,rfl,aV ?_⟩
  have hlen:xs.length=ys.length:=Paired.length pr
  refine⟨_,rfl,a,xs,rfl,.inr (ai.of fB),_,rfl,b,ys,rfl,.inr (ai.of fh),rfl,_,rfl,?_⟩
  have el:decide (V.int (xs.length:Int)=V.int (ys.length:Int))=true:=decide_eq_true (by rw[hlen])
  rw[el]
  refine aW ⟨_,rfl,_,rfl,a,b,rfl,⟨xs,ys,ai.of fB,ai.of fh⟩,?_⟩
  refine Qb (xs:=xs) (zs:=ys) hlen (fun i zs σ H2=> ∃v0 v1,σ=[v0,v1]∧ae H1 H2∧zs=List.replicate i (V.bl true)) ⟨_,_,rfl,ae.refl _,rfl⟩ (fun i zs σ H2 _ ⟨_,_,_,s2,_⟩=> ⟨ai.of (s2 _ _ fB),ai.of (s2 _ _ fh)⟩) ?_ ?_
  ·rintro i x y T zs σ H2 hx hy hT ⟨v0,v1,rfl,s2,rfl⟩
   obtain⟨y',g9,r⟩:=Y9 pr hx
   rw[hy]at g9
   cases g9
   have sT:=Zm (o:=.par [x,y]) hT
   have hi:i<xs.length:=(List.getElem?_eq_some_iff.mp hx).1
   refine⟨T,_,rfl,ai.nh Zc,rfl,_,_,rfl,_,_,rfl,rfl,?_⟩
   refine⟨x,rfl,y,rfl,x,y,rfl,hR r (s1.trans (s2.trans sT)),fun H3 s3=> ⟨by rw[List.length_replicate,sizeLine_eq];omega,_,_,rfl,s2.trans (sT.trans s3),?_⟩⟩
   rw[List.replicate_succ']
  ·rintro zs σ H2 ⟨v0,v1,rfl,s2,rfl⟩ p hp
   refine⟨p,List.replicate xs.length true,rfl,?_,?_⟩
   ·rw[List.map_replicate]
    exact ag.of Zc
   ·have e:(List.replicate xs.length true).all id=true:=by simp
    rw[e]
    exact q _ (s1.trans (s2.trans (Zm hp)))
end
section
def Ar:List Str:=["NoBoard", "NoLay", "NoNumber", "NoPoints", "NoPoint", "NoPaper", "NoUnlike", "NoPrime", "NoRoot", "NoTurn", "TooFew", "TooMany", "NoText", "NoLine", "NoDeed"]
def gQ:List Str:=["board", "lay", "number", "points", "point", "paper", "unlike", "prime"]
def gP:List Str:=["root", "turn", "few", "many", "text", "line", "deed"]
def wordOf (i:Nat):Str:=(gQ++gP).getD i ""
structure mn (K:PySem.W.Frag) (mg:Str→Option Value) (cS C:Addr) (iC:Nat):Prop where
 z:kD K C
 ms:mg "StepError" =some (.ref cS)
 xs:PySem.W.exmOne K (.ref C) (.ref cS)=some true
 m:∀i,i<15→∃c,mg (Ar.getD i "")=some (.ref c)∧PySem.W.kitOne K (.ref C) (.ref c)=some (decide (i=iC))
 mv:mg "ValueError" =none
 xv:PySem.W.kitOne K (.ref C) (.type "ValueError")=some true
 lt:iC<15
def aP (iC n:Nat):List V:=(List.range n).map fun i=>V.bl (decide (i=iC))
theorem Wf (iC n:Nat):(aP iC n).all dq=true:=by
 unfold aP
 rw[List.all_map,List.all_eq_true]
 exact fun _ _=>rfl
theorem U4:∀iC,iC<15→(aP iC 15).countP (fun y=>cD y (.bl true))=1:=by decide+kernel
theorem Pe {iC:Nat}(h:iC<15):(aP iC 15)[iC]? =some (.bl true):=by
 unfold aP
 rw[List.getElem?_map,List.getElem?_range h]
 show some (V.bl (decide (iC=iC)))=_
 rw[decide_eq_true rfl]
theorem Pf {iC m:Nat}{y:V}(h:m<iC) (e:(aP iC 15)[m]? =some y):cD y (.bl true)=false:=by
 unfold aP at e
 rw[List.getElem?_map]at e
 obtain⟨k,hk,rfl⟩:=Option.map_eq_some_iff.mp e
 have:k=m:=by
  have:=List.getElem?_eq_some_iff.mp hk
  simpa using this.2.symm
 subst this
 show(decide (k=iC)==true)=false
 rw[decide_eq_false (by omega)]
 rfl
def EY (K:PySem.W.Frag) (i:Nat) (u:Value):TE:=fun σ H Q=> ∃e C b,σ[i]? =some (some (.ref e))∧H e=some (iZ e C)∧kD K C∧PySem.W.kitOne K (.ref C) u=some b∧Q (.bl b) H
theorem Yi {X:Cx}{i:Nat}{y n:Str}{c:Addr}{p1 p2 p3 p4:Pos}(hi:X.mg "isinstance" =none) (hx:PE X (.Name y p2) (oh i)) (hm:X.mg n=some (.ref c)) (g1:Gl X "isinstance" :=by rfl) (g2:Gl X n:=by rfl) (hd:(n==("__debug__" :Str))=false:=by decide):
  PE X (.Call (.Name "isinstance" p1) [.Name y p2,.Name n p3] [] p4) (EY X.K i (.ref c)):=by
 intro pins s σ H Q I h
 obtain⟨e,C,b,h1,h2,h3,h4,h5⟩:=h
 have z:PE X (.Call (.Name "isinstance" p1) [.Name y p2,.Name n p3] [] p4) _:=Zl Jl g1 hi boot_isinstance (Za hx (Za (Z7 (v:=.ref c) g2 hm rfl hd) Zb))
 exact z pins s σ H Q I ⟨_,h1,e,C,_,_,_,rfl,h2,h3,fun _ h=>h,h4,h5⟩
end
section
variable {P:Program}{w:World}{K:PySem.W.Frag}{mg:Str→Option Value}{base:Heap}
abbrev uW:Stmt:=top 50
def ow (P:Program) (w:World) (K:PySem.W.Frag) (mg:Str→Option Value) (base:Heap) (cS:Addr) (k:Nat):Sp:=fun vs H Q _=> ∃f fd sp C iC,vs=[.ref f]∧mn K mg cS C iC∧(∀s,bM P w H s→PySem.W.FnAt f s)∧aA P w K mg base (bH P w) k f fd [] sp∧
 (∀s,BindsTo s fd ⟨[],[]⟩ [])∧(∀Q' E',(∀e H',ae H H'→E' (.ref e) (some C) H')→sp [] H Q' E')∧∀H',ae H H'→Q (.str (wordOf iC)) H'
abbrev Hi:List Str:=["_law_call", "_law_error", "e", "_law_marks", "_law_more", "_law_words"]
theorem gm:bg Hi ["_law_call"] (ay uW):=⟨rfl,rfl,rfl,by decide+kernel,rfl,by decide+kernel,by decide+kernel⟩
theorem NF {k:Nat}{f:Addr}{fd:FuncData}{cS:Addr}(F:aH K "_law_word" "_law_word" uW f fd) (G:Gs mg):aA P w K mg base aI (k+1) f fd ["_law_call"] (ow P w K mg base cS k):=by
 refine F.ok gm (fun vs H Q E h=> ?_) (fun ao A outer s H vs Q E hr h=> ?_)
 ·obtain⟨f,fd,sp,C,iC,rfl,_⟩:=h
  rfl
 ·obtain⟨f,fd,sp,C,iC,rfl,M,eD,Fl,xc,dD,q⟩:=h
  obtain⟨c0,m0,k0⟩:=M.m 0 (by decide)
  obtain⟨c1,m1,k1⟩:=M.m 1 (by decide)
  obtain⟨c2,m2,k2⟩:=M.m 2 (by decide)
  obtain⟨c3,m3,k3⟩:=M.m 3 (by decide)
  obtain⟨c4,m4,k4⟩:=M.m 4 (by decide)
  obtain⟨c5,m5,k5⟩:=M.m 5 (by decide)
  obtain⟨c6,m6,k6⟩:=M.m 6 (by decide)
  obtain⟨c7,m7,k7⟩:=M.m 7 (by decide)
  obtain⟨c8,m8,k8⟩:=M.m 8 (by decide)
  obtain⟨c9,m9,k9⟩:=M.m 9 (by decide)
  obtain⟨c10,HG,o9⟩:=M.m 10 (by decide)
  obtain⟨c11,HF,Ib⟩:=M.m 11 (by decide)
  obtain⟨c12,vP,nD⟩:=M.m 12 (by decide)
  obtain⟨c13,HE,Ia⟩:=M.m 13 (by decide)
  obtain⟨c14,HD,rV⟩:=M.m 14 (by decide)
  have gi:=G.isinstance
  refine⟨_,Ze (ZA (i:=1) gm.nd rfl (Or.inl rfl) Yr)
   (Ze (Qr (ic:=0) (ie:=2) rfl rfl rfl gm.nd rfl (Or.inl rfl) rfl rfl M.ms rfl hr (fun e=>Zk (ZA (i:=1) gm.nd rfl (Or.inl rfl) (pv 2))))
   (Ze (ZA (i:=3) gm.nd rfl (Or.inl rfl) (ZI (Za (Yi gi (pv 1) m0) (Za (Yi gi (pv 1) m1) (Za (Yi gi (pv 1) m2) Zb)))))
   (Ze (ZA (i:=4) gm.nd rfl (Or.inl rfl) (ZI (Za (Yi gi (pv 1) m3) (Za (Yi gi (pv 1) m4) (Za (Yi gi (pv 1) m5) Zb)))))
   (Ze (ZA (i:=3) gm.nd rfl (Or.inl rfl) (Zq Yk (Zq Yk (pv 3) (pv 4)) (ZI (Za (Yi gi (pv 1) m6) (Za (Yi gi (pv 1) m7) Zb)))))
   (Ze (ZA (i:=3) gm.nd rfl (Or.inl rfl) (Zq Yk (pv 3) (ZI (Za (Yi gi (pv 1) m8) (Za (Yi gi (pv 1) m9) Zb)))))
   (Ze (ZA (i:=3) gm.nd rfl (Or.inl rfl) (Zq Yk (pv 3) (ZI (Za (Yi gi (pv 1) HG) (Za (Yi gi (pv 1) HF) Zb)))))
   (Ze (ZA (i:=3) gm.nd rfl (Or.inl rfl) (Zq Yk (pv 3) (ZI (Za (Yi gi (pv 1) vP) (Za (Yi gi (pv 1) HE) Zb)))))
   (Ze (Zx (Yc PySem.F.plainAttrs_list PySem.F.slot_list_append PySem.F.type_list_append ZS (pv 3) (Za (Yi gi (pv 1) HD) Zb)))
   (Ze (ZW (Jp (Js (pv 1))) Zw ZG)
   (Ze (ZW (PW.pt (WP (ZM UY (Yc PySem.F.plainAttrs_list PySem.F.slot_list_count PySem.F.type_list_count U0 (pv 3) (Za WR Zb)) Zi (cj _))
     (Jo (Yp (ZZ (Zl Jl rfl gi boot_isinstance (Za (pv 1) (Za (ZJ (v:=.ty "ValueError") rfl M.mv PyProof.Rows.Boot.«ValueError» rfl) Zb)))))))) Zw ZG)
   (Ze (ZA (i:=5) gm.nd rfl (Or.inl rfl) (ZI (J7 (vs:=gQ.map V.str) rfl)))
   (Ze (ZA (i:=5) gm.nd rfl (Or.inl rfl) (Zq Yk (pv 5) (ZI (J7 (vs:=gP.map V.str) rfl))))
   (Zk (Zs (ZO ZV (pv 5) (Yc PySem.F.plainAttrs_list PySem.F.slot_list_index PySem.F.type_list_index P9 (pv 3) (Za WR Zb)) (fun _ _=>rfl)))))))))))))))),?_⟩
  refine⟨f,fd,sp,rfl,eD,Fl,xc,dD _ _ fun e H1 s1=> ⟨e,C,rfl,rfl,M.xs,fun K0=> ⟨_,rfl,?_⟩⟩⟩
  have s2:ae H1 (upd H1 e (iZ e C)):=Zm K0
  have he:upd H1 e (iZ e C) e=some (iZ e C):=Zc
  generalize upd H1 e (iZ e C)=H2 at s2 he
  have sA:=s1.trans s2
  dsimp only[List.set]
  refine Zo (ZK ⟨e,C,_,rfl,he,M.z,k0,e,C,_,rfl,he,M.z,k1,e,C,_,rfl,he,M.z,k2,(by show 3≤sizeLine;decide),fun l1 sH=>Zn ?_⟩)
  dsimp only
  show iL _ _ _ [some (.ref f),some (.ref e),none,some (.ref l1),none,none] (upd H2 l1 (.lst (aP iC 3)))
  have t1:=Zm (o:=.lst (aP iC 3)) sH
  have g1:upd H2 l1 (.lst (aP iC 3)) l1=some (.lst (aP iC 3)):=Zc
  generalize upd H2 l1 (HO.lst (aP iC 3))=H3 at t1 g1
  have sQ:=t1 _ _ he
  refine Zo (ZK ⟨e,C,_,rfl,sQ,M.z,k3,e,C,_,rfl,sQ,M.z,k4,e,C,_,rfl,sQ,M.z,k5,(by show 3≤sizeLine;decide),fun l2 dQ=>Zn ?_⟩)
  dsimp only
  show iL _ _ _ [some (.ref f),some (.ref e),none,some (.ref l1),some (.ref l2),none] (upd H3 l2 (.lst [V.bl (decide (3=iC)),V.bl (decide (4=iC)),V.bl (decide (5=iC))]))
  have t2:=Zm (o:=.lst [V.bl (decide (3=iC)),V.bl (decide (4=iC)),V.bl (decide (5=iC))]) dQ
  have g2:upd H3 l2 (.lst [V.bl (decide (3=iC)),V.bl (decide (4=iC)),V.bl (decide (5=iC))]) l2=some (.lst [V.bl (decide (3=iC)),V.bl (decide (4=iC)),V.bl (decide (5=iC))]):=Zc
  generalize upd H3 l2 (HO.lst [V.bl (decide (3=iC)),V.bl (decide (4=iC)),V.bl (decide (5=iC))])=H4 at t2 g2
  have KZ:=t2 _ _ sQ
  refine Zo (ZK ⟨_,rfl,_,rfl,l1,l2,aP iC 3,_,rfl,rfl,t2 _ _ g1,g2,(by show 3+3≤sizeLine;decide),fun l3 pK=> ?_⟩)
  show y9 _ _ (upd H4 l3 (.lst (aP iC 6))) _
  have t3:=Zm (o:=.lst (aP iC 6)) pK
  have g3:upd H4 l3 (.lst (aP iC 6)) l3=some (.lst (aP iC 6)):=Zc
  generalize upd H4 l3 (HO.lst (aP iC 6))=H5 at t3 g3
  have wW:=t3 _ _ KZ
  refine⟨e,C,_,rfl,wW,M.z,k6,e,C,_,rfl,wW,M.z,k7,(by show 2≤sizeLine;decide),fun l4 jx=> ?_⟩
  have t4:=Zm (o:=.lst [V.bl (decide (6=iC)),V.bl (decide (7=iC))]) jx
  have g4:upd H5 l4 (.lst [V.bl (decide (6=iC)),V.bl (decide (7=iC))]) l4=some (.lst [V.bl (decide (6=iC)),V.bl (decide (7=iC))]):=Zc
  generalize upd H5 l4 (HO.lst [V.bl (decide (6=iC)),V.bl (decide (7=iC))])=H6 at t4 g4
  refine⟨l3,l4,aP iC 6,_,rfl,rfl,t4 _ _ g3,g4,(by show 6+2≤sizeLine;decide),fun l5 wL=>Zn ?_⟩
  dsimp only
  show iL _ _ _ [some (.ref f),some (.ref e),none,some (.ref l5),some (.ref l2),none] (upd H6 l5 (.lst (aP iC 8)))
  have t5:=Zm (o:=.lst (aP iC 8)) wL
  have g5:upd H6 l5 (.lst (aP iC 8)) l5=some (.lst (aP iC 8)):=Zc
  generalize upd H6 l5 (HO.lst (aP iC 8))=H7 at t5 g5
  have wV:=t5 _ _ (t4 _ _ wW)
  refine Zo (ZK ⟨_,rfl,e,C,_,rfl,wV,M.z,k8,e,C,_,rfl,wV,M.z,k9,(by show 2≤sizeLine;decide),fun a8 Li=> ?_⟩)
  have n9:=Zm (o:=.lst [V.bl (decide (8=iC)),V.bl (decide (9=iC))]) Li
  have BX:upd H7 a8 (.lst [V.bl (decide (8=iC)),V.bl (decide (9=iC))]) a8=some (.lst [V.bl (decide (8=iC)),V.bl (decide (9=iC))]):=Zc
  generalize upd H7 a8 (HO.lst [V.bl (decide (8=iC)),V.bl (decide (9=iC))])=yx at n9 BX
  refine⟨l5,a8,aP iC 8,_,rfl,rfl,n9 _ _ g5,BX,(by show 8+2≤sizeLine;decide),fun b8 Le=>Zn ?_⟩
  dsimp only
  show iL _ _ _ [some (.ref f),some (.ref e),none,some (.ref b8),some (.ref l2),none] (upd yx b8 (.lst (aP iC 10)))
  have mI:=Zm (o:=.lst (aP iC 10)) Le
  have BV:upd yx b8 (.lst (aP iC 10)) b8=some (.lst (aP iC 10)):=Zc
  generalize upd yx b8 (HO.lst (aP iC 10))=Ea at mI BV
  have wR:=mI _ _ (n9 _ _ wV)
  refine Zo (ZK ⟨_,rfl,e,C,_,rfl,wR,M.z,o9,e,C,_,rfl,wR,M.z,Ib,(by show 2≤sizeLine;decide),fun a10 Ll=> ?_⟩)
  have og:=Zm (o:=.lst [V.bl (decide (10=iC)),V.bl (decide (11=iC))]) Ll
  have BZ:upd Ea a10 (.lst [V.bl (decide (10=iC)),V.bl (decide (11=iC))]) a10=some (.lst [V.bl (decide (10=iC)),V.bl (decide (11=iC))]):=Zc
  generalize upd Ea a10 (HO.lst [V.bl (decide (10=iC)),V.bl (decide (11=iC))])=yz at og BZ
  refine⟨b8,a10,aP iC 10,_,rfl,rfl,og _ _ BV,BZ,(by show 10+2≤sizeLine;decide),fun b10 Lg=>Zn ?_⟩
  dsimp only
  show iL _ _ _ [some (.ref f),some (.ref e),none,some (.ref b10),some (.ref l2),none] (upd yz b10 (.lst (aP iC 12)))
  have qD:=Zm (o:=.lst (aP iC 12)) Lg
  have BW:upd yz b10 (.lst (aP iC 12)) b10=some (.lst (aP iC 12)):=Zc
  generalize upd yz b10 (HO.lst (aP iC 12))=Eb at qD BW
  have wU:=qD _ _ (og _ _ wR)
  refine Zo (ZK ⟨_,rfl,e,C,_,rfl,wU,M.z,nD,e,C,_,rfl,wU,M.z,Ia,(by show 2≤sizeLine;decide),fun a12 Lk=> ?_⟩)
  have oa:=Zm (o:=.lst [V.bl (decide (12=iC)),V.bl (decide (13=iC))]) Lk
  have BY:upd Eb a12 (.lst [V.bl (decide (12=iC)),V.bl (decide (13=iC))]) a12=some (.lst [V.bl (decide (12=iC)),V.bl (decide (13=iC))]):=Zc
  generalize upd Eb a12 (HO.lst [V.bl (decide (12=iC)),V.bl (decide (13=iC))])=yy at oa BY
  refine⟨b10,a12,aP iC 12,_,rfl,rfl,oa _ _ BW,BY,(by show 12+2≤sizeLine;decide),fun b12 BC=>Zn ?_⟩
  dsimp only
  show iL _ _ _ [some (.ref f),some (.ref e),none,some (.ref b12),some (.ref l2),none] (upd yy b12 (.lst (aP iC 14)))
  have uo:=Zm (o:=.lst (aP iC 14)) BC
  have tD:upd yy b12 (.lst (aP iC 14)) b12=some (.lst (aP iC 14)):=Zc
  generalize upd yy b12 (HO.lst (aP iC 14))=nW at uo tD
  have sP:=uo _ _ (oa _ _ wU)
  have sB:ae H nW:=s1.trans (s2.trans (t1.trans (t2.trans (t3.trans (t4.trans (t5.trans (n9.trans (mI.trans (og.trans (qD.trans (oa.trans (uo))))))))))))
  refine Zo ⟨_,rfl,.inl ⟨rfl,_,ag.of tD⟩,e,C,_,rfl,sP,M.z,rV,b12,_,_,rfl,rfl,tD,(by show 14<sizeLine;decide),?_⟩
  show iL _ _ _ [some (.ref f),some (.ref e),none,some (.ref b12),some (.ref l2),none] (upd nW b12 (.lst (aP iC 15)))
  have Hg:H b12=none:=(s1.trans (s2.trans (t1.trans (t2.trans (t3.trans (t4.trans (t5.trans (n9.trans (mI.trans (og.trans (qD.trans oa))))))))))).free BC
  have sC:ae H (upd nW b12 (.lst (aP iC 15))):=Ql sB Hg
  have Bw:upd nW b12 (.lst (aP iC 15)) e=some (iZ e C):=by rw[Zf (fun z=>by rw[z,tD]at sP;cases sP)];exact sP
  have gc:upd nW b12 (.lst (aP iC 15)) b12=some (.lst (aP iC 15)):=Zc
  generalize upd nW b12 (HO.lst (aP iC 15))=Hc at sC Bw gc
  refine Zo ⟨_,rfl,_,rfl,aV ?_⟩
  refine Z6 ?_
  dsimp only
  refine Zo ⟨_,rfl,.inl ⟨rfl,_,ag.of gc⟩,b12,_,_,rfl,rfl,ag.of gc,rfl,Wf _ _,?_⟩
  rw[U4 iC M.lt]
  refine⟨rfl,_,rfl,aV ⟨_,rfl,e,C,_,_,_,rfl,Bw,M.z,fun _ h=>h,M.xv,_,rfl,aV ?_⟩⟩
  refine Z6 ?_
  dsimp only
  refine Zo (ZK ⟨(by show 8≤sizeLine;decide),fun d1 K7=>Zn ?_⟩)
  dsimp only
  show iL _ _ _ [some (.ref f),some (.ref e),none,some (.ref b12),some (.ref l2),some (.ref d1)] _
  have u1:=Zm (o:=.lst (gQ.map V.str)) K7
  have v1:upd Hc d1 (.lst (gQ.map V.str)) d1=some (.lst (gQ.map V.str)):=Zc
  generalize upd Hc d1 (HO.lst (gQ.map V.str))=Hd at u1 v1
  refine Zo (ZK ⟨_,rfl,(by show 7≤sizeLine;decide),fun d2 hd2=> ?_⟩)
  have u2:=Zm (o:=.lst (gP.map V.str)) hd2
  have v2:upd Hd d2 (.lst (gP.map V.str)) d2=some (.lst (gP.map V.str)):=Zc
  generalize upd Hd d2 (HO.lst (gP.map V.str))=He at u2 v2
  refine⟨d1,d2,_,_,rfl,rfl,u2 _ _ v1,v2,(by show 8+7≤sizeLine;decide),fun d3 K6=>Zn ?_⟩
  dsimp only
  show uq _ _ [some (.ref f),some (.ref e),none,some (.ref b12),some (.ref l2),some (.ref d3)] _
  have u3:=Zm (o:=.lst (gQ.map V.str++gP.map V.str)) K6
  have v3:upd He d3 (.lst (gQ.map V.str++gP.map V.str)) d3=some (.lst (gQ.map V.str++gP.map V.str)):=Zc
  generalize upd He d3 (HO.lst (gQ.map V.str++gP.map V.str))=Hf at u3 v3
  have gf:=u3 _ _ (u2 _ _ (u1 _ _ gc))
  refine⟨_,rfl,_,rfl,.inl ⟨rfl,_,ag.of gf⟩,b12,_,_,iC,rfl,rfl,ag.of gf,rfl,Wf _ _,⟨_,Pe M.lt,rfl⟩,fun m y h e=>Pf h e,?_⟩
  refine⟨d3,_,_,_,rfl,rfl,ag.of v3,YV (v:=.str (wordOf iC)) ?_,q _ (sC.trans (u1.trans (u2.trans u3)))⟩
  rw[←List.map_append,List.getElem?_map]
  unfold wordOf
  have hl:iC< (gQ++gP).length:=M.lt
  rw[List.getElem?_eq_getElem hl,List.getD_eq_getElem?_getD,List.getElem?_eq_getElem hl]
  rfl
end
section
def rG:Lit→Bool
 | .sc v=>kI v
 | .tup xs=>xs.all kI
 |_=>true
def AJ:Lit→Option (List V)
 | .tup xs=>some xs
 |_=>none
theorem UB {H:Hp}{v:V} :∀{l:Lit},rG l=true→ja H v l→bz H v=AJ l
 | .sc u,hp,h=>by
  have h':v=u:=h
  subst h'
  cases v with
  |ref a=>cases hp
  |_=>rfl
 | .tup xs,_,⟨a,e,h⟩=>by rw[e,Zu h];rfl
 | .lst xs,_,⟨a,e,h⟩=>by rw[e,ZB,h];rfl
 | .i6,_,⟨a,e,h⟩=>by rw[e,ZB,h];rfl
theorem Nl {K:PySem.W.Frag}{H:Hp}{v:V} :∀{l:Lit},rG l=true→ja H v l→fU K H v
 | .sc u,hp,h=>by
  have h':v=u:=h
  subst h'
  refine⟨DB hp,fun xs e y hy=> ?_⟩
  rw[UB (l:=.sc v) hp rfl]at e
  cases e
 | .tup xs,hp,⟨a,e,h⟩=>by
  subst e
  refine⟨⟨_,.tup h⟩,fun ys e y hy=> ?_⟩
  rw[Zu h]at e
  cases e
  exact DB (List.all_eq_true.mp hp y hy)
 | .lst xs,hp,⟨a,e,h⟩=>by
  subst e
  refine⟨⟨_,.lst h⟩,fun ys e y hy=> ?_⟩
  rw[ZB,h]at e
  cases e
 | .i6,hp,⟨a,e,h⟩=>by
  subst e
  refine⟨⟨_,.dK h⟩,fun ys e y hy=> ?_⟩
  rw[ZB,h]at e
  cases e
def nU (p:Addr) (H:Hp) (v:V):Prop:=v≠.ref p∧∀xs,bz H v=some xs→∀y∈xs,y≠.ref p
theorem DJ {K:PySem.W.Frag}{H H':Hp}{p:Addr}{v:V}(t:dr K H v) (s:aL p H H') (hn:v≠.ref p):bz H' v=bz H v:=by
 obtain⟨T,t⟩:=t
 cases t with
 |tup e=>rw[Zu e,Zu (s _ _ e fun z=>hn (by rw[z]))]
 |lst e=>rw[ZB,ZB,e,s _ _ e fun z=>hn (by rw[z])]
 |cA e=>rw[ZB,ZB,e,s _ _ e fun z=>hn (by rw[z])]
 |dK e=>rw[ZB,ZB,e,s _ _ e fun z=>hn (by rw[z])]
 |dT e=>rw[ZB,ZB,e,s _ _ e fun z=>hn (by rw[z])]
 |_=>rfl
theorem x9 {K:PySem.W.Frag}{H H':Hp}{p:Addr}{v:V}(t:dr K H v) (s:aL p H H') (hn:v≠.ref p):dr K H' v:=by
 obtain⟨T,t⟩:=t
 cases t with
 |tup e=>exact⟨_,.tup (s _ _ e fun z=>hn (by rw[z]))⟩
 |lst e=>exact⟨_,.lst (s _ _ e fun z=>hn (by rw[z]))⟩
 |cA e=>exact⟨_,.cA (s _ _ e fun z=>hn (by rw[z]))⟩
 |dK e=>exact⟨_,.dK (s _ _ e fun z=>hn (by rw[z]))⟩
 |dT e=>exact⟨_,.dT (s _ _ e fun z=>hn (by rw[z]))⟩
 |af=>exact⟨_,.af⟩
 |bl b=>exact⟨_,.bl b⟩
 |int i=>exact⟨_,.int i⟩
 |str x=>exact⟨_,.str x⟩
 |iE x=>exact⟨_,.iE x⟩
theorem M5 {K:PySem.W.Frag}{H H':Hp}{p:Addr}{v:V}(t:fU K H v) (s:aL p H H') (n:nU p H v):fU K H' v:=by
 refine⟨x9 t.1 s n.1,fun xs e y hy=> ?_⟩
 rw[DJ t.1 s n.1]at e
 exact x9 (t.2 xs e y hy) s (n.2 xs e y hy)
theorem C5 {K:PySem.W.Frag}{H H':Hp}{p:Addr}{v:V}(b:iJ K H v) (s:aL p H H') (n:nU p H v):iJ K H' v:=⟨M5 b.1 s n,by rw[DJ b.1.1 s n.1];exact b.2⟩
end
section
variable {P:Program}{w:World}{K:PySem.W.Frag}{mg:Str→Option Value}{base:Heap}
abbrev mS:Stmt:=top 53
def vL:List Lit:=[.sc .af,.tup [.int 0,.int 3],.tup [.int 3,.int 13],.tup [.int 13,.int 13],.lst [.int 3,.int 3],.tup [.int 3],.tup [.int 3,.int 3,.int 3],.tup [.bl true,.int 3],.tup [.int 3,.str "3"],.sc (.int 7)]
def CF (l:Lit):Bool:=rG l&& !lj (AJ l)
theorem Oo:vL.all CF=true:=by decide+kernel
def uH (K:PySem.W.Frag):Sp:=fun vs H Q _=> ∃p:Addr,vs=[.ref p]∧iF H p∧∀v H',aL p H H'→iF H' p→iJ K H' v→nU p H' v→Q v H'
def vK:List Expr:=match dG mS with | .Assign _ (.List es _) _::_=>es |_=> []
def G0 (a:List Expr):List Stmt:=match dG mS with
 | .Assign x (.List _ p1) p2::r=> .Assign x (.List a p1) p2::r
 |_=> []
theorem NA:dG mS=G0 vK:=by kernel_rfl
theorem Oq:litsOf vK=some vL:=by kernel_rfl
theorem zv:bg ["_law_state_here", "_law_some"] ["_law_state_here"] (ay mS):=⟨rfl,rfl,rfl,by decide+kernel,rfl,by decide+kernel,by decide+kernel⟩
theorem Pd {H H':Hp}{p:Addr}{v:V} :∀{l:Lit},ja H v l→(∀a:Addr,v=.ref a→a≠p)→aL p H H'→ja H' v l
 | .sc _,h,_,_=>h
 | .tup _,⟨a,e,h⟩,n,s=> ⟨a,e,s _ _ h (n a e)⟩
 | .lst _,⟨a,e,h⟩,n,s=> ⟨a,e,s _ _ h (n a e)⟩
 | .i6,⟨a,e,h⟩,n,s=> ⟨a,e,s _ _ h (n a e)⟩
theorem P6 {H:Hp}{p:Addr}{v:V}{l:Lit}(hp:rG l=true) (h:ja H v l) (n:∀a:Addr,v=.ref a→a≠p):nU p H v:=by
 refine⟨fun z=>n p z rfl,fun xs e y hy z=> ?_⟩
 rw[UB hp h]at e
 cases l with
 |tup ys=>
  cases e
  have:=List.all_eq_true.mp (show xs.all kI=true from hp) y hy
  rw[z]at this
  cases this
 |_=>cases e
theorem Nu {f:Addr}{fd:FuncData}(F:aH K "_law_no_board" "_law_no_board" mS f fd) (D1:Def P w K mg base 1 "_law_take" ["_law_state_here", "_law_many"] oA):aA P w K mg base aI 2 f fd ["_law_state_here"] (uH K):=by
 refine F.ok zv (fun vs H Q E h=> ?_) (fun ao A outer s H vs Q E hr h=> ?_)
 ·obtain⟨p,rfl,_⟩:=h
  rfl
 ·obtain⟨p,rfl,st,q⟩:=h
  rw[NA]
  have i1:=Oq
  generalize vK=nQ at i1
  refine⟨_,Ze (ZA (i:=1) zv.nd rfl (Or.inl rfl) (ZI (Dz (ls:=vL) i1))) (Zk (Zs (ZO ZV (Zq Yk (pv 1) (ZI (Za (ZH (Za (ZH (Za Zi Zb)) (Za Zi Zb))) (Za (ZH (Za Zi (Za Yr Zb))) Zb)))) (Zh D1 hr (Za (pv 0) (Za Zi Zb))) (fun _ _=>rfl)))),?_⟩
  refine Zo (ZK fun dw H1 s1 kS n1=> ?_)
  have l1:dw.length=10:=Paired.length kS
  refine⟨by rw[l1];decide,fun L1 eP=>Zn ?_⟩
  have s2:ae H1 (upd H1 L1 (.lst dw)):=Zm eP
  have eL:upd H1 L1 (.lst dw) L1=some (.lst dw):=Zc
  generalize upd H1 L1 (HO.lst dw)=H2 at s2 eL
  dsimp only[List.set]
  refine⟨_,rfl,(by show 1≤sizeLine;decide),fun a1 fB=> ?_⟩
  have s3:=Zm (o:=.tup [V.int 1]) fB
  have e3:upd H2 a1 (.tup [V.int 1]) a1=some (.tup [V.int 1]):=Zc
  generalize upd H2 a1 (HO.tup [V.int 1])=H3 at s3 e3
  refine⟨(by show 2≤sizeLine;decide),fun a2 BH=> ?_⟩
  have s4:=Zm (o:=.tup [V.ref a1,V.int 2]) BH
  have e4:upd H3 a2 (.tup [V.ref a1,V.int 2]) a2=some (.tup [V.ref a1,V.int 2]):=Zc
  generalize upd H3 a2 (HO.tup [V.ref a1,V.int 2])=H4 at s4 e4
  refine⟨(by show 2≤sizeLine;decide),fun a3 BG=> ?_⟩
  have s5:=Zm (o:=.tup [V.int 2,V.af]) BG
  have e5:upd H4 a3 (.tup [V.int 2,V.af]) a3=some (.tup [V.int 2,V.af]):=Zc
  generalize upd H4 a3 (HO.tup [V.int 2,V.af])=H5 at s5 e5
  refine⟨(by show 2≤sizeLine;decide),fun ua gF=> ?_⟩
  have s6:=Zm (o:=.lst [V.ref a2,V.ref a3]) gF
  have e6:upd H5 ua (.lst [V.ref a2,V.ref a3]) ua=some (.lst [V.ref a2,V.ref a3]):=Zc
  generalize upd H5 ua (HO.lst [V.ref a2,V.ref a3])=H6 at s6 e6
  refine⟨L1,ua,_,_,rfl,rfl,s6 _ _ (s5 _ _ (s4 _ _ (s3 _ _ eL))),e6,by rw[l1];show 10+2≤sizeLine;decide,fun L3 jA=> ?_⟩
  have s7:=Zm (o:=.lst (dw++[V.ref a2,V.ref a3])) jA
  have e7:upd H6 L3 (.lst (dw++[V.ref a2,V.ref a3])) L3=some (.lst (dw++[V.ref a2,V.ref a3])):=Zc
  generalize upd H6 L3 (HO.lst (dw++[V.ref a2,V.ref a3]))=H7 at s7 e7
  have FQ:=s3.trans (s4.trans (s5.trans (s6.trans s7)))
  have zN:=s2.trans FQ
  have vq:ae H H7:=s1.trans zN
  have oq:=st.same vq
  refine⟨_,rfl,p,12,rfl,oq,by decide,by decide,fun r o h0 LF qK=> ?_⟩
  obtain⟨u0,v0,l9,_⟩:=id st
  have SQ:=vq _ _ l9
  have kU:∀{c:Addr}{G G':Hp},ae H G→G c=none→c≠p:=fun s h z=>by rw[z,s _ _ l9]at h;cases h
  have vO:=kU (s1.trans (s2.trans (s3.trans (s4.trans (s5.trans s6))))) (G':=H) jA
  have Az:=kU (s1.trans s2) (G':=H) fB
  have oS:=kU (s1.trans (s2.trans s3)) (G':=H) BH
  have Ay:=kU (s1.trans (s2.trans (s3.trans s4))) (G':=H) BG
  have HW:(dw++[V.ref a2,V.ref a3]).length=12:=by rw[List.length_append,l1];rfl
  have aw:r.toNat< (dw++[V.ref a2,V.ref a3]).length:=by rw[HW];omega
  have pM:=List.getElem?_eq_getElem aw
  have lP:=YV pM
  rw[Int.toNat_of_nonneg h0]at lP
  have x8:aL p H7 (upd H7 p o):=aL.upd
  refine⟨L3,_,_,_,rfl,rfl,ag.of (x8 _ _ e7 vO),lP,?_⟩
  have hm:(dw++[V.ref a2,V.ref a3])[r.toNat]∈dw++[V.ref a2,V.ref a3]:=List.getElem_mem aw
  generalize (dw++[V.ref a2,V.ref a3])[r.toNat]=v at hm
  have good:iJ K (upd H7 p o) v∧nU p (upd H7 p o) v:=by
   rcases List.mem_append.mp hm with hm |hm
   ·obtain⟨k,hk,ek⟩:=List.getElem_of_mem hm
    obtain⟨l,hl,cE⟩:=Y9 kS (List.getElem?_eq_getElem hk)
    rw[ek]at cE
    have hb:=List.all_eq_true.mp Oo l (List.mem_of_getElem? hl)
    unfold CF at hb
    rw[Bool.and_eq_true]at hb
    have n:∀a:Addr,v=.ref a→a≠p:=fun a e z=>by
     have:=n1 a (by rw[←e];exact hm)
     rw[z,l9]at this
     cases this
    have xZ:=Pd (cE.same zN) n x8
    refine⟨⟨Nl hb.1 xZ,?_⟩,P6 hb.1 xZ n⟩
    rw[UB hb.1 xZ]
    simpa using hb.2
   ·simp only[List.mem_cons,List.not_mem_nil,or_false]at hm
    rcases hm with rfl |rfl
    ·have g2:=x8 _ _ ((s5.trans (s6.trans s7)) _ _ e4) oS
     have g1:=x8 _ _ ((s4.trans (s5.trans (s6.trans s7))) _ _ e3) Az
     refine⟨⟨⟨⟨_,.tup g2⟩,fun xs e y hy=> ?_⟩,by rw[Zu g2];rfl⟩,fun z=>oS (by cases z;rfl),fun xs e y hy z=> ?_⟩
     ·rw[Zu g2]at e
      cases e
      simp only[List.mem_cons,List.not_mem_nil,or_false]at hy
      rcases hy with rfl |rfl
      ·exact⟨_,.tup g1⟩
      ·exact⟨_,.int 2⟩
     ·rw[Zu g2]at e
      cases e
      simp only[List.mem_cons,List.not_mem_nil,or_false]at hy
      rcases hy with rfl |rfl
      ·exact Az (by cases z;rfl)
      ·cases z
    ·have g3:=x8 _ _ ((s6.trans s7) _ _ e5) Ay
     refine⟨⟨⟨⟨_,.tup g3⟩,fun xs e y hy=> ?_⟩,by rw[Zu g3];rfl⟩,fun z=>Ay (by cases z;rfl),fun xs e y hy z=> ?_⟩
     ·rw[Zu g3]at e
      cases e
      simp only[List.mem_cons,List.not_mem_nil,or_false]at hy
      rcases hy with rfl |rfl
      ·exact⟨_,.int 2⟩
      ·exact⟨_,.af⟩
     ·rw[Zu g3]at e
      cases e
      simp only[List.mem_cons,List.not_mem_nil,or_false]at hy
      rcases hy with rfl |rfl<;>cases z
  exact q v _ (fun c u hc hn=>x8 _ _ (vq _ _ hc) hn) qK good.1 good.2
end
section
theorem Qs {p L:Addr}{H H1:Hp}{o:HO}(x:aL p H H1) (n:H L=none):aL p H (upd H1 L o):=fun b u h nb=>by
 rw[Zf (Zg h n)]
 exact x b u h nb
end
section
variable {P:Program}{w:World}{K:PySem.W.Frag}{mg:Str→Option Value}{base:Heap}
def R1 (_:Hp) (x y:V):Prop:=(∃i:Int,x=.int i∧y=.int i)∨(x=.af∧y=.af)
theorem R1.same {H H':Hp}{x y:V}(r:R1 H x y) (_:ae H H'):R1 H' x y:=r
theorem OH {f:Addr}{fd:FuncData}(F:aH K "_law_same" "_law_same" oH f fd) (G:Gs mg):aA P w K mg base aI 1 f fd ["_law_found", "_law_due"] (iM R1):=by
 refine F.ok uU (fun vs H Q E h=> ?_) (fun ao A outer s H vs Q E hr h=> ?_)
 ·obtain⟨x,y,rfl,_⟩:=h
  rfl
 ·obtain⟨x,y,rfl,r,q⟩:=h
  refine⟨_,Ze (ZW (ZZ (Zl (Yt (a:= "list") (b:= "tuple")) rfl G.isinstance boot_isinstance (Za (pv 1) (Za (ZH (Za (ZJ (v:=.ty "list") rfl G.list boot_list rfl) (Za (ZJ (v:=.ty "tuple") rfl G.tuple boot_tuple rfl) Zb))) Zb)))) Zw ZG)
   (Ze (ZW (PW.pt (WP (Jp (Js (pv 1))) (Jo (Jp (Js (pv 0)))))) (Zk (Zs (Yj (yd (Js (pv 0))) (Yq (yd (Js (pv 1))))))) ZG)
   (Zk (Zs (Yj (Z8 YC (Zl (ZD (c:= "bool")) rfl G.isinstance boot_isinstance (Za (pv 0) (Za (ZJ (v:=.ty "bool") rfl G.bool boot_bool rfl) Zb)))
     (Zl (ZD (c:= "bool")) rfl G.isinstance boot_isinstance (Za (pv 1) (Za (ZJ (v:=.ty "bool") rfl G.bool boot_bool rfl) Zb))) (cj _))
    (Yq (Z8 YC (pv 0) (pv 1) (cj _))))))),?_⟩
  refine⟨_,rfl,(by show 2≤sizeLine;decide),fun t ht=> ?_⟩
  have s1:=Zm (o:=.tup [V.ty "list",V.ty "tuple"]) ht
  rcases r with ⟨i,rfl,rfl⟩ |⟨rfl,rfl⟩
  ·refine⟨_,t,_,_,rfl,ai.of Zc,.inl ⟨i,rfl,rfl⟩,(show _=some false from rfl),_,rfl,aV ?_⟩
   refine⟨_,rfl,_,rfl,aV ⟨_,rfl,_,rfl,aV ?_⟩⟩
   refine⟨_,rfl,_,_,_,rfl,.int i,(show _=some false from rfl),_,rfl,_,_,_,rfl,.int i,(show _=some false from rfl),rfl,_,rfl,?_⟩
   refine aW ⟨_,rfl,_,rfl,rfl,?_⟩
   have e:decide (V.int i=V.int i)=true:=decide_eq_true rfl
   rw[e]
   exact q _ s1
  ·refine⟨_,t,_,_,rfl,ai.of Zc,.inr (.inl ⟨rfl,rfl⟩),(show _=some false from rfl),_,rfl,aV ?_⟩
   refine⟨_,rfl,_,rfl,aW (aW ⟨_,rfl,_,rfl,aW ⟨_,rfl,?_⟩⟩)⟩
   have e:decide (V.af=V.af)=true:=decide_eq_true rfl
   exact q _ s1
end
section
def ue (Y:Cx) (cl:List (Str×Addr)) (x:Str) (v:V) (H:Hp) (s:Shared):Prop:=∃c u,cl.lookup x=some c∧s.heap.IsCell c (some u)∧RelV v u∧H c=none∧c∉aT Y.stack
def HN (so si:Scope):Bool:=si.names.all fun z=>z.2 !=.free||so.names.lookup z.1==some .cell||so.names.lookup z.1==some .free
theorem Ye {X:Cx}{scope:Scope}(h:HN X.env.scope scope=true):∀z∈scope.names,z.2=.free→X.env.kindOf z.1=some .cell∨X.env.kindOf z.1=some .free:=fun z hz e=>by
 have:=List.all_eq_true.mp h z hz
 simp only[Bool.or_eq_true,bne_iff_ne,ne_eq,beq_iff_eq]at this
 rcases this with (h |h) |h
 ·exact absurd e h
 ·exact .inl h
 ·exact .inr h
end
section
variable {Y:Cx}{pins:List (Addr×Obj)}{σ:L2.St}{H:Hp}{s:Shared}
theorem Po {i:Nat}{x:Str}{v:V}{scope:Scope}(I:Inv Y pins σ H s) (hi:Y.N[i]? =some x) (lr:σ[i]? =some (some v)) (hk:Y.env.scope.names.lookup x=some .cell) (eD:Y.fn x=true) (ip:(x,NameKind.free)∈scope.names):ue Y (cR scope Y.env) x v H s:=by
 obtain⟨m,hn,hl⟩:=I.loc
 obtain⟨u,r,l⟩:=hl i x v hi lr (.inr (.inl hk))
 obtain⟨c,hc⟩:=Wu (env:=Y.env) ip
 have e1:=(Yn hc).1
 rcases l with ⟨aK,_⟩ |⟨_,c',bj,kc⟩
 ·have:Y.env.scope.names.lookup x=some .local:=aK
  rw[hk]at this
  cases this
 ·rw[bj]at e1
  have e2:c=c':=e1
  subst e2
  refine⟨c,u,hc,kc,r,I.fF x c bj,fun hm=> ?_⟩
  rcases List.mem_cons.mp (I.qG c hm) with z |z
  ·exact I.gJ x c bj z
  ·obtain⟨_,o,ho,_⟩:=I.ok.dR.mem z
   exact absurd (Nat.lt_of_lt_of_le (Heap.lt_size ho) (I.ok.ko x c eD bj)) (Nat.lt_irrefl _)
theorem Nb {scope:Scope}{env:Env}{z:Str}{c:Addr}(h:(cR scope env).lookup z=some c):(z,NameKind.free)∈scope.names:=(Yn h).2
end
section
variable {X:Cx}{cS c P fR:Addr}{fn:Str}{kf:Nat}{ps:List Str}{sp:Sp}
abbrev lq (X:Cx):Str:=X.env.qual++ "<lambda>"
theorem UP {H H':Hp}{P:Addr}{q:Str}(h:TabAt H P q) (s:ae H H'):TabAt H' P q:=by
 obtain⟨ps,h1,h2,h3⟩:=h
 exact⟨ps,s _ _ h1,h2,fun pos cv z=>by obtain⟨d,e,g⟩:=h3 pos cv z;exact⟨d,e,s _ _ g⟩⟩
structure LN (X:Cx) (x:Str) (i:Nat):Prop where
 nx:X.N[i]? =some x
 kx:X.env.scope.names.lookup x=some .cell
 fx:X.fn x=true
def yn (sp:Sp) (vs:List V) (C:Addr) (H:Hp):Prop:=∀Q' E',(∀e H',ae H H'→E' (.ref e) (some C) H')→sp vs H Q' E'
end
section
theorem CQ {H H':Hp}{P p:Addr}{q:Str}{o:HO}(h:TabAt H P q) (s:aL p H H') (hp:H p=some o) (h1:∀ps,o≠.bO ps) (h2:∀c,o≠gH c q):TabAt H' P q:=by
 obtain⟨ps,e,t,f⟩:=h
 refine⟨ps,s _ _ e fun z=>by rw[z,hp]at e;cases e;exact h1 _ rfl,t,fun pos cv z=> ?_⟩
 obtain⟨d,e1,e2⟩:=f pos cv z
 exact⟨d,e1,s _ _ e2 fun z=>by rw[z,hp]at e2;cases e2;exact h2 _ rfl⟩
theorem Ur {K:PySem.W.Frag}{H:Hp}{P:Addr}{ps:Array Value}{v:V}(t:dr K H v) (h:H P=some (.bO ps)):v≠.ref P:=fun z=>by
 obtain⟨T,ty⟩:=t
 subst z
 cases ty with
 |lst e=>rw[h]at e;cases e
 |cA e=>rw[h]at e;cases e
 |tup e=>rw[h]at e;cases e
 |dK e=>rw[h]at e;cases e
 |dT e=>rw[h]at e;cases e
end
section
variable {X:Cx}{cS c P fR:Addr}{fn:Str}{kf:Nat}{ps:List Str}{sp:Sp}
structure tZ (params:Arguments) (body:Expr) (scope:Scope) (N:List Str):Prop where
 kind:scope.kind=.function
 co:scope.isCoroutine=false
 gen:scope.isGenerator=false
 iQ:∀z∈scope.names,z.2≠.cell
 only:∀z∈scope.names,z.2=.free→z.1∈N
 free:∀x∈N,scope.names.lookup x=some .free
 bind:∀(q:Str) (cl:List (Str×Addr)) (pm:Value) (c:Addr) (ct:Value),bindArgs (PySem.W.kla_fn "<lambda>" q params body scope cl pm (.ref c) ct) ⟨[],[]⟩=pure []
def qr (X:Cx) (kf:Nat) (C:Addr) (f:Addr) (q:Str) (bd:Expr) (scope:Scope) (cl:List (Str×Addr)) (N:List Str) (ws:List V) (Pre:Hp→Prop):Prop:=
 ∀(cY:Heap) (cc:Addr) (A:Around) (outer:List Env) (s2:Shared) (H2:Hp) (Q2:VK) (E2:XK),bP kf (A.deeper (PySem.W.envX q scope s2.heap.objs.size f (.ref cc) cl))→Pre H2→(∀e H',ae H2 H'→E2 (.ref e) (some C) H')→
  ∃t,PE (jD X.prog X.w X.K X.mg cY N q scope f (.ref cc) cl A outer s2 H2 E2) bd t∧t (ws.map some) H2 Q2
end
section
variable {Y:Cx}{cS fR:Addr}{kf:Nat}
theorem Pz {pins:List (Addr×Obj)}{σ:L2.St}{H:Hp}{s:Shared}{f C:Addr}{iC:Nat}{q:Str}{params:Arguments}{bd:Expr}{scope:Scope}{cl:List (Str×Addr)}{Q:VK}{N:List Str}{ws:List V}{Pre:Hp→Prop}
  (hR:∀b',Def Y.prog Y.w Y.K Y.mg b' (kf+2) "_law_word" ["_law_call"] (ow Y.prog Y.w Y.K Y.mg b' cS (kf+1))) (room:bP (kf+2) Y.A) (mR:Y.mg "_law_word" =some (.ref fR))
  (LS:tZ params bd scope N) (I:Inv Y pins σ H s) (hl:jJ H f q params bd scope cl) (hlen:ws.length=N.length) (fP:∀(i:Nat) x v,N[i]? =some x→ws[i]? =some v→ue Y cl x v H s) (bS:∀z c,cl.lookup z=some c→(z,NameKind.free)∈scope.names)
  (KI:∀a b c,cl.lookup a=some c→cl.lookup b=some c→a=b) (M:mn Y.K Y.mg cS C iC) (bad:qr Y kf C f q bd scope cl N ws Pre) (pre:Pre H) (hq:∀H',ae H H'→Q (.str (wordOf iC)) H'):
  wpAny (model Y.prog Y.w) Y.A (call (.ref fR) [.ref f]) (EP Y pins σ Q) Y.xe s:=by
 obtain⟨cY,st,e0,bU⟩:=I.rebase
 obtain⟨pm,cc,ct,hf,hc⟩:=hl
 have T:Cells cY scope cl N ws:=⟨hlen,fun u hu=>by
   rcases hu with hu |hu
   ·exact absurd rfl (LS.iQ _ (PySem.mem_of_lookup hu))
   ·exact LS.only _ (PySem.mem_of_lookup hu) rfl,fun i a v h1 h2=>by
   obtain⟨ax,ux,lx,⟨ox,gx,dx⟩,rx,nx,fx⟩:=fP i a v h1 h2
   exact⟨LS.free a (List.mem_of_getElem? h1),ax,ux,lx,⟨ox,bU _ _ gx nx fx,dx⟩,rx⟩,fun u c h=>LS.only _ (bS u c h) rfl,KI⟩
 have FL:aA Y.prog Y.w Y.K Y.mg cY (bH Y.prog Y.w) (kf+1) f (PySem.W.kla_fn "<lambda>" q params bd scope cl pm (.ref cc) ct) []
   (fun vs H2 Q2 E2=> (vs=[]∧H2 f=some (nA f q params bd scope cl pm cc ct)∧H2 cc=some (gH cc q))∧Pre H2∧∀e H',ae H2 H'→E2 (.ref e) (some C) H'):=by
  refine Oh (k:=kf) T LS.kind LS.co LS.gen LS.iQ (fun vs H2 Q2 E2 h=>h.1) fun A outer s2 H2 Q2 E2 fe h=> ?_
  exact bad cY cc A outer s2 H2 Q2 E2 fe h.2.1 h.2.2
 obtain⟨SN,L5,FR,dE,hk,hb⟩:=hR cY
 rw[mR]at dE
 cases dE
 refine wpAny_call (codeAny_mono (FR.run Y.A Y.stack s H ⟨[.ref f],[]⟩ [.ref f] [.ref f] Q E0 room e0 (hb s [.ref f] I.cG rfl) (.cons rfl .nil)
  ⟨f,_,_,C,iC,rfl,M,fun h ah=> ?_,FL,fun s2=> .of_eq (LS.bind q cl pm cc ct),fun Q' E' hE=> ⟨⟨rfl,hf,hc⟩,pre,hE⟩,hq⟩) fun r s' h=> ?_)
 ·have z:h.get? f=some _:=(ah f _ hf).1
  exact⟨_,_,_,_,z⟩
 ·cases r with
  |error e=>exact h.elim
  |ok fl=>
   cases fl with
   |ret u=>exact I.after h
   |next=>exact False.elim h
   |brk=>exact False.elim h
   |cont=>exact False.elim h
end
section
variable {X:Cx}{cS c P fR:Addr}{kf:Nat}
theorem Pn {pins:List (Addr×Obj)}{σ:L2.St}{H:Hp}{s:Shared}{N':List Str}{scope oG:Scope}{C:Addr}{s0:Shared}{H0:Hp}{fp:List Addr}{x:Str}{v:V}{p0:List (Addr×Obj)}{jL:L2.St}(I0:Inv X p0 jL H0 s0) (hf:∀b∈fp,bV X p0 H0 b) (c0:ue X (cR oG X.env) x v H0 s0) (hk:X.env.scope.names.lookup x=some .cell)
  (J:Inv (aG X N' scope C s0 H0 fp) pins σ H s):ue (aG X N' scope C s0 H0 fp) (cR oG X.env) x v H s:=by
 obtain⟨c,u,h1,⟨o,h2,h3⟩,h4,h5,h6⟩:=c0
 have u0:Un (aT X.stack) fp H0 H s0.heap s.heap:=J.base
 have Av:c∉fp:=fun hm=>by
  obtain⟨a,ha⟩:=I0.ok.has x (.inl hk)
  have e1:=(Yn h1).1
  rw[ha]at e1
  have z:c=a:=e1
  subst z
  obtain⟨_,_,_,_,f4,_⟩:=hf c hm
  exact f4 x c ha rfl
 exact⟨c,u,h1,⟨o,u0.keep c o h2 h5 h6 Av,h3⟩,h4,u0.free c o h2 h5 Av,h6⟩
structure Ej (X:Cx) (cS:Addr) (kf:Nat) (jL:L2.St) (H:Hp) (f:Addr) (iC:Nat) (params:Arguments) (bd:Expr) (scope:Scope) (N:List Str) (idx:List Nat) (ws:List V) (C:Addr) (Pre:Hp→Prop):Prop where
 ls:tZ params bd scope N
 hN:idx.length=N.length
 ln:∀(k:Nat) x i,N[k]? =some x→idx[k]? =some i→LN X x i
 Ip:ws.length=idx.length
 lr:∀(k i:Nat) v,idx[k]? =some i→ws[k]? =some v→jL[i]? =some (some v)
 fr:∀z∈scope.names,z.2=.free→X.env.kindOf z.1=some .cell∨X.env.kindOf z.1=some .free
 lam:jJ H f (lq X) params bd scope (cR scope X.env)
 mr:mn X.K X.mg cS C iC
 body:qr X kf C f (lq X) bd scope (cR scope X.env) N ws Pre
 pre:Pre H
def EC (X:Cx) (cS:Addr) (kf:Nat) (jL:L2.St):TE:=fun σ H Q=> ∃f iC,σ[0]? =some (some (.ref f))∧(∃params bd scope N idx ws C Pre,Ej X cS kf jL H f iC params bd scope N idx ws C Pre)∧∀H',ae H H'→Q (.str (wordOf iC)) H'
theorem OR {N':List Str}{bs:Scope}{B:Addr}{s0:Shared}{H0:Hp}{fp:List Addr}{p0:List (Addr×Obj)}{jL:L2.St}{p p' pos:Pos}{cn:Str}
  (hR:∀b',Def X.prog X.w X.K X.mg b' (kf+2) "_law_word" ["_law_call"] (ow X.prog X.w X.K X.mg b' cS (kf+1))) (room:bP (kf+2) X.A) (mR:X.mg "_law_word" =some (.ref fR)) (kR:PySem.W.keepIn X.K (.ref fR)=true) (I0:Inv X p0 jL H0 s0) (hf:∀b∈fp,bV X p0 H0 b)
  (hg:Gl (aG X N' bs B s0 H0 fp) "_law_word") (hv:PE (aG X N' bs B s0 H0 fp) (.Name cn p') (oh 0)):
  PE (aG X N' bs B s0 H0 fp) (.Call (.Name "_law_word" p) [.Name cn p'] [] pos) (EC X cS kf jL):=by
 intro pins s σ H Q J h
 obtain⟨f,iC,lr,⟨params,bd,scope,N,idx,ws,C,Pre,ask⟩,q⟩:=h
 refine wpAny_Call_Name_kw (Jg J hg mR ?_ (by decide))
 have ha:PA (aG X N' bs B s0 H0 fp) [.Name cn p'] _:=Za hv Zb
 refine PySem.W.callWith_K (h₀:=X.base) J.ok.mod.nB kR (au (ha pos pins s σ H (fun vs H1=>vs=[.ref f]∧H1=H) J ⟨_,lr,rfl,rfl⟩) fun us s3 ⟨vs,H1,J1,r,ev,eh⟩=> ⟨J1.cG,?_⟩) rfl rfl
 subst ev eh
 obtain⟨u,rfl,ru⟩:=vals1 r
 cases ru
 refine Pz (Y:=aG X N' bs B s0 H0 fp) (kf:=kf) hR room mR ask.ls J1 ask.lam (by rw[ask.Ip,ask.hN]) (fun i x v h1 h2=> ?_) (fun z c h=>Nb h) (fun a b c h1 h2=> ?_) ask.mr ask.body ask.pre q
 ·have hi:i<idx.length:=by
   have:=(List.getElem?_eq_some_iff.mp h1).1
   rw[ask.hN]
   exact this
  have ei:=List.getElem?_eq_getElem hi
  have n:=ask.ln i x _ h1 ei
  exact Pn I0 hf (Po I0 n.nx (ask.lr i _ v ei h2) n.kx n.fx (PySem.mem_of_lookup (ask.ls.free x (List.mem_of_getElem? h1)))) n.kx J1
 obtain⟨e1,m1⟩:=Yn h1
 obtain⟨e2,m2⟩:=Yn h2
 obtain⟨c1,g1⟩:=I0.ok.has a (ask.fr _ m1 rfl)
 obtain⟨c2,g2⟩:=I0.ok.has b (ask.fr _ m2 rfl)
 rw[g1]at e1
 rw[g2]at e2
 have z1:c1=c2:=by
  have y1:_=c1:=e1
  have y2:_=c2:=e2
  rw[←y1,←y2]
 subst z1
 exact I0.ok.inj _ _ _ g1 g2
def qc (fn x y:Str) (p1 p2 p3 p4:Pos):Expr:=.Call (.Name fn p1) [.Name x p2,.Name y p3] [] p4
theorem xQ {k':Nat}{fn x y:Str}{ps:List Str}{sp:Sp}{scope:Scope}{C f:Addr}{q:Str}{cl:List (Str×Addr)}{vx vy:V}{p1 p2 p3 p4:Pos}(aK:k'≤kf) (hU:∀b',cf X.prog X.w X.K X.mg b' k' fn ps sp) (gl:scope.names.lookup fn=some .globalImplicit)
  (kx:scope.names.lookup x=some .free) (ky:scope.names.lookup y=some .free) (dx:(x==("__debug__" :Str))=false) (dy:(y==("__debug__" :Str))=false)
  (ex:(x==("__classdict__" :Str))=false) (ey:(y==("__classdict__" :Str))=false) (pQ:(fn==("__debug__" :Str))=false):
  qr X kf C f q (qc fn x y p1 p2 p3 p4) scope cl [x,y] [vx,vy] (yn sp [vx,vy] C):=by
 intro cY cc A outer s2 H2 Q2 E2 hr pre hE
 obtain⟨g,fd,F,hg,hk,hb⟩:=hU cY
 refine⟨_,Jb (X:=jD X.prog X.w X.K X.mg cY [x,y] q scope f (.ref cc) cl A outer s2 H2 E2) F (hr.mono aK) gl hg hk hb .nil (E:=E2) (vG (X:=jD X.prog X.w X.K X.mg cY [x,y] q scope f (.ref cc) cl A outer s2 H2 E2) (fun e s' z=>z) rfl rfl rfl)
  (Za (Jr (i:=0) rfl (.inr (.inr kx)) dx ex) (Za (Jr (i:=1) rfl (.inr (.inr ky)) dy ey) Zb)) pQ,?_⟩
 exact⟨vx,rfl,vy,rfl,pre Q2 E2 hE⟩
abbrev bR:Arguments:= {posonlyargs:=[],args:=[],vararg:=none,kwonlyargs:=[],kw_defaults:=[],kwarg:=none,defaults:=[]}
def jI (X:Cx) (H:Hp) (v:V) (b:Expr×Scope):Prop:=∃f:Addr,v=.ref f∧jJ H f (lq X) bR b.1 b.2 (cR b.2 X.env)
theorem jI.same {H H':Hp}{v:V}{b:Expr×Scope}(h:jI X H v b) (s:ae H H'):jI X H' v b:=by
 obtain⟨f,e,l⟩:=h
 exact⟨f,e,l.same s⟩
theorem jI.x {H H':Hp}{v:V}{b:Expr×Scope}{p:Addr}{o:HO}(h:jI X H v b) (s:aL p H H') (hp:H p=some o) (ho:∀F,o≠.ext F):jI X H' v b:=by
 obtain⟨f,e,pm,c,ct,h1,h2⟩:=h
 exact⟨f,e,pm,c,ct,s _ _ h1 (fun z=>by rw[z,hp]at h1;cases h1;exact ho _ rfl),s _ _ h2 (fun z=>by rw[z,hp]at h2;cases h2;exact ho _ rfl)⟩
structure kB (X:Cx) (P L:Addr) (H0 H:Hp) (bs:List (Expr×Scope)):Prop where
 sx:aL P H0 H
 fr:H0 L=none
 tb:TabAt H P (lq X)
 ls:∃vs,H L=some (.lst vs)∧Paired (jI X H) vs bs
theorem kB.lst {L:Addr}{H0 H:Hp}{bs:List (Expr×Scope)}(h:kB X P L H0 H bs):∃vs,H L=some (.lst vs)∧vs.length=bs.length:=by
 obtain⟨vs,hL,pr⟩:=h.ls
 exact⟨vs,hL,Paired.length pr⟩
theorem kB.cE {L:Addr}{H0 H H1:Hp}{bs:List (Expr×Scope)}{vs:List V}(h:kB X P L H0 H bs) (hv:H L=some (.lst vs)) (s1:aL P H H1):H1 L=some (.lst vs):=by
 obtain⟨tp,pX,_⟩:=h.tb
 exact s1 _ _ hv fun z=>by rw[z,pX]at hv;cases hv
theorem kB.app {L f:Addr}{H0 H H1:Hp}{bs:List (Expr×Scope)}{bd:Expr}{sc:Scope}{vs:List V}(h:kB X P L H0 H bs) (hv:H L=some (.lst vs)) (s1:aL P H H1) (t1:TabAt H1 P (lq X)) (l1:jJ H1 f (lq X) bR bd sc (cR sc X.env)):kB X P L H0 (upd H1 L (.lst (vs++[.ref f]))) (bs++[(bd,sc)]):=by
 have eP:=h.cE hv s1
 obtain⟨sx,fr,tb,mG,hL,pr⟩:=h
 rw[hv]at hL
 cases hL
 obtain⟨tp,pX,_⟩:=id tb
 have x2:aL L H1 (upd H1 L (.lst (vs++[.ref f]))):=aL.upd
 have p1:Paired (jI X (upd H1 L (.lst (vs++[.ref f])))) vs bs:=Paired.br pr fun v b h=> (h.x s1 pX (fun _ z=>by cases z)).x x2 eP (fun _ z=>by cases z)
 exact⟨Qs (sx.trans s1) fr,fr,CQ t1 x2 eP (fun _ z=>by cases z) (fun _ z=>by cases z),_,Zc,Paired.snoc p1 (jI.x (b:=(bd,sc)) ⟨f,rfl,l1⟩ x2 eP (fun _ z=>by cases z))⟩
theorem Oj {H0 H1:Hp}{L f:Addr}{bd:Expr}{sc:Scope}(tb:TabAt H0 P (lq X)) (s1:aL P H0 H1) (t1:TabAt H1 P (lq X)) (l1:jJ H1 f (lq X) bR bd sc (cR sc X.env)) (hL:H1 L=none):kB X P L H0 (upd H1 L (.lst [.ref f])) [(bd,sc)]:=by
 obtain⟨RD,L9,_⟩:=id t1
 have s2:=Zm (o:=.lst [V.ref f]) hL
 have Hn:L≠P:=fun z=>by rw[z,L9]at hL;cases hL
 have fr:H0 L=none:=by
  cases h:H0 L with
  |none=>rfl
  |some u=>rw[s1 _ _ h Hn]at hL;cases hL
 exact⟨s1.trans s2.x,fr,UP t1 s2,_,Zc,.cons ⟨f,rfl,l1.same s2⟩ .nil⟩
end
section
theorem Qd {K:PySem.W.Frag}{H:Hp}{Pt:Addr}{ps:Array Value}{v:V}(t:fU K H v) (h:H Pt=some (.bO ps)):nU Pt H v:=⟨Ur t.1 h,fun xs e y hy=>Ur (t.2 xs e y hy) h⟩
theorem bN.x {H H':Hp}{p:Addr}{x:V}{wd hg:Int}(b:bN H x wd hg) (s:aL p H H') (hn:x≠.ref p):bN H' x wd hg:=by
 obtain⟨a,e,h⟩:=ZC b.1
 subst e
 exact⟨Zu (s _ _ h fun z=>hn (by rw[z])),b.2⟩
theorem bN.bO {H:Hp}{Pt:Addr}{ps:Array Value}{x:V}{wd hg:Int}(b:bN H x wd hg) (h:H Pt=some (.bO ps)):x≠.ref Pt:=by
 obtain⟨a,e,h'⟩:=ZC b.1
 subst e
 intro z
 cases z
 rw[h]at h'
 cases h'
end
section
variable {P:Program}{w:World}{K:PySem.W.Frag}{mg:Str→Option Value}{base:Heap}
theorem vR {fn x y:Str}{p1 p2 p3 p4:Pos}{scope:Scope}(h:(decide (scope.kind=.function)&& !scope.isCoroutine&& !scope.isGenerator&&scope.names.all (fun z=>z.2 !=.cell)&&scope.names.all (fun u=>u.2 !=.free||(u.1==x||u.1==y))&&(scope.names.lookup x==some .free)&&(scope.names.lookup y==some .free))=true):tZ bR (qc fn x y p1 p2 p3 p4) scope [x,y]:=by
 simp only[Bool.and_eq_true,Bool.not_eq_true',decide_eq_true_eq,beq_iff_eq,List.all_eq_true,bne_iff_ne,ne_eq,Bool.or_eq_true]at h
 obtain⟨⟨⟨⟨⟨⟨h1,h2⟩,h3⟩,h4⟩,h5⟩,h6⟩,h7⟩:=h
 refine⟨h1,h2,h3,h4,fun u hu e=> ?_,fun u hu=> ?_,fun _ _ _ _ _=>rfl⟩
 ·rcases h5 u hu with z |z
  ·exact absurd e z
  ·simpa using z
 ·simp only[List.mem_cons,List.not_mem_nil,or_false]at hu
  rcases hu with rfl |rfl
  ·exact h6
  ·exact h7
theorem vT {X:Cx}{x y:Str}{i j:Nat}(a:LN X x i) (b:LN X y j):∀(k:Nat) u m,([x,y]:List Str)[k]? =some u→([i,j]:List Nat)[k]? =some m→LN X u m
 |0,_,_,h1,h2=>by cases h1;cases h2;exact a
 |1,_,_,h1,h2=>by cases h1;cases h2;exact b
theorem at2 {σ:L2.St}{x y:V}{i j:Nat}(a:σ[i]? =some (some x)) (b:σ[j]? =some (some y)):∀(k m:Nat) (v:V),([i,j]:List Nat)[k]? =some m→([x,y]:List V)[k]? =some v→σ[m]? =some (some v)
 |0,_,_,h1,h2=>by cases h1;cases h2;exact a
 |1,_,_,h1,h2=>by cases h1;cases h2;exact b
end
section
variable {P:Program}{w:World}{K:PySem.W.Frag}{mg:Str→Option Value}{base:Heap}{cB cL:Addr}
abbrev rg:Stmt:=top 21
def qT (K:PySem.W.Frag):Sp:=fun vs H Q _=> ∃x a b,vs=[x,.int a,.int b]∧dr K H x∧cF x a b=true∧Q .af H
theorem zx:bg ["number", "least", "most"] ["number", "least", "most"] (ay rg):=⟨rfl,rfl,rfl,by decide+kernel,rfl,by decide+kernel,by decide+kernel⟩
theorem Nw {f:Addr}{fd:FuncData}(F:aH K "need_whole_within" "need_whole_within" rg f fd) (D1:Def P w K mg base 2 "is_whole_within" ["thing", "least", "most"] (mM K)):aA P w K mg base aI 3 f fd ["number", "least", "most"] (qT K):=by
 refine F.ok zx (fun vs H Q E h=> ?_) (fun ao A outer s H vs Q E hr h=> ?_)
 ·obtain⟨x,a,b,rfl,_⟩:=h
  rfl
 ·obtain⟨x,a,b,rfl,t,hw,q⟩:=h
  refine⟨_,Zk (ZW (Yp (ZZ (Zh D1 hr (Za (pv 0) (Za (pv 1) (Za (pv 2) Zb)))))) Zw ZG),?_⟩
  refine⟨x,rfl,_,rfl,_,rfl,x,a,b,rfl,t,_,rfl,?_⟩
  rw[hw]
  exact aV q
def uI (K:PySem.W.Frag) (cN:Addr):Sp:=fun vs H _ E=> ∃x b,vs=[x,.int 0,.int b]∧0≤b∧b≤12∧dr K H x∧cF x 0 b=false∧∀e H',ae H H'→E (.ref e) (some cN) H'
theorem NC {cN:Addr}{f:Addr}{fd:FuncData}(F:aH K "need_whole_within" "need_whole_within" rg f fd) (X:Exc K mg "NoNumber" cN) (D1:Def P w K mg base 2 "is_whole_within" ["thing", "least", "most"] (mM K)):aA P w K mg base (bH P w) 3 f fd ["number", "least", "most"] (uI K cN):=by
 refine F.jS zx (fun vs H Q E h=> ?_) (fun ao A outer s H vs Q E hr h=> ?_)
 ·obtain⟨x,b,rfl,_⟩:=h
  rfl
 ·obtain⟨x,b,rfl,b0,b1,t,hw,q⟩:=h
  refine⟨_,Zk (ZW (Yp (ZZ (Zh D1 hr (Za (pv 0) (Za (pv 1) (Za (pv 2) Zb)))))) (Zk (J5 PySem.F.excBase_ValueError X.m X.x rfl (Za (UW Yd (pv 1) Yd (pv 2) Yd) Zb))) ZG),?_⟩
  refine⟨x,rfl,_,rfl,_,rfl,x,0,b,rfl,t,_,rfl,?_⟩
  rw[hw]
  have c:b=0∨b=1∨b=2∨b=3∨b=4∨b=5∨b=6∨b=7∨b=8∨b=9∨b=10∨b=11∨b=12:=by omega
  refine aW ⟨_,rfl,by decide,_,rfl,0,rfl,by decide,by decide,_,rfl,by decide,_,rfl,b,rfl,?_,?_,_,rfl,?_,fun z=> ⟨by show 1≤sizeLine;decide,fun e=>q e H (ae.refl H)⟩⟩<;>
   rcases c with rfl |rfl |rfl |rfl |rfl |rfl |rfl |rfl |rfl |rfl |rfl |rfl |rfl<;>decide
end
section
variable {P:Program}{w:World}{K:PySem.W.Frag}{mg:Str→Option Value}{base:Heap}
abbrev vf:Stmt:=top 54
def uG (K:PySem.W.Frag):Sp:=fun vs H Q _=> ∃(q:Addr) (b:Int),vs=[.ref q,.int 0,.int b]∧iF H q∧0≤b∧b≤12∧∀v H',aL q H H'→iF H' q→dr K H' v→cF v 0 b=false→v≠.ref q→Q v H'
theorem zu:bg ["_law_state_here", "_law_low", "_law_high", "_law_some"] ["_law_state_here", "_law_low", "_law_high"] (ay vf):=⟨rfl,rfl,rfl,by decide+kernel,rfl,by decide+kernel,by decide+kernel⟩
theorem Nv {f:Addr}{fd:FuncData}(F:aH K "_law_no_number" "_law_no_number" vf f fd) (D1:Def P w K mg base 1 "_law_take" ["_law_state_here", "_law_many"] oA):aA P w K mg base aI 2 f fd ["_law_state_here", "_law_low", "_law_high"] (uG K):=by
 refine F.ok zu (fun vs H Q E h=> ?_) (fun ao A outer s H vs Q E hr h=> ?_)
 ·obtain⟨q,b,rfl,_⟩:=h
  rfl
 ·obtain⟨q,b,rfl,st,b0,b1,k⟩:=h
  refine⟨_,Ze (ZA (i:=3) zu.nd rfl (Or.inl rfl) (ZI (Za (Zq Ys (pv 1) Zi) (Za (Zq Yl (pv 2) Zi) (Za Yr (Za WR (Za Yd (Za (ZH (Za (pv 1) Zb)) (Za (ZI (Za (pv 1) Zb)) (Za (Zq Uw Zi Zi) (Za (Zq Ys Zi (Zq Uw Zi Zi)) (Za WR Zb))))))))))))
   (Zk (Zs (ZO ZV (pv 3) (Zh D1 hr (Za (pv 0) (Za Zi Zb))) (fun _ _=>rfl)))),?_⟩
  refine Zo (ZK ⟨_,rfl,_,_,rfl,rfl,_,rfl,_,_,rfl,rfl,_,rfl,(by show 1≤sizeLine;decide),fun t ht=> ?_⟩)
  have s1:=Zm (o:=.tup [V.int 0]) ht
  have e1:upd H t (.tup [V.int 0]) t=some (.tup [V.int 0]):=Zc
  generalize upd H t (HO.tup [V.int 0])=H1 at s1 e1
  refine⟨_,rfl,(by show 1≤sizeLine;decide),fun m hm=> ?_⟩
  have s2:=Zm (o:=.lst [V.int 0]) hm
  have e2:upd H1 m (.lst [V.int 0]) m=some (.lst [V.int 0]):=Zc
  have nm:=s1.free hm
  generalize upd H1 m (HO.lst [V.int 0])=H2 at s2 e2
  refine⟨_,_,rfl,rfl,⟨by decide,by decide,by decide⟩,_,_,rfl,rfl,⟨by decide,by decide,by decide⟩,_,_,rfl,rfl,(by show 10≤sizeLine;decide),fun L hL=>Zn ?_⟩
  dsimp only[List.set]
  generalize hS:[V.int (0 - 1),V.int (b+1),V.af,V.bl true,V.str "0",V.ref t,V.ref m,V.int (10^(39:Int).toNat),V.int (0 - 10^(39:Int).toNat),V.bl false]=S
  have lS:S.length=10:=by rw[←hS];rfl
  show uq _ _ [some (.ref q),some (.int 0),some (.int b),some (.ref L)] (upd H2 L (.lst S))
  have s3:=Zm (o:=.lst S) hL
  have e3:upd H2 L (.lst S) L=some (.lst S):=Zc
  generalize upd H2 L (HO.lst S)=H3 at s3 e3
  have sA:=s1.trans (s2.trans s3)
  have aU:=st.same sA
  obtain⟨u0,v0,l9,_⟩:=id st
  have Ak:t≠q:=fun z=>by rw[z,l9]at ht;cases ht
  have Aq:m≠q:=fun z=>by rw[z,l9]at nm;cases nm
  have Hk:L≠q:=fun z=>by
   have:=(s1.trans s2) _ _ l9
   rw[←z,hL]at this
   cases this
  refine⟨_,rfl,_,rfl,q,10,rfl,aU,by decide,by decide,fun r o h0 SK eR=> ?_⟩
  have x4:aL q H3 (upd H3 q o):=aL.upd
  have aw:r.toNat<S.length:=by rw[lS];omega
  have pM:=List.getElem?_eq_getElem aw
  have lP:=YV pM
  rw[Int.toNat_of_nonneg h0]at lP
  refine⟨L,_,_,_,rfl,rfl,ag.of (x4 _ _ e3 Hk),lP,?_⟩
  have dE:S[r.toNat]∈S:=List.getElem_mem aw
  generalize S[r.toNat]=v at dE
  have Gk:(1000:Int)≤10^(39:Int).toNat:=by decide
  have good:dr K (upd H3 q o) v∧cF v 0 b=false∧v≠.ref q:=by
   rw[←hS]at dE
   generalize (10:Int)^(39:Int).toNat=RF at dE Gk
   have wf:∀i:Int,(i<0∨b<i)→cF (.int i) 0 b=false:=fun i h=>by
    show(decide (0≤i)&&decide (i≤b))=false
    rcases h with h |h
    ·rw[decide_eq_false (by omega),Bool.false_and]
    ·rw[decide_eq_false (show ¬i≤b by omega),Bool.and_false]
   simp only[List.mem_cons,List.not_mem_nil,or_false]at dE
   rcases dE with rfl |rfl |rfl |rfl |rfl |rfl |rfl |rfl |rfl |rfl
   ·exact⟨⟨_,.int _⟩,wf _ (by omega),fun z=>by cases z⟩
   ·exact⟨⟨_,.int _⟩,wf _ (by omega),fun z=>by cases z⟩
   ·exact⟨⟨_,.af⟩,rfl,fun z=>by cases z⟩
   ·exact⟨⟨_,.bl _⟩,rfl,fun z=>by cases z⟩
   ·exact⟨⟨_,.str _⟩,rfl,fun z=>by cases z⟩
   ·exact⟨⟨_,.tup (x4 _ _ ((s2.trans s3) _ _ e1) Ak)⟩,rfl,fun z=>Ak (by cases z;rfl)⟩
   ·exact⟨⟨_,.lst (x4 _ _ (s3 _ _ e2) Aq)⟩,rfl,fun z=>Aq (by cases z;rfl)⟩
   ·exact⟨⟨_,.int _⟩,wf _ (by omega),fun z=>by cases z⟩
   ·exact⟨⟨_,.int _⟩,wf _ (by omega),fun z=>by cases z⟩
   ·exact⟨⟨_,.bl _⟩,rfl,fun z=>by cases z⟩
  exact k v _ (fun c u hc hn=>x4 _ _ (sA _ _ hc) hn) eR good.1 good.2.1 good.2.2
end
end U
namespace U.S
open PySem L2 PyProof.Rows
section
variable {P:Program}{w:World}{K:PySem.W.Frag}{mg:Str→Option Value}{base:Heap}
structure jd (wd hg:Int) (xs:List V):Prop where
 len:(xs.length:Int)=wd
 row:∀r∈rowsOf xs,cF r 0 (hg - 1)=true
 nd:(rowsOf xs).Nodup
theorem jd.is {wd hg:Int}{xs:List V}(h:jd wd hg xs):pe wd hg (some xs)=true:=by
 show(decide ((xs.length:Int)=wd)&&((rowsOf xs).all fun r=>cF r 0 (hg - 1))&&decide (rowsOf xs).Nodup)=true
 rw[decide_eq_true h.len,decide_eq_true h.nd,List.all_eq_true.mpr h.row]
 rfl
end
section
def mU:V→Option Int
 | .int r=>some r
 |_=>none
def rowAt (xs:List V) (i:Nat):Option Int:=xs[i]?.bind mU
abbrev aE:=Int×Int×Int×Int
def qI (xs:List V) (o l:Nat):Option aE:=(rowAt xs l).bind fun a=> (rowAt xs o).map fun b=> ((o:Int) - l,b - a,(l:Int),(o:Int))
def qH (xs:List V) (o j:Nat):List aE:=(List.range j).filterMap (qI xs o)
def gA (xs:List V) (n:Nat):List aE:=(List.range n).flatMap fun o=>qH xs o o
def nT (H:Hp) (v:V) (q:aE):Prop:=∃t t':Addr,v=.ref t∧H t=some (.tup [.ref t',.int q.2.2.1,.int q.2.2.2])∧H t'=some (.tup [.int q.1,.int q.2.1])
def kr (xs:List V):Prop:=∀x∈xs,x=.af∨∃i,x=.int i
theorem jd.ok {wd hg:Int}{xs:List V}(h:jd wd hg xs):kr xs:=fun x hx=>by
 by_cases e:x=.af
 ·exact .inl e
 ·have m:x∈rowsOf xs:=List.mem_filter.mpr ⟨hx,by simp[e]⟩
  have q:=h.row x m
  cases x with
  |int i=>exact .inr ⟨i,rfl⟩
  |_=>cases q
end
section
variable {P:Program}{w:World}{K:PySem.W.Frag}{mg:Str→Option Value}{base:Heap}
theorem Paired.at {α β:Type}{F:α→β→Prop} :∀{jU:List α}{jT:List β}{i:Nat}{a:α},Paired F jU jT→jU[i]? =some a→∃b,jT[i]? =some b∧F a b
 |_,_,_,_,.nil,e=>by simp at e
 |_,_,0,_,.cons r _,e=>by simp at e;subst e;exact⟨_,rfl,r⟩
 |_,_,i+1,a,.cons _ t,e=>by
  obtain⟨u,h1,h2⟩:=Paired.at (i:=i) (a:=a) t (by simpa using e)
  exact⟨u,by simpa using h1,h2⟩
end
section
def Ge (K:PySem.W.Frag):R2:=fun x y H Q=> ∃a b ys,x=.ref a∧y=.ref b∧ai K H a []∧ai K H b ys∧Q (.ref b) H
def vC (K:PySem.W.Frag):R2:=fun x y H Q=>Ge K x y H Q∨zY K x y H Q
theorem JP {X:Cx} :bo X (binaryOp .Add) (vC X.K):=OL.or NH
def aZ (xs:List V):List (Int×Int):=(List.range xs.length).filterMap fun l=> (rowAt xs l).map fun r=> ((l:Int),r)
def qj (H:Hp) (v:V) (q:Int×Int):Prop:=∃t:Addr,v=.ref t∧H t=some (.tup [.int q.1,.int q.2])
def iG (H:Hp) (v:V) (q:aE):Prop:=∃t:Addr,v=.ref t∧H t=some (.tup [.int q.1,.int q.2.1,.int q.2.2.1,.int q.2.2.2])
theorem qj.same {H H':Hp}{v:V}{q:Int×Int}(h:qj H v q) (s:ae H H'):qj H' v q:=by
 obtain⟨t,e,h1⟩:=h
 exact⟨t,e,s _ _ h1⟩
theorem iG.same {H H':Hp}{v:V}{q:aE}(h:iG H v q) (s:ae H H'):iG H' v q:=by
 obtain⟨t,e,h1⟩:=h
 exact⟨t,e,s _ _ h1⟩
def pairsOf (ps:List (Int×Int)) (a:Int×Int) (j:Nat):List aE:=((ps.take j).filter fun b=>decide (a.1<b.1)).map fun b=> (a.1,a.2,b.1,b.2)
def iP (ps:List (Int×Int)) (i:Nat):List aE:=(ps.take i).flatMap fun a=>pairsOf ps a ps.length
def dI (ps:List (Int×Int)):List aE:=iP ps ps.length
theorem Uv {ps:List (Int×Int)}{a b:Int×Int}{j:Nat}(h:ps[j]? =some b):pairsOf ps a (j+1)=pairsOf ps a j++(if decide (a.1<b.1)=true then [(a.1,a.2,b.1,b.2)] else []):=by
 unfold pairsOf
 rw[List.take_add_one,h,List.filter_append,List.map_append]
 cases hh:decide (a.1<b.1)<;>simp_all
theorem Uu {ps:List (Int×Int)}{a:Int×Int}{i:Nat}(h:ps[i]? =some a):iP ps (i+1)=iP ps i++pairsOf ps a ps.length:=by
 unfold iP
 rw[List.take_add_one,h,List.flatMap_append]
 simp
end
section
variable {P:Program}{w:World}{K:PySem.W.Frag}{mg:Str→Option Value}{base:Heap}
abbrev rd:Stmt:=top 27
def fV (H:Hp) (x y:V) (wd hg:Int) (xs:List V):Prop:=bN H x wd hg∧bz H y=some xs∧jd wd hg xs
theorem fV.same {H H':Hp}{x y:V}{wd hg:Int}{xs:List V}(h:fV H x y wd hg xs) (s:ae H H'):fV H' x y wd hg xs:=⟨h.1.same s,s.bz h.2.1,h.2.2⟩
theorem fV.pl {H:Hp}{x y:V}{wd hg:Int}{xs:List V}(h:fV H x y wd hg xs):fU K H y:=by
 obtain⟨a,rfl,ha⟩:=ZC h.2.1
 refine⟨⟨_,.tup ha⟩,fun zs e z hz=> ?_⟩
 rw[h.2.1]at e
 cases e
 rcases h.2.2.ok z hz with rfl |⟨i,rfl⟩
 ·exact⟨_,.af⟩
 ·exact⟨_,.int i⟩
def qS:Sp:=fun vs H Q _=> ∃x y wd hg xs,vs=[x,y]∧fV H x y wd hg xs∧∀H',ae H H'→Q .af H'
theorem FE:bg ["board", "lay"] ["board", "lay"] (ay rd):=⟨rfl,rfl,rfl,by decide+kernel,rfl,by decide+kernel,by decide+kernel⟩
theorem GA {f:Addr}{fd:FuncData}(F:aH K "need_lay" "need_lay" rd f fd) (D1:Def P w K mg base 5 "is_lay" ["board", "thing"] (uL K)):aA P w K mg base aI 6 f fd ["board", "lay"] qS:=by
 refine F.ok FE (fun vs H Q E h=> ?_) (fun ao A outer s H vs Q E hr h=> ?_)
 ·obtain⟨x,y,wd,hg,xs,rfl,_⟩:=h
  rfl
 ·obtain⟨x,y,wd,hg,xs,rfl,l,q⟩:=h
  refine⟨_,Zk (ZW (Yp (ZZ (Zh D1 hr (Za (pv 0) (Za (pv 1) Zb))))) Zw ZG),?_⟩
  refine⟨x,rfl,y,rfl,x,y,wd,hg,rfl,l.1,l.pl,fun H' sm=> ⟨_,rfl,?_⟩⟩
  rw[l.2.1,l.2.2.is]
  exact aV (q H' sm)
def uE:Sp:=fun vs H Q _=> ∃x y wd hg xs,vs=[x,y]∧fV H x y wd hg xs∧∀(l:Addr) (H':Hp) (ps:List V),ae H H'→H l=none→H' l=some (.lst ps)→Paired (qj H') ps (aZ xs)→Q (.ref l) H'
abbrev vd:Stmt:=top 31
def uF:Sp:=fun vs H Q _=> ∃x y wd hg xs,vs=[x,y]∧fV H x y wd hg xs∧∀(l:Addr) (H':Hp) (ps:List V),ae H H'→H l=none→H' l=some (.lst ps)→Paired (iG H') ps (dI (aZ xs))→Q (.ref l) H'
theorem zt:bg ["board", "lay", "found"] ["board", "lay"] (ay vd):=⟨rfl,rfl,rfl,by decide+kernel,rfl,by decide+kernel,by decide+kernel⟩
theorem Gz {f:Addr}{fd:FuncData}(F:aH K "point_pairs" "point_pairs" vd f fd) (D1:Def P w K mg base 7 "points" ["board", "lay"] uE):aA P w K mg base aI 8 f fd ["board", "lay"] uF:=by
 refine F.ok zt (fun vs H Q E h=> ?_) (fun ao A outer s H vs Q E hr h=> ?_)
 ·obtain⟨x,y,wd,hg,xs,rfl,_⟩:=h
  rfl
 ·obtain⟨x,y,wd,hg,xs,rfl,l,q⟩:=h
  refine⟨_,Ze (ZA (i:=2) zt.nd rfl (Or.inr rfl) (Zh D1 hr (Za (pv 0) (Za (pv 1) Zb))))
   (Zk (Zs (ZQ ["line", "row", "other", "there", "found"] 4 [2] (ZP (pv 2))
    (fun C s H fp=>show PG (aG _ _ _ C s H fp) _ (iA K 2 (cI (bT 0) (cI (bT 1) iB))) from Z5 rfl (Zp (pb 0) (Zp (pb 1) ZU))) (fun C s H fp=>ZT)
    (fun C s H fp D=>UV rfl rfl rfl (show PI (aG _ _ _ C s H fp) _ _ (vX K (oh 4)) from ZP (pv 4))
     (show PG (aG _ _ _ C s H fp) _ (iA K 2 (cI (bT 2) (cI (bT 3) iB))) from Z5 rfl (Zp (pb 2) (Zp (pb 3) ZU)))
     (Z3 (ZM CM (pv 0) (pv 2) (cj _))) (Zv rfl (ZH (Za (pv 0) (Za (pv 1) (Za (pv 2) (Za (pv 3) Zb)))))) (by intro _;rfl) (by intro g' h;cases h))))),?_⟩
  refine⟨x,rfl,y,rfl,x,y,wd,hg,xs,rfl,l,fun fa H1 ps s1 eD hf pr=> ?_⟩
  generalize A7:aZ xs=qs at pr q
  have sF:ps.length=qs.length:=Paired.length pr
  have Sx:qs.length≤12:=by
   rw[←A7]
   unfold aZ
   have:=List.length_filterMap_le (fun l:Nat=> (rowAt xs l).map fun r=> ((l:Int),r)) (List.range xs.length)
   rw[List.length_range]at this
   have h1:=l.2.2.len
   have h2:=l.1.2.2.1
   omega
  refine⟨_,rfl,fa,rfl,⟨ps,ag.of hf⟩,?_⟩
  refine ZL (xs:=ps) (fun i ys σ H2=> ∃v0 v1 v2 v3,σ=[v0,v1,v2,v3,some (.ref fa)]∧ae H1 H2∧Paired (iG H2) ys (iP qs i)∧ys.length≤i*12) ⟨_,_,_,_,rfl,ae.refl _,.nil,Nat.zero_le _⟩ (fun i ys σ H2 _ ⟨_,_,_,_,_,s2,_⟩=>ag.of (s2 _ _ hf)) ?_ ?_
  ·rintro i v ys σ H2 hv ⟨v0,v1,v2,v3,rfl,s2,dk,dQ⟩
   obtain⟨a,Ka,t,rfl,ht⟩:=Paired.at pr hv
   have hi:i<ps.length:=(List.getElem?_eq_some_iff.mp hv).1
   refine⟨t,_,rfl,ai.of (s2 _ _ ht),rfl,_,_,rfl,_,_,rfl,rfl,?_⟩
   refine⟨_,rfl,fa,rfl,⟨ps,ag.of (s2 _ _ hf)⟩,?_⟩
   refine ZL (xs:=ps) (fun j ys σ H3=> ∃v2 v3,σ=[some (.int a.1),some (.int a.2),v2,v3,some (.ref fa)]∧ae H1 H3∧Paired (iG H3) ys (iP qs i++pairsOf qs a j)∧ys.length≤i*12+j) ⟨_,_,rfl,s2,by simpa[pairsOf] using dk,dQ⟩ (fun i ys σ H2 _ ⟨_,_,_,s2,_⟩=>ag.of (s2 _ _ hf)) ?_ ?_
   ·rintro j v ys σ H3 fM ⟨v2,v3,rfl,s3,cJ,pK⟩
    obtain⟨b,I9,t',rfl,jt⟩:=Paired.at pr fM
    have hj:j<ps.length:=(List.getElem?_eq_some_iff.mp fM).1
    have es:=Uv (a:=a) I9
    refine⟨t',_,rfl,ai.of (s3 _ _ jt),rfl,_,_,rfl,_,_,rfl,rfl,?_⟩
    refine⟨_,rfl,_,rfl,_,_,rfl,rfl,_,rfl,?_⟩
    cases hh:decide (a.1<b.1) with
    |true=>
     rw[hh]at es
     refine aW ?_
     refine⟨_,rfl,_,rfl,_,rfl,_,rfl,(by show 4≤sizeLine;decide),fun t4 j6=> ⟨by rw[sizeLine_eq];omega,?_⟩⟩
     have s4:ae H3 (upd H3 t4 (.tup [.int a.1,.int a.2,.int b.1,.int b.2])):=fun c o hc=>by rw[Zf (Zg hc j6)];exact hc
     refine⟨_,_,rfl,s3.trans s4,?_,by rw[List.length_append];simp;omega⟩
     rw[es,if_pos rfl,←List.append_assoc]
     exact Paired.snoc (Paired.br cJ fun v q' hq=>hq.same s4) ⟨t4,rfl,Zc⟩
    |false=>
     rw[hh]at es
     refine aV ⟨_,_,rfl,s3,?_,by omega⟩
     rw[es,if_neg Bool.false_ne_true,List.append_nil]
     exact cJ
   ·rintro ys σ H3 ⟨v2,v3,rfl,s3,cJ,pK⟩
    refine⟨_,_,_,_,rfl,s3,?_,by omega⟩
    rw[Uu Ka,←sF]
    exact cJ
  ·rintro ys σ H2 ⟨v0,v1,v2,v3,rfl,s2,dk,dQ⟩ p hp
   have s4:ae H2 (upd H2 p (.lst ys)):=fun c o hc=>by rw[Zf (Zg hc hp)];exact hc
   refine q p _ ys (s1.trans (s2.trans s4)) ((s1.trans s2).free hp) Zc ?_
   rw[sF]at dk
   exact Paired.br dk fun v q' hq=>hq.same s4
end
section
def iO (xs:List V) (n:Nat):List (Int×Int):=(List.range n).filterMap fun l=> (rowAt xs l).map fun r=> ((l:Int),r)
theorem Y0 (xs:List V) (n:Nat):iO xs (n+1)=iO xs n++((rowAt xs n).map fun r=> ((n:Int),r)).toList:=by
 unfold iO
 rw[List.range_succ,List.filterMap_append]
 cases h:rowAt xs n<;>simp[h]
end
section
variable {P:Program}{w:World}{K:PySem.W.Frag}{mg:Str→Option Value}{base:Heap}
abbrev vc:Stmt:=top 29
theorem FC:bg ["board", "lay"] ["board", "lay"] (ay vc):=⟨rfl,rfl,rfl,by decide+kernel,rfl,by decide+kernel,by decide+kernel⟩
theorem Gx {f:Addr}{fd:FuncData}(F:aH K "points" "points" vc f fd) (G:Gs mg) (D1:Def P w K mg base 6 "need_lay" ["board", "lay"] qS):aA P w K mg base aI 7 f fd ["board", "lay"] uE:=by
 refine F.ok FC (fun vs H Q E h=> ?_) (fun ao A outer s H vs Q E hr h=> ?_)
 ·obtain⟨x,y,wd,hg,xs,rfl,_⟩:=h
  rfl
 ·obtain⟨x,y,wd,hg,xs,rfl,l,q⟩:=h
  refine⟨_,Ze (Zx (Zh D1 hr (Za (pv 0) (Za (pv 1) Zb))))
   (Zk (Zs (ZQ ["line", "row"] 2 [] (NP rfl G.enumerate (Za (pv 1) Zb))
    (fun C s H fp=>show PG (aG _ _ _ C s H fp) _ (iA K 2 (cI (bT 0) (cI (bT 1) iB))) from Z5 rfl (Zp (pb 0) (Zp (pb 1) ZU)))
    (fun C s H fp=>Z3 (Jp (Ut (pv 1)))) (fun C s H fp D=>Zv rfl (ZH (Za (pv 0) (Za (pv 1) Zb))))))),?_⟩
  refine⟨x,rfl,y,rfl,x,y,wd,hg,xs,rfl,l,fun H1 s1=> ?_⟩
  obtain⟨a,rfl,ha⟩:=ZC (l.same s1).2.1
  have hlen:xs.length≤12:=by
   have h1:=l.2.2.len
   have h2:=l.1.2.2.1
   omega
  refine⟨_,rfl,a,rfl,⟨xs,ai.of ha⟩,?_⟩
  refine Qa (xs:=xs) (fun i ys σ H2=> ∃v0 v1,σ=[v0,v1]∧ae H1 H2∧Paired (qj H2) ys (iO xs i)∧ys.length≤i) ⟨_,_,rfl,ae.refl _,.nil,Nat.zero_le _⟩ (fun i ys σ H2 _ ⟨_,_,_,s2,_⟩=>ai.of (s2 _ _ ha)) ?_ ?_
  ·rintro i v T ys σ H2 hv hT ⟨v0,v1,rfl,s2,dk,dQ⟩
   have hi:i<xs.length:=(List.getElem?_eq_some_iff.mp hv).1
   have sT:ae H2 (upd H2 T (.par [.int (i:Int),v])):=fun c o hc=>by rw[Zf (Zg hc hT)];exact hc
   have er:rowAt xs i=mU v:=by unfold rowAt;rw[hv];rfl
   refine⟨T,_,rfl,ai.nh Zc,rfl,_,_,rfl,_,_,rfl,rfl,?_⟩
   refine⟨_,rfl,_,rfl,?_⟩
   generalize BO:upd H2 T (HO.par [V.int (i:Int),v])=H3 at sT
   rcases l.2.2.ok v (List.mem_of_getElem? hv) with rfl |⟨r,rfl⟩
   ·refine aV ⟨_,_,rfl,s2.trans sT,?_,by omega⟩
    rw[Y0,er]
    exact(by simpa[mU] using Paired.br dk fun v q' hq=>hq.same sT)
   ·refine aW ?_
    refine⟨_,rfl,_,rfl,(by show 2≤sizeLine;decide),fun t ht=> ⟨by rw[sizeLine_eq];omega,?_⟩⟩
    have s4:ae H3 (upd H3 t (.tup [.int (i:Int),.int r])):=fun c o hc=>by rw[Zf (Zg hc ht)];exact hc
    refine⟨_,_,rfl,s2.trans (sT.trans s4),?_,by rw[List.length_append];simp;omega⟩
    rw[Y0,er]
    exact Paired.snoc (Paired.br dk fun v q' hq=>hq.same (sT.trans s4)) ⟨t,rfl,Zc⟩
  ·rintro ys σ H2 ⟨v0,v1,rfl,s2,dk,dQ⟩ p hp
   have s4:ae H2 (upd H2 p (.lst ys)):=fun c o hc=>by rw[Zf (Zg hc hp)];exact hc
   exact q p _ ys (s1.trans (s2.trans s4)) ((s1.trans s2).free hp) Zc (Paired.br dk fun v q' hq=>hq.same s4)
end
end U.S
namespace U.S
open PySem L2 PyProof.Rows PyProof.Rows.jH
section
def dW (p:aE):aE:=(p.2.2.1 - p.1,p.2.2.2 - p.2.1,p.1,p.2.2.1)
def mj (ks:List aE):Prop:=(ks.map bf).Pairwise fun a b=>aC b a=false
theorem nT.same {H H':Hp}{v:V}{q:aE}(h:nT H v q) (s:ae H H'):nT H' v q:=by
 obtain⟨t,t',e,h1,h2⟩:=h
 exact⟨t,t',e,s _ _ h1,s _ _ h2⟩
theorem NS (xs:List V):(aZ xs).length≤xs.length:=by
 unfold aZ
 have:=List.length_filterMap_le (fun l:Nat=> (rowAt xs l).map fun r=> ((l:Int),r)) (List.range xs.length)
 rw[List.length_range]at this
 exact this
theorem Ds {α β:Type}(f:α→List β) (n:Nat):∀l:List α,(∀a∈l,(f a).length≤n)→(l.flatMap f).length≤l.length*n
 | [],_=>by simp
 |a::l,h=>by
  have h1:=h a List.mem_cons_self
  have h2:=Ds f n l fun b hb=>h b (List.mem_cons_of_mem _ hb)
  rw[List.flatMap_cons,List.length_append,List.length_cons,Nat.succ_mul]
  omega
theorem Pq (ps:List (Int×Int)):(dI ps).length≤ps.length*ps.length:=by
 unfold dI iP
 rw[List.take_length]
 refine Ds _ _ _ fun a _=> ?_
 unfold pairsOf
 rw[List.length_map]
 refine Nat.le_trans (List.length_filter_le ..) ?_
 rw[List.length_take]
 exact Nat.min_le_right ..
theorem HQ {H:Hp}{x y:V}{wd hg:Int}{xs:List V}(l:fV H x y wd hg xs):xs.length≤12:=by
 have h1:=l.2.2.len
 have h2:=l.1.2.2.1
 omega
theorem Ag {H:Hp}{x y:V}{wd hg:Int}{xs:List V}(l:fV H x y wd hg xs):(dI (aZ xs)).length≤144:=by
 have h1:=Pq (aZ xs)
 have h2:=NS xs
 have h3:=HQ l
 have h4:(aZ xs).length≤12:=by omega
 have h5:=Nat.mul_le_mul h4 h4
 omega
end
section
variable {P:Program}{w:World}{K:PySem.W.Frag}{mg:Str→Option Value}{base:Heap}
abbrev u7:Stmt:=top 32
def uC:Sp:=fun vs H Q _=> ∃x y wd hg xs,vs=[x,y]∧fV H x y wd hg xs∧∀(l:Addr) (H':Hp) (rs:List V) (ks:List aE),ae H H'→H l=none→H' l=some (.lst rs)→Paired (nT H') rs ks→ks.Perm ((dI (aZ xs)).map dW)→mj ks→Q (.ref l) H'
theorem FA:bg ["board", "lay"] ["board", "lay"] (ay u7):=⟨rfl,rfl,rfl,by decide+kernel,rfl,by decide+kernel,by decide+kernel⟩
theorem Gw {f:Addr}{fd:FuncData}(F:aH K "steps" "steps" u7 f fd) (G:Gs mg) (D1:Def P w K mg base 8 "point_pairs" ["board", "lay"] uF):aA P w K mg base aI 9 f fd ["board", "lay"] uC:=by
 refine F.ok FA (fun vs H Q E h=> ?_) (fun ao A outer s H vs Q E hr h=> ?_)
 ·obtain⟨x,y,wd,hg,xs,rfl,_⟩:=h
  rfl
 ·obtain⟨x,y,wd,hg,xs,rfl,l,q⟩:=h
  have hu:=hr.units
  refine⟨_,Zk (Zs (Zl (UI (Nat.lt_of_le_of_lt (Nat.add_le_add_left (by decide:2≤64) _) hu)) rfl G.sorted PyProof.Rows.Boot.«sorted» (Za (ZQ ["line", "row", "other", "there"] 4 [] (ZP (Zh D1 hr (Za (pv 0) (Za (pv 1) Zb))))
    (fun C s H fp=>show PG (aG _ _ _ C s H fp) _ (iA K 4 (cI (bT 0) (cI (bT 1) (cI (bT 2) (cI (bT 3) iB))))) from Z5 rfl (Zp (pb 0) (Zp (pb 1) (Zp (pb 2) (Zp (pb 3) ZU))))) (fun C s H fp=>ZT)
    (fun C s H fp D=>Zv rfl (ZH (Za (ZH (Za (Zq Ys (pv 2) (pv 0)) (Za (Zq Ys (pv 3) (pv 1)) Zb))) (Za (pv 0) (Za (pv 2) Zb)))))) Zb))),?_⟩
  refine⟨x,rfl,y,rfl,x,y,wd,hg,xs,rfl,l,fun fa H1 ps s1 eD hf pr=> ?_⟩
  have hlen:=Ag l
  generalize A7:dI (aZ xs)=qs at pr q hlen
  have sF:ps.length=qs.length:=Paired.length pr
  refine⟨fa,rfl,⟨ps,ag.of hf⟩,?_⟩
  refine ZL (xs:=ps) (fun i ys σ H2=> ∃v0 v1 v2 v3,σ=[v0,v1,v2,v3]∧ae H1 H2∧Paired (nT H2) ys ((qs.take i).map dW)∧ys.length≤i) ⟨_,_,_,_,rfl,ae.refl _,.nil,Nat.zero_le _⟩ (fun i ys σ H2 _ ⟨_,_,_,_,_,s2,_⟩=>ag.of (s2 _ _ hf)) ?_ ?_
  ·rintro i v ys σ H2 hv ⟨v0,v1,v2,v3,rfl,s2,dk,dQ⟩
   obtain⟨⟨a,b,c,d⟩,hq,tt,rfl,IL⟩:=Y9 pr hv
   have hi:i<ps.length:=(List.getElem?_eq_some_iff.mp hv).1
   refine⟨tt,_,rfl,ai.of (s2 _ _ IL),rfl,_,_,rfl,_,_,rfl,_,_,rfl,_,_,rfl,rfl,?_⟩
   refine⟨_,rfl,_,rfl,c,a,rfl,rfl,_,rfl,_,rfl,d,b,rfl,rfl,(by show 2≤sizeLine;decide),fun t' jt=> ?_⟩
   refine⟨_,rfl,_,rfl,(by show 3≤sizeLine;decide),fun t ht=> ⟨by rw[sizeLine_eq];omega,?_⟩⟩
   generalize xn:upd H2 t' (HO.tup [V.int (c - a),V.int (d - b)])=H4 at ht
   have s4:ae H2 H4:=fun e o hc=>by rw[←xn,Zf (Zg hc jt)];exact hc
   have j6:H4 t'=some (.tup [V.int (c - a),V.int (d - b)]):=by rw[←xn];exact Zc
   generalize pU:upd H4 t (HO.tup [V.ref t',V.int a,V.int c])=H5
   have s5:ae H4 H5:=fun e o hc=>by rw[←pU,Zf (Zg hc ht)];exact hc
   have r9:H5 t=some (.tup [V.ref t',V.int a,V.int c]):=by rw[←pU];exact Zc
   refine⟨_,_,_,_,rfl,s2.trans (s4.trans s5),?_,by rw[List.length_append];simp;omega⟩
   rw[List.take_add_one,hq,List.map_append]
   exact Paired.snoc (Paired.br dk fun v q' hq=>hq.same (s4.trans s5)) ⟨t,t',rfl,r9,s5 _ _ j6⟩
  ·rintro ys σ H2 ⟨v0,v1,v2,v3,rfl,s2,dk,dQ⟩ p hp
   have s4:ae H2 (upd H2 p (.lst ys)):=fun c o hc=>by rw[Zf (Zg hc hp)];exact hc
   rw[sF,List.take_length]at dk
   refine⟨p,ys,qs.map dW,rfl,ag.of Zc,Paired.br dk fun v q' hq=>hq.same s4,by omega,fun r mG oX A6 Kd Kb cJ=> ?_⟩
   have s5:ae (upd H2 p (.lst ys)) (upd (upd H2 p (.lst ys)) r (.lst mG)):=fun c o hc=>by rw[Zf (Zg hc A6)];exact hc
   exact q r _ mG oX (s1.trans (s2.trans (s4.trans s5))) ((s1.trans (s2.trans s4)).free A6) Zc (Paired.br cJ fun v q' hq=>nT.same hq s5) Kd Kb
end
section
theorem YN (a b:Int) (l m:List Int):aC (a::l) (b::m)=true↔a<b∨(a=b∧aC l m=true):=by
 have z:aC (a::l) (b::m)=if a=b then aC l m else decide (a<b):=rfl
 rw[z]
 by_cases e:a=b
 ·rw[if_pos e]
  constructor
  ·exact fun h=> .inr ⟨e,h⟩
  ·rintro(h |h)
   ·omega
   ·exact h.2
 ·rw[if_neg e,decide_eq_true_eq]
  constructor
  ·exact fun h=> .inl h
  ·rintro(h |h)
   ·exact h
   ·exact absurd h.1 e
theorem Jf:aC [] []=true↔False:=by simp[aC]
def dg (a b:aE):Prop:=a.1=b.1∧a.2.1=b.2.1
instance (a b:aE):Decidable (dg a b):=inferInstanceAs (Decidable (_∧_))
def four (a b:aE):aE:=(a.2.2.1,a.2.2.2,b.2.2.1,b.2.2.2)
def gz (a b:aE):Bool:=aC [a.2.2.1,a.2.2.2] [b.2.2.1,b.2.2.2]
def kC (S:List aE):Option aE→Prop
 |none=> ∀a∈S,∀b∈S,dg a b→gz a b=false
 |some k=> (∃a∈S,∃b∈S,dg a b∧gz a b=true∧k=four a b)∧∀a∈S,∀b∈S,dg a b→gz a b=true→aC (bf (four a b)) (bf k)=false
def kq (ks:List aE):List (aE×aE):=ks.zip (ks.drop 1)
def gX (ks:List aE):List aE:=((kq ks).filter fun p=>decide (dg p.1 p.2)).map fun p=>four p.1 p.2
theorem nf {b:Bool} :b=false↔¬b=true:=by cases b<;>simp
theorem mid {h d b:aE}(h1:aC (bf d) (bf h)=false) (h2:aC (bf b) (bf d)=false) (s:dg h b):dg h d∧aC (bf (four h b)) (bf (four h d))=false:=by
 unfold bf at *
 unfold dg at *
 unfold four
 rw[nf]at *
 simp only[YN,Jf,and_false,or_false,false_or]at *
 omega
theorem C1 {a b:aE}(s:dg a b):aC (bf a) (bf b)=true↔gz a b=true:=by
 unfold bf gz dg at *
 simp only[YN,Jf,and_false,or_false]at *
 omega
theorem C3 {ks:List aE}(hr:mj ks):∀a∈ks,∀b∈ks,dg a b→gz a b=true→∃p∈kq ks,dg p.1 p.2∧aC (bf (four a b)) (bf (four p.1 p.2))=false:=by
 induction ks with
 |nil=>intro a ha;cases ha
 |cons h r ih=>
  have eI:mj r:=(List.pairwise_cons.mp hr).2
  have hh:∀d∈r,aC (bf d) (bf h)=false:=fun d hd=> (List.pairwise_cons.mp hr).1 _ (List.mem_map_of_mem hd)
  intro a ha b hb s l
  have kl:=(C1 s).mpr l
  rcases List.mem_cons.mp ha with rfl |xk
  ·have dn:b∈r:=by
    rcases List.mem_cons.mp hb with rfl |hb
    ·have:=Yx _ _ kl
     rw[kl]at this;cases this
    ·exact hb
   cases r with
   |nil=>cases dn
   |cons d r'=>
    have iq:aC (bf b) (bf d)=false:=by
     rcases List.mem_cons.mp dn with rfl |xg
     ·cases hx:aC (bf b) (bf b) with
      |false=>rfl
      |true=>
       have:=Yx _ _ hx
       rw[hx]at this;cases this
     ·exact(List.pairwise_cons.mp eI).1 _ (List.mem_map_of_mem xg)
    obtain⟨m1,m2⟩:=mid (hh d List.mem_cons_self) iq s
    exact⟨(a,d),List.mem_cons_self,m1,m2⟩
  ·have dn:b∈r:=by
    rcases List.mem_cons.mp hb with rfl |hb
    ·have:=hh a xk
     rw[kl]at this;cases this
    ·exact hb
   obtain⟨p,hp,q1,q2⟩:=ih eI a xk b dn s l
   refine⟨p,?_,q1,q2⟩
   cases r with
   |nil=>cases xk
   |cons d r'=>exact List.mem_cons_of_mem _ hp
theorem M7 {ks:List aE}(hr:mj ks) (hn:ks.Nodup):∀p∈kq ks,dg p.1 p.2→p.1∈ks∧p.2∈ks∧gz p.1 p.2=true:=by
 induction ks with
 |nil=>intro p hp;cases hp
 |cons h r ih=>
  have eI:mj r:=(List.pairwise_cons.mp hr).2
  have hh:∀d∈r,aC (bf d) (bf h)=false:=fun d hd=> (List.pairwise_cons.mp hr).1 _ (List.mem_map_of_mem hd)
  have pI:=(List.nodup_cons.mp hn)
  intro p hp s
  cases r with
  |nil=>cases hp
  |cons d r'=>
   rcases List.mem_cons.mp (show p∈(h,d)::kq (d::r') from hp) with rfl |hp
   ·refine⟨List.mem_cons_self,List.mem_cons_of_mem _ List.mem_cons_self,(C1 s).mp ?_⟩
    cases hx:aC (bf h) (bf d) with
    |true=>rfl
    |false=>
     have e:=O9 (DP _ _ hx (hh d List.mem_cons_self))
     rw[e]at pI
     exact absurd List.mem_cons_self pI.1
   ·obtain⟨q1,q2,q3⟩:=ih eI pI.2 p hp s
    exact⟨List.mem_cons_of_mem _ q1,List.mem_cons_of_mem _ q2,q3⟩
theorem Jx {ks:List aE}{k:aE} :k∈gX ks↔∃p∈kq ks,dg p.1 p.2∧four p.1 p.2=k:=by
 unfold gX
 rw[List.mem_map]
 constructor
 ·rintro⟨p,hp,e⟩
  rw[List.mem_filter,decide_eq_true_eq]at hp
  exact⟨p,hp.1,hp.2,e⟩
 ·rintro⟨p,hp,s,e⟩
  exact⟨p,List.mem_filter.mpr ⟨hp,decide_eq_true s⟩,e⟩
theorem QJ {ks:List aE}(hr:mj ks) (h:gX ks=[]):kC ks none:=fun a ha b hb s=>by
 cases hl:gz a b with
 |false=>rfl
 |true=>
  obtain⟨p,hp,q,_⟩:=C3 hr a ha b hb s hl
  have:four p.1 p.2∈gX ks:=Jx.mpr ⟨p,hp,q,rfl⟩
  rw[h]at this;cases this
theorem QK {ks:List aE}(hr:mj ks) (hn:ks.Nodup) {k:aE}(hk:k∈gX ks) (hm:∀k'∈gX ks,aC (bf k') (bf k)=false):kC ks (some k):=by
 obtain⟨p,hp,s,e⟩:=Jx.mp hk
 obtain⟨m1,m2,m3⟩:=M7 hr hn p hp s
 refine⟨⟨p.1,m1,p.2,m2,s,m3,e.symm⟩,fun a ha b hb s' l=> ?_⟩
 obtain⟨p',wA,q1,q2⟩:=C3 hr a ha b hb s' l
 exact YF _ _ _ (hm _ (Jx.mpr ⟨p',wA,q1,rfl⟩)) q2
def yv (xs:List V) (q:aE):Prop:=∃l o:Nat,l<o∧o<xs.length∧qI xs o l=some q
theorem Yf {xs:List V}{p:Int×Int} :p∈aZ xs↔∃l:Nat,l<xs.length∧rowAt xs l=some p.2∧p.1=(l:Int):=by
 unfold aZ
 rw[List.mem_filterMap]
 constructor
 ·rintro⟨l,hl,e⟩
  rw[Option.map_eq_some_iff]at e
  obtain⟨r,hr,rfl⟩:=e
  exact⟨l,List.mem_range.mp hl,hr,rfl⟩
 ·rintro⟨l,hl,hr,e⟩
  refine⟨l,List.mem_range.mpr hl,?_⟩
  rw[hr,Option.map_some,←e]
theorem Om {xs:List V}{q:aE} :q∈gA xs xs.length↔yv xs q:=by
 unfold gA qH yv
 simp only[List.mem_flatMap,List.mem_filterMap,List.mem_range]
 constructor
 ·rintro⟨o,ho,l,hl,e⟩
  exact⟨l,o,hl,ho,e⟩
 ·rintro⟨l,o,hl,ho,e⟩
  exact⟨o,ho,l,hl,e⟩
theorem Yg {xs:List V}{o l:Nat}{q:aE} :qI xs o l=some q↔∃a b,rowAt xs l=some a∧rowAt xs o=some b∧q=((o:Int) - l,b - a,(l:Int),(o:Int)):=by
 unfold qI
 cases h1:rowAt xs l with
 |none=>simp
 |some a=>
  cases h2:rowAt xs o with
  |none=>simp
  |some b=>
   simp only[Option.bind_some,Option.map_some,Option.some.injEq]
   constructor
   ·rintro rfl
    exact⟨a,b,rfl,rfl,rfl⟩
   ·rintro⟨_,_,rfl,rfl,rfl⟩
    rfl
theorem OD {xs:List V}{q:aE} :q∈(dI (aZ xs)).map dW↔yv xs q:=by
 unfold dI iP
 rw[List.take_length]
 simp only[List.mem_map,List.mem_flatMap,pairsOf,List.take_length,List.mem_filter,decide_eq_true_eq]
 constructor
 ·rintro⟨_,⟨a,ha,b,⟨hb,aw⟩,rfl⟩,rfl⟩
  obtain⟨l,hl,hr,e⟩:=Yf.mp ha
  obtain⟨o,ho,eI,e'⟩:=Yf.mp hb
  refine⟨l,o,by omega,ho,Yg.mpr ⟨a.2,b.2,hr,eI,?_⟩⟩
  unfold dW
  rw[e,e']
 ·rintro⟨l,o,hl,ho,e⟩
  obtain⟨a,b,h1,h2,rfl⟩:=Yg.mp e
  exact⟨((l:Int),a,(o:Int),b),⟨((l:Int),a),Yf.mpr ⟨l,by omega,h1,rfl⟩,((o:Int),b),⟨Yf.mpr ⟨o,ho,h2,rfl⟩,by show(l:Int)< (o:Int);omega⟩,rfl⟩,rfl⟩
theorem WT (xs:List V) (n:Nat):(gA xs n).Nodup:=by
 unfold gA
 rw[List.nodup_iff_pairwise_ne,List.pairwise_flatMap]
 refine⟨fun o _=> ?_,?_⟩
 ·unfold qH
  rw[List.pairwise_filterMap]
  refine List.Pairwise.imp ?_ (List.nodup_iff_pairwise_ne.mp List.nodup_range)
  intro l l' bA q hq q' dP e
  obtain⟨_,_,_,_,rfl⟩:=Yg.mp hq
  obtain⟨_,_,_,_,rfl⟩:=Yg.mp dP
  simp only[Prod.mk.injEq]at e
  omega
 ·refine List.Pairwise.imp ?_ (List.nodup_iff_pairwise_ne.mp List.nodup_range)
  intro o o' bA q hq q' dP e
  unfold qH at hq dP
  rw[List.mem_filterMap]at hq dP
  obtain⟨l,_,hq⟩:=hq
  obtain⟨l',_,dP⟩:=dP
  obtain⟨_,_,_,_,rfl⟩:=Yg.mp hq
  obtain⟨_,_,_,_,rfl⟩:=Yg.mp dP
  simp only[Prod.mk.injEq]at e
  omega
theorem CW (xs:List V):(aZ xs).Pairwise fun a b=>a.1≠b.1:=by
 unfold aZ
 rw[List.pairwise_filterMap]
 refine List.Pairwise.imp ?_ (List.nodup_iff_pairwise_ne.mp List.nodup_range)
 intro l l' bA q hq q' dP
 rw[Option.map_eq_some_iff]at hq dP
 obtain⟨_,_,rfl⟩:=hq
 obtain⟨_,_,rfl⟩:=dP
 show(l:Int)≠(l':Int)
 omega
theorem J9 (xs:List V):((dI (aZ xs)).map dW).Nodup:=by
 unfold dI iP
 rw[List.take_length,List.nodup_iff_pairwise_ne,List.pairwise_map,List.pairwise_flatMap]
 refine⟨fun a _=> ?_,?_⟩
 ·unfold pairsOf
  rw[List.take_length,List.pairwise_map]
  refine List.Pairwise.imp ?_ ((CW xs).filter _)
  intro b b' bA e
  unfold dW at e
  simp only[Prod.mk.injEq]at e
  exact bA e.2.2.2
 ·refine List.Pairwise.imp ?_ (CW xs)
  intro a a' bA q hq q' dP e
  unfold pairsOf at hq dP
  rw[List.mem_map]at hq dP
  obtain⟨b,_,rfl⟩:=hq
  obtain⟨b',_,rfl⟩:=dP
  unfold dW at e
  simp only[Prod.mk.injEq]at e
  exact bA e.2.2.1
theorem Yh (xs:List V):((dI (aZ xs)).map dW).Perm (gA xs xs.length):=
 (List.perm_ext_iff_of_nodup (J9 xs) (WT xs _)).mpr fun q=>OD.trans Om.symm
theorem ML (vs:List V):cX vs (some 1) none=vs.drop 1:=by
 unfold cX HT.aF
 cases vs with
 |nil=>rfl
 |cons a r=>simp
def nz (ks:List aE) (i:Nat):List aE:=(((kq ks).take i).filter fun p=>decide (dg p.1 p.2)).map fun p=>four p.1 p.2
theorem UC {ks:List aE}{i:Nat}{a b:aE}(h1:ks[i]? =some a) (h2:(ks.drop 1)[i]? =some b):nz ks (i+1)=nz ks i++(if decide (dg a b)=true then [four a b] else []):=by
 have e:(kq ks)[i]? =some (a,b):=List.getElem?_zip_eq_some.mpr ⟨h1,h2⟩
 unfold nz
 rw[List.take_add_one,e,List.filter_append,List.map_append]
 by_cases h:dg a b<;>simp[h]
def Q8 (H:Hp) (v:V):Option aE→Prop
 |none=>v=.af
 |some k=>iG H v k
end
section
variable {P:Program}{w:World}{K:PySem.W.Frag}{mg:Str→Option Value}{base:Heap}
abbrev vj:Stmt:=top 33
def uQ:Sp:=fun vs H Q _=> ∃x y wd hg xs,vs=[x,y]∧fV H x y wd hg xs∧∀(H':Hp) (v:V) (r:Option aE),ae H H'→kC (gA xs xs.length) r→Q8 H' v r→Q v H'
theorem uV:bg ["board", "lay", "told", "likes"] ["board", "lay"] (ay vj):=⟨rfl,rfl,rfl,by decide+kernel,rfl,by decide+kernel,by decide+kernel⟩
theorem GP {f:Addr}{fd:FuncData}(F:aH K "first_like" "first_like" vj f fd) (G:Gs mg) (D1:Def P w K mg base 9 "steps" ["board", "lay"] uC):aA P w K mg base aI 10 f fd ["board", "lay"] uQ:=by
 refine F.ok uV (fun vs H Q E h=> ?_) (fun ao A outer s H vs Q E hr h=> ?_)
 ·obtain⟨x,y,wd,hg,xs,rfl,_⟩:=h
  rfl
 ·obtain⟨x,y,wd,hg,xs,rfl,l,q⟩:=h
  have hu:=CJ hr
  refine⟨_,Ze (ZA (i:=2) uV.nd rfl (Or.inl rfl) (Zh D1 hr (Za (pv 0) (Za (pv 1) Zb))))
   (Ze (YL ["step", "line", "other", "beside", "here", "there"] 6 [] (i:=3) uV.nd rfl (Or.inl rfl) (Us rfl G.zip (Za (pv 2) (Za (Ja DI (pv 2) (JN Zi) JO) Zb)))
    (fun C s H fp=>show PG (aG _ _ _ C s H fp) _ (iA K 2 (cI (iA K 3 (cI (bT 0) (cI (bT 1) (cI (bT 2) iB)))) (cI (iA K 3 (cI (bT 3) (cI (bT 4) (cI (bT 5) iB)))) iB))) from
     Z5 rfl (Zp (Z5 rfl (Zp (pb 0) (Zp (pb 1) (Zp (pb 2) ZU)))) (Zp (Z5 rfl (Zp (pb 3) (Zp (pb 4) (Zp (pb 5) ZU)))) ZU)))
    (fun C s H fp=>Z3 (ZM (show bo (aG _ _ _ C s H fp) (compareOp .Eq) (fun x y H Q=> ∃(a b:Addr) (ns ms:List Int),x=.ref a∧y=.ref b∧ai K H a (ns.map V.int)∧ai K H b (ms.map V.int)∧Q (.bl (decide (ns=ms))) H) from NJ hr.Ep) (pv 0) (pv 3) (cj _)))
    (fun C s H fp D=>Zv rfl (ZH (Za (pv 1) (Za (pv 2) (Za (pv 4) (Za (pv 5) Zb)))))))
   (Zk (Zs (NO rfl hu rfl G.min (pv 3))))),?_⟩
  refine⟨x,rfl,y,rfl,x,y,wd,hg,xs,rfl,l,fun fa H1 ps ks s1 eD hf pr perm rise=> ?_⟩
  have Kv:ps.length=ks.length:=Paired.length pr
  have hlen:ks.length≤144:=by
   rw[perm.length_eq,List.length_map]
   exact Ag l
  refine⟨_,rfl,_,rfl,_,rfl,fa,ps,rfl,ag.of hf,fun c hc=> ?_⟩
  generalize nN:upd H1 c (HO.lst (cX ps (some 1) none))=H2
  have s2:ae H1 H2:=fun b o hb=>by rw[←nN,Zf (Zg hb hc)];exact hb
  have ir:H2 c=some (.lst (ps.drop 1)):=by rw[←nN,ML];exact Zc
  have Bv:=s2 _ _ hf
  refine⟨fa,c,rfl,⟨_,_,ag.of Bv,ag.of ir⟩,?_⟩
  refine WU (xs:=ps) (zs:=ps.drop 1) (fun i ys σ H3=> ∃v0 v1 v2 v3 v4 v5,σ=[v0,v1,v2,v3,v4,v5]∧ae H2 H3∧Paired (iG H3) ys (nz ks i)∧ys.length≤i) ⟨_,_,_,_,_,_,rfl,ae.refl _,.nil,Nat.zero_le _⟩
   (fun i ys σ H3 _ ⟨_,_,_,_,_,_,_,s3,_⟩=> ⟨ag.of (s3 _ _ Bv),ag.of (s3 _ _ ir)⟩) ?_ ?_
  ·rintro i va vb T ys σ H3 AZ Iw hT ⟨v0,v1,v2,v3,v4,v5,rfl,s3,cJ,pK⟩
   have hi:i<ps.length:=(List.getElem?_eq_some_iff.mp AZ).1
   obtain⟨a,lI,ta,EB,rfl,II,IH⟩:=Y9 pr AZ
   have Iv:ps[1+i]? =some vb:=by rw[←List.getElem?_drop];exact Iw
   obtain⟨b,lG,tb,Ez,rfl,pA,IF⟩:=Y9 pr Iv
   have wN:(ks.drop 1)[i]? =some b:=by rw[List.getElem?_drop];exact lG
   have es:=UC lI wN
   have sT:ae H3 (upd H3 T (.par [.ref ta,.ref tb])):=fun e o hc=>by rw[Zf (Zg hc hT)];exact hc
   have sA:ae H1 (upd H3 T (.par [.ref ta,.ref tb])):=s2.trans (s3.trans sT)
   refine⟨T,_,rfl,ai.nh Zc,rfl,_,_,rfl,ta,_,rfl,ai.of (sA _ _ II),rfl,_,_,rfl,_,_,rfl,_,_,rfl,rfl,_,_,rfl,tb,_,rfl,ai.of (sA _ _ pA),rfl,_,_,rfl,_,_,rfl,_,_,rfl,rfl,rfl,?_⟩
   generalize xn:upd H3 T (HO.par [V.ref ta,V.ref tb])=H4 at sT sA
   refine⟨_,rfl,_,rfl,EB,Ez,[a.1,a.2.1],[b.1,b.2.1],rfl,rfl,ai.of (sA _ _ IH),ai.of (sA _ _ IF),_,rfl,?_⟩
   by_cases hs:dg a b
   ·rw[decide_eq_true hs,if_pos rfl]at es
    have ed:decide ([a.1,a.2.1]=[b.1,b.2.1])=true:=decide_eq_true (by rw[hs.1,hs.2])
    rw[ed]
    refine aW ?_
    refine⟨_,rfl,_,rfl,_,rfl,_,rfl,(by show 4≤sizeLine;decide),fun t4 j6=> ⟨by rw[sizeLine_eq];omega,?_⟩⟩
    generalize pU:upd H4 t4 (HO.tup [V.int a.2.2.1,V.int a.2.2.2,V.int b.2.2.1,V.int b.2.2.2])=H5
    have s5:ae H4 H5:=fun e o hc=>by rw[←pU,Zf (Zg hc j6)];exact hc
    refine⟨_,_,_,_,_,_,rfl,s3.trans (sT.trans s5),?_,by rw[List.length_append];simp;omega⟩
    rw[es]
    exact Paired.snoc (Paired.br cJ fun v q' hq=>hq.same (sT.trans s5)) ⟨t4,rfl,by rw[←pU];exact Zc⟩
   ·rw[decide_eq_false hs,if_neg Bool.false_ne_true,List.append_nil]at es
    have ed:decide ([a.1,a.2.1]=[b.1,b.2.1])=false:=decide_eq_false (fun e=>hs (by simp only[List.cons.injEq,and_true]at e;exact e))
    rw[ed]
    refine aV ⟨_,_,_,_,_,_,rfl,s3.trans sT,?_,by omega⟩
    rw[es]
    exact Paired.br cJ fun v q' hq=>hq.same sT
  ·rintro ys σ H3 ⟨v0,v1,v2,v3,v4,v5,rfl,s3,cJ,pK⟩ p hp
   have s4:ae H3 (upd H3 p (.lst ys)):=fun e o hc=>by rw[Zf (Zg hc hp)];exact hc
   have et:nz ks (min ps.length (ps.drop 1).length)=gX ks:=by
    unfold nz gX
    rw[List.take_of_length_le]
    unfold kq
    rw[List.length_zip,List.length_drop,List.length_drop,Kv]
    exact Nat.le_refl _
   rw[et]at cJ
   have dj:Paired (iG (upd H3 p (.lst ys))) ys (gX ks):=Paired.br cJ fun v q' hq=>hq.same s4
   have sA:ae H (upd H3 p (.lst ys)):=s1.trans (s2.trans (s3.trans s4))
   have bS:∀z,z∈ks↔z∈gA xs xs.length:=fun z=> (perm.trans (Yh xs)).mem_iff
   have iV:ks.Nodup:=(perm.trans (Yh xs)).nodup_iff.mpr (WT xs _)
   have conv:∀r,kC ks r→kC (gA xs xs.length) r:=fun r hr=>by
    cases r with
    |none=>exact fun a ha b hb s=>hr a ((bS a).mpr ha) b ((bS b).mpr hb) s
    |some k=>
     obtain⟨⟨a,ha,b,hb,w⟩,h2⟩:=hr
     exact⟨⟨a,(bS a).mp ha,b,(bS b).mp hb,w⟩,fun a ha b hb s l=>h2 a ((bS a).mpr ha) b ((bS b).mpr hb) s l⟩
   refine⟨_,rfl,p,ys,(gX ks).map bf,rfl,ag.of Zc,?_,fun e=> ?_,fun v k hv hk nF Kr=> ?_⟩
   ·have:∀{ys:List V}{ls:List aE},Paired (iG (upd H3 p (.lst ys))) ys ls→Paired (cZ (upd H3 p (.lst ys))) ys (ls.map bf):=by
     intro ys ls h
     generalize (upd H3 p (.lst ys))=H9 at h
     induction h with
     |nil=>exact .nil
     |cons h1 _ ih=>exact .cons h1 ih
    exact this dj
   ·subst e
    have el:gX ks=[]:=by
     have:=Paired.length dj
     exact List.length_eq_zero_iff.mp this.symm
    exact q _ .af none sA (conv _ (QJ rise el)) rfl
   ·obtain⟨k4,wO,rfl⟩:=List.mem_map.mp hk
    exact q _ v (some k4) sA (conv _ (QK rise iV wO fun k' aK=>Kr _ (List.mem_map_of_mem aK))) nF
abbrev u4:Stmt:=top 34
def uA:Sp:=fun vs H Q _=> ∃x y wd hg xs,vs=[x,y]∧fV H x y wd hg xs∧∀(H':Hp) (r:Option aE),ae H H'→kC (gA xs xs.length) r→Q (.bl r.isNone) H'
theorem Fy:bg ["board", "lay"] ["board", "lay"] (ay u4):=⟨rfl,rfl,rfl,by decide+kernel,rfl,by decide+kernel,by decide+kernel⟩
theorem Gr {f:Addr}{fd:FuncData}(F:aH K "is_unlike" "is_unlike" u4 f fd) (D1:Def P w K mg base 10 "first_like" ["board", "lay"] uQ):aA P w K mg base aI 11 f fd ["board", "lay"] uA:=by
 refine F.ok Fy (fun vs H Q E h=> ?_) (fun ao A outer s H vs Q E hr h=> ?_)
 ·obtain⟨x,y,wd,hg,xs,rfl,_⟩:=h
  rfl
 ·obtain⟨x,y,wd,hg,xs,rfl,l,q⟩:=h
  refine⟨_,Zk (Zs (yd (Js (Zh D1 hr (Za (pv 0) (Za (pv 1) Zb)))))),?_⟩
  refine⟨x,rfl,y,rfl,x,y,wd,hg,xs,rfl,l,fun H1 v r s1 hf ho=> ?_⟩
  have:=q H1 r s1 hf
  cases r with
  |none=>
   have e:v=.af:=ho
   subst e
   exact this
  |some k=>
   obtain⟨t,rfl,_⟩:=(show iG H1 v k from ho)
   exact this
end
section
theorem Oy (xs:List V):(aZ xs).Pairwise fun a b=>a.1<b.1:=by
 unfold aZ
 refine List.pairwise_filterMap.mpr (List.Pairwise.imp ?_ (List.pairwise_lt_range (n:=xs.length)))
 intro a b xh p hp q hq
 obtain⟨r,hr,rfl⟩:=Option.map_eq_some_iff.mp hp
 obtain⟨r',eI,rfl⟩:=Option.map_eq_some_iff.mp hq
 show(a:Int)< (b:Int)
 omega
def kO (ps:List (Int×Int)):List aE:=ps.flatMap fun a=> (ps.filter fun b=>decide (a.1<b.1)).map fun b=> (a.1,a.2,b.1,b.2)
theorem WS (ps:List (Int×Int)):dI ps=kO ps:=by
 unfold dI iP kO pairsOf
 rw[List.take_length]
theorem WD {α β:Type}{f:α→β}{l:List α}(h:l.Nodup):(l.map f).Nodup↔∀a∈l,∀b∈l,f a=f b→a=b:=by
 rw[List.nodup_iff_pairwise_ne,List.pairwise_map]
 constructor
 ·intro pw a ha b hb e
  obtain⟨i,hi,rfl⟩:=List.getElem_of_mem ha
  obtain⟨j,hj,rfl⟩:=List.getElem_of_mem hb
  have p:=List.pairwise_iff_getElem.mp pw
  rcases Nat.lt_trichotomy i j with q |q |q
  ·exact absurd e (p i j hi hj q)
  ·subst q;rfl
  ·exact absurd e.symm (p j i hj hi q)
 ·intro inj
  refine List.Pairwise.imp_of_mem ?_ (List.nodup_iff_pairwise_ne.mp h)
  intro a b ha hb ne e
  exact ne (inj a ha b hb e)
theorem UX (xs:List V):(dI (aZ xs)).Nodup:=by
 have:=J9 xs
 rw[List.nodup_iff_pairwise_ne,List.pairwise_map]at this
 exact List.nodup_iff_pairwise_ne.mpr (List.Pairwise.imp (fun h e=>h (by rw[e])) this)
theorem DA {xs:List V}{p:aE} :p∈dI (aZ xs)↔∃l o:Nat,l<o∧o<xs.length∧∃a b,rowAt xs l=some a∧rowAt xs o=some b∧p=((l:Int),a,(o:Int),b):=by
 rw[WS]
 unfold kO
 rw[List.mem_flatMap]
 constructor
 ·rintro⟨a,ha,hq⟩
  obtain⟨b,hb,rfl⟩:=List.mem_map.mp hq
  obtain⟨fh,xg⟩:=List.mem_filter.mp hb
  obtain⟨l,hl,hr,e⟩:=Yf.mp ha
  obtain⟨o,ho,eI,e'⟩:=Yf.mp fh
  have:=of_decide_eq_true xg
  refine⟨l,o,by omega,ho,a.2,b.2,hr,eI,by rw[e,e']⟩
 ·rintro⟨l,o,h1,h2,a,b,h3,h4,rfl⟩
  exact⟨((l:Int),a),Yf.mpr ⟨l,by omega,h3,rfl⟩,List.mem_map.mpr ⟨((o:Int),b),List.mem_filter.mpr ⟨Yf.mpr ⟨o,h2,h4,rfl⟩,decide_eq_true (by show(l:Int)<o;omega)⟩,rfl⟩⟩
def yf (xs:List V):Prop:=∀p∈dI (aZ xs),∀q∈dI (aZ xs),dg (dW p) (dW q)→p=q
theorem Nz {a b:aE}(h:a.2.2.1≠b.2.2.1∨a.2.2.2≠b.2.2.2):gz a b=true∨gz b a=true:=by
 unfold gz
 simp only[YN,Jf,and_false,or_false]
 omega
theorem N0 {xs:List V}{r:Option aE}(f:kC (gA xs xs.length) r):r.isNone=true↔yf xs:=by
 have mem:∀{p:aE},p∈dI (aZ xs)→dW p∈gA xs xs.length:=fun hp=> (Yh xs).mem_iff.mp (List.mem_map_of_mem hp)
 cases r with
 |none=>
  refine⟨fun _ p hp q hq s=> ?_,fun _=>rfl⟩
  refine Classical.byContradiction fun ne=> ?_
  obtain⟨l,o,_,_,a,b,g1,g2,rfl⟩:=DA.mp hp
  obtain⟨l',o',_,_,a',b',g3,g4,rfl⟩:=DA.mp hq
  have d:(l:Int)≠(l':Int)∨(o:Int)≠(o':Int):=by
   refine Classical.byContradiction fun c=>ne ?_
   have e1:l=l':=by omega
   have e2:o=o':=by omega
   subst e1 e2
   rw[g1]at g3
   rw[g2]at g4
   cases g3
   cases g4
   rfl
  rcases Nz (a:=dW ((l:Int),a,(o:Int),b)) (b:=dW ((l':Int),a',(o':Int),b')) d with z |z
  ·have:=f _ (mem hp) _ (mem hq) s
   rw[z]at this
   cases this
  ·have:=f _ (mem hq) _ (mem hp) ⟨s.1.symm,s.2.symm⟩
   rw[z]at this
   cases this
 |some k=>
  refine⟨fun h=> (by cases h),fun h=> ?_⟩
  obtain⟨⟨a,ha,b,hb,s,l,_⟩,_⟩:=f
  obtain⟨p,hp,rfl⟩:=List.mem_map.mp ((Yh xs).mem_iff.mpr ha)
  obtain⟨q,hq,rfl⟩:=List.mem_map.mp ((Yh xs).mem_iff.mpr hb)
  rw[h p hp q hq s]at l
  unfold gz at l
  simp only[YN,Jf,and_false,or_false]at l
  omega
end
end U.S
namespace U.S
open PySem L2 PyProof.Rows
section
def sk (a b:Int×Int):List Int:=[b.1 - a.1,b.2 - a.2]
def pk:List (Int×Int)→List (List Int)
 | []=> []
 |a::r=>r.map (sk a)++pk r
def cK (xs:List V):Bool:=decide (pk (aZ xs)).Nodup
def qY (p:aE):List Int:=[p.2.2.1 - p.1,p.2.2.2 - p.2.1]
theorem CO:∀{ps:List (Int×Int)},(ps.Pairwise fun a b=>a.1<b.1)→(kO ps).map qY=pk ps
 | [],_=>rfl
 |a::l,h=>by
  obtain⟨h1,h2⟩:=List.pairwise_cons.mp h
  have ih:=CO h2
  have e:kO (a::l)=(l.map fun b=> (a.1,a.2,b.1,b.2))++kO l:=by
   unfold kO
   rw[List.flatMap_cons]
   congr 1
   ·rw[List.filter_cons_of_neg (by simp),List.filter_eq_self.mpr fun b hb=>decide_eq_true (h1 b hb)]
   ·rw[List.flatMap_def,List.flatMap_def]
    congr 1
    refine List.map_congr_left fun c hc=> ?_
    rw[List.filter_cons_of_neg (by have:=h1 c hc;simp;omega)]
  rw[e,List.map_append,ih,List.map_map]
  rfl
theorem DE (p q:aE):dg (dW p) (dW q)↔qY p=qY q:=by
 unfold dg dW qY
 simp
theorem Qo (xs:List V):cK xs=true↔yf xs:=by
 unfold cK
 rw[decide_eq_true_iff,←CO (Oy xs),←WS,WD (UX xs)]
 unfold yf
 constructor
 ·intro h p hp q hq s
  exact h p hp q hq ((DE p q).mp s)
 ·intro h p hp q hq s
  exact h p hp q hq ((DE p q).mpr s)
theorem N8 {xs:List V}{r:Option aE}(f:kC (gA xs xs.length) r):r.isNone=cK xs:=by
 have h1:=N0 f
 have h2:=Qo xs
 cases hr:r.isNone<;>cases hu:cK xs<;>simp_all
def kg (hg:Nat) (xs:List V) (l:Nat):List Int:=((List.range hg).map fun(k:Nat)=> (k:Int)).filter fun r=> !dC (.int r) xs&&cK (xs.set l (.int r))
def cC (wd hg:Nat):Nat→List (List V)
 |0=> [List.replicate wd .af]
 |i+1=> (cC wd hg i).flatMap fun xs=> (V.af::(kg hg xs i).map V.int).map fun v=>xs.set i v
def bD (xs:List V):Nat:=(xs.filter fun x=> !decide (x=V.af)).length
def gp (wd hg:Nat) (n:Int):List (List V):=(cC wd hg wd).filter fun xs=>decide ((bD xs:Int)=n)
def jo:List Nat→Nat
 | []=>0
 |a::r=>max a (jo r)
def bC (wd hg:Nat):Nat:=jo ((cC wd hg wd).map bD)
theorem Ol {l:List Nat}{n:Nat}(h:n∈l):n≤jo l:=by
 induction l with
 |nil=>cases h
 |cons a r ih=>
  rcases List.mem_cons.mp h with rfl |h
  ·exact Nat.le_max_left _ _
  ·exact Nat.le_trans (ih h) (Nat.le_max_right _ _)
theorem Zz {H:Hp}{p:Addr}{o:HO}(h:H p=none):ae H (upd H p o):=fun b u hb=>by rw[Zf (Zg hb h)];exact hb
theorem UT {v:V}(hv:v≠.af):∀{xs:List V}{i:Nat},xs[i]? =some V.af→(rowsOf (xs.set i v)).Perm (v::rowsOf xs)
 | [],_,h=>by simp at h
 |x::xs,0,h=>by
  have:x=.af:=by simpa using h
  subst this
  rw[List.set_cons_zero]
  unfold rowsOf
  rw[List.filter_cons_of_pos (by simpa using hv),List.filter_cons_of_neg (by simp)]
 |x::xs,i+1,h=>by
  have ih:=UT hv (xs:=xs) (i:=i) (by simpa using h)
  rw[List.set_cons_succ]
  unfold rowsOf at ih ⊢
  by_cases z:(!decide (x=V.af))=true
  ·rw[List.filter_cons_of_pos (p:=fun x=> !decide (x=V.af)) z,List.filter_cons_of_pos (p:=fun x=> !decide (x=V.af)) z]
   exact(ih.cons x).trans (List.Perm.swap v x _)
  ·rw[List.filter_cons_of_neg (p:=fun x=> !decide (x=V.af)) z,List.filter_cons_of_neg (p:=fun x=> !decide (x=V.af)) z]
   exact ih
theorem P0 {r:Int}{xs:List V}(h:V.int r∈xs):dC (.int r) xs=true:=by
 unfold dC
 exact List.any_eq_true.mpr ⟨_,h,by simp[cD]⟩
theorem DO {wd hg:Int}{xs:List V}{i:Nat}{r:Int}(h:jd wd hg xs) (hi:xs[i]? =some V.af) (h0:0≤r) (h1:r<hg) (hn:dC (.int r) xs=false):jd wd hg (xs.set i (.int r)):=by
 have pm:=UT (v:=.int r) (by intro z;cases z) hi
 refine⟨by rw[List.length_set];exact h.len,fun x hx=> ?_,pm.nodup_iff.mpr (List.nodup_cons.mpr ⟨fun m=> ?_,h.nd⟩)⟩
 ·rcases List.mem_cons.mp (pm.mem_iff.mp hx) with rfl |hx
  ·show(decide (0≤r)&&decide (r≤hg - 1))=true
   rw[decide_eq_true h0,decide_eq_true (by omega)]
   rfl
  ·exact h.row x hx
 ·have:=P0 (List.mem_filter.mp m).1
  rw[hn]at this
  cases this
theorem Wn {wd hg:Int}{xs:List V}(h:jd wd hg xs):xs.all dq=true:=List.all_eq_true.mpr fun v hv=>by
 rcases h.ok v hv with rfl |⟨i,rfl⟩<;>rfl
theorem UH {K:PySem.W.Frag}{H:Hp}{a b:Addr}{xs ys:List V}{Q:VK}(h1:H a=some (.tup xs)) (h2:H b=some (.tup ys)) (hl:xs.length+ys.length≤1000) (q:∀t H',ae H H'→H' t=some (.tup (xs++ys))→Q (.ref t) H'):vC K (.ref a) (.ref b) H Q:=by
 cases xs with
 |nil=>exact .inl ⟨a,b,ys,rfl,rfl,ai.of h1,ai.of h2,q b H (ae.refl _) h2⟩
 |cons x xs=>
  refine .inr ⟨a,b,_,_,rfl,rfl,ai.of h1,ai.of h2,by simp,by rw[sizeLine_eq];omega,fun e=> ?_,fun _ p hp=>q p _ (Zz hp) Zc⟩
  subst e
  exact q a H (ae.refl _) (by rw[List.append_nil];exact h1)
theorem Nc {xs:List V}{i:Nat}(h:i<xs.length):cX xs none (some (i:Int))=xs.take i:=by
 unfold cX
 rw[HT.zM,HT.rp,Nat.min_eq_left (by omega)]
 simp
theorem Dq {xs:List V}{i:Nat}(h:i<xs.length):cX xs (some ((i:Int)+1)) none=xs.drop (i+1):=by
 unfold cX
 rw[show(i:Int)+1=((i+1:Nat):Int) from rfl,HT.zM,HT.rp,Nat.min_eq_left (by omega)]
 exact List.take_of_length_le (by simp)
end
section
variable {P:Program}{w:World}{K:PySem.W.Frag}{mg:Str→Option Value}{base:Heap}
abbrev uZ:Stmt:=top 28
def qN:Sp:=fun vs H Q _=> ∃(l:Addr) (xs:List V) (i:Nat) (v:V),vs=[.ref l,.int i,v]∧H l=some (.tup xs)∧i<xs.length∧xs.length≤12∧∀t H',ae H H'→H' t=some (.tup (xs.set i v))→Q (.ref t) H'
theorem Fx:bg ["lay", "line", "row"] ["lay", "line", "row"] (ay uZ):=⟨rfl,rfl,rfl,by decide+kernel,rfl,by decide+kernel,by decide+kernel⟩
theorem Gn {f:Addr}{fd:FuncData}(F:aH K "with_point" "with_point" uZ f fd):aA P w K mg base aI 1 f fd ["lay", "line", "row"] qN:=by
 refine F.ok Fx (fun vs H Q E h=> ?_) (fun ao A outer s H vs Q E hr h=> ?_)
 ·obtain⟨l,xs,i,v,rfl,_⟩:=h
  rfl
 ·obtain⟨l,xs,i,v,rfl,hl,hi,LF,q⟩:=h
  refine⟨_,Zk (Zs (Zq JP (Zq JP (Ja Dl (pv 0) JO (JN (pv 1))) (ZH (Za (pv 2) Zb))) (Ja Dl (pv 0) (JN (Zq Yl (pv 1) Zi)) JO))),?_⟩
  refine⟨_,rfl,_,rfl,_,rfl,l,xs,rfl,ai.of hl,?_,fun p hp=> ?_⟩
  ·rintro⟨_,z⟩
   rw[HT.rp]at z
   omega
  have s1:=Zz (o:=.tup (cX xs none (some (i:Int)))) hp
  have e1:upd H p (.tup (cX xs none (some (i:Int)))) p=some (.tup (cX xs none (some (i:Int)))):=Zc
  generalize upd H p (HO.tup (cX xs none (some (i:Int))))=H1 at s1 e1
  rw[Nc hi]at e1
  refine⟨_,rfl,(by show 1≤sizeLine;decide),fun p2 cV=> ?_⟩
  have s2:=Zz (o:=.tup [v]) cV
  have e2:upd H1 p2 (.tup [v]) p2=some (.tup [v]):=Zc
  generalize upd H1 p2 (HO.tup [v])=H2 at s2 e2
  refine UH (s2 _ _ e1) e2 (by rw[List.length_take];simp;omega) fun t3 H3 s3 e3=> ?_
  refine⟨_,rfl,_,rfl,_,_,rfl,rfl,_,rfl,l,xs,rfl,ai.of ((s1.trans (s2.trans s3)) _ _ hl),?_,fun p4 Kh=> ?_⟩
  ·rintro⟨z,_⟩
   rw[show(i:Int)+1=((i+1:Nat):Int) from rfl,HT.rp]at z
   omega
  have s4:=Zz (o:=.tup (cX xs (some ((i:Int)+1)) none)) Kh
  have e4:upd H3 p4 (.tup (cX xs (some ((i:Int)+1)) none)) p4=some (.tup (cX xs (some ((i:Int)+1)) none)):=Zc
  generalize upd H3 p4 (HO.tup (cX xs (some ((i:Int)+1)) none))=H4 at s4 e4
  rw[Dq hi]at e4
  refine UH (s4 _ _ e3) e4 (by rw[List.length_append,List.length_take,List.length_drop];simp;omega) fun t5 H5 s5 e5=> ?_
  refine q t5 H5 (s1.trans (s2.trans (s3.trans (s4.trans s5)))) ?_
  rw[e5,List.append_assoc,List.set_eq_take_append_cons_drop,if_pos hi]
  rfl
def tF (xs:List V) (l:Nat) (i:Nat):List Int:=((List.range i).map fun(k:Nat)=> (k:Int)).filter fun r=> !dC (.int r) xs&&cK (xs.set l (.int r))
theorem QC (xs:List V) (l i:Nat):tF xs l (i+1)=tF xs l i++(if (!dC (.int (i:Int)) xs&&cK (xs.set l (.int (i:Int))))=true then [(i:Int)] else []):=by
 unfold tF
 rw[List.range_succ,List.map_append,List.filter_append]
 cases h:(!dC (.int (i:Int)) xs&&cK (xs.set l (.int (i:Int))))<;>simp_all
abbrev vk:Stmt:=top 36
def uR:Sp:=fun vs H Q _=> ∃(b l:Addr) (i:Nat) (wd hg:Int) (xs:List V),vs=[.ref b,.ref l,.int i]∧bN H (.ref b) wd hg∧H l=some (.tup xs)∧jd wd hg xs∧xs[i]? =some .af∧∀(q:Addr) (H':Hp),ae H H'→H q=none→H' q=some (.lst ((kg hg.toNat xs i).map V.int))→Q (.ref q) H'
theorem FF:bg ["board", "lay", "line"] ["board", "lay", "line"] (ay vk):=⟨rfl,rfl,rfl,by decide+kernel,rfl,by decide+kernel,by decide+kernel⟩
theorem GO {f:Addr}{fd:FuncData}(F:aH K "free_rows" "free_rows" vk f fd) (G:Gs mg) (Rg:Def P w K mg base 11 "is_unlike" ["board", "lay"] uA) (yF:Def P w K mg base 1 "with_point" ["lay", "line", "row"] qN):aA P w K mg base aI 12 f fd ["board", "lay", "line"] uR:=by
 refine F.ok FF (fun vs H Q E h=> ?_) (fun ao A outer s H vs Q E hr h=> ?_)
 ·obtain⟨b,l,i,wd,hg,xs,rfl,_⟩:=h
  rfl
 ·obtain⟨b,l,i,wd,hg,xs,rfl,bd,hl,ly,hi,q⟩:=h
  refine⟨_,Zk (Zs (ZQ ["row", "board", "lay", "line"] 1 [0,1,2] (Z4 rfl G.range (Za (ZO Z0 (pv 0) Zi (fun _ _=>rfl)) Zb)) (fun C s H fp=>pb 0)
   (fun C s H fp=>Z3 (PW.pt (Oz (ZM (show bo (aG _ _ _ C s H fp) (compareOp .NotIn) (vB K true) from Jc) (pv 0) (pv 2) rfl) (NW (ZZ (Zh Rg hr (Za (pv 1) (Za (Zh yF (hr.mono (by decide)) (Za (pv 2) (Za (pv 3) (Za (pv 0) Zb)))) Zb))))))))
   (fun C s H fp D=>Zv rfl (pv 0)))),?_⟩
  obtain⟨b',eb,hb⟩:=ZC bd.1
  cases eb
  have aS:i<xs.length:=(List.getElem?_eq_some_iff.mp hi).1
  have rR:xs.length≤12:=by
   have h1:=ly.len
   have h2:=bd.2.2.1
   omega
  have g1:=bd.2.2.2.1
  have g2:=bd.2.2.2.2
  refine⟨_,rfl,b,_,1,.int hg,rfl,rfl,ai.of hb,rfl,_,rfl,by omega,by omega,?_⟩
  refine Y2 (fun k ys σ H1=> ∃v,σ=[v,some (.ref b),some (.ref l),some (.int i)]∧ae H H1∧ys=(tF xs i k).map V.int∧ys.length≤k) ⟨_,rfl,ae.refl _,rfl,Nat.zero_le _⟩ ?_ ?_
  ·rintro k ys σ H1 hk ⟨v,rfl,s1,rfl,hlen⟩
   have es:=QC xs i k
   rw[Int.zero_add]
   refine Zn ?_
   dsimp only[List.set]
   refine⟨_,rfl,_,rfl,l,xs,rfl,.inr (ai.of (s1 _ _ hl)),rfl,Wn ly,_,rfl,?_⟩
   cases hn:dC (.int (k:Int)) xs with
   |true=>
    rw[hn]at es
    refine aV ?_
    refine aV ⟨_,rfl,s1,?_,by omega⟩
    rw[es]
    simp
   |false=>
    rw[hn]at es
    refine aW ?_
    refine⟨_,rfl,_,rfl,_,rfl,_,rfl,l,xs,i,.int (k:Int),rfl,s1 _ _ hl,aS,rR,fun t H2 s2 e2=> ?_⟩
    refine⟨.ref b,.ref t,wd,hg,_,rfl,⟨bd.same (s1.trans s2),Zu e2,DO ly hi (by omega) (by omega) hn⟩,fun H3 r s3 fi=> ⟨_,rfl,?_⟩⟩
    rw[N8 fi]
    have rA:=s1.trans (s2.trans s3)
    cases hu:cK (xs.set i (.int (k:Int))) with
    |true=>
     rw[hu]at es
     refine aW ⟨_,rfl,by rw[sizeLine_eq];omega,⟨_,rfl,rA,?_,by rw[List.length_append];simp at hlen ⊢;omega⟩⟩
     rw[es]
     simp
    |false=>
     rw[hu]at es
     refine aV ⟨_,rfl,rA,?_,by omega⟩
     rw[es]
     simp
  ·rintro ys σ H1 ⟨v,rfl,s1,rfl,hlen⟩ p hp
   exact q p _ (s1.trans (Zz hp)) (s1.free hp) Zc
end
section
theorem Uc {α β:Type}(f:α→List β) (n:Nat):∀l:List α,(∀a∈l,(f a).length≤n)→(l.flatMap f).length≤l.length*n
 | [],_=>by simp
 |a::l,h=>by
  have h1:=h a List.mem_cons_self
  have h2:=Uc f n l fun b hb=>h b (List.mem_cons_of_mem _ hb)
  rw[List.flatMap_cons,List.length_append,List.length_cons,Nat.succ_mul]
  omega
theorem Ua (hg:Nat) (xs:List V) (l:Nat):(kg hg xs l).length≤hg:=by
 unfold kg
 refine Nat.le_trans (List.length_filter_le _ _) ?_
 rw[List.length_map,List.length_range]
 exact Nat.le_refl _
end
section
variable {P:Program}{w:World}{K:PySem.W.Frag}{mg:Str→Option Value}{base:Heap}
abbrev ve:Stmt:=top 40
def qR:Sp:=fun vs H Q _=> ∃(l:Addr) (xs:List V),vs=[.ref l]∧H l=some (.tup xs)∧xs.all dq=true∧Q (.int (bD xs)) H
theorem FD:bg ["lay"] ["lay"] (ay ve):=⟨rfl,rfl,rfl,by decide+kernel,rfl,by decide+kernel,by decide+kernel⟩
theorem Wg (xs:List V):(xs.length:Int) - ((xs.countP fun y=>cD y .af:Nat):Int)=(bD xs:Int):=by
 unfold bD
 induction xs with
 |nil=>rfl
 |cons x xs ih=>
  rw[List.countP_cons,List.filter_cons,List.length_cons]
  have e:cD x .af=decide (x=V.af):=by cases x<;>rfl
  rw[e]
  cases hd:decide (x=V.af)
  ·rw[if_neg Bool.false_ne_true,show(!false)=true from rfl,if_pos rfl,List.length_cons]
   omega
  ·rw[if_pos rfl,show(!true)=false from rfl,if_neg Bool.false_ne_true]
   omega
theorem Gy {f:Addr}{fd:FuncData}(F:aH K "points_many" "points_many" ve f fd) (G:Gs mg):aA P w K mg base aI 1 f fd ["lay"] qR:=by
 refine F.ok FD (fun vs H Q E h=> ?_) (fun ao A outer s H vs Q E hr h=> ?_)
 ·obtain⟨l,xs,rfl,_⟩:=h
  rfl
 ·obtain⟨l,xs,rfl,hl,fl,q⟩:=h
  refine⟨_,Zk (Zs (Zq Ys (Zl Zy rfl G.len boot_len (Za (pv 0) Zb)) (Yc PySem.F.plainAttrs_tuple PySem.F.slot_tuple_count PySem.F.type_tuple_count WW (pv 0) (Za Yr Zb)))),?_⟩
  refine⟨_,rfl,l,xs,rfl,.inr (ai.of hl),_,rfl,?ty,l,xs,.af,rfl,rfl,ai.of hl,rfl,fl,_,_,rfl,rfl,?_⟩
  case ty=>exact .inr (.inl ⟨rfl,.inr ⟨_,hl⟩⟩)
  have e:=Wg xs
  show Q (.int ((xs.length:Int) - ((xs.countP fun y=>cD y .af:Nat):Int))) H
  rw[e]
  exact q
abbrev rh:Stmt:=top 25
def uK:Sp:=fun vs H Q _=> ∃(b:Addr) (wd hg W T:Int),vs=[.ref b,.int W,.int T]∧H b=some (.tup [.int wd,.int hg])∧wd≤W∧hg≤T∧Q .af H
theorem zy:bg ["board", "wide", "high"] ["board", "wide", "high"] (ay rh):=⟨rfl,rfl,rfl,by decide+kernel,rfl,by decide+kernel,by decide+kernel⟩
theorem GC {f:Addr}{fd:FuncData}(F:aH K "need_at_most" "need_at_most" rh f fd):aA P w K mg base aI 1 f fd ["board", "wide", "high"] uK:=by
 refine F.ok zy (fun vs H Q E h=> ?_) (fun ao A outer s H vs Q E hr h=> ?_)
 ·obtain⟨b,wd,hg,W,T,rfl,_⟩:=h
  rfl
 ·obtain⟨b,wd,hg,W,T,rfl,hb,h1,h2,q⟩:=h
  refine⟨_,Zk (ZW (PW.pt (WP (ZM tU (ZO Z0 (pv 0) Zi (fun _ _=>rfl)) (pv 1) (cj _)) (Jo (ZM tU (ZO Z0 (pv 0) Zi (fun _ _=>rfl)) (pv 2) (cj _))))) Zw ZG),?_⟩
  refine⟨_,rfl,b,_,0,.int wd,rfl,rfl,ai.of hb,rfl,_,rfl,_,_,rfl,rfl,_,rfl,?_⟩
  rw[decide_eq_false (by omega)]
  refine aV ?_
  refine⟨_,rfl,b,_,1,.int hg,rfl,rfl,ai.of hb,rfl,_,rfl,_,_,rfl,rfl,_,rfl,?_⟩
  rw[decide_eq_false (by omega)]
  exact aV q
end
section
theorem Qk (n:Nat) (v:V):(List.replicate n [v]).flatten=List.replicate n v:=by
 induction n with
 |zero=>rfl
 |succ n ih=>rw[List.replicate_succ,List.flatten_cons,ih,List.replicate_succ];rfl
theorem UU (n:Nat):rowsOf (List.replicate n V.af)=[]:=by
 unfold rowsOf
 exact List.filter_eq_nil_iff.mpr fun x hx=>by rw[List.eq_of_mem_replicate hx];simp
theorem NU (n:Nat):aZ (List.replicate n V.af)=[]:=by
 unfold aZ
 rw[List.filterMap_eq_nil_iff]
 intro l hl
 unfold rowAt
 rw[List.getElem?_replicate]
 split<;>rfl
theorem Yy (w h:Nat):∀i,∀xs∈cC w h i,jd w h xs∧cK xs=true∧∀j,i≤j→j<w→xs[j]? =some V.af
 |0,xs,hx=>by
  have e:xs=List.replicate w V.af:=by simpa[cC] using hx
  subst e
  refine⟨⟨by rw[List.length_replicate],fun r hr=> ?_,by rw[UU];exact List.nodup_nil⟩,?_,fun j _ hj=>by rw[List.getElem?_replicate,if_pos hj]⟩
  ·rw[UU]at hr
   cases hr
  ·unfold cK
   rw[NU]
   rfl
 |i+1,xs,hx=>by
  unfold cC at hx
  obtain⟨ys,hy,hm⟩:=List.mem_flatMap.mp hx
  obtain⟨h1,h2,h3⟩:=Yy w h i ys hy
  obtain⟨v,hv,rfl⟩:=List.mem_map.mp hm
  have hlen:ys.length=w:=by have:=h1.len;omega
  have later:∀v j,i+1≤j→j<w→(ys.set i v)[j]? =some V.af:=fun v j hj sJ=>by
   rw[List.getElem?_set_ne (by omega)]
   exact h3 j (by omega) sJ
  by_cases hi:i<w
  ·have hn:=h3 i (Nat.le_refl _) hi
   rcases List.mem_cons.mp hv with rfl |hv
   ·have e:ys.set i V.af=ys:=by
     refine List.ext_getElem? fun j=> ?_
     by_cases hj:i=j
     ·subst hj
      rw[List.getElem?_set_self (by omega),hn]
     ·rw[List.getElem?_set_ne hj]
    rw[e]
    exact⟨h1,h2,fun j hj sJ=>h3 j (by omega) sJ⟩
   ·obtain⟨r,hr,rfl⟩:=List.mem_map.mp hv
    unfold kg at hr
    obtain⟨IZ,fe⟩:=List.mem_filter.mp hr
    obtain⟨k,hk,rfl⟩:=List.mem_map.mp IZ
    rw[List.mem_range]at hk
    rw[Bool.and_eq_true,Bool.not_eq_true']at fe
    exact⟨DO h1 hn (by omega) (by omega) fe.1,fe.2,later _⟩
  ·have e:∀v,ys.set i v=ys:=fun v=>List.set_eq_of_length_le (by omega)
   rw[e]
   exact⟨h1,h2,fun j hj sJ=>by omega⟩
theorem Yz (w h:Nat):∀i,(cC w h i).length≤(h+1)^i
 |0=>by simp[cC]
 |i+1=>by
  have ih:=Yz w h i
  unfold cC
  refine Nat.le_trans (Uc _ (h+1) _ fun a _=> ?_) ?_
  ·have:=Ua h a i
   simp
   exact this
  ·rw[Nat.pow_succ]
   exact Nat.mul_le_mul_right _ ih
theorem YM {h i:Nat}(hh:h≤5) (hi:i≤5):(h+1)^i≤7776:=
 Nat.le_trans (Nat.pow_le_pow_left (by omega:h+1≤6) i) (Nat.pow_le_pow_right (by decide) hi)
def bw (H:Hp) (v:V) (xs:List V):Prop:=∃t:Addr,v=.ref t∧H t=some (.tup xs)
theorem bw.same {H H':Hp}{v:V}{xs:List V}(h:bw H v xs) (s:ae H H'):bw H' v xs:=let ⟨t,e,h1⟩:=h;⟨t,e,s _ _ h1⟩
def putAll (hg:Nat) (i:Nat) (xs:List V):List (List V):=(V.af::(kg hg xs i).map V.int).map fun v=>xs.set i v
def jC (w h i:Nat) (j:Nat):List (List V):=((cC w h i).take j).flatMap (putAll h i)
theorem UF {w h i j:Nat}{xs:List V}(e:(cC w h i)[j]? =some xs):jC w h i (j+1)=jC w h i j++putAll h i xs:=by
 unfold jC
 rw[List.take_add_one,e,List.flatMap_append]
 simp
end
section
variable {P:Program}{w:World}{K:PySem.W.Frag}{mg:Str→Option Value}{base:Heap}
abbrev rb:Stmt:=top 41
def qP:Sp:=fun vs H Q _=> ∃(b:Addr) (wd hg:Int),vs=[.ref b]∧bN H (.ref b) wd hg∧wd≤5∧hg≤5∧∀(q:Addr) (H':Hp) (ts:List V),ae H H'→H q=none→H' q=some (.lst ts)→Paired (bw H') ts (cC wd.toNat hg.toNat wd.toNat)→Q (.ref q) H'
theorem oD:bg ["board", "found", "line"] ["board"] (ay rb):=⟨rfl,rfl,rfl,by decide+kernel,rfl,by decide+kernel,by decide+kernel⟩
theorem Gv {f:Addr}{fd:FuncData}(F:aH K "unlike_lays" "unlike_lays" rb f fd) (G:Gs mg) (Rk:Def P w K mg base 1 "need_at_most" ["board", "wide", "high"] uK) (yF:Def P w K mg base 1 "with_point" ["lay", "line", "row"] qN) (Rp:Def P w K mg base 12 "free_rows" ["board", "lay", "line"] uR):aA P w K mg base aI 13 f fd ["board"] qP:=by
 obtain⟨Ey,eP⟩:=G.AA
 obtain⟨jh,gF⟩:=G.AD
 refine F.ok oD (fun vs H Q E h=> ?_) (fun ao A outer s H vs Q E hr h=> ?_)
 ·obtain⟨b,wd,hg,rfl,_⟩:=h
  rfl
 ·obtain⟨b,wd,hg,rfl,bd,w5,h5,q⟩:=h
  refine⟨_,Ze (Zx (Zh Rk (hr.mono (by decide)) (Za (pv 0) (Za (Z7 (v:=.int 5) rfl eP ⟨_,rfl⟩) (Za (Z7 (v:=.int 5) rfl gF ⟨_,rfl⟩) Zb)))))
   (Ze (ZA (i:=1) oD.nd rfl (Or.inl rfl) (ZI (Za (Zq NL (ZH (Za Yr Zb)) (ZO Z0 (pv 0) Zi (fun _ _=>rfl))) Zb)))
   (Ze (Jq PassesOwn.never rfl (Z4 rfl G.range (Za (ZO Z0 (pv 0) Zi (fun _ _=>rfl)) Zb)) (ZY (i:=2) oD.nd rfl (Or.inr rfl))
    (Zk (YL ["lay", "row", "board", "line"] 2 [0,2] (i:=1) oD.nd rfl (Or.inl rfl) (ZP (pv 1)) (fun C s H fp=>pb 0) (fun C s H fp=>ZT)
     (fun C s H fp D=>UV rfl rfl rfl (show PI (aG _ _ _ C s H fp) _ _ (vX K _) from ZP (Zq Yk (ZI (Za Yr Zb)) (Zh Rp hr (Za (pv 2) (Za (pv 0) (Za (pv 3) Zb))))))
      (show PG (aG _ _ _ C s H fp) _ (bT 1) from pb 1) ZT (Zv rfl (Zh yF (hr.mono (by decide)) (Za (pv 0) (Za (pv 3) (Za (pv 1) Zb))))) (by intro _;rfl) (by intro g' h;cases h)))))
   (Zk (Zs (pv 1))))),?_⟩
  obtain⟨b',eb,hb⟩:=ZC bd.1
  cases eb
  have g0:=bd.2.1
  have g1:=bd.2.2.2.1
  have eW:(wd.toNat:Int)=wd:=by omega
  have eH:(hg.toNat:Int)=hg:=by omega
  refine⟨_,rfl,b,wd,hg,5,5,rfl,hb,w5,h5,?_⟩
  dsimp only
  refine Zo (ZK ⟨(by show 1≤sizeLine;decide),fun p hp=> ⟨_,rfl,b,_,0,.int wd,rfl,rfl,ai.of (Zz hp _ _ hb),rfl,p,wd,[.af],rfl,rfl,Zc,by simp,g0,by omega,by simp;omega,fun c H1 s1 e1=> ⟨(by show 1≤sizeLine;decide),fun p2 cV=>Zn ?_⟩⟩⟩)
  dsimp only[List.set]
  have zT:=(Zz hp).trans s1
  have s2:=Zz (o:=.lst [.ref c]) cV
  have e2:upd H1 p2 (.lst [.ref c]) p2=some (.lst [.ref c]):=Zc
  generalize upd H1 p2 (HO.lst [V.ref c])=H2 at s2 e2
  have n2:=zT.free cV
  have jP:=zT.trans s2
  refine Zo ⟨_,rfl,b,_,0,.int wd,rfl,rfl,ai.of (jP _ _ hb),rfl,_,rfl,by omega,by omega,?_⟩
  refine YS (fun i σ H'=> ∃fa ts v,σ=[some (.ref b),some (.ref fa),v]∧ae H H'∧H fa=none∧H' fa=some (.lst ts)∧Paired (bw H') ts (cC wd.toNat hg.toNat i)) ⟨p2,_,_,rfl,jP,n2,e2,?_⟩ ?_ ?_
  ·rw[Qk wd.toNat V.af]at e1
   exact .cons ⟨c,rfl,s2 _ _ e1⟩ .nil
  ·rintro i σ H3 hi ⟨fa,ts,v,rfl,s3,oQ,i5,cJ⟩
   rw[Int.zero_add]
   refine Zn ?_
   dsimp only[List.set]
   have gW:=Paired.length cJ
   have AK:=Nat.le_trans (Yz wd.toNat hg.toNat i) (YM (by omega) (by omega))
   refine⟨_,rfl,fa,rfl,⟨ts,ag.of i5⟩,?_⟩
   refine ZL (xs:=ts) (fun j ys σ H4=> ∃v0 v1,σ=[v0,v1,some (.ref b),some (.int (i:Int))]∧ae H3 H4∧Paired (bw H4) ys (jC wd.toNat hg.toNat i j)∧ys.length≤j*6) ⟨_,_,rfl,ae.refl _,.nil,Nat.zero_le _⟩ (fun i ys σ H2 _ ⟨_,_,_,s2,_⟩=>ag.of (s2 _ _ i5)) ?_ ?_
   ·rintro j v ys σ H4 hv ⟨v0,v1,rfl,s4,dj,jx⟩
    obtain⟨xs,gB,t,rfl,ht⟩:=Paired.at cJ hv
    have hj:j<ts.length:=(List.getElem?_eq_some_iff.mp hv).1
    obtain⟨ly,un,HV⟩:=Yy wd.toNat hg.toNat i xs (List.mem_of_getElem? gB)
    rw[eW,eH]at ly
    have hx:=HV i (Nat.le_refl _) (by omega)
    have j6:=s4 _ _ ht
    refine Zn ?_
    dsimp only[List.set]
    unfold kG
    refine aW ?_
    refine⟨(by show 1≤sizeLine;decide),fun p5 sr=> ?_⟩
    have s5:=Zz (o:=.lst [.af]) sr
    have e5:upd H4 p5 (.lst [.af]) p5=some (.lst [.af]):=Zc
    generalize upd H4 p5 (HO.lst [V.af])=H5 at s5 e5
    refine⟨_,rfl,_,rfl,_,rfl,b,t,i,wd,hg,xs,rfl,bd.same (s3.trans (s4.trans s5)),s5 _ _ j6,ly,hx,fun fb H6 s6 nf ef=> ?_⟩
    have fl:=Ua hg.toNat xs i
    have es:=UF (w:=wd.toNat) (h:=hg.toNat) (i:=i) gB
    unfold putAll at es
    generalize kg hg.toNat xs i=fs at ef es fl
    refine⟨p5,fb,_,_,rfl,rfl,s6 _ _ e5,ef,by rw[sizeLine_eq];simp;omega,fun p7 Kf=> ?_⟩
    have s7:=Zz (o:=.lst ([.af]++fs.map V.int)) Kf
    have e7:upd H6 p7 (.lst ([.af]++fs.map V.int)) p7=some (.lst ([.af]++fs.map V.int)):=Zc
    generalize upd H6 p7 (HO.lst ([.af]++fs.map V.int))=H7 at s7 e7
    refine⟨p7,rfl,⟨_,ag.of e7⟩,?_⟩
    have vv:=s5.trans (s6.trans s7)
    generalize hJ:([V.af]++fs.map V.int)=vs at e7
    have Sk:vs.length≤6:=by
     rw[←hJ]
     simp
     omega
    have fj:jC wd.toNat hg.toNat i (j+1)=jC wd.toNat hg.toNat i j++vs.map fun v=>xs.set i v:=by
     rw[es,←hJ]
     rfl
    refine ZL (xs:=vs) (fun k ys σ H8=> ∃v1,σ=[some (.ref t),v1,some (.ref b),some (.int (i:Int))]∧ae H7 H8∧Paired (bw H8) ys (jC wd.toNat hg.toNat i j++(vs.take k).map fun v=>xs.set i v)∧ys.length≤j*6+k) ⟨_,rfl,ae.refl _,by simpa using Paired.br dj fun v q' hq=>hq.same vv,jx⟩ (fun i ys σ H2 _ ⟨_,_,s2,_⟩=>ag.of (s2 _ _ e7)) ?_ ?_
    ·rintro k v ys σ H8 fM ⟨v1,rfl,s8,kP,wK⟩
     have hk:k<vs.length:=(List.getElem?_eq_some_iff.mp fM).1
     refine Zn ?_
     dsimp only[List.set]
     try unfold kG
     refine aW ?_
     refine⟨_,rfl,_,rfl,_,rfl,t,xs,i,v,rfl,(vv.trans s8) _ _ j6,by have:=ly.len;omega,by have:=ly.len;omega,fun t9 H9 s9 e9=> ⟨by rw[sizeLine_eq];omega,?_⟩⟩
     refine⟨_,rfl,s8.trans s9,?_,by rw[List.length_append];simp;omega⟩
     rw[List.take_add_one,fM,List.map_append,←List.append_assoc]
     exact Paired.snoc (Paired.br kP fun v q' hq=>hq.same s9) ⟨t9,rfl,e9⟩
    ·rintro ys σ H8 ⟨v1,rfl,s8,kP,wK⟩
     rw[List.take_length]at kP
     refine⟨_,_,rfl,s4.trans (vv.trans s8),?_,by omega⟩
     rw[fj]
     exact kP
   ·rintro ys σ H4 ⟨v0,v1,rfl,s4,dj,jx⟩ p5 sr
    have s5:=Zz (o:=.lst ys) sr
    refine⟨p5,ys,_,rfl,s3.trans (s4.trans s5),(s3.trans s4).free sr,Zc,?_⟩
    have e:jC wd.toNat hg.toNat i ts.length=cC wd.toNat hg.toNat (i+1):=by
     unfold jC
     rw[gW,List.take_length]
     rfl
    rw[e]at dj
    exact Paired.br dj fun v q' hq=>hq.same s5
  ·rintro σ H3 ⟨fa,ts,v,rfl,s3,oQ,i5,cJ⟩
   exact⟨_,rfl,q fa H3 ts s3 oQ i5 cJ⟩
end
section
def mZ (w h:Nat) (n:Int) (i:Nat):List (List V):=((cC w h w).take i).filter fun xs=>decide ((bD xs:Int)=n)
theorem Qh {w h i:Nat}{n:Int}{xs:List V}(e:(cC w h w)[i]? =some xs):mZ w h n (i+1)=mZ w h n i++(if decide ((bD xs:Int)=n)=true then [xs] else []):=by
 unfold mZ
 rw[List.take_add_one,e,List.filter_append]
 cases hh:decide ((bD xs:Int)=n)<;>simp_all
theorem We:∀{l:List Nat},l≠[]→jo l∈l
 | [],h=>absurd rfl h
 | [a],_=>by simp[jo]
 |a::b::l,_=>by
  have ih:=We (l:=b::l) (by simp)
  show max a (jo (b::l))∈_
  rcases Nat.le_total a (jo (b::l)) with z |z
  ·rw[Nat.max_eq_right z];exact List.mem_cons_of_mem _ ih
  ·rw[Nat.max_eq_left z];exact List.mem_cons_self
theorem CS {l:List Nat}{M:Int}(h:M∈l.map fun(n:Nat)=> (n:Int)) (hm:∀a∈l.map fun(n:Nat)=> (n:Int),a≤M):M=(jo l:Int):=by
 obtain⟨n,hn,rfl⟩:=List.mem_map.mp h
 have h1:=Ol hn
 have h2:=hm _ (List.mem_map.mpr ⟨_,We (fun z=>by rw[z]at hn;cases hn),rfl⟩)
 omega
theorem NX (w i:Nat):(List.replicate w V.af).set i V.af=List.replicate w V.af:=by
 refine List.ext_getElem? fun j=> ?_
 rw[List.getElem?_set]
 split
 ·next e=>
  subst e
  rw[List.length_replicate,List.getElem?_replicate]
 ·rfl
theorem YQ (w h:Nat):∀i,List.replicate w V.af∈cC w h i
 |0=>by simp[cC]
 |i+1=>by
  unfold cC
  exact List.mem_flatMap.mpr ⟨_,YQ w h i,List.mem_map.mpr ⟨V.af,List.mem_cons_self,NX w i⟩⟩
end
section
variable {P:Program}{w:World}{K:PySem.W.Frag}{mg:Str→Option Value}{base:Heap}
abbrev ra:Stmt:=top 42
def oz:Sp:=fun vs H Q _=> ∃(b:Addr) (wd hg n:Int),vs=[.ref b,.int n]∧bN H (.ref b) wd hg∧wd≤5∧hg≤5∧∀(q:Addr) (H':Hp) (ts:List V),ae H H'→H q=none→H' q=some (.lst ts)→Paired (bw H') ts (gp wd.toNat hg.toNat n)→Q (.ref q) H'
theorem zq:bg ["board", "number"] ["board", "number"] (ay ra):=⟨rfl,rfl,rfl,by decide+kernel,rfl,by decide+kernel,by decide+kernel⟩
theorem Gq {f:Addr}{fd:FuncData}(F:aH K "unlike_of" "unlike_of" ra f fd) (yH:Def P w K mg base 1 "points_many" ["lay"] qR) (yG:Def P w K mg base 13 "unlike_lays" ["board"] qP):aA P w K mg base aI 14 f fd ["board", "number"] oz:=by
 refine F.ok zq (fun vs H Q E h=> ?_) (fun ao A outer s H vs Q E hr h=> ?_)
 ·obtain⟨b,wd,hg,n,rfl,_⟩:=h
  rfl
 ·obtain⟨b,wd,hg,n,rfl,bd,w5,h5,q⟩:=h
  refine⟨_,Zk (Zs (ZQ ["lay", "number"] 1 [1] (ZP (Zh yG hr (Za (pv 0) Zb))) (fun C s H fp=>pb 0)
   (fun C s H fp=>Z3 (ZM YC (Zh yH (hr.mono (by decide)) (Za (pv 0) Zb)) (pv 1) (cj _))) (fun C s H fp D=>Zv rfl (pv 0)))),?_⟩
  refine⟨_,rfl,b,wd,hg,rfl,bd,w5,h5,fun fa H1 ts s1 nf ef pr=> ?_⟩
  have AK:=Nat.le_trans (Yz wd.toNat hg.toNat wd.toNat) (YM (by omega) (by omega))
  have gW:=Paired.length pr
  refine⟨fa,rfl,⟨ts,ag.of ef⟩,?_⟩
  refine ZL (xs:=ts) (fun i ys σ H2=> ∃v,σ=[v,some (.int n)]∧ae H1 H2∧Paired (bw H1) ys (mZ wd.toNat hg.toNat n i)∧ys.length≤i) ⟨_,rfl,ae.refl _,.nil,Nat.zero_le _⟩ (fun i ys σ H2 _ ⟨_,_,s2,_⟩=>ag.of (s2 _ _ ef)) ?_ ?_
  ·rintro i v ys σ H2 hv ⟨v0,rfl,s2,dk,dQ⟩
   obtain⟨xs,gB,t,rfl,ht⟩:=Paired.at pr hv
   have hi:i<ts.length:=(List.getElem?_eq_some_iff.mp hv).1
   have ly:=(Yy wd.toNat hg.toNat wd.toNat xs (List.mem_of_getElem? gB)).1
   have es:=Qh (n:=n) gB
   refine Zn ?_
   dsimp only[List.set]
   refine⟨_,rfl,t,xs,rfl,s2 _ _ ht,Wn ly,_,rfl,rfl,_,rfl,?_⟩
   have z:decide (V.int (bD xs:Int)=V.int n)=decide ((bD xs:Int)=n):=by
    rw[decide_eq_decide]
    exact⟨fun h=>by injection h,fun h=>by rw[h]⟩
   rw[z]
   cases hh:decide ((bD xs:Int)=n) with
   |true=>
    rw[hh,if_pos rfl]at es
    refine aW ⟨_,rfl,by rw[sizeLine_eq];omega,⟨_,rfl,s2,?_,by rw[List.length_append];simp;omega⟩⟩
    rw[es]
    exact Paired.snoc dk ⟨t,rfl,ht⟩
   |false=>
    rw[hh,if_neg Bool.false_ne_true,List.append_nil]at es
    refine aV ⟨_,rfl,s2,?_,by omega⟩
    rw[es]
    exact dk
  ·rintro ys σ H2 ⟨v,rfl,s2,dk,dQ⟩ p hp
   have s4:=Zz (o:=.lst ys) hp
   refine q p _ ys (s1.trans (s2.trans s4)) ((s1.trans s2).free hp) Zc ?_
   have e:mZ wd.toNat hg.toNat n ts.length=gp wd.toNat hg.toNat n:=by
    unfold mZ gp
    rw[gW,List.take_length]
   rw[e]at dk
   exact Paired.br dk fun v q' hq=>hq.same (s2.trans s4)
abbrev rk:Stmt:=top 43
def mO:Sp:=fun vs H Q _=> ∃(b:Addr) (wd hg:Int),vs=[.ref b]∧bN H (.ref b) wd hg∧wd≤5∧hg≤5∧∀(H':Hp),ae H H'→Q (.int (bC wd.toNat hg.toNat)) H'
theorem zA:bg ["board"] ["board"] (ay rk):=⟨rfl,rfl,rfl,by decide+kernel,rfl,by decide+kernel,by decide+kernel⟩
theorem GH {f:Addr}{fd:FuncData}(F:aH K "most" "most" rk f fd) (G:Gs mg) (je:Def P w K mg base 4 "need_board" ["board"] (kH K)) (yH:Def P w K mg base 1 "points_many" ["lay"] qR) (yG:Def P w K mg base 13 "unlike_lays" ["board"] qP):aA P w K mg base aI 14 f fd ["board"] mO:=by
 refine F.ok zA (fun vs H Q E h=> ?_) (fun ao A outer s H vs Q E hr h=> ?_)
 ·obtain⟨b,wd,hg,rfl,_⟩:=h
  rfl
 ·obtain⟨b,wd,hg,rfl,bd,w5,h5,q⟩:=h
  refine⟨_,Ze (Zx (Zh je (hr.mono (by decide)) (Za (pv 0) Zb)))
   (Zk (Zs (Zl JC rfl G.max boot_max (Za (ZQ ["lay"] 1 [] (ZP (Zh yG hr (Za (pv 0) Zb))) (fun C s H fp=>pb 0)
   (fun C s H fp=>ZT) (fun C s H fp D=>Zv rfl (Zh yH (hr.mono (by decide)) (Za (pv 0) Zb)))) Zb)))),?_⟩
  refine⟨_,rfl,.ref b,wd,hg,rfl,bd,fun H0 s0=> ?_⟩
  refine⟨_,rfl,b,wd,hg,rfl,bd.same s0,w5,h5,fun fa H1 ts s1 nf ef pr=> ?_⟩
  have AK:=Nat.le_trans (Yz wd.toNat hg.toNat wd.toNat) (YM (by omega) (by omega))
  have gW:=Paired.length pr
  refine⟨fa,rfl,⟨ts,ag.of ef⟩,?_⟩
  refine ZL (xs:=ts) (fun i ys σ H2=> ∃v,σ=[v]∧ae H1 H2∧ys=((((cC wd.toNat hg.toNat wd.toNat).take i).map bD).map fun(n:Nat)=> (n:Int)).map V.int∧ys.length≤i) ⟨_,rfl,ae.refl _,by simp,Nat.zero_le _⟩ (fun i ys σ H2 _ ⟨_,_,s2,_⟩=>ag.of (s2 _ _ ef)) ?_ ?_
  ·rintro i v ys σ H2 hv ⟨v0,rfl,s2,rfl,dQ⟩
   obtain⟨xs,gB,t,rfl,ht⟩:=Paired.at pr hv
   have hi:i<ts.length:=(List.getElem?_eq_some_iff.mp hv).1
   have ly:=(Yy wd.toNat hg.toNat wd.toNat xs (List.mem_of_getElem? gB)).1
   refine Zn ?_
   dsimp only[List.set]
   try unfold kG
   refine aW ?_
   refine⟨_,rfl,t,xs,rfl,s2 _ _ ht,Wn ly,by rw[sizeLine_eq];omega,⟨_,rfl,s2,?_,by rw[List.length_append];simp at dQ ⊢;omega⟩⟩
   rw[List.take_add_one,gB]
   simp
  ·rintro ys σ H2 ⟨v,rfl,s2,rfl,dQ⟩ p hp
   rw[gW,List.take_length]
   refine⟨p,_,rfl,ag.of Zc,?_,fun M hM hle=> ?_⟩
   ·intro z
    have:=YQ wd.toNat hg.toNat wd.toNat
    rw[List.map_eq_nil_iff,List.map_eq_nil_iff]at z
    rw[z]at this
    cases this
   ·rw[CS hM hle]
    exact q _ (s0.trans (s1.trans (s2.trans (Zz hp))))
abbrev rm:Stmt:=top 44
def qW:Sp:=fun vs H Q _=> ∃(b:Addr) (wd hg:Int),vs=[.ref b]∧bN H (.ref b) wd hg∧wd≤5∧hg≤5∧∀(q:Addr) (H':Hp) (ts:List V),ae H H'→H q=none→H' q=some (.lst ts)→Paired (bw H') ts (gp wd.toNat hg.toNat (bC wd.toNat hg.toNat))→Q (.ref q) H'
theorem zB:bg ["board"] ["board"] (ay rm):=⟨rfl,rfl,rfl,by decide+kernel,rfl,by decide+kernel,by decide+kernel⟩
theorem GJ {f:Addr}{fd:FuncData}(F:aH K "most_lays" "most_lays" rm f fd) (qq:Def P w K mg base 14 "most" ["board"] mO) (qp:Def P w K mg base 14 "unlike_of" ["board", "number"] oz):aA P w K mg base aI 15 f fd ["board"] qW:=by
 refine F.ok zB (fun vs H Q E h=> ?_) (fun ao A outer s H vs Q E hr h=> ?_)
 ·obtain⟨b,wd,hg,rfl,_⟩:=h
  rfl
 ·obtain⟨b,wd,hg,rfl,bd,w5,h5,q⟩:=h
  refine⟨_,Zk (Zs (Zh qp hr (Za (pv 0) (Za (Zh qq hr (Za (pv 0) Zb)) Zb)))),?_⟩
  refine⟨_,rfl,_,rfl,b,wd,hg,rfl,bd,w5,h5,fun H1 s1=> ⟨b,wd,hg,_,rfl,bd.same s1,w5,h5,fun fa H2 ts s2 nf ef pr=> ?_⟩⟩
  exact q fa H2 ts (s1.trans s2) (s1.free nf) ef pr
abbrev rj:Stmt:=top 45
def oB:Sp:=fun vs H Q _=> ∃(b:Addr) (wd hg n:Int),vs=[.ref b,.int n]∧bN H (.ref b) wd hg∧wd≤5∧hg≤5∧0≤n∧n≤12∧∀(H':Hp),ae H H'→Q (.int (gp wd.toNat hg.toNat n).length) H'
theorem zz:bg ["board", "number"] ["board", "number"] (ay rj):=⟨rfl,rfl,rfl,by decide+kernel,rfl,by decide+kernel,by decide+kernel⟩
theorem GF {f:Addr}{fd:FuncData}(F:aH K "many_of" "many_of" rj f fd) (G:Gs mg) (je:Def P w K mg base 4 "need_board" ["board"] (kH K)) (yI:Def P w K mg base 3 "need_whole_within" ["number", "least", "most"] (qT K)) (qp:Def P w K mg base 14 "unlike_of" ["board", "number"] oz):aA P w K mg base aI 15 f fd ["board", "number"] oB:=by
 obtain⟨tk,hL⟩:=G.longest
 refine F.ok zz (fun vs H Q E h=> ?_) (fun ao A outer s H vs Q E hr h=> ?_)
 ·obtain⟨b,wd,hg,n,rfl,_⟩:=h
  rfl
 ·obtain⟨b,wd,hg,n,rfl,bd,w5,h5,n0,n1,q⟩:=h
  refine⟨_,Ze (Zx (Zh je (hr.mono (by decide)) (Za (pv 0) Zb)))
   (Ze (Zx (Zh yI (hr.mono (by decide)) (Za (pv 1) (Za Zi (Za (Z7 (v:=.int 12) rfl hL ⟨_,rfl⟩) Zb)))))
   (Zk (Zs (Zl Zy rfl G.len boot_len (Za (Zh qp hr (Za (pv 0) (Za (pv 1) Zb))) Zb))))),?_⟩
  refine⟨_,rfl,.ref b,wd,hg,rfl,bd,fun H0 s0=> ?_⟩
  refine⟨_,rfl,.int n,0,12,rfl,⟨_,.int n⟩,?_,?_⟩
  ·show(decide (0≤n)&&decide (n≤12))=true
   rw[decide_eq_true n0,decide_eq_true n1]
   rfl
  ·refine⟨_,rfl,_,rfl,b,wd,hg,n,rfl,bd.same s0,w5,h5,fun fa H2 ts s2 nf ef pr=> ⟨fa,ts,rfl,.inl (ag.of ef),?_⟩⟩
   rw[Paired.length pr]
   exact q H2 (s0.trans s2)
end
section
def mW (ps:List (Int×Int)) (i:Nat):List (List Int):=(List.range i).flatMap fun k=>match ps[k]? with
 |some a=> (ps.drop (k+1)).map (sk a)
 |none=> []
theorem Px {ps:List (Int×Int)}{i:Nat}{a:Int×Int}(h:ps[i]? =some a):mW ps (i+1)=mW ps i++(ps.drop (i+1)).map (sk a):=by
 unfold mW
 rw[List.range_succ,List.flatMap_append]
 simp[h]
theorem CP:∀ps:List (Int×Int),mW ps ps.length=pk ps
 | []=>rfl
 |a::r=>by
  have ih:=CP r
  unfold mW at ih ⊢
  rw[List.length_cons,List.range_succ_eq_map,List.flatMap_cons,List.flatMap_map]
  unfold pk
  rw[←ih]
  rfl
theorem NZ {xs:List V}{i:Nat}{r:Int}(h:rowAt xs i=some r):fk xs (i:Int)=some (.int r):=by
 refine YV ?_
 unfold rowAt at h
 cases e:xs[i]? with
 |none=>rw[e]at h;cases h
 |some v=>
  rw[e]at h
  cases v with
  |int y=>have:y=r:=Option.some.inj h;rw[this]
  |_=>cases h
theorem M6 {xs:List V}{q:Int×Int}(h:q∈aZ xs):fk xs q.1=some (.int q.2):=by
 obtain⟨l,hl,hr,e⟩:=Yf.mp h
 rw[e]
 exact NZ hr
theorem UO {H:Hp}{L:Addr}{zs:List V}{o:HO}(e:H L=some (.lst zs)) {v:V}{k:List Int}(h:cZ H v k):cZ (upd H L o) v k:=by
 obtain⟨t,rfl,ht⟩:=h
 refine⟨t,rfl,?_⟩
 rw[Zf (fun z=> ?_)]
 ·exact ht
 ·subst z
  rw[e]at ht
  cases ht
theorem Yv {H H1:Hp}{L:Addr}{o:HO}(s:ae H H1) (n:H L=none):ae H (upd H1 L o):=fun b u h=>by
 rw[Zf (Zg h n)]
 exact s b u h
theorem Y1 {α β:Type}{F:α→β→Prop} :∀{a c:List α}{b d:List β},Paired F a b→Paired F c d→Paired F (a++c) (b++d)
 |_,_,_,_,.nil,h=>h
 |_,_,_,_,.cons x y,h=> .cons x (Y1 y h)
theorem OU (xs:List V):(aZ xs).length≤xs.length:=by
 unfold aZ
 refine Nat.le_trans (List.length_filterMap_le _ _) ?_
 rw[List.length_range]
 exact Nat.le_refl _
end
section
variable {P:Program}{w:World}{K:PySem.W.Frag}{mg:Str→Option Value}{base:Heap}
abbrev vh:Stmt:=top 51
def uO:Sp:=fun vs H Q _=> ∃(a:Addr) (xs:List V),vs=[.ref a]∧H a=some (.tup xs)∧kr xs∧xs.length≤12∧∀(q:Addr) (H':Hp) (ts:List V),ae H H'→H q=none→H' q=some (.lst ts)→Paired (cZ H') ts (pk (aZ xs))→ts.length≤144→Q (.ref q) H'
abbrev Hl:List Str:=["_law_lay", "_law_some", "_law_found", "_law_at", "_law_line"]
theorem oF:bg Hl ["_law_lay"] (ay vh):=⟨rfl,rfl,rfl,by decide+kernel,rfl,by decide+kernel,by decide+kernel⟩
theorem GL {f:Addr}{fd:FuncData}(F:aH K "_law_steps" "_law_steps" vh f fd) (G:Gs mg):aA P w K mg base aI 1 f fd ["_law_lay"] uO:=by
 refine F.ok oF (fun vs H Q E h=> ?_) (fun ao A outer s H vs Q E hr h=> ?_)
 ·obtain⟨a,xs,rfl,_⟩:=h
  rfl
 ·obtain⟨a,xs,rfl,ha,ok,rR,q⟩:=h
  refine⟨_,Ze (YL ["_law_line", "_law_lay"] 1 [0] (i:=1) oF.nd rfl (Or.inl rfl) (Z4 rfl G.range (Za (Zl Zy rfl G.len boot_len (Za (pv 0) Zb)) Zb)) (fun C s H fp=>pb 0)
    (fun C s H fp=>Z3 (Jp (Ut (ZO (show mw (aG _ _ _ C s H fp) (oM K) from Z0) (pv 1) (pv 0) (fun _ _=>rfl))))) (fun C s H fp D=>Zv rfl (pv 0)))
   (Ze (ZA (i:=2) oF.nd rfl (Or.inl rfl) (ZI Zb))
   (Ze (Jq PassesOwn.never rfl (OS rfl G.enumerate (Za (pv 1) Zb)) (Z5 rfl (Zp (ZY (i:=3) oF.nd rfl (Or.inl rfl)) (Zp (ZY (i:=4) oF.nd rfl (Or.inr rfl)) ZU)))
    (Zk (Zx (Yc PySem.F.plainAttrs_list PySem.F.slot_list_extend PySem.F.type_list_extend WX (pv 2) (Za
     (ZQ ["_law_other", "_law_lay", "_law_line"] 1 [0,4] (ZP (Ja DI (pv 1) (JN (Zq Yl (pv 3) Zi)) JO)) (fun C s H fp=>pb 0) (fun C s H fp=>ZT)
      (fun C s H fp D=>Zv rfl (ZH (Za (Zq Ys (pv 0) (pv 2)) (Za (Zq Ys (ZO (show mw (aG _ _ _ C s H fp) (oM K) from Z0) (pv 1) (pv 0) (fun _ _=>rfl)) (ZO (show mw (aG _ _ _ C s H fp) (oM K) from Z0) (pv 1) (pv 2) (fun _ _=>rfl))) Zb))))) Zb)))))
   (Zk (Zs (pv 2))))),?_⟩
  have HJ:=OU xs
  refine Zo ⟨_,rfl,a,xs,rfl,.inr (ai.of ha),_,rfl,by omega,by omega,?_⟩
  refine Y2 (fun k ys σ H1=> ∃v,σ=[v,some (.ref a)]∧ae H H1∧ys=((iO xs k).map (·.1)).map V.int∧ys.length≤k) ⟨_,rfl,ae.refl _,rfl,Nat.zero_le _⟩ ?_ ?_
  ·rintro k ys σ H1 hk ⟨v,rfl,s1,rfl,hlen⟩
   have aK:k<xs.length:=by omega
   rw[Int.zero_add]
   refine Zn ?_
   dsimp only[List.set]
   obtain⟨v,hv⟩:∃v,xs[k]? =some v:=⟨_,List.getElem?_eq_getElem aK⟩
   have lP:fk xs (k:Int)=some v:=YV hv
   refine⟨_,rfl,_,rfl,a,xs,(k:Int),v,rfl,rfl,ai.of (s1 _ _ ha),lP,_,rfl,?_⟩
   have er:rowAt xs k=mU v:=by unfold rowAt;rw[hv];rfl
   have es:=Y0 xs k
   rw[er]at es
   rcases ok v (List.mem_of_getElem? hv) with rfl |⟨r,rfl⟩
   ·refine aV ⟨_,rfl,s1,?_,by omega⟩
    rw[es]
    simp[mU]
   ·refine aW ⟨_,rfl,by rw[sizeLine_eq];omega,⟨_,rfl,s1,?_,by rw[List.length_append];simp at hlen ⊢;omega⟩⟩
    rw[es]
    simp[mU]
  ·rintro ys σ H1 ⟨v,rfl,s1,rfl,hlen⟩ m hm
   have e0:iO xs (Int.toNat (xs.length:Int))=aZ xs:=by rw[Int.toNat_natCast];rfl
   have sm:=Zz (o:=.lst (((iO xs (Int.toNat (xs.length:Int))).map (·.1)).map V.int)) hm
   have em:upd H1 m (.lst (((iO xs (Int.toNat (xs.length:Int))).map (·.1)).map V.int)) m=some (.lst (((iO xs (Int.toNat (xs.length:Int))).map (·.1)).map V.int)):=Zc
   generalize upd H1 m (HO.lst (((iO xs (Int.toNat (xs.length:Int))).map (·.1)).map V.int))=H2 at sm em
   rw[e0]at em
   have bS:∀q'∈aZ xs,fk xs q'.1=some (.int q'.2):=fun q' h=>M6 h
   generalize aZ xs=ps at em HJ q bS
   have nm:H m=none:=s1.free hm
   have jP:=s1.trans sm
   dsimp only[List.set]
   refine Zo (ZK ⟨by show 0≤sizeLine;decide,fun L hL=>Zn ?_⟩)
   dsimp only[List.set]
   have nL:H L=none:=jP.free hL
   have Ks:m≠L:=Zg em hL
   have sL:=Zz (o:=.lst []) hL
   have eL:upd H2 L (.lst []) L=some (.lst []):=Zc
   generalize upd H2 L (HO.lst [])=H3 at sL eL
   have vA:=jP.trans sL
   refine Zo ⟨_,rfl,m,rfl,⟨_,ag.of (sL _ _ em)⟩,?_⟩
   refine PY (xs:=(ps.map (·.1)).map V.int) (fun i σ H4=> ∃zs v3 v4,σ=[some (.ref a),some (.ref m),some (.ref L),v3,v4]∧ae H H4∧H4 m=some (.lst ((ps.map (·.1)).map V.int))∧H4 L=some (.lst zs)∧Paired (cZ H4) zs (mW ps i)∧zs.length≤i*12) ⟨_,_,_,rfl,vA,sL _ _ em,eL,.nil,Nat.zero_le _⟩ (fun i σ H4 _ ⟨_,_,_,_,_,e,_⟩=>ag.of e) ?_ ?_
   ·rintro i v T σ H4 hv hT ⟨zs,v3,v4,rfl,s4,xF,tK,dj,jx⟩
    rw[List.getElem?_map,List.getElem?_map]at hv
    obtain⟨z,hz,rfl⟩:=Option.map_eq_some_iff.mp hv
    obtain⟨p0,wz,rfl⟩:=Option.map_eq_some_iff.mp hz
    have hi:i<ps.length:=(List.getElem?_eq_some_iff.mp wz).1
    have sT:=Zz (o:=.par [.int (i:Int),.int p0.1]) hT
    refine⟨T,_,rfl,ai.nh Zc,rfl,_,_,rfl,_,_,rfl,rfl,?_⟩
    generalize upd H4 T (HO.par [V.int (i:Int),V.int p0.1])=H5 at sT
    have nR:=sT _ _ tK
    have Mb:=sT _ _ xF
    refine⟨_,rfl,.inl ⟨rfl,_,ag.of nR⟩,?_⟩
    refine⟨_,rfl,_,rfl,_,_,rfl,rfl,_,rfl,m,_,rfl,ag.of Mb,fun p6 Kg=> ?_⟩
    have K8:cX ((ps.map (·.1)).map V.int) (some ((i:Int)+1)) none=((ps.drop (i+1)).map (·.1)).map V.int:=by
     rw[Dq (by simpa using hi),←List.map_drop,←List.map_drop]
    rw[K8]
    have s6:=Zz (o:=.lst (((ps.drop (i+1)).map (·.1)).map V.int)) Kg
    have e6:upd H5 p6 (.lst (((ps.drop (i+1)).map (·.1)).map V.int)) p6=some (.lst (((ps.drop (i+1)).map (·.1)).map V.int)):=Zc
    generalize upd H5 p6 (HO.lst (((ps.drop (i+1)).map (·.1)).map V.int))=H6 at s6 e6
    refine⟨p6,rfl,⟨_,ag.of e6⟩,?_⟩
    have es:=Px wz
    have lD:∀q'∈ps.drop (i+1),fk xs q'.1=some (.int q'.2):=fun q' h=>bS q' (List.mem_of_mem_drop h)
    have HR:(ps.drop (i+1)).length≤12:=by rw[List.length_drop];omega
    generalize ps.drop (i+1)=rs at e6 es lD HR
    have Lj:=(s4.trans (sT.trans s6)) _ _ ha
    have h0:=bS p0 (List.mem_of_getElem? wz)
    refine ZL (xs:=(rs.map (·.1)).map V.int) (fun j ys σ H7=> ∃v,σ=[v,some (.ref a),some (.int p0.1)]∧ae H6 H7∧Paired (cZ H7) ys ((rs.take j).map (sk p0))∧ys.length≤j) ⟨_,rfl,ae.refl _,.nil,Nat.zero_le _⟩ (fun i ys σ H2 _ ⟨_,_,s2,_⟩=>ag.of (s2 _ _ e6)) ?_ ?_
    ·rintro j v ys σ H7 fM ⟨v0,rfl,s7,kQ,Bj⟩
     rw[List.getElem?_map,List.getElem?_map]at fM
     obtain⟨z,aY,rfl⟩:=Option.map_eq_some_iff.mp fM
     obtain⟨p1,nG,rfl⟩:=Option.map_eq_some_iff.mp aY
     have hj:j<rs.length:=(List.getElem?_eq_some_iff.mp nG).1
     have h1:=lD p1 (List.mem_of_getElem? nG)
     have BF:=ai.of (K:=K) (s7 _ _ Lj)
     refine Zn ?_
     dsimp only[List.set]
     try unfold kG
     refine aW ?_
     refine⟨_,rfl,_,rfl,_,_,rfl,rfl,_,rfl,_,rfl,a,xs,p1.1,_,rfl,rfl,BF,h1,_,rfl,_,rfl,a,xs,p0.1,_,rfl,rfl,BF,h0,_,_,rfl,rfl,(by show 2≤sizeLine;decide),fun t8 we=> ⟨by rw[sizeLine_eq];omega,?_⟩⟩
     have s8:=Zz (o:=.tup [.int (p1.1 - p0.1),.int (p1.2 - p0.2)]) we
     refine⟨_,rfl,s7.trans s8,?_,by rw[List.length_append];simp;omega⟩
     rw[List.take_add_one,nG,List.map_append]
     exact Paired.snoc (Paired.br kQ fun v q' hq=>hq.same s8) ⟨t8,rfl,Zc⟩
    ·rintro ys σ H7 ⟨v0,rfl,s7,kQ,Bj⟩ p8 Ke
     rw[List.length_map,List.length_map]at kQ Bj
     rw[List.take_length]at kQ
     have s8:=Zz (o:=.lst ys) Ke
     have e8:upd H7 p8 (.lst ys) p8=some (.lst ys):=Zc
     generalize upd H7 p8 (HO.lst ys)=H8 at s8 e8
     have rq:=sT.trans (s6.trans (s7.trans s8))
     have xI:=rq _ _ tK
     have Ma:=rq _ _ xF
     refine⟨L,p8,zs,ys,rfl,rfl,xI,e8,by rw[sizeLine_eq];omega,?_⟩
     refine⟨_,_,_,rfl,Yv (s4.trans rq) nL,?_,Zc,?_,by rw[List.length_append];omega⟩
     ·rw[Zf Ks]
      exact Ma
     ·rw[es]
      exact Y1 (Paired.br dj fun v q' hq=>UO xI (hq.same rq)) (Paired.br kQ fun v q' hq=>UO xI (hq.same s8))
   ·rintro σ H4 ⟨zs,v3,v4,rfl,s4,xF,tK,dj,jx⟩
    rw[List.length_map,List.length_map]at dj jx
    rw[CP]at dj
    exact⟨_,rfl,q L H4 zs s4 nL tK dj (by omega)⟩
abbrev rn:Stmt:=top 52
def uN:Sp:=fun vs H Q _=> ∃(a:Addr) (xs:List V),vs=[.ref a]∧H a=some (.tup xs)∧kr xs∧xs.length≤12∧∀(H':Hp),ae H H'→Q (.bl (cK xs)) H'
theorem zC:bg ["_law_lay", "_law_some"] ["_law_lay"] (ay rn):=⟨rfl,rfl,rfl,by decide+kernel,rfl,by decide+kernel,by decide+kernel⟩
theorem GK {f:Addr}{fd:FuncData}(F:aH K "_law_unlike" "_law_unlike" rn f fd) (G:Gs mg) (Rn:Def P w K mg base 1 "_law_steps" ["_law_lay"] uO):aA P w K mg base aI 2 f fd ["_law_lay"] uN:=by
 refine F.ok zC (fun vs H Q E h=> ?_) (fun ao A outer s H vs Q E hr h=> ?_)
 ·obtain⟨a,xs,rfl,_⟩:=h
  rfl
 ·obtain⟨a,xs,rfl,ha,ok,rR,q⟩:=h
  have hu:(bY aI P w K mg base ["_law_lay", "_law_some"] "_law_unlike" (ay rn) f ao A outer s H E).ft.A.units+4<cLine:=Nat.lt_of_le_of_lt (Nat.add_le_add_left (by decide:4≤64) _) hr.units
  refine⟨_,Ze (ZA (i:=1) zC.nd rfl (Or.inl rfl) (Zh Rn hr (Za (pv 0) Zb)))
   (Zk (Zs (Z8 YC (Pu rfl hu rfl G.len rfl G.set (pv 1)) (Zl Zy rfl G.len boot_len (Za (pv 1) Zb)) (cj _)))),?_⟩
  refine Zo (ZK ⟨_,rfl,a,xs,rfl,ha,ok,rR,fun t H1 ts s1 nt e1 pr Sr=>Zn ?_⟩)
  dsimp only[List.set]
  have lk:=Paired.length pr
  refine⟨_,rfl,t,ts,_,rfl,ag.of e1,pr,by omega,_,rfl,t,ts,rfl,.inl (ag.of e1),rfl,?_⟩
  have z:decide (V.int (gY (pk (aZ xs)):Int)=V.int (ts.length:Int))=cK xs:=by
   unfold cK
   rw[decide_eq_decide,lk,←Oi]
   constructor
   ·intro h
    injection h with h
    omega
   ·intro h
    rw[h]
  rw[z]
  exact q H1 s1
end
section
theorem Dt {α β:Type}{f g:α→Option β} :∀{l:List α},(∀x∈l,f x=g x)→l.filterMap f=l.filterMap g
 | [],_=>rfl
 |a::l,h=>by
  rw[List.filterMap_cons,List.filterMap_cons,h a List.mem_cons_self,Dt fun x hx=>h x (List.mem_cons_of_mem _ hx)]
theorem NT (xs:List V) (n:Nat):aZ (xs++List.replicate n V.af)=aZ xs:=by
 unfold aZ
 rw[List.length_append,List.length_replicate,List.range_add,List.filterMap_append]
 have e2:(((List.range n).map fun x=>xs.length+x).filterMap fun l=> (rowAt (xs++List.replicate n V.af) l).map fun r=> ((l:Int),r))=[]:=by
  rw[List.filterMap_eq_nil_iff]
  intro l hl
  obtain⟨k,hk,rfl⟩:=List.mem_map.mp hl
  unfold rowAt
  rw[List.getElem?_append_right (by omega),List.getElem?_replicate]
  split<;>rfl
 rw[e2,List.append_nil]
 refine Dt fun l hl=> ?_
 rw[List.mem_range]at hl
 unfold rowAt
 rw[List.getElem?_append_left hl]
theorem DH {x v:V}{t:List V} :∀{fs:List V},(fs++x::t).set fs.length v=fs++v::t
 | []=>rfl
 |a::fs=>by
  show a::(fs++x::t).set fs.length v=_
  rw[DH]
  rfl
abbrev dJ (w:Nat) (fs:List V):List V:=fs++List.replicate (w - fs.length) V.af
theorem OM {w:Nat}{fs:List V}(h:fs.length<w):dJ w fs=fs++V.af::List.replicate (w - (fs.length+1)) V.af:=by
 unfold dJ
 rw[show w - fs.length=(w - (fs.length+1))+1 by omega,List.replicate_succ]
theorem ON {w:Nat}{fs:List V}{v:V}(h:fs.length<w):dJ w (fs++[v])=(dJ w fs).set fs.length v:=by
 rw[OM h,DH]
 unfold dJ
 rw[List.length_append,List.append_assoc]
 rfl
theorem Ng {w:Nat}{fs:List V}{r:Int} :dC (.int r) (dJ w fs)=dC (.int r) fs:=by
 unfold dC dJ
 rw[List.any_append]
 have:((List.replicate (w - fs.length) V.af).any fun y=>cD y (.int r))=false:=by
  rw[List.any_eq_false]
  intro x hx
  rw[List.eq_of_mem_replicate hx]
  simp[cD]
 rw[this,Bool.or_false]
theorem Ot {w h:Nat}{fs:List V}{i:Nat}(hm:dJ w fs∈cC w h i):kr fs:=fun x hx=> (Yy w h i _ hm).1.ok x (List.mem_append_left _ hx)
end
def fv (fs:List V) (k:Nat):List Int:=((List.range k).map fun(k:Nat)=> (k:Int)).filter fun r=> !dC (.int r) fs
theorem QQ (fs:List V) (k:Nat):fv fs (k+1)=fv fs k++(if (!dC (.int (k:Int)) fs)=true then [(k:Int)] else []):=by
 unfold fv
 rw[List.range_succ,List.map_append,List.filter_append]
 cases h:(!dC (.int (k:Int)) fs)<;>simp_all
theorem Qg (fs:List V) (k:Nat):(fv fs k).length≤k:=by
 unfold fv
 refine Nat.le_trans (List.length_filter_le _ _) ?_
 simp
def nO (hg:Nat) (fs:List V):List (List V):=(fs++[V.af])::((fv fs hg).filter fun r=>cK (fs++[.int r])).map fun r=>fs++[V.int r]
def df (hg:Nat):Nat→List (List V)
 |0=> [[]]
 |i+1=> (df hg i).flatMap (nO hg)
theorem YW (hg:Nat):∀i,∀fs∈df hg i,fs.length=i
 |0,fs,h=>by
  have:fs=[]:=by simpa[df] using h
  rw[this]
  rfl
 |i+1,fs,h=>by
  unfold df at h
  obtain⟨ys,hy,hm⟩:=List.mem_flatMap.mp h
  have ih:=YW hg i ys hy
  unfold nO at hm
  rcases List.mem_cons.mp hm with rfl |hm
  ·rw[List.length_append,ih];rfl
  ·obtain⟨r,_,rfl⟩:=List.mem_map.mp hm
   rw[List.length_append,ih];rfl
theorem N5 (w:Nat) (fs:List V):cK (dJ w fs)=cK fs:=by
 unfold cK dJ
 rw[NT]
theorem Dh {α β:Type}{f g:α→List β} :∀{l:List α},(∀x∈l,f x=g x)→l.flatMap f=l.flatMap g
 | [],_=>rfl
 |a::l,h=>by
  rw[List.flatMap_cons,List.flatMap_cons,h a List.mem_cons_self,Dh fun x hx=>h x (List.mem_cons_of_mem _ hx)]
theorem YR (w h:Nat):∀i,i≤w→cC w h i=(df h i).map (dJ w)
 |0,_=>by simp[cC,df,dJ]
 |i+1,hi=>by
  unfold cC df
  rw[YR w h i (by omega),List.flatMap_map,List.map_flatMap]
  refine Dh fun fs hf=> ?_
  have hl:=YW h i fs hf
  have e:∀v:V,(dJ w fs).set i v=dJ w (fs++[v]):=fun v=>by rw[ON (by omega),hl]
  unfold nO kg fv
  rw[List.map_cons,List.map_cons,e,List.map_map,List.map_map,List.filter_filter]
  congr 1
  have ef:(fun r:Int=> !dC (.int r) (dJ w fs)&&cK ((dJ w fs).set i (.int r)))=fun r=>cK (fs++[.int r])&& !dC (.int r) fs:=by
   funext r
   rw[Ng,e,N5,Bool.and_comm]
  rw[ef]
  refine List.map_congr_left fun r _=> ?_
  exact e _
theorem Wq (w h:Nat):cC w h w=df h w:=by
 rw[YR w h w (Nat.le_refl _)]
 refine(List.map_congr_left fun fs hf=> ?_).trans (List.map_id _)
 show dJ w fs=fs
 unfold dJ
 rw[YW h w fs hf,Nat.sub_self]
 simp
theorem C4 {w h i:Nat}{fs:List V}(hi:i≤w) (hm:fs∈df h i):kr fs:=by
 refine Ot (w:=w) (h:=h) (i:=i) ?_
 rw[YR w h i hi]
 exact List.mem_map_of_mem hm
theorem C6 {w h i:Nat}(hi:i≤w) (hh:h≤5) (h5:i≤5):(df h i).length≤7776:=by
 have:=Yz w h i
 rw[YR w h i hi,List.length_map]at this
 exact Nat.le_trans this (YM hh h5)
def mf (hg i j:Nat):List (List V):=((df hg i).take j).flatMap (nO hg)
theorem QG {hg i j:Nat}{fs:List V}(e:(df hg i)[j]? =some fs):mf hg i (j+1)=mf hg i j++nO hg fs:=by
 unfold mf
 rw[List.take_add_one,e,List.flatMap_append]
 simp
theorem JT {H:Hp}{L:Addr}{zs:List V}{o:HO}(e:H L=some (.lst zs)) {v:V}{k:List V}(h:bw H v k):bw (upd H L o) v k:=by
 obtain⟨t,rfl,h1⟩:=h
 refine⟨t,rfl,?_⟩
 rw[Zf (fun z=>by rw[z,e]at h1;cases h1)]
 exact h1
section
variable {P:Program}{w:World}{K:PySem.W.Frag}{mg:Str→Option Value}{base:Heap}
abbrev vt:Stmt:=top 56
def uT:Sp:=fun vs H Q _=> ∃(b:Addr) (wd hg:Int),vs=[.ref b]∧bN H (.ref b) wd hg∧wd≤5∧hg≤5∧∀(q:Addr) (H':Hp) (ts:List V),ae H H'→H q=none→H' q=some (.lst ts)→Paired (bw H') ts (df hg.toNat wd.toNat)→Q (.ref q) H'
abbrev Hr:List Str:=["_law_board", "_law_found", "_law_line", "_law_longer", "_law_one", "_law_some"]
theorem kK:bg Hr ["_law_board"] (ay vt):=⟨rfl,rfl,rfl,by decide+kernel,rfl,by decide+kernel,by decide+kernel⟩
theorem GQ {f:Addr}{fd:FuncData}(F:aH K "_law_all" "_law_all" vt f fd) (G:Gs mg) (Rm:Def P w K mg base 2 "_law_unlike" ["_law_lay"] uN):aA P w K mg base aI 3 f fd ["_law_board"] uT:=by
 refine F.ok kK (fun vs H Q E h=> ?_) (fun ao A outer s H vs Q E hr h=> ?_)
 ·obtain⟨b,wd,hg,rfl,_⟩:=h
  rfl
 ·obtain⟨b,wd,hg,rfl,bd,w5,h5,q⟩:=h
  refine⟨_,Ze (ZA (i:=1) kK.nd rfl (Or.inl rfl) (ZI (Za (ZH Zb) Zb)))
   (Ze (Jq PassesOwn.never rfl (Z4 rfl G.range (Za (ZO Z0 (pv 0) Zi (fun _ _=>rfl)) Zb)) (ZY (i:=2) kK.nd rfl (Or.inl rfl))
    (Ze (ZA (i:=3) kK.nd rfl (Or.inl rfl) (ZI Zb))
    (Ze (Jq PassesOwn.never rfl (ZP (pv 1)) (ZY (i:=4) kK.nd rfl (Or.inr rfl))
     (Ze (YL ["_law_row", "_law_one"] 1 [4] (i:=5) kK.nd rfl (Or.inl rfl) (Z4 rfl G.range (Za (ZO Z0 (pv 0) Zi (fun _ _=>rfl)) Zb)) (fun C s H fp=>pb 0)
      (fun C s H fp=>Z3 (ZM (show bo (aG _ _ _ C s H fp) (compareOp .NotIn) (vB K true) from Jc) (pv 0) (pv 1) rfl))
      (fun C s H fp D=>Zv rfl (Zq (show bo (aG _ _ _ C s H fp) (binaryOp .Add) (vC K) from JP) (pv 1) (ZH (Za (pv 0) Zb)))))
     (Ze (Zx (Yc PySem.F.plainAttrs_list PySem.F.slot_list_append PySem.F.type_list_append ZS (pv 3) (Za (Zq JP (pv 4) (ZH (Za Yr Zb))) Zb)))
     (Zk (Zx (Yc PySem.F.plainAttrs_list PySem.F.slot_list_extend PySem.F.type_list_extend WX (pv 3) (Za
      (ZQ ["_law_lay"] 1 [] (ZP (pv 5)) (fun C s H fp=>pb 0) (fun C s H fp=>Z3 (ZZ (Zh Rm hr (Za (pv 0) Zb)))) (fun C s H fp D=>Zv rfl (pv 0))) Zb)))))))
    (Zk (ZA (i:=1) kK.nd rfl (Or.inl rfl) (pv 3))))))
   (Zk (Zs (pv 1)))),?_⟩
  obtain⟨b',eb,hb⟩:=ZC bd.1
  cases eb
  obtain⟨_,w1,_,g1,_⟩:=id bd
  have eH:(hg.toNat:Int)=hg:=by omega
  have LD:hg.toNat≤5:=by omega
  refine Zo (ZK ⟨Nat.zero_le _,fun p hp=> ⟨(by show 1≤sizeLine;decide),fun L0 xm=>Zn ?_⟩⟩)
  dsimp only[List.set]
  have s1:=Zz (o:=.tup []) hp
  have e1:upd H p (.tup []) p=some (.tup []):=Zc
  generalize upd H p (HO.tup [])=H1 at s1 e1 xm
  have s2:=Zz (o:=.lst [.ref p]) xm
  have e2:upd H1 L0 (.lst [.ref p]) L0=some (.lst [.ref p]):=Zc
  generalize upd H1 L0 (HO.lst [V.ref p])=H2 at s2 e2
  have jP:=s1.trans s2
  have Hq:=s1.free xm
  refine Zo ⟨_,rfl,b,_,_,_,rfl,rfl,ai.of (jP _ _ hb),qg,wd,rfl,by omega,by omega,?_⟩
  refine YS (n:=wd.toNat) (fun i σ H'=> ∃fa ts x2 x3 x4 x5,σ=[some (.ref b),some (.ref fa),x2,x3,x4,x5]∧ae H H'∧H fa=none∧H' fa=some (.lst ts)∧Paired (bw H') ts (df hg.toNat i)) ⟨L0,_,_,_,_,_,rfl,jP,Hq,e2,.cons ⟨p,rfl,s2 _ _ e1⟩ .nil⟩ ?_ ?_
  ·rintro i σ H3 hi ⟨fa,ts,x2,x3,x4,x5,rfl,s3,oQ,i5,cJ⟩
   rw[Int.zero_add]
   refine Zn ?_
   dsimp only[List.set]
   have tH:=C6 (w:=wd.toNat) (h:=hg.toNat) (i:=i) (by omega) LD (by omega)
   have gW:=Paired.length cJ
   refine Zo (ZK ⟨Nat.zero_le _,fun L hL=>Zn ?_⟩)
   dsimp only[List.set]
   have sL:=Zz (o:=.lst []) hL
   have eL:upd H3 L (.lst []) L=some (.lst []):=Zc
   have Se:fa≠L:=Zg i5 hL
   have nL:=s3.free hL
   generalize upd H3 L (HO.lst [])=H4 at sL eL
   refine Zo ⟨_,rfl,fa,rfl,⟨ts,ag.of (sL _ _ i5)⟩,?_⟩
   refine O5 (xs:=ts) (fun j σ H5=> ∃zs x4 x5,σ=[some (.ref b),some (.ref fa),some (.int (i:Int)),some (.ref L),x4,x5]∧ae H3 H5∧H5 L=some (.lst zs)∧Paired (bw H5) zs (mf hg.toNat i j)∧zs.length≤j*6) ⟨_,_,_,rfl,sL,eL,.nil,Nat.zero_le _⟩ (fun j σ H5 _ ⟨_,_,_,_,s5,_⟩=>ag.of (s5 _ _ i5)) ?_ ?_
   ·rintro j v σ H5 hv ⟨zs,x4,x5,rfl,s5,nR,oN,wL⟩
    obtain⟨fs,j9,t,rfl,ht⟩:=Paired.at cJ hv
    have hj:j<ts.length:=(List.getElem?_eq_some_iff.mp hv).1
    have bS:=List.mem_of_getElem? j9
    have zV:=C4 (w:=wd.toNat) (by omega) bS
    have Sq:=YW hg.toNat i fs bS
    have flat:fs.all dq=true:=List.all_eq_true.mpr fun x hx=>by
     rcases zV x hx with z |⟨j,z⟩<;>rw[z]<;>rfl
    have r9:=s5 _ _ ht
    have Lf:=(s3.trans s5) _ _ hb
    refine Zn ?_
    dsimp only[List.set]
    refine Zo ⟨_,rfl,b,_,_,_,rfl,rfl,ai.of Lf,cE,hg,rfl,by omega,by omega,?_⟩
    refine Y2 (n:=hg.toNat) (fun k ys aj H6=> ∃v,aj=[v,some (.ref t)]∧ae H5 H6∧Paired (bw H6) ys ((fv fs k).map fun r=>fs++[V.int r])∧ys.length≤k) ⟨_,rfl,ae.refl _,.nil,Nat.zero_le _⟩ ?_ ?_
    ·rintro k ys aj H6 hk ⟨v,rfl,s6,rE,Kx⟩
     rw[Int.zero_add]
     refine Zn ?_
     dsimp only[List.set]
     have A3:=s6 _ _ r9
     refine⟨_,rfl,_,rfl,t,fs,rfl,.inr (ai.of A3),rfl,flat,_,rfl,?_⟩
     have es:=QQ fs k
     cases hn:dC (.int (k:Int)) fs with
     |true=>
      rw[hn]at es
      refine aV ⟨_,rfl,s6,?_,by omega⟩
      rw[es]
      simpa using rE
     |false=>
      rw[hn]at es
      refine aW ⟨_,rfl,_,rfl,(by show 1≤sizeLine;decide),fun t7 wg=> ?_⟩
      have s7:=Zz (o:=.tup [.int (k:Int)]) wg
      have e7:upd H6 t7 (.tup [.int (k:Int)]) t7=some (.tup [.int (k:Int)]):=Zc
      generalize upd H6 t7 (HO.tup [V.int (k:Int)])=H7 at s7 e7
      refine UH (s7 _ _ A3) e7 (by simp;omega) fun t8 H8 s8 e8=> ⟨by rw[sizeLine_eq];omega,_,rfl,s6.trans (s7.trans s8),?_,by rw[List.length_append];simp;omega⟩
      rw[es]
      simp only[Bool.not_false,if_true,List.map_append,List.map_cons,List.map_nil]
      exact Paired.snoc (Paired.br rE fun v q' hq=>bw.same hq (s7.trans s8)) ⟨t8,rfl,e8⟩
    rintro ys aj H6 ⟨v,rfl,s6,rE,Kx⟩ S hS
    have sS:=Zz (o:=.lst ys) hS
    have eS:upd H6 S (.lst ys) S=some (.lst ys):=Zc
    generalize upd H6 S (HO.lst ys)=H7 at sS eS
    dsimp only[List.set]
    have jO:=s6.trans sS
    have kQ:Paired (bw H7) ys ((fv fs hg.toNat).map fun r=>fs++[V.int r]):=Paired.br rE fun v q' hq=>bw.same hq sS
    have wg:=jO _ _ r9
    have Cj:=jO _ _ nR
    refine Zo ⟨_,rfl,.inl ⟨rfl,_,ag.of Cj⟩,_,rfl,(by show 1≤sizeLine;decide),fun t8 we=> ?_⟩
    have s8:=Zz (o:=.tup [.af]) we
    have e8:upd H7 t8 (.tup [.af]) t8=some (.tup [.af]):=Zc
    generalize upd H7 t8 (HO.tup [V.af])=H8 at s8 e8
    refine UH (s8 _ _ wg) e8 (by simp;omega) fun t9 H9 s9 e9=> ?_
    have oI:=s8.trans s9
    have tJ:=oI _ _ Cj
    refine⟨L,zs,.ref t9,rfl,rfl,tJ,by rw[sizeLine_eq];omega,Z6 ?_⟩
    dsimp only
    have Hj:S≠L:=fun z=>by rw[z]at hS;rw[s6 _ _ nR]at hS;cases hS
    have fL:ae H3 (upd H9 L (.lst (zs++[.ref t9]))):=Yv (s5.trans (jO.trans oI)) hL
    have e10:upd H9 L (.lst (zs++[.ref t9])) L=some (.lst (zs++[.ref t9])):=Zc
    have xH:upd H9 L (.lst (zs++[.ref t9])) S=some (.lst ys):=by rw[Zf Hj];exact oI _ _ eS
    have z4:Paired (bw (upd H9 L (.lst (zs++[.ref t9])))) (zs++[.ref t9]) (mf hg.toNat i j++[fs++[V.af]]):=Paired.snoc (Paired.br oN fun v q' hq=>JT tJ (bw.same hq (jO.trans oI))) (JT tJ ⟨t9,rfl,e9⟩)
    have vE:Paired (bw (upd H9 L (.lst (zs++[.ref t9])))) ys ((fv fs hg.toNat).map fun r=>fs++[V.int r]):=Paired.br kQ fun v q' hq=>JT tJ (bw.same hq oI)
    generalize upd H9 L (HO.lst (zs++[V.ref t9]))=iH at fL e10 xH z4 vE
    refine⟨_,rfl,.inl ⟨rfl,_,ag.of e10⟩,?_⟩
    refine⟨_,rfl,S,rfl,⟨ys,ag.of xH⟩,?_⟩
    have Sn:=Qg fs hg.toNat
    refine ZL (xs:=ys) (fun k us aj fm=> ∃v,aj=[v]∧ae iH fm∧Paired (bw fm) us ((((fv fs hg.toNat).take k).filter fun r=>cK (fs++[.int r])).map fun r=>fs++[V.int r])∧us.length≤k) ⟨_,rfl,ae.refl _,.nil,Nat.zero_le _⟩ (fun k us aj fm _ ⟨_,_,s',_⟩=>ag.of (s' _ _ xH)) ?_ ?_
    ·rintro k v us aj fm fM ⟨v0,rfl,gn,rF,Ky⟩
     obtain⟨B8,pR,t',rfl,jt⟩:=Paired.at vE fM
     rw[List.getElem?_map]at pR
     obtain⟨r,eI,rfl⟩:=Option.map_eq_some_iff.mp pR
     have hk:k<ys.length:=(List.getElem?_eq_some_iff.mp fM).1
     refine Zn ?_
     dsimp only[List.set]
     refine⟨_,rfl,t',_,rfl,gn _ _ jt,fun x hx=> ?_,by rw[List.length_append];simp;omega,fun nX kL=> ⟨_,rfl,?_⟩⟩
     ·rcases List.mem_append.mp hx with z |z
      ·exact zV x z
      ·exact .inr ⟨r,List.mem_singleton.mp z⟩
     have et:(fv fs hg.toNat).take (k+1)=(fv fs hg.toNat).take k++[r]:=by rw[List.take_add_one,eI];rfl
     have zZ:=Paired.br rF fun v q' hq=>bw.same hq kL
     cases hu:cK (fs++[.int r]) with
     |true=>
      refine aW ⟨_,rfl,by rw[sizeLine_eq];omega,_,rfl,gn.trans kL,?_,by rw[List.length_append];simp;omega⟩
      rw[et,List.filter_append,List.map_append]
      simp only[List.filter_cons,hu,if_true,List.filter_nil,List.map_cons,List.map_nil]
      exact Paired.snoc zZ ⟨t',rfl,(gn.trans kL) _ _ jt⟩
     |false=>
      refine aV ⟨_,rfl,gn.trans kL,?_,by omega⟩
      rw[et,List.filter_append,List.map_append]
      simpa[hu] using zZ
    ·rintro us aj fm ⟨v0,rfl,gn,rF,Ky⟩ M hM
     have AF:=Paired.length vE
     rw[List.length_map]at AF
     rw[AF,List.take_length]at rF
     have sM:=Zz (o:=.lst us) hM
     have eM:upd fm M (.lst us) M=some (.lst us):=Zc
     generalize upd fm M (HO.lst us)=nX at sM eM
     have vz:=gn.trans sM
     have xJ:=vz _ _ e10
     refine⟨L,M,_,us,rfl,rfl,xJ,eM,by rw[sizeLine_eq,List.length_append];simp;omega,Z6 ?_⟩
     refine⟨_,_,_,rfl,Yv (fL.trans vz) hL,Zc,?_,by rw[List.length_append,List.length_append];simp;omega⟩
     rw[QG j9]
     have eg:nO hg.toNat fs=[fs++[V.af]]++((fv fs hg.toNat).filter fun r=>cK (fs++[.int r])).map fun r=>fs++[V.int r]:=rfl
     rw[eg,←List.append_assoc]
     exact Y1 (Paired.br z4 fun v q' hq=>JT xJ (bw.same hq vz)) (Paired.br rF fun v q' hq=>JT xJ (bw.same hq sM))
   ·rintro σ H5 ⟨zs,x4,x5,rfl,s5,nR,oN,wL⟩
    dsimp only
    refine ZK ⟨_,rfl,Zn ?_⟩
    dsimp only[List.set]
    refine⟨L,zs,_,_,_,_,rfl,s3.trans s5,nL,nR,?_⟩
    have e:mf hg.toNat i ts.length=df hg.toNat (i+1):=by
     unfold mf
     rw[gW,List.take_length]
     rfl
    rw[←e]
    exact oN
  ·rintro σ H3 ⟨fa,ts,x2,x3,x4,x5,rfl,s3,oQ,i5,cJ⟩
   exact⟨_,rfl,q fa H3 ts s3 oQ i5 cJ⟩
end
section
variable {P:Program}{w:World}{K:PySem.W.Frag}{mg:Str→Option Value}{base:Heap}{cB cN cM:Addr}
def fW (H:Hp) (x:V):Prop:=∃wd hg,bN H x wd hg∧(5<wd∨5<hg)
theorem fW.same {H H':Hp}{x:V}(g:fW H x) (s:ae H H'):fW H' x:=let ⟨wd,hg,b,h⟩:=g;⟨wd,hg,b.same s,h⟩
def uJ (cM:Addr):Sp:=fun vs H _ E=> ∃x,vs=[x,.int 5,.int 5]∧fW H x∧∀e H',ae H H'→E (.ref e) (some cM) H'
theorem GB {f:Addr}{fd:FuncData}(F:aH K "need_at_most" "need_at_most" rh f fd) (X:Exc K mg "TooMany" cM):aA P w K mg base (bH P w) 1 f fd ["board", "wide", "high"] (uJ cM):=by
 refine F.jS zy (fun vs H Q E h=> ?_) (fun ao A outer s H vs Q E hr h=> ?_)
 ·obtain⟨x,rfl,_⟩:=h
  rfl
 ·obtain⟨x,rfl,⟨wd,hg,bd,gr⟩,q⟩:=h
  obtain⟨b,rfl,hb⟩:=ZC bd.1
  refine⟨_,Zk (ZW (PW.pt (WP (ZM tU (ZO Z0 (pv 0) Zi (fun _ _=>rfl)) (pv 1) (cj _)) (Jo (ZM tU (ZO Z0 (pv 0) Zi (fun _ _=>rfl)) (pv 2) (cj _)))))
   (Zk (J5 PySem.F.excBase_ValueError X.m X.x rfl (Za (UW Yd (pv 1) Yd (pv 2) Yd) Zb))) ZG),?_⟩
  refine⟨_,rfl,b,_,0,.int wd,rfl,rfl,ai.of hb,rfl,_,rfl,_,_,rfl,rfl,_,rfl,?_⟩
  by_cases h1:wd>5
  ·rw[decide_eq_true h1]
   refine aW (aW ⟨_,rfl,by decide,_,rfl,5,rfl,by decide,by decide,_,rfl,by decide,_,rfl,5,rfl,by decide,by decide,_,rfl,by decide,fun z=> ⟨by show 1≤sizeLine;decide,fun e=>q e H (ae.refl H)⟩⟩)
  ·rw[decide_eq_false h1]
   refine aV ⟨_,rfl,b,_,1,.int hg,rfl,rfl,ai.of hb,rfl,_,rfl,_,_,rfl,rfl,_,rfl,?_⟩
   rw[decide_eq_true (show hg>5 by omega)]
   exact aW ⟨_,rfl,by decide,_,rfl,5,rfl,by decide,by decide,_,rfl,by decide,_,rfl,5,rfl,by decide,by decide,_,rfl,by decide,fun z=> ⟨by show 1≤sizeLine;decide,fun e=>q e H (ae.refl H)⟩⟩
def qO (cM:Addr):Sp:=fun vs H _ E=> ∃x,vs=[x]∧fW H x∧∀e H',ae H H'→E (.ref e) (some cM) H'
theorem Gu {f:Addr}{fd:FuncData}(F:aH K "unlike_lays" "unlike_lays" rb f fd) (G:Gs mg) (R1:cf P w K mg base 1 "need_at_most" ["board", "wide", "high"] (uJ cM)):aA P w K mg base (bH P w) 13 f fd ["board"] (qO cM):=by
 obtain⟨Ey,eP⟩:=G.AA
 obtain⟨jh,gF⟩:=G.AD
 refine F.jS oD (fun vs H Q E h=> ?_) (fun ao A outer s H vs Q E hr h=> ?_)
 ·obtain⟨x,rfl,_⟩:=h
  rfl
 ·obtain⟨x,rfl,g,q⟩:=h
  refine⟨_,Ze (Zx (Yb R1 (hr.mono (by decide)) (Za (pv 0) (Za (Z7 (v:=.int 5) rfl eP ⟨_,rfl⟩) (Za (Z7 (v:=.int 5) rfl gF ⟨_,rfl⟩) Zb))))) Zw,?_⟩
  exact⟨x,rfl,x,rfl,g,q⟩
def uB (cM:Addr):Sp:=fun vs H _ E=> ∃x y,vs=[x,y]∧fW H x∧∀e H',ae H H'→E (.ref e) (some cM) H'
theorem Gp {f:Addr}{fd:FuncData}(F:aH K "unlike_of" "unlike_of" ra f fd) (R1:cf P w K mg base 13 "unlike_lays" ["board"] (qO cM)):aA P w K mg base (bH P w) 14 f fd ["board", "number"] (uB cM):=by
 refine F.jS zq (fun vs H Q E h=> ?_) (fun ao A outer s H vs Q E hr h=> ?_)
 ·obtain⟨x,y,rfl,_⟩:=h
  rfl
 ·obtain⟨x,y,rfl,g,q⟩:=h
  refine⟨_,Zk (Zs (ZQ ["lay", "number"] 1 [1] (ZP (Yb R1 hr (Za (pv 0) Zb))) (fun C s H fp=>pb 0) (fun C s H fp=>Z3 (t:=fun _ _ _=>False) fun _ _ _ _ _ _ h=>h.elim) (fun C s H fp D=>Zv rfl (pv 0)))),?_⟩
  exact⟨x,rfl,x,rfl,g,q⟩
def jj (K:PySem.W.Frag) (cB cM:Addr):Sp:=fun vs H _ E=> ∃x C,vs=[x]∧((C=cB∧iJ K H x)∨(C=cM∧fW H x))∧∀e H',ae H H'→E (.ref e) (some C) H'
theorem GG {f:Addr}{fd:FuncData}(F:aH K "most" "most" rk f fd) (G:Gs mg) (je:Def P w K mg base 4 "need_board" ["board"] (kH K)) (yl:cf P w K mg base 4 "need_board" ["board"] (qU K cB)) (R1:cf P w K mg base 13 "unlike_lays" ["board"] (qO cM)):aA P w K mg base (bH P w) 14 f fd ["board"] (jj K cB cM):=by
 refine F.jS zA (fun vs H Q E h=> ?_) (fun ao A outer s H vs Q E hr h=> ?_)
 ·obtain⟨x,C,rfl,_⟩:=h
  rfl
 ·obtain⟨x,C,rfl,⟨rfl,b⟩ |⟨rfl,g⟩,q⟩:=h
  ·refine⟨_,Ze (Zx (Yb yl (hr.mono (by decide)) (Za (pv 0) Zb))) Zw,?_⟩
   exact⟨x,rfl,x,rfl,b,q⟩
  ·refine⟨_,Ze (Zx (Zh je (hr.mono (by decide)) (Za (pv 0) Zb)))
    (Zk (Zs (Zl JC rfl G.max boot_max (Za (ZQ ["lay"] 1 [] (ZP (Yb R1 hr (Za (pv 0) Zb))) (fun C s H fp=>pb 0)
    (fun C s H fp=>ZT) (fun C s H fp D=>Zv (te:=fun _ _ _=>False) rfl fun _ _ _ _ _ _ h=>h.elim)) Zb)))),?_⟩
   obtain⟨wd,hg,bd,gr⟩:=id g
   refine⟨_,rfl,x,wd,hg,rfl,bd,fun H0 s0=> ?_⟩
   exact⟨x,rfl,x,rfl,g.same s0,fun e H' s'=>q e H' (s0.trans s')⟩
theorem GI {f:Addr}{fd:FuncData}(F:aH K "most_lays" "most_lays" rm f fd) (R1:cf P w K mg base 14 "most" ["board"] (jj K cB cM)) (qp:Def P w K mg base 14 "unlike_of" ["board", "number"] oz):aA P w K mg base (bH P w) 15 f fd ["board"] (jj K cB cM):=by
 refine F.jS zB (fun vs H Q E h=> ?_) (fun ao A outer s H vs Q E hr h=> ?_)
 ·obtain⟨x,C,rfl,_⟩:=h
  rfl
 ·obtain⟨x,C,rfl,b,q⟩:=h
  refine⟨_,Zk (Zs (Zh qp hr (Za (pv 0) (Za (Yb R1 hr (Za (pv 0) Zb)) Zb)))),?_⟩
  exact⟨x,rfl,x,rfl,x,C,rfl,b,q⟩
def RB (K:PySem.W.Frag) (cB cN cM:Addr) (H:Hp) (x y:V) (C:Addr):Prop:=(C=cB∧iJ K H x)∨(C=cN∧(∃wd hg,bN H x wd hg)∧dr K H y∧cF y 0 12=false)∨(C=cM∧fW H x∧y=.int 12)
def qV (K:PySem.W.Frag) (cB cN cM:Addr):Sp:=fun vs H _ E=> ∃x y C,vs=[x,y]∧RB K cB cN cM H x y C∧∀e H',ae H H'→E (.ref e) (some C) H'
theorem GD {f:Addr}{fd:FuncData}(F:aH K "many_of" "many_of" rj f fd) (G:Gs mg) (je:Def P w K mg base 4 "need_board" ["board"] (kH K)) (yl:cf P w K mg base 4 "need_board" ["board"] (qU K cB)) (yI:Def P w K mg base 3 "need_whole_within" ["number", "least", "most"] (qT K)) (Q3:cf P w K mg base 3 "need_whole_within" ["number", "least", "most"] (uI K cN)) (R1:cf P w K mg base 14 "unlike_of" ["board", "number"] (uB cM)):aA P w K mg base (bH P w) 15 f fd ["board", "number"] (qV K cB cN cM):=by
 obtain⟨tk,hL⟩:=G.longest
 refine F.jS zz (fun vs H Q E h=> ?_) (fun ao A outer s H vs Q E hr h=> ?_)
 ·obtain⟨x,y,C,rfl,_⟩:=h
  rfl
 ·obtain⟨x,y,C,rfl,⟨rfl,b⟩ |⟨rfl,⟨wd,hg,bd⟩,py,wy⟩ |⟨rfl,g,rfl⟩,q⟩:=h
  ·refine⟨_,Ze (Zx (Yb yl (hr.mono (by decide)) (Za (pv 0) Zb))) Zw,?_⟩
   exact⟨x,rfl,x,rfl,b,q⟩
  ·refine⟨_,Ze (Zx (Zh je (hr.mono (by decide)) (Za (pv 0) Zb)))
    (Ze (Zx (Yb Q3 (hr.mono (by decide)) (Za (pv 1) (Za Zi (Za (Z7 (v:=.int 12) rfl hL ⟨_,rfl⟩) Zb))))) Zw),?_⟩
   refine⟨_,rfl,x,wd,hg,rfl,bd,fun H0 s0=> ?_⟩
   exact⟨y,rfl,y,12,rfl,by decide,by decide,s0.mV py,wy,fun e H' s'=>q e H' (s0.trans s')⟩
  ·refine⟨_,Ze (Zx (Zh je (hr.mono (by decide)) (Za (pv 0) Zb)))
    (Ze (Zx (Zh yI (hr.mono (by decide)) (Za (pv 1) (Za Zi (Za (Z7 (v:=.int 12) rfl hL ⟨_,rfl⟩) Zb)))))
    (Zk (Zs (Zl Zy rfl G.len boot_len (Za (Yb R1 hr (Za (pv 0) (Za (pv 1) Zb))) Zb))))),?_⟩
   obtain⟨wd,hg,bd,gr⟩:=id g
   refine⟨_,rfl,x,wd,hg,rfl,bd,fun H0 s0=> ?_⟩
   refine⟨_,rfl,.int 12,0,12,rfl,⟨_,.int 12⟩,rfl,?_⟩
   exact⟨x,rfl,_,rfl,x,.int 12,rfl,g.same s0,fun e H' s'=>q e H' (s0.trans s')⟩
end
end U.S
namespace L2
open PySem PySem.Spec PyProof.Rows SeqAt
theorem WV {K:PySem.W.Frag}{l1 l2:Addr}{xs zs:List V}{g:TG}{tt:TT}{ti:TC}{ys:List V}{σ:St}{H:Hp}{Q:List V→St→Hp→Prop}(hlen:xs.length=zs.length) (Pv:Nat→List V→St→Hp→Prop) (h0:Pv 0 ys σ H)
  (hl:∀i ys σ H,i≤xs.length→Pv i ys σ H→ag K H l1 xs∧ag K H l2 zs)
  (hs:∀i x y T ys σ H,xs[i]? =some x→zs[i]? =some y→H T=none→Pv i ys σ H→g (.ref T) σ (upd H T (.par [x,y])) fun aR H2=>tt aR H2 fun b H3=>if b=true then ti ys aR H3 (Pv (i+1)) else Pv (i+1) ys aR H3)
  (hd:∀ys σ H,Pv xs.length ys σ H→Q ys σ H):fZ g tt ti (ub K l1 l2) ys σ H Q:=by
 have e:min xs.length zs.length=xs.length:=by rw[←hlen];exact Nat.min_self _
 refine WU Pv h0 (fun i ys σ H hi=>hl i ys σ H (by rw[e]at hi;exact hi)) hs ?_
 rw[e]
 exact hd
end L2
namespace U
open PySem L2 PyProof.Rows
section
variable {P:Program}{w:World}{K:PySem.W.Frag}{mg:Str→Option Value}{base:Heap}
def yo (R:Hp→V→V→Prop) (H:Hp) (x y:V):Prop:=∃(a b:Addr) (xs ys:List V),x=.ref a∧y=.ref b∧H a=some (.lst xs)∧H b=some (.lst ys)∧Paired (R H) xs ys∧xs.length≤7776
theorem i9.same {R:Hp→V→V→Prop}(hR:∀{H H':Hp}{x y:V},R H x y→ae H H'→R H' x y) {H H':Hp}{x y:V}(r:i9 R H x y) (s:ae H H'):i9 R H' x y:=by
 obtain⟨a,b,xs,ys,e1,e2,h1,h2,pr,hl⟩:=r
 exact⟨a,b,xs,ys,e1,e2,s _ _ h1,s _ _ h2,Paired.br pr fun _ _ q=>hR q s,hl⟩
theorem Qi {R:Hp→V→V→Prop}{k:Nat}(hR:∀{H H':Hp}{x y:V},R H x y→ae H H'→R H' x y) {f:Addr}{fd:FuncData}(F:aH K "_law_same" "_law_same" oH f fd) (G:Gs mg) (D:Def P w K mg base k "_law_same" ["_law_found", "_law_due"] (iM R)):
  aA P w K mg base aI (k+1) f fd ["_law_found", "_law_due"] (iM (yo R)):=by
 refine F.ok uU (fun vs H Q E h=> ?_) (fun ao A outer s H vs Q E hr h=> ?_)
 ·obtain⟨x,y,rfl,_⟩:=h
  rfl
 ·obtain⟨x,y,rfl,⟨a,b,xs,ys,rfl,rfl,ha,hb,pr,hl⟩,q⟩:=h
  refine⟨_,Ze (ZW (ZZ (Zl (Yt (a:= "list") (b:= "tuple")) rfl G.isinstance boot_isinstance (Za (pv 1) (Za (ZH (Za (ZJ (v:=.ty "list") rfl G.list boot_list rfl) (Za (ZJ (v:=.ty "tuple") rfl G.tuple boot_tuple rfl) Zb))) Zb))))
    (Ze (ZW (PW.pt (WP (ZM UY (Zl (ZD (c:= "list")) rfl G.isinstance boot_isinstance (Za (pv 0) (Za (ZJ (v:=.ty "list") rfl G.list boot_list rfl) Zb))) (Zl (ZD (c:= "list")) rfl G.isinstance boot_isinstance (Za (pv 1) (Za (ZJ (v:=.ty "list") rfl G.list boot_list rfl) Zb))) (cj _))
      (Jo (ZM UY (Zl (ZD (c:= "tuple")) rfl G.isinstance boot_isinstance (Za (pv 0) (Za (ZJ (v:=.ty "tuple") rfl G.tuple boot_tuple rfl) Zb))) (Zl (ZD (c:= "tuple")) rfl G.isinstance boot_isinstance (Za (pv 1) (Za (ZJ (v:=.ty "tuple") rfl G.tuple boot_tuple rfl) Zb))) (cj _))))) Zw ZG)
    (Zk (Zs (Yj (Z8 YC (Zl Zy rfl G.len boot_len (Za (pv 0) Zb)) (Zl Zy rfl G.len boot_len (Za (pv 1) Zb)) (cj _))
     (Yq (Zl YI rfl G.all boot_all (Za (ZQ ["_law_one", "_law_other"] 2 [] (Us rfl G.zip (Za (pv 0) (Za (pv 1) Zb)))
      (fun C s H fp=>show PG (aG _ _ _ C s H fp) _ (iA K 2 (cI (bT 0) (cI (bT 1) iB))) from Z5 rfl (Zp (pb 0) (Zp (pb 1) ZU))) (fun C s H fp=>ZT)
      (fun C s H fp D'=>Zv rfl (Zh D hr (Za (pv 0) (Za (pv 1) Zb))))) Zb))))))) ZG) Zw,?_⟩
  refine⟨_,rfl,(by show 2≤sizeLine;decide),fun t ht=> ?_⟩
  have s1:=Zm (o:=.tup [V.ty "list",V.ty "tuple"]) ht
  have e1:upd H t (.tup [V.ty "list",V.ty "tuple"]) t=some (.tup [V.ty "list",V.ty "tuple"]):=Zc
  generalize upd H t (HO.tup [V.ty "list",V.ty "tuple"])=H1 at s1 e1
  have fB:=s1 _ _ ha
  have fh:=s1 _ _ hb
  refine⟨_,t,_,_,rfl,ai.of e1,.inr (.inr (.inl ⟨b,ys,rfl,fh,rfl⟩)),(show _=some true from rfl),_,rfl,aW ?_⟩
  refine⟨_,rfl,_,_,_,rfl,.lst fB,(show _=some true from rfl),_,rfl,_,_,_,rfl,.lst fh,(show _=some true from rfl),rfl,_,rfl,aV ?_⟩
  refine⟨_,rfl,_,_,_,rfl,.lst fB,(show _=some false from rfl),_,rfl,_,_,_,rfl,.lst fh,(show _=some false from rfl),rfl,_,rfl,aV ?_⟩
  have hlen:xs.length=ys.length:=Paired.length pr
  refine⟨_,rfl,a,xs,rfl,.inl (ag.of fB),_,rfl,b,ys,rfl,.inl (ag.of fh),rfl,_,rfl,?_⟩
  have el:decide (V.int (xs.length:Int)=V.int (ys.length:Int))=true:=decide_eq_true (by rw[hlen])
  rw[el]
  refine aW ⟨_,rfl,_,rfl,a,b,rfl,⟨xs,ys,ag.of fB,ag.of fh⟩,?_⟩
  refine WV (xs:=xs) (zs:=ys) hlen (fun i zs σ H2=> ∃v0 v1,σ=[v0,v1]∧ae H1 H2∧zs=List.replicate i (V.bl true)) ⟨_,_,rfl,ae.refl _,rfl⟩ (fun i zs σ H2 _ ⟨_,_,_,s2,_⟩=> ⟨ag.of (s2 _ _ fB),ag.of (s2 _ _ fh)⟩) ?_ ?_
  ·rintro i x y T zs σ H2 hx hy hT ⟨v0,v1,rfl,s2,rfl⟩
   obtain⟨y',g9,r⟩:=Y9 pr hx
   rw[hy]at g9
   cases g9
   have sT:=Zm (o:=.par [x,y]) hT
   have hi:i<xs.length:=(List.getElem?_eq_some_iff.mp hx).1
   refine⟨T,_,rfl,ai.nh Zc,rfl,_,_,rfl,_,_,rfl,rfl,?_⟩
   refine⟨x,rfl,y,rfl,x,y,rfl,hR r (s1.trans (s2.trans sT)),fun H3 s3=> ⟨by rw[List.length_replicate,sizeLine_eq];omega,_,_,rfl,s2.trans (sT.trans s3),?_⟩⟩
   rw[List.replicate_succ']
  ·rintro zs σ H2 ⟨v0,v1,rfl,s2,rfl⟩ p hp
   refine⟨p,List.replicate xs.length true,rfl,?_,?_⟩
   ·rw[List.map_replicate]
    exact ag.of Zc
   ·have e:(List.replicate xs.length true).all id=true:=by simp
    rw[e]
    exact q _ (s1.trans (s2.trans (Zm hp)))
end
end U
namespace U.S
open PySem L2 PyProof.Rows
theorem JE {α:Type}{R:α→α→Prop} :∀{xs:List α},(∀x∈xs,R x x)→Paired R xs xs
 | [],_=> .nil
 |_::_,h=> .cons (h _ List.mem_cons_self) (JE fun x hx=>h x (List.mem_cons_of_mem _ hx))
theorem J6 {H:Hp} :∀{xs ys:List V}{ks:List (List V)},Paired (bw H) xs ks→Paired (bw H) ys ks→(∀k∈ks,kr k∧k.length≤12)→Paired (i9 R1 H) xs ys
 |_,_,_,.nil,.nil,_=> .nil
 |_,_,_,.cons h1 t1,.cons h2 t2,ok=>by
  obtain⟨a,rfl,ha⟩:=h1
  obtain⟨b,rfl,hb⟩:=h2
  refine .cons ⟨a,b,_,_,rfl,rfl,ha,hb,JE fun x hx=> ?_,?_⟩ (J6 t1 t2 fun k hk=>ok k (List.mem_cons_of_mem _ hk))
  ·rcases (ok _ List.mem_cons_self).1 x hx with z |⟨i,z⟩
   ·exact .inr ⟨z,z⟩
   ·exact .inl ⟨i,z,z⟩
  ·have:=(ok _ List.mem_cons_self).2
   omega
def fJ (l:List (List V)):List Int:=(l.map bD).map fun(n:Nat)=> (n:Int)
theorem Qu (l:List (List V)) (n:Int):(((fJ l).map V.int).countP fun y=>cD y (.int n))=(l.filter fun xs=>decide ((bD xs:Int)=n)).length:=by
 induction l with
 |nil=>rfl
 |cons a l ih=>
  have e:cD (.int (bD a:Int)) (.int n)=decide ((bD a:Int)=n):=by
   simp only[cD]
   by_cases h:(bD a:Int)=n<;>simp[h]
  unfold fJ at ih ⊢
  rw[List.map_cons,List.map_cons,List.map_cons,List.countP_cons,List.filter_cons,ih,e]
  cases decide ((bD a:Int)=n)<;>simp
section
variable {P:Program}{w:World}{K:PySem.W.Frag}{mg:Str→Option Value}{base:Heap}
theorem Hw (w h:Nat):bC w h≤w:=by
 unfold bC
 have hm:=We (l:=(cC w h w).map bD) (by
  intro z
  rw[List.map_eq_nil_iff]at z
  have:=YQ w h w
  rw[z]at this
  cases this)
 obtain⟨xs,hx,e⟩:=List.mem_map.mp hm
 rw[←e]
 have ll:=(Yy w h w xs hx).1.len
 have:bD xs≤xs.length:=List.length_filter_le _ _
 omega
abbrev vi:Stmt:=top 57
def uP:Sp:=fun vs H Q _=> ∃(b n:Addr) (wd hg i j:Int),vs=[.ref b,.ref n]∧bN H (.ref b) wd hg∧wd≤5∧hg≤5∧H n=some (.lst [.int i,.int j])∧0≤i∧i≤12∧0≤j∧j≤12∧∀H',ae H H'→Q (.bl true) H'
abbrev Hm:List Str:=["_law_board", "_law_numbers", "_law_every", "_law_sizes", "_law_top", "_law_due", "_law_turn", "_law_found"]
theorem kJ:bg Hm ["_law_board", "_law_numbers"] (ay vi):=⟨rfl,rfl,rfl,by decide+kernel,rfl,by decide+kernel,by decide+kernel⟩
theorem GN {f:Addr}{fd:FuncData}(F:aH K "_law_lists_right" "_law_lists_right" vi f fd) (G:Gs mg) (Rq:Def P w K mg base 3 "_law_all" ["_law_board"] uT) (Rl:Def P w K mg base 15 "most_lays" ["board"] qW) (qq:Def P w K mg base 14 "most" ["board"] mO) (ud:Def P w K mg base 15 "many_of" ["board", "number"] oB)
  (Ri:Def P w K mg base 3 "_law_same" ["_law_found", "_law_due"] (iM (yo (i9 R1)))) (Ee:Def P w K mg base 1 "_law_same" ["_law_found", "_law_due"] (iM R1)):aA P w K mg base aI 16 f fd ["_law_board", "_law_numbers"] uP:=by
 refine F.ok kJ (fun vs H Q E h=> ?_) (fun ao A outer s H vs Q E hr h=> ?_)
 ·obtain⟨b,n,wd,hg,i,j,rfl,_⟩:=h
  rfl
 ·obtain⟨b,n,wd,hg,ni,nj,rfl,bd,w5,h5,hn,i0,i1,j0,j1,q⟩:=h
  refine⟨_,Ze (ZA (i:=2) kJ.nd rfl (Or.inl rfl) (Zh Rq (hr.mono (by decide)) (Za (pv 0) Zb)))
   (Ze (ZA (i:=3) kJ.nd rfl (Or.inr rfl) (ZQ ["_law_lay", "_law_board"] 1 [0] (ZP (pv 2)) (fun C s H fp=>pb 0) (fun C s H fp=>ZT)
    (fun C s H fp D=>Zv rfl (Zq Ys (ZO (show mw (aG _ _ _ C s H fp) (oM K) from Z0) (pv 1) Zi (fun _ _=>rfl)) (show PE (aG _ _ _ C s H fp) _ (uu K "tuple" (zW K) _ _) from Yc PySem.F.plainAttrs_tuple PySem.F.slot_tuple_count PySem.F.type_tuple_count WW (pv 0) (Za Yr Zb))))))
   (Ze (ZA (i:=4) kJ.nd rfl (Or.inr rfl) (Zl JC rfl G.max boot_max (Za (pv 3) Zb)))
   (Ze (YL ["_law_lay", "_law_size", "_law_top"] 2 [4] (i:=5) kJ.nd rfl (Or.inl rfl) (Us rfl G.zip (Za (pv 2) (Za (pv 3) Zb)))
    (fun C s H fp=>show PG (aG _ _ _ C s H fp) _ (iA K 2 (cI (bT 0) (cI (bT 1) iB))) from Z5 rfl (Zp (pb 0) (Zp (pb 1) ZU)))
    (fun C s H fp=>Z3 (ZM YC (pv 1) (pv 2) (cj _))) (fun C s H fp D=>Zv rfl (pv 0)))
   (Ze (Jq PassesOwn.never rfl (Z4 rfl G.range (Za Zi Zb)) (ZY (i:=6) kJ.nd rfl (Or.inl rfl))
    (Ze (ZA (i:=7) kJ.nd rfl (Or.inl rfl) (Zh Rl hr (Za (pv 0) Zb)))
    (Ze (ZW (Yp (ZZ (Zh Ri (hr.mono (by decide)) (Za (pv 7) (Za (pv 5) Zb))))) Zw ZG)
    (Ze (Zx (Yc PySem.F.plainAttrs_list PySem.F.slot_list_append PySem.F.type_list_append ZS (pv 7) (Za (ZH Zb) Zb)))
    (Zk (Zx (Ou PySem.F.plainAttrs_list PySem.F.slot_list_reverse PySem.F.type_list_reverse QO (pv 7))))))))
   (Ze (ZW (Yp (ZZ (Zh Ee (hr.mono (by decide)) (Za (Zh qq (hr.mono (by decide)) (Za (pv 0) Zb)) (Za (pv 4) Zb))))) Zw ZG)
   (Zk (Zs (Zl YI rfl G.all boot_all (Za (ZQ ["_law_number", "_law_board", "_law_sizes"] 1 [0,3] (ZP (Zq Yk (ZI (Za (pv 4) Zb)) (pv 1))) (fun C s H fp=>pb 0) (fun C s H fp=>ZT)
    (fun C s H fp D=>Zv rfl (Zh Ee (hr.mono (by decide)) (Za (Zh ud hr (Za (pv 1) (Za (pv 0) Zb))) (Za (show PE (aG _ _ _ C s H fp) _ (uu K "list" (zX K) _ _) from Yc PySem.F.plainAttrs_list PySem.F.slot_list_count PySem.F.type_list_count U0 (pv 2) (Za (pv 0) Zb)) Zb))))) Zb))))))))),?_⟩
  obtain⟨b',eb,hb⟩:=ZC bd.1
  cases eb
  obtain⟨_,w1,_,g1,_⟩:=id bd
  have eW:(wd.toNat:Int)=wd:=by omega
  have tH:=C6 (w:=wd.toNat) (h:=hg.toNat) (i:=wd.toNat) (Nat.le_refl _) (by omega) (by omega)
  have rows:∀fs∈df hg.toNat wd.toNat,kr fs∧fs.length≤12:=fun fs h=> ⟨C4 (Nat.le_refl _) h,by rw[YW _ _ fs h];omega⟩
  have AN:∀fs∈df hg.toNat wd.toNat,(fs.length:Int)=wd:=fun fs h=>by rw[YW _ _ fs h];exact eW
  have bA:df hg.toNat wd.toNat≠[]:=fun z=>by
   have:=YQ wd.toNat hg.toNat wd.toNat
   rw[Wq,z]at this
   cases this
  have eF:=Wq wd.toNat hg.toNat
  have eM:bC wd.toNat hg.toNat=jo ((df hg.toNat wd.toNat).map bD):=by unfold bC;rw[eF]
  have eO:∀m:Int,gp wd.toNat hg.toNat m=(df hg.toNat wd.toNat).filter fun xs=>decide ((bD xs:Int)=m):=fun m=>by unfold gp;rw[eF]
  generalize Lz:df hg.toNat wd.toNat=AL at tH rows AN bA eM eO
  refine Zo (ZK ⟨_,rfl,b,wd,hg,rfl,bd,w5,h5,fun ev H1 ts s1 n1 e1 kS=>Zn ?_⟩)
  rw[Lz]at kS
  dsimp only[List.set]
  have gW:=Paired.length kS
  refine Zo ⟨_,rfl,ev,rfl,⟨ts,ag.of e1⟩,?_⟩
  refine ZL (xs:=ts) (fun i ys σ H2=> ∃v,σ=[v,some (.ref b)]∧H2=H1∧ys=(fJ (AL.take i)).map V.int∧ys.length≤i) ⟨_,rfl,rfl,rfl,Nat.zero_le _⟩ (fun i ys σ H2 _ ⟨_,_,e,_⟩=>by rw[e];exact ag.of e1) ?_ ?_
  ·rintro i v ys σ H2 hv ⟨v0,rfl,rfl,rfl,dQ⟩
   obtain⟨fs,j9,t,rfl,ht⟩:=Paired.at kS hv
   have hi:i<ts.length:=(List.getElem?_eq_some_iff.mp hv).1
   have hm:=List.mem_of_getElem? j9
   have flat:fs.all dq=true:=List.all_eq_true.mpr fun x hx=>by
    rcases (rows fs hm).1 x hx with z |⟨j,z⟩<;>rw[z]<;>rfl
   refine Zn ?_
   dsimp only[List.set]
   try unfold kG
   refine aW ?_
   refine⟨_,rfl,b,_,0,.int wd,rfl,rfl,ai.of (s1 _ _ hb),rfl,_,rfl,.inr (.inl ⟨rfl,.inr ⟨_,ht⟩⟩),t,fs,.af,rfl,rfl,ai.of ht,rfl,flat,_,_,rfl,rfl,by rw[sizeLine_eq];omega,⟨_,rfl,rfl,?_,by rw[List.length_append];simp at dQ ⊢;omega⟩⟩
   have e:=Wg fs
   rw[AN fs hm]at e
   show _++[V.int (wd - ((fs.countP fun y=>cD y .af:Nat):Int))]=_
   rw[e,List.take_add_one,j9]
   unfold fJ
   simp
  rintro ys σ H2 ⟨v0,rfl,rfl,rfl,dQ⟩ sz bG
  rw[gW,List.take_length]
  have s2:=Zz (o:=.lst ((fJ AL).map V.int)) bG
  have e2:upd H2 sz (.lst ((fJ AL).map V.int)) sz=some (.lst ((fJ AL).map V.int)):=Zc
  have R9:ev≠sz:=Zg e1 bG
  generalize upd H2 sz (HO.lst ((fJ AL).map V.int))=H3 at s2 e2
  dsimp only[List.set]
  have e13:=s2 _ _ e1
  have cJ:Paired (bw H3) ts AL:=Paired.br kS fun v q' hq=>bw.same hq s2
  have vA:=s1.trans s2
  refine Zo (ZK ⟨_,rfl,sz,_,rfl,ag.of e2,?_,fun M hM hle=>Zn ?_⟩)
  ·intro z
   unfold fJ at z
   rw[List.map_eq_nil_iff,List.map_eq_nil_iff]at z
   exact bA z
  have Mm:M=(bC wd.toNat hg.toNat:Int):=by rw[eM];exact CS hM hle
  clear hM hle
  subst Mm
  dsimp only[List.set]
  have ls:ts.length=((fJ AL).map V.int).length:=by unfold fJ;simp[gW]
  refine Zo ⟨_,rfl,_,rfl,ev,sz,rfl,⟨_,_,ag.of e13,ag.of e2⟩,?_⟩
  refine WV (xs:=ts) (zs:=(fJ AL).map V.int) ls (fun i zs σ H4=> ∃v0 v1,σ=[v0,v1,some (.int (bC wd.toNat hg.toNat))]∧ae H3 H4∧Paired (bw H3) zs ((AL.take i).filter fun xs=>decide ((bD xs:Int)=(bC wd.toNat hg.toNat:Int)))∧zs.length≤i) ⟨_,_,rfl,ae.refl _,.nil,Nat.zero_le _⟩ (fun i zs σ H4 _ ⟨_,_,_,s4,_⟩=> ⟨ag.of (s4 _ _ e13),ag.of (s4 _ _ e2)⟩) ?_ ?_
  ·rintro i x y T zs σ H4 hx hy hT ⟨v0,v1,rfl,s4,dj,jx⟩
   obtain⟨fs,j9,lt⟩:=Paired.at cJ hx
   unfold fJ at hy
   rw[List.getElem?_map,List.getElem?_map,List.getElem?_map,j9]at hy
   cases hy
   have sT:=Zz (o:=.par [x,.int (bD fs)]) hT
   have hi:i<ts.length:=(List.getElem?_eq_some_iff.mp hx).1
   have et:(AL.take (i+1)).filter (fun xs=>decide ((bD xs:Int)=(bC wd.toNat hg.toNat:Int)))=(AL.take i).filter (fun xs=>decide ((bD xs:Int)=(bC wd.toNat hg.toNat:Int)))++(if decide ((bD fs:Int)=(bC wd.toNat hg.toNat:Int))=true then [fs] else []):=by
    rw[List.take_add_one,j9,List.filter_append]
    cases h:decide ((bD fs:Int)=(bC wd.toNat hg.toNat:Int))<;>simp_all
   refine⟨T,_,rfl,ai.nh Zc,rfl,_,_,rfl,_,_,rfl,rfl,?_⟩
   dsimp only[List.set]
   refine⟨_,rfl,_,rfl,rfl,_,rfl,?_⟩
   have ed:decide (V.int (bD fs:Int)=V.int (bC wd.toNat hg.toNat:Int))=decide ((bD fs:Int)=(bC wd.toNat hg.toNat:Int)):=by
    by_cases h:(bD fs:Int)=(bC wd.toNat hg.toNat:Int)<;>simp[h]
   rw[ed]
   cases hd:decide ((bD fs:Int)=(bC wd.toNat hg.toNat:Int)) with
   |true=>
    rw[hd]at et
    refine aW ⟨_,rfl,by rw[sizeLine_eq];omega,_,_,rfl,s4.trans sT,?_,by rw[List.length_append];simp;omega⟩
    rw[et]
    exact Paired.snoc dj lt
   |false=>
    rw[hd]at et
    refine aV ⟨_,_,rfl,s4.trans sT,?_,by omega⟩
    rw[et]
    simpa using dj
  rintro zs σ H4 ⟨v0,v1,rfl,s4,dj,jx⟩ d hd
  rw[gW,List.take_length,←eO]at dj
  have s5:=Zz (o:=.lst zs) hd
  have e5:upd H4 d (.lst zs) d=some (.lst zs):=Zc
  generalize upd H4 d (HO.lst zs)=H5 at s5 e5
  dsimp only[List.set]
  have vw:=s4.trans s5
  have zQ:=vA.trans vw
  have oN:=Paired.br dj fun v q' hq=>bw.same hq vw
  have Sj:zs.length≤7776:=by omega
  have GR:∀k∈gp wd.toNat hg.toNat (bC wd.toNat hg.toNat:Int),kr k∧k.length≤12:=fun k hk=>by
   rw[eO]at hk
   exact rows k (List.mem_filter.mp hk).1
  refine Zo ⟨2,rfl,by decide,by decide,?_⟩
  refine YS (fun i σ H'=> ∃v6 v7,σ=[some (.ref b),some (.ref n),some (.ref ev),some (.ref sz),some (.int (bC wd.toNat hg.toNat)),some (.ref d),v6,v7]∧ae H5 H') ⟨_,_,rfl,ae.refl _⟩ ?_ ?_
  ·rintro i σ H6 hi ⟨v6,v7,rfl,s6⟩
   rw[Int.zero_add]
   refine Zn ?_
   dsimp only[List.set]
   refine Zo (ZK ⟨_,rfl,b,wd,hg,rfl,bd.same (zQ.trans s6),w5,h5,fun g H7 mH s7 ng eg Aa=>Zn ?_⟩)
   dsimp only[List.set]
   have jO:=s6.trans s7
   have Sl:=Paired.length Aa
   have Si:=Paired.length dj
   refine Zo ⟨_,rfl,_,rfl,.ref g,.ref d,rfl,⟨g,d,mH,zs,rfl,rfl,eg,jO _ _ e5,J6 Aa (Paired.br oN fun v q' hq=>bw.same hq jO) GR,by omega⟩,fun H8 s8=> ⟨true,rfl,aV (Z6 ?_)⟩⟩
   dsimp only
   have Au:H5 g=none:=s6.free ng
   have Ce:=s8 _ _ eg
   refine Zo ⟨_,rfl,.inl ⟨rfl,_,ag.of Ce⟩,Nat.zero_le _,fun t ht=> ?_⟩
   have s9:=Zz (o:=.tup []) ht
   generalize upd H8 t (HO.tup [])=H9 at s9
   refine⟨g,mH,.ref t,rfl,rfl,s9 _ _ Ce,by rw[sizeLine_eq];omega,Z6 ?_⟩
   dsimp only
   have fL:ae H5 (upd H9 g (.lst (mH++[.ref t]))):=Yv (jO.trans (s8.trans s9)) Au
   have e10:upd H9 g (.lst (mH++[.ref t])) g=some (.lst (mH++[.ref t])):=Zc
   generalize upd H9 g (HO.lst (mH++[.ref t]))=iH at fL e10
   refine⟨_,rfl,.inl ⟨rfl,_,ag.of e10⟩,g,_,rfl,rfl,e10,Z6 ?_⟩
   exact⟨_,_,rfl,Yv fL Au⟩
  rintro σ H6 ⟨v6,v7,rfl,s6⟩
  dsimp only
  have zP:=zQ.trans s6
  refine Zo ⟨_,rfl,b,wd,hg,rfl,bd.same zP,w5,h5,fun H7 s7=> ⟨_,rfl,_,_,rfl,.inl ⟨_,rfl,rfl⟩,fun H8 s8=> ⟨true,rfl,aV (Z6 ?_)⟩⟩⟩
  dsimp only
  have zO:=zP.trans (s7.trans s8)
  have FP:=vw.trans (s6.trans (s7.trans s8))
  refine⟨_,rfl,(by show 1≤sizeLine;decide),fun a1 h1=> ⟨_,rfl,?_⟩⟩
  have s9:=Zz (o:=.lst [.int (bC wd.toNat hg.toNat)]) h1
  have e9:upd H8 a1 (.lst [.int (bC wd.toNat hg.toNat)]) a1=some (.lst [.int (bC wd.toNat hg.toNat)]):=Zc
  generalize upd H8 a1 (HO.lst [V.int (bC wd.toNat hg.toNat)])=H9 at s9 e9
  refine⟨a1,n,_,_,rfl,rfl,e9,(zO.trans s9) _ _ hn,(by show 1+2≤sizeLine;decide),fun a2 h2=> ?_⟩
  have fL:=Zz (o:=.lst ([.int (bC wd.toNat hg.toNat)]++[.int ni,.int nj])) h2
  have e10:upd H9 a2 (.lst ([.int (bC wd.toNat hg.toNat)]++[.int ni,.int nj])) a2=some (.lst ([(bC wd.toNat hg.toNat:Int),ni,nj].map V.int)):=Zc
  generalize upd H9 a2 (HO.lst ([V.int (bC wd.toNat hg.toNat)]++[V.int ni,V.int nj]))=iH at fL e10
  have Bh:∀x∈[(bC wd.toNat hg.toNat:Int),ni,nj],0≤x∧x≤12:=by
   intro x hx
   simp only[List.mem_cons,List.not_mem_nil,or_false]at hx
   rcases hx with rfl |rfl |rfl
   ·refine⟨by omega,?_⟩
    have:=Hw wd.toNat hg.toNat
    omega
   ·exact⟨i0,i1⟩
   ·exact⟨j0,j1⟩
  have HM:([(bC wd.toNat hg.toNat:Int),ni,nj]).length=3:=rfl
  generalize [(bC wd.toNat hg.toNat:Int),ni,nj]=ms at e10 Bh HM
  have FT:=FP.trans (s9.trans fL)
  have zR:=zO.trans (s9.trans fL)
  refine⟨a2,rfl,⟨_,ag.of e10⟩,?_⟩
  refine ZL (xs:=ms.map V.int) (fun i zs σ fm=> ∃v0,σ=[v0,some (.ref b),some (.ref sz)]∧ae iH fm∧zs=List.replicate i (V.bl true)) ⟨_,rfl,ae.refl _,rfl⟩ (fun i zs σ fm _ ⟨_,_,s',_⟩=>ag.of (s' _ _ e10)) ?_ ?_
  ·rintro i v zs σ fm hv ⟨v0,rfl,gn,rfl⟩
   rw[List.getElem?_map]at hv
   obtain⟨m,hm,rfl⟩:=Option.map_eq_some_iff.mp hv
   have hi:i<ms.length:=(List.getElem?_eq_some_iff.mp hm).1
   obtain⟨m0,vP⟩:=Bh m (List.mem_of_getElem? hm)
   refine Zn ?_
   dsimp only[List.set]
   try unfold kG
   refine aW ?_
   refine⟨_,rfl,_,rfl,b,wd,hg,m,rfl,bd.same (zR.trans gn),w5,h5,m0,vP,fun nX kL=> ?_⟩
   have e12:=(FT.trans (gn.trans kL)) _ _ e2
   refine⟨_,rfl,.inl ⟨rfl,_,ag.of e12⟩,_,rfl,sz,_,.int m,rfl,rfl,ag.of e12,rfl,List.all_eq_true.mpr fun x hx=> ?_,_,_,rfl,.inl ⟨_,rfl,?_⟩,fun yE rA=> ⟨by rw[List.length_replicate,sizeLine_eq];omega,_,rfl,gn.trans (kL.trans rA),?_⟩⟩
   ·obtain⟨y,_,rfl⟩:=List.mem_map.mp hx
    rfl
   ·rw[Qu,eO]
   ·rw[List.replicate_succ']
  ·rintro zs σ fm ⟨v0,rfl,gn,rfl⟩ p hp
   rw[List.length_map]
   refine⟨p,List.replicate ms.length true,rfl,?_,?_⟩
   ·rw[List.map_replicate]
    exact ag.of Zc
   ·have e:(List.replicate ms.length true).all id=true:=by simp
    rw[e]
    exact q _ (zR.trans (gn.trans (Zz hp)))
end
end U.S
namespace L2
open PySem PySem.Spec PyProof.Rows SeqAt
section
variable {X:Cx}
theorem NK (hu:X.A.units+1<cLine):bo X (compareOp .NotEq) (fun x y H Q=> ∃(a b:Addr) (xs:List Str),x=.ref a∧y=.ref b∧ag X.K H a (xs.map V.str)∧ag X.K H b (xs.map V.str)∧Q (.bl false) H):=by
 intro pins s σ H x y u v Q I rx ry h
 obtain⟨a,b,xs,rfl,rfl,ha,hb,q⟩:=h
 cases rx
 cases ry
 obtain⟨us,r1,p1,_⟩:=I.list ha
 obtain⟨vs,r2,p2,_⟩:=I.list hb
 have l1:=r1.length
 have l2:=r2.length
 rw[List.length_map]at l1 l2
 refine RcNeAt.lists (e:=fun _=>true) p1.isList p2.isList (by simp;omega) (Nat.lt_of_succ_lt hu) (fun j h1 h2=> ?_) _ _ _ _ ?_
 ·have hj:j<xs.length:=by simp at h1;omega
  have e:(xs.map V.str)[j]? =some (V.str xs[j]):=by simp[hj]
  obtain⟨u,js,ru⟩:=r1.get e
  obtain⟨v,fM,rv⟩:=r2.get e
  have e1:us.toArray[j]=u:=by simpa using (List.getElem?_eq_some_iff.mp js).2
  have e2:vs.toArray[j]=v:=by simpa using (List.getElem?_eq_some_iff.mp fM).2
  rw[e1,e2]
  obtain⟨t1,rfl⟩:=ru
  obtain⟨t2,rfl⟩:=rv
  have y:=EqAt.str_str (A:=X.A.in1) (s:=s) xs[j] t1 xs[j] t2
  simpa using y
 ·have e:(List.range us.toArray.size).all (fun _=>true)=true:=by simp
  rw[e]
  exact⟨.bl false,H,I,rfl,q⟩
end
end L2
namespace U
open PySem L2 PyProof.Rows
def qd (fn x:Str) (p1 p2 p3:Pos):Expr:=.Call (.Name fn p1) [.Name x p2] [] p3
def CC (fn x:Str) (p1 p2 p3 p4:Pos):Expr:=.Call (.Name fn p1) [.Name x p2,.Constant (.int 12) 0 p3] [] p4
theorem oT {bd:Expr}{x:Str}{scope:Scope}(h:(decide (scope.kind=.function)&& !scope.isCoroutine&& !scope.isGenerator&&scope.names.all (fun z=>z.2 !=.cell)&&scope.names.all (fun u=>u.2 !=.free||u.1==x)&&(scope.names.lookup x==some .free))=true):tZ bR bd scope [x]:=by
 simp only[Bool.and_eq_true,Bool.not_eq_true',decide_eq_true_eq,beq_iff_eq,List.all_eq_true,bne_iff_ne,ne_eq,Bool.or_eq_true]at h
 obtain⟨⟨⟨⟨⟨h1,h2⟩,h3⟩,h4⟩,h5⟩,h6⟩:=h
 refine⟨h1,h2,h3,h4,fun u hu e=> ?_,fun u hu=> ?_,fun _ _ _ _ _=>rfl⟩
 ·rcases h5 u hu with z |z
  ·exact absurd e z
  ·simpa using z
 ·simp only[List.mem_cons,List.not_mem_nil,or_false]at hu
  rw[hu]
  exact h6
theorem oU {X:Cx}{x:Str}{i:Nat}(a:LN X x i):∀(k:Nat) u m,([x]:List Str)[k]? =some u→([i]:List Nat)[k]? =some m→LN X u m
 |0,_,_,e1,e2=>by cases e1;cases e2;exact a
 |k+1,_,_,e1,_=>by simp at e1
theorem qf {σ:L2.St}{x:V}{i:Nat}(a:σ[i]? =some (some x)):∀(k m:Nat) (v:V),([i]:List Nat)[k]? =some m→([x]:List V)[k]? =some v→σ[m]? =some (some v)
 |0,_,_,e1,e2=>by cases e1;cases e2;exact a
 |k+1,_,_,e1,_=>by simp at e1
section
variable {X:Cx}{kf:Nat}
theorem tO {k':Nat}{fn x:Str}{ps:List Str}{sp:Sp}{scope:Scope}{C f:Addr}{q:Str}{cl:List (Str×Addr)}{vx:V}{p1 p2 p3:Pos}(aK:k'≤kf) (hU:∀b',cf X.prog X.w X.K X.mg b' k' fn ps sp) (gl:scope.names.lookup fn=some .globalImplicit)
  (kx:scope.names.lookup x=some .free) (dx:(x==("__debug__" :Str))=false) (ex:(x==("__classdict__" :Str))=false) (pQ:(fn==("__debug__" :Str))=false):
  qr X kf C f q (qd fn x p1 p2 p3) scope cl [x] [vx] (yn sp [vx] C):=by
 intro cY cc A outer s2 H2 Q2 E2 hr pre hE
 obtain⟨g,fd,F,hg,hk,hb⟩:=hU cY
 refine⟨_,Jb (X:=jD X.prog X.w X.K X.mg cY [x] q scope f (.ref cc) cl A outer s2 H2 E2) F (hr.mono aK) gl hg hk hb .nil (E:=E2) (vG (X:=jD X.prog X.w X.K X.mg cY [x] q scope f (.ref cc) cl A outer s2 H2 E2) (fun e s' z=>z) rfl rfl rfl)
  (Za (Jr (i:=0) rfl (.inr (.inr kx)) dx ex) Zb) pQ,?_⟩
 exact⟨vx,rfl,pre Q2 E2 hE⟩
theorem MT {k':Nat}{fn x:Str}{ps:List Str}{sp:Sp}{scope:Scope}{C f:Addr}{q:Str}{cl:List (Str×Addr)}{vx:V}{p1 p2 p3 p4:Pos}(aK:k'≤kf) (hU:∀b',cf X.prog X.w X.K X.mg b' k' fn ps sp) (gl:scope.names.lookup fn=some .globalImplicit)
  (kx:scope.names.lookup x=some .free) (dx:(x==("__debug__" :Str))=false) (ex:(x==("__classdict__" :Str))=false) (pQ:(fn==("__debug__" :Str))=false):
  qr X kf C f q (CC fn x p1 p2 p3 p4) scope cl [x] [vx] (yn sp [vx,.int 12] C):=by
 intro cY cc A outer s2 H2 Q2 E2 hr pre hE
 obtain⟨g,fd,F,hg,hk,hb⟩:=hU cY
 refine⟨_,Jb (X:=jD X.prog X.w X.K X.mg cY [x] q scope f (.ref cc) cl A outer s2 H2 E2) F (hr.mono aK) gl hg hk hb .nil (E:=E2) (vG (X:=jD X.prog X.w X.K X.mg cY [x] q scope f (.ref cc) cl A outer s2 H2 E2) (fun e s' z=>z) rfl rfl rfl)
  (Za (Jr (i:=0) rfl (.inr (.inr kx)) dx ex) (Za Zi Zb)) pQ,?_⟩
 exact⟨vx,rfl,pre Q2 E2 hE⟩
end
structure Facts (K:PySem.W.Frag) (b g:Addr) (wd hg:Int) (vn vo:V) (H:Hp):Prop where
 bd:bN H (.ref b) wd hg
 bn:iJ K H vn
 gr:S.fW H (.ref g)
 od:dr K H vo∧cF vo 0 12=false
section
variable {K:PySem.W.Frag}{b g Pt:Addr}{wd hg:Int}{vn vo:V}{H H':Hp}{ps:Array Value}
theorem Facts.xt (f:Facts K b g wd hg vn vo H) (s:aL Pt H H') (hp:H Pt=some (.bO ps)):Facts K b g wd hg vn vo H':=by
 obtain⟨gw,gh,gb,gg⟩:=f.gr
 exact⟨f.bd.x s (f.bd.bO hp),C5 f.bn s (Qd f.bn.1 hp),⟨gw,gh,gb.x s (gb.bO hp),gg⟩,x9 f.od.1 s (Ur f.od.1 hp),f.od.2⟩
end
structure Wk (K:PySem.W.Frag) (a Pt:Addr) (ns:List Int) (q:Str) (H:Hp):Prop where
 sc:fT K H a ns
 tb:TabAt H Pt q
section
variable {K:PySem.W.Frag}{a Pt:Addr}{ns:List Int}{q:Str}{H H':Hp}
theorem Wk.same (W:Wk K a Pt ns q H) (s:ae H H'):Wk K a Pt ns q H':=⟨W.sc.same s,UP W.tb s⟩
theorem Wk.x {p:Addr}(W:Wk K a Pt ns q H) (s:aL p H H') (st:iF H p):Wk K a Pt ns q H':=by
 obtain⟨u,v,e,_⟩:=st
 exact⟨W.sc.x s e (fun _ _ z=>by cases z),CQ W.tb s e (fun _ z=>by cases z) (fun _ z=>by cases z)⟩
theorem Wk.t (W:Wk K a Pt ns q H) (s:aL Pt H H') (t:TabAt H' Pt q):Wk K a Pt ns q H':=by
 obtain⟨tp,e,_⟩:=id W.tb
 exact⟨W.sc.x s e (fun _ _ z=>by cases z),t⟩
end
section
variable {P:Program}{w:World}{K:PySem.W.Frag}{mg:Str→Option Value}{base:Heap}
abbrev cT:Stmt:=top 58
def uM (K:PySem.W.Frag) (Pt:Addr):Sp:=fun vs H Q _=> ∃(a:Addr) (ns:List Int),vs=[.ref a]∧fT K H a ns∧ns.length≤63∧H Pt=some (.bO #[])∧∀H',Q (.bl true) H'
abbrev iR:List Str:=["_law_script", "_law_k", "_law_state_here", "_law_side", "_law_board", "_law_great", "_law_none", "_law_odd", "_law_calls"]
theorem jk:bg iR ["_law_script"] (ay cT):=⟨rfl,rfl,rfl,by decide+kernel,rfl,by decide+kernel,by decide+kernel⟩
abbrev qL:Str:= "law.<locals>.<lambda>"
abbrev ki (ns:List (Str×NameKind)):Scope:= {kind:=.function,names:=ns,isGenerator:=false,isCoroutine:=false}
abbrev zK:Scope:=ki [("_law_none",.free),("most",.globalImplicit)]
abbrev oG:Scope:=ki [("_law_none",.free),("most_lays",.globalImplicit)]
abbrev zJ:Scope:=ki [("_law_none",.free),("_law_odd",.free),("many_of",.globalImplicit)]
abbrev zH:Scope:=ki [("_law_great",.free),("_law_odd",.free),("many_of",.globalImplicit)]
abbrev zG:Scope:=ki [("_law_board",.free),("_law_odd",.free),("many_of",.globalImplicit)]
abbrev zF:Scope:=ki [("_law_great",.free),("most",.globalImplicit)]
abbrev zE:Scope:=ki [("_law_great",.free),("most_lays",.globalImplicit)]
abbrev zD:Scope:=ki [("_law_great",.free),("many_of",.globalImplicit)]
def jM:List Str:=["board", "board", "board", "number", "number", "many", "many", "many"]
theorem Hx:S.bC 1 1=1:=by decide+kernel
theorem HB:(S.gp 2 3 2).length=6:=by decide+kernel
theorem HC:(S.gp 1 5 0).length=1:=by decide+kernel
theorem Nr {f c Pt fR cS aB aN aM:Addr}{oc:Value}{od an:Option Addr}{kV doc pm ct:Value}{eX:Array (Option Value)}
  (lk:K.lookup f=some ⟨oc,od,.func (PySem.W.fnOf "law" "law" (fQ cT) (dG cT) (ay cT) .none kV doc pm an (.ref c) ct),eX⟩) (cQ:PySem.W.codeIn K (.ref c) "law" =true) (G:Gs mg)
  (Rh:Def P w K mg base 2 "_law_state" ["_law_script", "_law_k"] (uD K)) (kE:Def P w K mg base 1 "_law_take" ["_law_state_here", "_law_many"] oA) (Ro:Def P w K mg base 16 "_law_lists_right" ["_law_board", "_law_numbers"] S.uP)
  (je:Def P w K mg base 2 "_law_no_board" ["_law_state_here"] (uH K)) (Rj:Def P w K mg base 2 "_law_no_number" ["_law_state_here", "_law_low", "_law_high"] (uG K)) (qq:Def P w K mg base 14 "most" ["board"] S.mO) (ud:Def P w K mg base 15 "many_of" ["board", "number"] S.oB)
  (hR:∀b',Def P w K mg b' 17 "_law_word" ["_law_call"] (ow P w K mg b' cS 16)) (hO:∀b',cf P w K mg b' 14 "most" ["board"] (S.jj K aB aM)) (BL:∀b',cf P w K mg b' 15 "most_lays" ["board"] (S.jj K aB aM)) (hY:∀b',cf P w K mg b' 15 "many_of" ["board", "number"] (S.qV K aB aN aM)) (mR:mg "_law_word" =some (.ref fR)) (kR:PySem.W.keepIn K (.ref fR)=true)
  (MB:mn K mg cS aB 0) (MN:mn K mg cS aN 2) (MM:mn K mg cS aM 11) (hC:PySem.W.CodeHd base c Pt)
  (xb:∃bm ob,mg "__builtins__" =some (.ref bm)∧bm≠builtinsNs∧base.get? bm=some ob∧ob.cls=.type "module" ∧ob.dict=some builtinsNs∧ob.data=.plain):
  aA P w K mg base aI 18 f (PySem.W.fnOf "law" "law" (fQ cT) (dG cT) (ay cT) .none kV doc pm an (.ref c) ct) ["_law_script"] (uM K Pt):=by
 refine ya lk cQ jk (fun vs H Q E h=> ?_) (fun A outer s H vs Q E hr h=> ?_)
 ·obtain⟨a,ns,rfl,_⟩:=h
  rfl
 ·obtain⟨a,ns,rfl,zp,pG,IG,q⟩:=h
  have lam:DY (bY aI P w K mg base iR "law" (ay cT) f (.ref c) A outer s H E).ft c Pt:=⟨rfl,hC,xb⟩
  have n4:LN (bY aI P w K mg base iR "law" (ay cT) f (.ref c) A outer s H E).ft "_law_board" 4:=⟨rfl,rfl,rfl⟩
  have n5:LN (bY aI P w K mg base iR "law" (ay cT) f (.ref c) A outer s H E).ft "_law_great" 5:=⟨rfl,rfl,rfl⟩
  have n6:LN (bY aI P w K mg base iR "law" (ay cT) f (.ref c) A outer s H E).ft "_law_none" 6:=⟨rfl,rfl,rfl⟩
  have n7:LN (bY aI P w K mg base iR "law" (ay cT) f (.ref c) A outer s H E).ft "_law_odd" 7:=⟨rfl,rfl,rfl⟩
  have room:bP 17 (bY aI P w K mg base iR "law" (ay cT) f (.ref c) A outer s H E).ft.A:=hr
  have hu:=CJ hr
  have main:∃tt,eQ (bY aI P w K mg base iR "law" (ay cT) f (.ref c) A outer s H E).ft (dG cT) tt∧tt {nx:=fun _ H'=>Q .af H',rt:=Q} (start iR [.ref a]) H:=by
   refine⟨_,Ze (Jq PassesOwn.never rfl (Z4 rfl G.range (Za (Zl (Uf rfl) rfl G.max boot_max (Za Zi (Za (Zl (PR rfl) rfl G.min boot_min (Za (Zl Zy rfl G.len boot_len (Za (pv 0) Zb)) (Za Zi Zb))) Zb))) Zb)) (ZY (i:=1) jk.nd rfl (Or.inl rfl))
    (Ze (ZA (i:=2) jk.nd rfl (Or.inl rfl) (Zh Rh (hr.mono (by decide)) (Za (pv 0) (Za (pv 1) Zb))))
    (Ze (ZA (i:=3) jk.nd rfl (Or.inl rfl) (ZO ZV (ZI (Za Zi (Za Zi (Za Zi Zb)))) (Zh kE (hr.mono (by decide)) (Za (pv 2) (Za Zi Zb))) (fun _ _=>rfl)))
    (Ze (ZA (i:=4) jk.nd rfl (Or.inr rfl) (ZH (Za (Zq Yl Zi (Zh kE (hr.mono (by decide)) (Za (pv 2) (Za (pv 3) Zb)))) (Za (Zq Yl Zi (Zh kE (hr.mono (by decide)) (Za (pv 2) (Za (pv 3) Zb)))) Zb))))
    (Ze (ZW (Yp (ZZ (Zh Ro (hr.mono (by decide)) (Za (pv 4) (Za (ZI (Za (Zh kE (hr.mono (by decide)) (Za (pv 2) (Za Zi Zb))) (Za (Zh kE (hr.mono (by decide)) (Za (pv 2) (Za Zi Zb))) Zb))) Zb))))) Zw ZG)
    (Ze (ZA (i:=5) jk.nd rfl (Or.inr rfl) (ZO ZV (ZI (Za (ZH (Za (Zq Yl Zi (Zh kE (hr.mono (by decide)) (Za (pv 2) (Za Zi Zb)))) (Za (ZO Z0 (pv 4) Zi (fun _ _=>rfl)) Zb))) (Za (ZH (Za (ZO Z0 (pv 4) Zi (fun _ _=>rfl)) (Za (Zq Yl Zi (Zh kE (hr.mono (by decide)) (Za (pv 2) (Za Zi Zb)))) Zb))) Zb))) (Zh kE (hr.mono (by decide)) (Za (pv 2) (Za Zi Zb))) (fun _ _=>rfl)))
    (Ze (Uq (ZH (Za (Zh je (hr.mono (by decide)) (Za (pv 2) Zb)) (Za (Zh Rj (hr.mono (by decide)) (Za (pv 2) (Za Zi (Za Zi Zb)))) Zb))) (Z5 rfl (Zp (ZY (i:=6) jk.nd rfl (Or.inr rfl)) (Zp (ZY (i:=7) jk.nd rfl (Or.inr rfl)) ZU))))
    (Ze (ZA (i:=8) jk.nd rfl (Or.inl rfl) (ZI (Za (YE (params:=bR) (body:=qd "most" "_law_none" _ _ _) (scope:=zK) lam rfl (Ye (by kernel_rfl))) Zb)))
    (Ze (Zx (Yc PySem.F.plainAttrs_list PySem.F.slot_list_append PySem.F.type_list_append ZS (pv 8) (Za (YE (params:=bR) (body:=qd "most_lays" "_law_none" _ _ _) (scope:=oG) lam rfl (Ye (by kernel_rfl))) Zb)))
    (Ze (Zx (Yc PySem.F.plainAttrs_list PySem.F.slot_list_append PySem.F.type_list_append ZS (pv 8) (Za (YE (params:=bR) (body:=qc "many_of" "_law_none" "_law_odd" _ _ _ _) (scope:=zJ) lam rfl (Ye (by kernel_rfl))) Zb)))
    (Ze (Zx (Yc PySem.F.plainAttrs_list PySem.F.slot_list_append PySem.F.type_list_append ZS (pv 8) (Za (YE (params:=bR) (body:=qc "many_of" "_law_great" "_law_odd" _ _ _ _) (scope:=zH) lam rfl (Ye (by kernel_rfl))) Zb)))
    (Ze (Zx (Yc PySem.F.plainAttrs_list PySem.F.slot_list_append PySem.F.type_list_append ZS (pv 8) (Za (YE (params:=bR) (body:=qc "many_of" "_law_board" "_law_odd" _ _ _ _) (scope:=zG) lam rfl (Ye (by kernel_rfl))) Zb)))
    (Ze (Zx (Yc PySem.F.plainAttrs_list PySem.F.slot_list_append PySem.F.type_list_append ZS (pv 8) (Za (YE (params:=bR) (body:=qd "most" "_law_great" _ _ _) (scope:=zF) lam rfl (Ye (by kernel_rfl))) Zb)))
    (Ze (Zx (Yc PySem.F.plainAttrs_list PySem.F.slot_list_append PySem.F.type_list_append ZS (pv 8) (Za (YE (params:=bR) (body:=qd "most_lays" "_law_great" _ _ _) (scope:=zE) lam rfl (Ye (by kernel_rfl))) Zb)))
    (Ze (Zx (Yc PySem.F.plainAttrs_list PySem.F.slot_list_append PySem.F.type_list_append ZS (pv 8) (Za (YE (params:=bR) (body:=CC "many_of" "_law_great" _ _ _ _) (scope:=zD) lam rfl (Ye (by kernel_rfl))) Zb)))
    (Zk (ZW (ZM (NK hu) (OP ["_law_call"] 1 [] (ZP (pv 8)) (fun C s H fp=>pb 0) (fun C s H fp=>ZT) (fun pins σ B s H fp D I0 hf=>Zv rfl (OR (kf:=15) hR room mR kR I0 hf rfl (pv 0))))
     (Zq Yk (Zq Yk (Zq ye (ZI (Za Yd Zb)) Zi) (Zq ye (ZI (Za Yd Zb)) Zi)) (Zq ye (ZI (Za Yd Zb)) Zi)) (cj _)) Zw ZG)))))))))))))))))
   (Zk (Zs (Yj (Z8 YC (Zh qq (hr.mono (by decide)) (Za (ZH (Za Zi (Za Zi Zb))) Zb)) Zi (cj _))
    (Yj (Z8 YC (Zh ud (hr.mono (by decide)) (Za (ZH (Za Zi (Za Zi Zb))) (Za Zi Zb))) Zi (cj _))
    (Yq (Z8 YC (Zh ud (hr.mono (by decide)) (Za (ZH (Za Zi (Za Zi Zb))) (Za Zi Zb))) Zi (cj _))))))),?_⟩
   have EA:TabAt H Pt qL:=⟨#[],IG,trivial,fun pos cv z=>by cases z⟩
   refine Zo ?_
   refine⟨_,rfl,a,_,rfl,.inl zp.sq,_,_,rfl,_,_,rfl,_,rfl,(by rw[List.length_map];split<;>split<;>omega),(by rw[List.length_map];split<;>split<;>omega),?_⟩
   refine YS (fun i σ H'=> ∃s1 s2 s3 s4 s5 s6 s7 s8,σ=[some (.ref a),s1,s2,s3,s4,s5,s6,s7,s8]∧Wk K a Pt ns qL H') ⟨_,_,_,_,_,_,_,_,rfl,zp,EA⟩ ?_ ?_
   ·rintro i σ H0 hi ⟨q1,q2,q3,q4,q5,q6,q7,q8,rfl,W⟩
    rw[Int.zero_add]
    refine Zn ?_
    dsimp only[List.set]
    refine Zo (ZK ⟨_,rfl,_,rfl,a,ns,i,rfl,W.sc.sq,fun p H1 np k1 av=>Zn ?_⟩)
    dsimp only[List.set]
    have W1:=W.same k1
    refine Zo (ZK ⟨(by show 3≤sizeLine;decide),fun L1 eP=> ?_⟩)
    have k2:=Zm (o:=.lst [V.int 4,V.int 4,V.int 5]) eP
    have e2:upd H1 L1 (.lst [V.int 4,V.int 4,V.int 5]) L1=some (.lst [V.int 4,V.int 4,V.int 5]):=Zc
    generalize upd H1 L1 (HO.lst [V.int 4,V.int 4,V.int 5])=H2 at k2 e2
    have ak:=av.same k2
    have W2:=W1.same k2
    have Ho:L1≠p:=by
     obtain⟨u,v,e,_⟩:=id ak
     exact JF e2 e (by intro z;cases z)
    refine⟨_,rfl,p,3,rfl,ak,by decide,by decide,fun r1 o1 R4 R3 aU=> ?_⟩
    have x3:aL p H2 (upd H2 p o1):=aL.upd
    generalize upd H2 p o1=H3 at aU x3
    have W3:=W2.x x3 ak
    obtain⟨sd,IT,RK,RJ⟩:∃sd:Int,fk [V.int 4,V.int 4,V.int 5] r1=some (.int sd)∧4≤sd∧sd≤5:=by
     have:r1=0∨r1=1∨r1=2:=by omega
     rcases this with rfl |rfl |rfl
     ·exact⟨4,rfl,by decide,by decide⟩
     ·exact⟨4,rfl,by decide,by decide⟩
     ·exact⟨5,rfl,by decide,by decide⟩
    refine⟨L1,_,_,_,rfl,rfl,ag.of (x3 _ _ e2 Ho),IT,Zn ?_⟩
    dsimp only[List.set]
    refine Zo (ZK ⟨_,rfl,_,rfl,p,sd,rfl,aU,by omega,by omega,fun r2 o2 R0 RZ eR=> ⟨_,_,rfl,rfl,?_⟩⟩)
    have x4:aL p H3 (upd H3 p o2):=aL.upd
    generalize upd H3 p o2=H4 at eR x4
    have W4:=W3.x x4 aU
    refine⟨_,rfl,_,rfl,p,sd,rfl,eR,by omega,by omega,fun r3 o3 RY RX f9=> ⟨_,_,rfl,rfl,?_⟩⟩
    have x5:aL p H4 (upd H4 p o3):=aL.upd
    generalize upd H4 p o3=H5 at f9 x5
    have W5:=W4.x x5 eR
    refine⟨(by show 2≤sizeLine;decide),fun b hb=>Zn ?_⟩
    dsimp only[List.set]
    generalize hw:1+r2=wd
    generalize hh:1+r3=hg
    have s6:=Zm (o:=.tup [V.int wd,V.int hg]) hb
    have e6:upd H5 b (.tup [V.int wd,V.int hg]) b=some (.tup [V.int wd,V.int hg]):=Zc
    generalize upd H5 b (HO.tup [V.int wd,V.int hg])=H6 at s6 e6
    have W6:=W5.same s6
    have uv:=f9.same s6
    have CD:∀{H':Hp},H' b=some (.tup [V.int wd,V.int hg])→bN H' (.ref b) wd hg:=fun h=> ⟨Zu h,by omega,by omega,by omega,by omega⟩
    have kW:b≠p:=by
     obtain⟨u,v,e,_⟩:=id uv
     exact JF e6 e (by intro z;cases z)
    refine Zo ⟨_,rfl,_,rfl,p,6,rfl,uv,by decide,by decide,fun r4 o4 RW RV oq=> ?_⟩
    have x7:aL p H6 (upd H6 p o4):=aL.upd
    generalize upd H6 p o4=H7 at oq x7
    have W7:=W6.x x7 uv
    have e7:=x7 _ _ e6 kW
    refine⟨_,rfl,p,13,rfl,oq,by decide,by decide,fun r5 o5 RU RT qK=> ?_⟩
    have x8:aL p H7 (upd H7 p o5):=aL.upd
    generalize upd H7 p o5=H8 at qK x8
    have W8:=W7.x x8 oq
    have e8:=x8 _ _ e7 kW
    refine⟨(by show 2≤sizeLine;decide),fun L2 gF=> ?_⟩
    have k9:=Zm (o:=.lst [V.int r4,V.int r5]) gF
    have e9:upd H8 L2 (.lst [V.int r4,V.int r5]) L2=some (.lst [V.int r4,V.int r5]):=Zc
    generalize upd H8 L2 (HO.lst [V.int r4,V.int r5])=H9 at k9 e9
    refine⟨b,L2,wd,hg,r4,r5,rfl,CD (k9 _ _ e8),by omega,by omega,e9,by omega,by omega,by omega,by omega,fun iH fL=> ⟨true,rfl,aV (Z6 ?_)⟩⟩
    dsimp only
    have o9:=k9.trans fL
    have QY:=W8.same o9
    have zj:=qK.same o9
    have e10:=o9 _ _ e8
    refine Zo (ZK ⟨_,rfl,p,7,rfl,zj,by decide,by decide,fun r6 o6 RQ RP zi=> ⟨_,_,rfl,rfl,?_⟩⟩)
    have ug:aL p iH (upd iH p o6):=aL.upd
    generalize upd iH p o6=fm at zi ug
    have QX:=QY.x ug zj
    have e11:=ug _ _ e10 kW
    refine⟨_,rfl,b,_,_,_,rfl,rfl,ai.of e11,cE,(by show 2≤sizeLine;decide),fun t1 IK=> ?_⟩
    have nD:=Zm (o:=.tup [V.int (6+r6),V.int hg]) IK
    have e12:upd fm t1 (.tup [V.int (6+r6),V.int hg]) t1=some (.tup [V.int (6+r6),V.int hg]):=Zc
    generalize upd fm t1 (HO.tup [V.int (6+r6),V.int hg])=nX at nD e12
    have QW:=QX.same nD
    have uy:=zi.same nD
    have Cf:=nD _ _ e11
    refine⟨_,rfl,b,_,_,_,rfl,rfl,ai.of Cf,qg,_,rfl,p,7,rfl,uy,by decide,by decide,fun r7 o7 RO RN zh=> ⟨_,_,rfl,rfl,?_⟩⟩
    have qB:aL p nX (upd nX p o7):=aL.upd
    generalize upd nX p o7=yE at zh qB
    have QV:=QW.x qB uy
    have Mi:=qB _ _ Cf kW
    have vJ:t1≠p:=by
     obtain⟨u,v,e,_⟩:=id uy
     exact JF e12 e (by intro z;cases z)
    have e13:=qB _ _ e12 vJ
    refine⟨(by show 2≤sizeLine;decide),fun t2 IJ=> ?_⟩
    have rV:=Zm (o:=.tup [V.int wd,V.int (6+r7)]) IJ
    have e14:upd yE t2 (.tup [V.int wd,V.int (6+r7)]) t2=some (.tup [V.int wd,V.int (6+r7)]):=Zc
    generalize upd yE t2 (HO.tup [V.int wd,V.int (6+r7)])=Ed at rV e14
    refine⟨(by show 2≤sizeLine;decide),fun L3 jA=> ?_⟩
    have rT:=Zm (o:=.lst [V.ref t1,V.ref t2]) jA
    have e15:upd Ed L3 (.lst [V.ref t1,V.ref t2]) L3=some (.lst [V.ref t1,V.ref t2]):=Zc
    generalize upd Ed L3 (HO.lst [V.ref t1,V.ref t2])=yD at rT e15
    have rW:=rV.trans rT
    have QU:=QV.same rW
    have qM:=zh.same rW
    have Mh:=rW _ _ Mi
    have vO:L3≠p:=by
     obtain⟨u,v,e,_⟩:=id qM
     exact JF e15 e (by intro z;cases z)
    have Al:t2≠p:=by
     obtain⟨u,v,e,_⟩:=id qM
     exact JF (rT _ _ e14) e (by intro z;cases z)
    refine⟨_,rfl,p,2,rfl,qM,by decide,by decide,fun r8 o8 RM RL uw=> ?_⟩
    have mE:aL p yD (upd yD p o8):=aL.upd
    generalize upd yD p o8=yC at uw mE
    have QT:=QU.x mE qM
    have Mg:=mE _ _ Mh kW
    have LU:S.fW yC (.ref t1):=⟨6+r6,hg,⟨Zu (mE _ _ (rW _ _ e13) vJ),by omega,by omega,by omega,by omega⟩,by omega⟩
    have tE:S.fW yC (.ref t2):=⟨wd,6+r7,⟨Zu (mE _ _ (rT _ _ e14) Al),by omega,by omega,by omega,by omega⟩,by omega⟩
    obtain⟨g,KN,gr,G8⟩:∃g:Addr,fk [V.ref t1,V.ref t2] r8=some (.ref g)∧S.fW yC (.ref g)∧g≠p:=by
     have:r8=0∨r8=1:=by omega
     rcases this with rfl |rfl
     ·exact⟨t1,rfl,LU,vJ⟩
     ·exact⟨t2,rfl,tE,Al⟩
    refine⟨L3,_,_,_,rfl,rfl,ag.of (mE _ _ e15 vO),KN,Zn ?_⟩
    dsimp only[List.set]
    refine Zo (ZK ⟨_,rfl,p,rfl,uw,fun vn S7 uf zg bn nn=> ?_⟩)
    have QS:=QT.x uf uw
    refine⟨_,rfl,p,12,rfl,zg,by decide,by decide,fun vo uc qA RH po wo no=> ⟨(by show 2≤sizeLine;decide),fun tq ID=> ?_⟩⟩
    have QR:=QS.x qA zg
    have MU:=C5 bn qA nn
    have LH:S.fW uc (.ref g):=by
     obtain⟨gw,gh,gb,gg⟩:=gr
     have nr:V.ref g≠V.ref p:=fun z=>G8 (by cases z;rfl)
     exact⟨gw,gh,(gb.x uf nr).x qA nr,gg⟩
    have MV:bN uc (.ref b) wd hg:=CD (qA _ _ (uf _ _ Mg kW) kW)
    have nC:=Zm (o:=.tup [vn,vo]) ID
    have e19:upd uc tq (.tup [vn,vo]) tq=some (.tup [vn,vo]):=Zc
    generalize upd uc tq (HO.tup [vn,vo])=Rc at nC e19
    refine⟨tq,_,rfl,ai.of e19,rfl,_,_,rfl,_,_,rfl,rfl,?_⟩
    dsimp only[List.set]
    have tV:=QR.same nC
    have F0:Facts K b g wd hg vn vo Rc:=⟨MV.same nC,MU.same nC,LH.same nC,nC.mV po,wo⟩
    obtain⟨tp,pX,_⟩:=id tV.tb
    refine Zo (ZK ⟨tV.tb,fun y1 H1 s1 _ t1 l1=> ⟨(by show 1≤sizeLine;decide),fun L hL=>Zn ?_⟩⟩)
    have m1:=Oj tV.tb s1 t1 l1 hL
    generalize upd H1 L (.lst [V.ref y1])=S8 at m1
    dsimp only[List.set]
    obtain⟨dw,eP,k1⟩:=m1.lst
    refine Zo ⟨_,rfl,.inl ⟨rfl,_,ag.of eP⟩,m1.tb,fun y2 H2 s2 _ t2 l2=> ⟨L,dw,.ref y2,rfl,rfl,m1.cE eP s2,(by rw[k1,sizeLine_eq];decide),?_⟩⟩
    have m2:=m1.app eP s2 t2 l2
    generalize upd H2 L (.lst (dw++[V.ref y2]))=S6 at m2
    dsimp only
    obtain⟨yV,gF,k2⟩:=m2.lst
    refine Zo ⟨_,rfl,.inl ⟨rfl,_,ag.of gF⟩,m2.tb,fun y3 H3 s3 _ t3 l3=> ⟨L,yV,.ref y3,rfl,rfl,m2.cE gF s3,(by rw[k2,sizeLine_eq];decide),?_⟩⟩
    have m3:=m2.app gF s3 t3 l3
    generalize upd H3 L (.lst (yV++[V.ref y3]))=S5 at m3
    dsimp only
    obtain⟨yU,jA,k3⟩:=m3.lst
    refine Zo ⟨_,rfl,.inl ⟨rfl,_,ag.of jA⟩,m3.tb,fun y4 H4 s4 _ t4 l4=> ⟨L,yU,.ref y4,rfl,rfl,m3.cE jA s4,(by rw[k3,sizeLine_eq];decide),?_⟩⟩
    have m4:=m3.app jA s4 t4 l4
    generalize upd H4 L (.lst (yU++[V.ref y4]))=S4 at m4
    dsimp only
    obtain⟨yT,tj,k4⟩:=m4.lst
    refine Zo ⟨_,rfl,.inl ⟨rfl,_,ag.of tj⟩,m4.tb,fun y5 H5 s5 _ t5 l5=> ⟨L,yT,.ref y5,rfl,rfl,m4.cE tj s5,(by rw[k4,sizeLine_eq];decide),?_⟩⟩
    have m5:=m4.app tj s5 t5 l5
    generalize upd H5 L (.lst (yT++[V.ref y5]))=SY at m5
    dsimp only
    obtain⟨ui,tf,k5⟩:=m5.lst
    refine Zo ⟨_,rfl,.inl ⟨rfl,_,ag.of tf⟩,m5.tb,fun y6 H6 s6 _ t6 l6=> ⟨L,ui,.ref y6,rfl,rfl,m5.cE tf s6,(by rw[k5,sizeLine_eq];decide),?_⟩⟩
    have m6:=m5.app tf s6 t6 l6
    generalize upd H6 L (.lst (ui++[V.ref y6]))=SX at m6
    dsimp only
    obtain⟨uh,sY,k6⟩:=m6.lst
    refine Zo ⟨_,rfl,.inl ⟨rfl,_,ag.of sY⟩,m6.tb,fun y7 H7 s7 _ t7 l7=> ⟨L,uh,.ref y7,rfl,rfl,m6.cE sY s7,(by rw[k6,sizeLine_eq];decide),?_⟩⟩
    have m7:=m6.app sY s7 t7 l7
    generalize upd H7 L (.lst (uh++[V.ref y7]))=SW at m7
    dsimp only
    obtain⟨yS,sX,k7⟩:=m7.lst
    refine Zo ⟨_,rfl,.inl ⟨rfl,_,ag.of sX⟩,m7.tb,fun y8 H8 s8 _ t8 l8=> ⟨L,yS,.ref y8,rfl,rfl,m7.cE sX s8,(by rw[k7,sizeLine_eq];decide),?_⟩⟩
    have m8:=m7.app sX s8 t8 l8
    generalize upd H8 L (.lst (yS++[V.ref y8]))=Ec at m8
    dsimp only
    obtain⟨mF,sW,k8⟩:=m8.lst
    clear eP k1 gF k2 jA k3 tj k4 tf k5 sY k6 sX k7 sW k8 mF
    obtain⟨zd,SM,mI,mF,sW,kP⟩:=m8
    have l8:mF.length=8:=Paired.length kP
    refine⟨_,rfl,L,rfl,⟨mF,ag.of sW⟩,?_⟩
    refine ZL (xs:=mF) (fun i zs σ H8=> ∃v0,σ=[v0]∧ae Ec H8∧zs=(jM.take i).map V.str) ⟨_,rfl,ae.refl _,rfl⟩ (fun i zs σ H8 _ ⟨_,_,s8,_⟩=>ag.of (s8 _ _ sW)) ?_ ?_
    ·rintro j v zs σ H9 hv ⟨v0,rfl,s9,rfl⟩
     obtain⟨bb,dF,lm⟩:=Y9 kP hv
     obtain⟨y,rfl,jV⟩:=lm.same s9
     have hj:j<mF.length:=(List.getElem?_eq_some_iff.mp hv).1
     have F9:Facts K b g wd hg vn vo H9:=F0.xt (zd.trans s9.x) pX
     suffices h:∃iC,(∃params bd scope N idx ws C Pre,Ej (bY aI P w K mg base iR "law" (ay cT) f (.ref c) A outer s H E).ft cS 15 [some (.ref a),some (.int (i:Int)),some (.ref p),some (.int sd),some (.ref b),some (.ref g),some vn,some vo,some (.ref L)] H9 y iC params bd scope N idx ws C Pre)∧jM[j]? =some (wordOf iC) by
      obtain⟨iC,ask,hw⟩:=h
      refine⟨y,iC,rfl,ask,fun iH fL=> ⟨by rw[List.length_map,List.length_take,sizeLine_eq];omega,_,rfl,s9.trans fL,?_⟩⟩
      rw[List.take_add_one,hw,List.map_append]
      rfl
     match j,dF,hj with
     |0,dF,_=>
      cases dF
      exact⟨0,⟨bR,_,zK,_,[6],[vn],aB,_,⟨oT (by kernel_rfl),rfl,oU n6,rfl,qf rfl,Ye (by kernel_rfl),jV,MB,tO (by decide) hO rfl rfl (by decide) (by decide) (by decide),fun Q' E' hE=> ⟨vn,aB,rfl,.inl ⟨rfl,F9.bn⟩,hE⟩⟩⟩,rfl⟩
     |1,dF,_=>
      cases dF
      exact⟨0,⟨bR,_,oG,_,[6],[vn],aB,_,⟨oT (by kernel_rfl),rfl,oU n6,rfl,qf rfl,Ye (by kernel_rfl),jV,MB,tO (Nat.le_refl _) BL rfl rfl (by decide) (by decide) (by decide),fun Q' E' hE=> ⟨vn,aB,rfl,.inl ⟨rfl,F9.bn⟩,hE⟩⟩⟩,rfl⟩
     |2,dF,_=>
      cases dF
      exact⟨0,⟨bR,_,zJ,_,[6,7],[vn,vo],aB,_,⟨vR (by kernel_rfl),rfl,vT n6 n7,rfl,at2 rfl rfl,Ye (by kernel_rfl),jV,MB,xQ (Nat.le_refl _) hY rfl rfl rfl (by decide) (by decide) (by decide) (by decide) (by decide),fun Q' E' hE=> ⟨vn,vo,aB,rfl,.inl ⟨rfl,F9.bn⟩,hE⟩⟩⟩,rfl⟩
     |3,dF,_=>
      cases dF
      obtain⟨gw,gh,gb,_⟩:=id F9.gr
      exact⟨2,⟨bR,_,zH,_,[5,7],[.ref g,vo],aN,_,⟨vR (by kernel_rfl),rfl,vT n5 n7,rfl,at2 rfl rfl,Ye (by kernel_rfl),jV,MN,xQ (Nat.le_refl _) hY rfl rfl rfl (by decide) (by decide) (by decide) (by decide) (by decide),fun Q' E' hE=> ⟨.ref g,vo,aN,rfl,.inr (.inl ⟨rfl,⟨gw,gh,gb⟩,F9.od⟩),hE⟩⟩⟩,rfl⟩
     |4,dF,_=>
      cases dF
      exact⟨2,⟨bR,_,zG,_,[4,7],[.ref b,vo],aN,_,⟨vR (by kernel_rfl),rfl,vT n4 n7,rfl,at2 rfl rfl,Ye (by kernel_rfl),jV,MN,xQ (Nat.le_refl _) hY rfl rfl rfl (by decide) (by decide) (by decide) (by decide) (by decide),fun Q' E' hE=> ⟨.ref b,vo,aN,rfl,.inr (.inl ⟨rfl,⟨wd,hg,F9.bd⟩,F9.od⟩),hE⟩⟩⟩,rfl⟩
     |5,dF,_=>
      cases dF
      exact⟨11,⟨bR,_,zF,_,[5],[.ref g],aM,_,⟨oT (by kernel_rfl),rfl,oU n5,rfl,qf rfl,Ye (by kernel_rfl),jV,MM,tO (by decide) hO rfl rfl (by decide) (by decide) (by decide),fun Q' E' hE=> ⟨.ref g,aM,rfl,.inr ⟨rfl,F9.gr⟩,hE⟩⟩⟩,rfl⟩
     |6,dF,_=>
      cases dF
      exact⟨11,⟨bR,_,zE,_,[5],[.ref g],aM,_,⟨oT (by kernel_rfl),rfl,oU n5,rfl,qf rfl,Ye (by kernel_rfl),jV,MM,tO (Nat.le_refl _) BL rfl rfl (by decide) (by decide) (by decide),fun Q' E' hE=> ⟨.ref g,aM,rfl,.inr ⟨rfl,F9.gr⟩,hE⟩⟩⟩,rfl⟩
     |7,dF,_=>
      cases dF
      exact⟨11,⟨bR,_,zD,_,[5],[.ref g],aM,_,⟨oT (by kernel_rfl),rfl,oU n5,rfl,qf rfl,Ye (by kernel_rfl),jV,MM,MT (Nat.le_refl _) hY rfl rfl (by decide) (by decide) (by decide),fun Q' E' hE=> ⟨.ref g,.int 12,aM,rfl,.inr (.inr ⟨rfl,F9.gr,rfl⟩),hE⟩⟩⟩,rfl⟩
     |j+8,_,h=>omega
    ·rintro zs σ H9 ⟨v0,rfl,s9,rfl⟩ Z hZ
     rw[l8]
     have sZ:=Zm (o:=.lst ((jM.take 8).map V.str)) hZ
     have eZ:upd H9 Z (.lst ((jM.take 8).map V.str)) Z=some (.lst ((jM.take 8).map V.str)):=Zc
     generalize upd H9 Z (.lst ((jM.take 8).map V.str))=iH at sZ eZ
     have kY:∀{H:Hp}{t:Addr} (xs:List V),H t=none→ae H (upd H t (.lst xs))∧upd H t (.lst xs) t=some (.lst xs):=fun x h=> ⟨Zm h,Zc⟩
     refine⟨(by show 1≤sizeLine;decide),fun a1 h1=> ?_⟩
     obtain⟨y1,e1⟩:=kY [V.str "board"] h1
     generalize upd iH a1 (HO.lst [V.str "board"])=G1 at y1 e1
     refine⟨a1,3,_,rfl,rfl,e1,by decide,by decide,(by show 1*3≤sizeLine;decide),fun a2 h2=> ?_⟩
     obtain⟨y2,e2⟩:=kY [V.str "board",V.str "board",V.str "board"] h2
     change mJ _ _ _ _ (upd G1 a2 (.lst [V.str "board",V.str "board",V.str "board"])) _
     generalize upd G1 a2 (HO.lst [V.str "board",V.str "board",V.str "board"])=G2 at y2 e2
     refine⟨(by show 1≤sizeLine;decide),fun a3 h3=> ?_⟩
     obtain⟨y3,e3⟩:=kY [V.str "number"] h3
     generalize upd G2 a3 (HO.lst [V.str "number"])=G3 at y3 e3
     refine⟨a3,2,_,rfl,rfl,e3,by decide,by decide,(by show 1*2≤sizeLine;decide),fun a4 h4=> ?_⟩
     obtain⟨y4,e4⟩:=kY [V.str "number",V.str "number"] h4
     refine⟨a2,a4,[V.str "board",V.str "board",V.str "board"],[V.str "number",V.str "number"],rfl,rfl,(y3.trans y4) _ _ e2,Zc,(by show 3+2≤sizeLine;decide),fun a5 h5=> ?_⟩
     obtain⟨y5,e5⟩:=kY [V.str "board",V.str "board",V.str "board",V.str "number",V.str "number"] h5
     have yR:=y3.trans (y4.trans y5)
     change mJ _ _ _ _ (upd _ a5 (.lst [V.str "board",V.str "board",V.str "board",V.str "number",V.str "number"])) _
     generalize upd _ a5 (HO.lst [V.str "board",V.str "board",V.str "board",V.str "number",V.str "number"])=G5 at yR e5
     refine⟨(by show 1≤sizeLine;decide),fun a6 h6=> ?_⟩
     obtain⟨y6,e6⟩:=kY [V.str "many"] h6
     generalize upd G5 a6 (HO.lst [V.str "many"])=G6 at y6 e6
     refine⟨a6,3,_,rfl,rfl,e6,by decide,by decide,(by show 1*3≤sizeLine;decide),fun a7 h7=> ?_⟩
     obtain⟨y7,e7⟩:=kY [V.str "many",V.str "many",V.str "many"] h7
     refine⟨a5,a7,[V.str "board",V.str "board",V.str "board",V.str "number",V.str "number"],[V.str "many",V.str "many",V.str "many"],rfl,rfl,(y6.trans y7) _ _ e5,Zc,(by show 5+3≤sizeLine;decide),fun a8 h8=> ?_⟩
     have y8:=Zm (o:=.lst (jM.map V.str)) h8
     have yA:=y1.trans (y2.trans (yR.trans (y6.trans (y7.trans y8))))
     refine⟨Z,a8,jM,rfl,rfl,ag.of (yA _ _ eZ),ag.of Zc,_,rfl,aV (Z6 ?_)⟩
     have sE:ae Ec _:=s9.trans (sZ.trans yA)
     exact⟨_,_,_,_,_,_,_,_,rfl,(tV.t zd mI).same sE⟩
   ·rintro σ H1 _
    have xT:∀{H:Hp}{t:Addr}{x y:Int},1≤x→x≤12→1≤y→y≤12→bN (upd H t (.tup [V.int x,V.int y])) (.ref t) x y:=fun h1 h2 h3 h4=> ⟨Zu Zc,h1,h2,h3,h4⟩
    refine⟨(by show 2≤sizeLine;decide),fun t1 h1=> ⟨t1,1,1,rfl,xT (by decide) (by decide) (by decide) (by decide),by decide,by decide,fun H2 s2=> ⟨rfl,_,rfl,?_⟩⟩⟩
    rw[show S.bC (1:Int).toNat (1:Int).toNat=1 from Hx]
    refine aW ⟨(by show 2≤sizeLine;decide),fun t2 h2=> ⟨t2,2,3,2,rfl,xT (by decide) (by decide) (by decide) (by decide),by decide,by decide,by decide,by decide,fun H3 s3=> ⟨rfl,_,rfl,?_⟩⟩⟩
    rw[show(S.gp (2:Int).toNat (3:Int).toNat 2).length=6 from HB]
    refine aW ⟨(by show 2≤sizeLine;decide),fun t3 h3=> ⟨t3,1,5,0,rfl,xT (by decide) (by decide) (by decide) (by decide),by decide,by decide,by decide,by decide,fun H4 s4=> ⟨rfl,?_⟩⟩⟩
    rw[show(S.gp (1:Int).toNat (5:Int).toNat 0).length=1 from HC]
    exact q _
  obtain⟨t,ht,hq⟩:=main
  exact⟨t,ht.ft,hq⟩
end
end U
namespace U
open PySem L2 PyProof.Rows PySem.Spec
abbrev xr:List Str:=["isinstance", "int", "bool", "tuple", "list", "len", "all", "set", "range", "max", "min", "enumerate", "zip", "sorted", "ValueError"]
section
variable {P:Program}{w:World}{K:PySem.W.Frag}{mg:Str→Option Value}{base:Heap}
theorem Ny {h:Heap}{t0 t1 t2:Tok}(KX:K.In h) (G:h.Ns mainGlobals mg) (e:xr.all (rM K)=true) (lo0:PySem.W.nsIn K mainGlobals "LONGEST_SIDE" =some (some (.int 12 t0))) (lo1:PySem.W.nsIn K mainGlobals "MOST_WIDE" =some (some (.int 5 t1))) (lo2:PySem.W.nsIn K mainGlobals "MOST_HIGH" =some (some (.int 5 t2))):Gs mg∧mg "ValueError" =none:=by
 have k:∀x∈xr,mg x=none:=fun x hx=>Qf KX G (List.all_eq_true.mp e x hx)
 exact⟨⟨k _ (by simp),k _ (by simp),k _ (by simp),k _ (by simp),k _ (by simp),k _ (by simp),k _ (by simp),k _ (by simp),k _ (by simp),k _ (by simp),k _ (by simp),k _ (by simp),k _ (by simp),k _ (by simp),⟨t0,PySem.W.mg_of KX G lo0⟩,⟨t1,PySem.W.mg_of KX G lo1⟩,⟨t2,PySem.W.mg_of KX G lo2⟩⟩,k _ (by simp)⟩
def rS (K:PySem.W.Frag) (C c:Value) (b:Bool):Bool:=match PySem.W.kitOne K C c with |some d=>d==b |none=>false
theorem C0 {C c:Value}{b:Bool}(h:rS K C c b=true):PySem.W.kitOne K C c=some b:=by
 unfold rS at h
 split at h
 ·rename_i d q
  rw[q,beq_iff_eq.mp h]
 ·cases h
def HA (K:PySem.W.Frag) (C:Addr) (iC:Nat):Bool:=(List.range 15).all fun i=>match PySem.W.nsIn K mainGlobals (Ar.getD i "") with |some (some (.ref c))=>rS K (.ref C) (.ref c) (decide (i=iC)) |_=>false
def mroOk (K:PySem.W.Frag) (C:Addr) (b:Value):Bool:=match PySem.W.mroIn K C b with |some d=>d |none=>false
theorem U3 {C:Addr}{b:Value}(h:mroOk K C b=true):PySem.W.mroIn K C b=some true:=by
 unfold mroOk at h
 split at h
 ·rename_i d q
  rw[q,h]
 ·cases h
def xC (K:PySem.W.Frag) (C c:Value):Bool:=match PySem.W.exmOne K C c with |some d=>d |none=>false
theorem O4 {C c:Value}(h:xC K C c=true):PySem.W.exmOne K C c=some true:=by
 unfold xC at h
 split at h
 ·rename_i d q
  rw[q,h]
 ·cases h
def pW (K:PySem.W.Frag) (cS C:Addr) (iC:Nat):Bool:=mroOk K C (.type "object")&&mroOk K C (.type "BaseException")&&(PySem.W.clsIn K C).isSome&&xC K (.ref C) (.ref cS)&&HA K C iC&&rS K (.ref C) (.type "ValueError") true&&PySem.W.excIn K C xR "ValueError.__new__"
theorem Uz {h:Heap}{cS C:Addr}{iC:Nat}(KX:K.In h) (G:h.Ns mainGlobals mg) (mv:mg "ValueError" =none) (ms:mg "StepError" =some (.ref cS)) (hi:iC<15) (e:pW K cS C iC=true)
  (ga:PySem.W.findIn K (.ref C) "__getattribute__" =some (some (.builtin "BaseException.__getattribute__"))) (hook:PySem.W.findIn K (.ref C) "__getattr__" =some none) (cl:PySem.W.findIn K (.ref C) "__class__" =some (some (.builtin "object.__class__"))):mn K mg cS C iC∧PySem.W.excIn K C xR "ValueError.__new__" =true:=by
 unfold pW at e
 simp only[Bool.and_eq_true]at e
 obtain⟨⟨⟨⟨⟨⟨e1,e2⟩,e3⟩,e4⟩,e5⟩,e6⟩,e7⟩:=e
 refine⟨⟨⟨ga,hook,cl,U3 e1,U3 e2,e3⟩,ms,O4 e4,fun i hi=> ?_,mv,C0 e6,hi⟩,e7⟩
 have:=List.all_eq_true.mp e5 i (List.mem_range.mpr hi)
 split at this
 ·rename_i c q
  exact⟨c,PySem.W.mg_of KX G q,C0 this⟩
 ·cases this
set_option maxHeartbeats 4000000 in
theorem HU {h:Heap}{fa c Pt f cS aB aN aM:Addr}{oc:Value}{od an:Option Addr}{kV doc pm ct:Value}{eX:Array (Option Value)}{t0 t1 t2:Tok}(KX:K.In h) (G:h.Ns mainGlobals mg) (hmg:mg "law" =some (.ref fa))
  (d0:bh K "is_whole" uY) (d1:bh K "is_whole_within" uX) (d2:bh K "need_whole_within" rg) (d3:bh K "is_tuple_of" u5) (d4:bh K "is_board" vp) (d5:bh K "need_board" rf) (d6:bh K "need_at_most" S.rh) (d7:bh K "is_lay" vg) (d8:bh K "need_lay" S.rd) (d9:bh K "with_point" S.uZ) (MF:bh K "points" S.vc) (ME:bh K "point_pairs" S.vd) (MD:bh K "steps" S.u7) (MC:bh K "first_like" S.vj) (MA:bh K "is_unlike" S.u4) (Mz:bh K "free_rows" S.vk) (My:bh K "points_many" S.ve) (Ct:bh K "unlike_lays" S.rb) (Cs:bh K "unlike_of" S.ra) (Cr:bh K "most" S.rk) (Cq:bh K "most_lays" S.rm) (Cp:bh K "many_of" S.rj) (Mx:bh K "_law_cell_at" vm) (Mw:bh K "_law_state" u9) (Mv:bh K "_law_take" u6) (Co:bh K "_law_word" uW) (Mu:bh K "_law_steps" S.vh) (Mt:bh K "_law_unlike" S.rn) (Ms:bh K "_law_no_board" mS) (Mr:bh K "_law_no_number" vf) (xK:bh K "_law_same" oH) (Mq:bh K "_law_all" S.vt) (Mp:bh K "_law_lists_right" S.vi)
  (l1:PySem.W.nsIn K mainGlobals "law" =some (some (.ref f))) (l2:K.lookup f=some ⟨oc,od,.func (PySem.W.fnOf "law" "law" (fQ cT) (dG cT) (ay cT) .none kV doc pm an (.ref c) ct),eX⟩) (l3:PySem.W.codeIn K (.ref c) "law" =true) (l4:PySem.W.codeHdIn K c Pt=true)
  (g1:xr.all (rM K)=true) (lo0:PySem.W.nsIn K mainGlobals "LONGEST_SIDE" =some (some (.int 12 t0))) (lo1:PySem.W.nsIn K mainGlobals "MOST_WIDE" =some (some (.int 5 t1))) (lo2:PySem.W.nsIn K mainGlobals "MOST_HIGH" =some (some (.int 5 t2)))
  (eB:PySem.W.nsIn K mainGlobals "NoBoard" =some (some (.ref aB))) (eN:PySem.W.nsIn K mainGlobals "NoNumber" =some (some (.ref aN))) (eM:PySem.W.nsIn K mainGlobals "TooMany" =some (some (.ref aM))) (eS:PySem.W.nsIn K mainGlobals "StepError" =some (some (.ref cS)))
  (xB:pW K cS aB 0=true) (xN:pW K cS aN 2=true) (xM:pW K cS aM 11=true)
  (gaB:PySem.W.findIn K (.ref aB) "__getattribute__" =some (some (.builtin "BaseException.__getattribute__"))) (hoB:PySem.W.findIn K (.ref aB) "__getattr__" =some none) (clB:PySem.W.findIn K (.ref aB) "__class__" =some (some (.builtin "object.__class__")))
  (gaN:PySem.W.findIn K (.ref aN) "__getattribute__" =some (some (.builtin "BaseException.__getattribute__"))) (hoN:PySem.W.findIn K (.ref aN) "__getattr__" =some none) (clN:PySem.W.findIn K (.ref aN) "__class__" =some (some (.builtin "object.__class__")))
  (gaM:PySem.W.findIn K (.ref aM) "__getattribute__" =some (some (.builtin "BaseException.__getattribute__"))) (hoM:PySem.W.findIn K (.ref aM) "__getattr__" =some none) (clM:PySem.W.findIn K (.ref aM) "__class__" =some (some (.builtin "object.__class__"))):
  ∃fd:FuncData,(∀(s:Shared) (u:Value),BindsTo s fd ⟨[u],[]⟩ [("_law_script",u)])∧∀base:Heap,K.In base→base.Ns mainGlobals mg→qt mg base→aA P w K mg base aI 18 fa fd ["_law_script"] (uM K Pt):=by
 have e0:=hmg.symm.trans (PySem.W.mg_of KX G l1)
 cases e0
 obtain⟨gs,mv⟩:=Ny KX G g1 lo0 lo1 lo2
 have ms:=PySem.W.mg_of KX G eS
 obtain⟨MB,yB⟩:=Uz KX G mv ms (by decide:0<15) xB gaB hoB clB
 have L8:Exc K mg "NoBoard" aB:=⟨PySem.W.mg_of KX G eB,yB⟩
 obtain⟨MN,yN⟩:=Uz KX G mv ms (by decide:2<15) xN gaN hoN clN
 have L6:Exc K mg "NoNumber" aN:=⟨PySem.W.mg_of KX G eN,yN⟩
 obtain⟨MM,yM⟩:=Uz KX G mv ms (by decide:11<15) xM gaM hoM clM
 have L7:Exc K mg "TooMany" aM:=⟨PySem.W.mg_of KX G eM,yM⟩
 refine⟨PySem.W.fnOf "law" "law" (fQ cT) (dG cT) (ay cT) .none kV doc pm an (.ref c) ct,fun s u=> .of_eq rfl,fun base kb nb bm=> ?_⟩
 have good:∀b':Heap,(Def P w K mg b' 14 "most" ["board"] S.mO∧cf P w K mg b' 14 "most" ["board"] (S.jj K aB aM))∧(Def P w K mg b' 15 "most_lays" ["board"] S.qW∧cf P w K mg b' 15 "most_lays" ["board"] (S.jj K aB aM))∧(Def P w K mg b' 15 "many_of" ["board", "number"] S.oB∧cf P w K mg b' 15 "many_of" ["board", "number"] (S.qV K aB aN aM)):=fun b'=>by
  have D0:Def P w K mg b' 1 "is_whole" ["thing"] (uz K):=d0.to KX G (b1 fun _ _ _ _ _ _ _=>rfl) fun f fd F=>OK F gs
  have D1:Def P w K mg b' 2 "is_whole_within" ["thing", "least", "most"] (mM K):=d1.to KX G (b3 fun _ _ _ _ _ _ _ _ _=>rfl) fun f fd F=>Pp F D0
  have D2:Def P w K mg b' 3 "need_whole_within" ["number", "least", "most"] (qT K):=d2.to KX G (b3 fun _ _ _ _ _ _ _ _ _=>rfl) fun f fd F=>Nw F D1
  have D3:Def P w K mg b' 1 "is_tuple_of" ["thing", "many"] (qQ K):=d3.to KX G (b2 fun _ _ _ _ _ _ _ _=>rfl) fun f fd F=>OJ F gs
  have D4:Def P w K mg b' 3 "is_board" ["thing"] (qX K):=d4.to KX G (b1 fun _ _ _ _ _ _ _=>rfl) fun f fd F=>OG F gs D3 D1
  have D5:Def P w K mg b' 4 "need_board" ["board"] (kH K):=d5.to KX G (b1 fun _ _ _ _ _ _ _=>rfl) fun f fd F=>Ux F D4
  have D6:Def P w K mg b' 5 "is_lay" ["board", "thing"] (uL K):=d7.to KX G (b2 fun _ _ _ _ _ _ _ _=>rfl) fun f fd F=>Nt F gs D5 D3 D1
  have D7:Def P w K mg b' 6 "need_lay" ["board", "lay"] S.qS:=d8.to KX G (b2 fun _ _ _ _ _ _ _ _=>rfl) fun f fd F=>S.GA F D6
  have D8:Def P w K mg b' 7 "points" ["board", "lay"] S.uE:=MF.to KX G (b2 fun _ _ _ _ _ _ _ _=>rfl) fun f fd F=>S.Gx F gs D7
  have D9:Def P w K mg b' 8 "point_pairs" ["board", "lay"] S.uF:=ME.to KX G (b2 fun _ _ _ _ _ _ _ _=>rfl) fun f fd F=>S.Gz F D8
  have Rx:Def P w K mg b' 9 "steps" ["board", "lay"] S.uC:=MD.to KX G (b2 fun _ _ _ _ _ _ _ _=>rfl) fun f fd F=>S.Gw F gs D9
  have Rw:Def P w K mg b' 10 "first_like" ["board", "lay"] S.uQ:=MC.to KX G (b2 fun _ _ _ _ _ _ _ _=>rfl) fun f fd F=>S.GP F gs Rx
  have Rv:Def P w K mg b' 11 "is_unlike" ["board", "lay"] S.uA:=MA.to KX G (b2 fun _ _ _ _ _ _ _ _=>rfl) fun f fd F=>S.Gr F Rw
  have Eh:Def P w K mg b' 1 "with_point" ["lay", "line", "row"] S.qN:=d9.to KX G (b3 fun _ _ _ _ _ _ _ _ _=>rfl) fun f fd F=>S.Gn F
  have Ru:Def P w K mg b' 12 "free_rows" ["board", "lay", "line"] S.uR:=Mz.to KX G (b3 fun _ _ _ _ _ _ _ _ _=>rfl) fun f fd F=>S.GO F gs Rv Eh
  have Da:Def P w K mg b' 1 "need_at_most" ["board", "wide", "high"] S.uK:=d6.to KX G (b3 fun _ _ _ _ _ _ _ _ _=>rfl) fun f fd F=>S.GC F
  have Dp:Def P w K mg b' 1 "points_many" ["lay"] S.qR:=My.to KX G (b1 fun _ _ _ _ _ _ _=>rfl) fun f fd F=>S.Gy F gs
  have Eg:Def P w K mg b' 13 "unlike_lays" ["board"] S.qP:=Ct.to KX G (b1 fun _ _ _ _ _ _ _=>rfl) fun f fd F=>S.Gv F gs Da Eh Ru
  have yJ:Def P w K mg b' 14 "unlike_of" ["board", "number"] S.oz:=Cs.to KX G (b2 fun _ _ _ _ _ _ _ _=>rfl) fun f fd F=>S.Gq F Dp Eg
  have Ef:Def P w K mg b' 14 "most" ["board"] S.mO:=Cr.to KX G (b1 fun _ _ _ _ _ _ _=>rfl) fun f fd F=>S.GH F gs D5 Dp Eg
  have Rt:Def P w K mg b' 15 "most_lays" ["board"] S.qW:=Cq.to KX G (b1 fun _ _ _ _ _ _ _=>rfl) fun f fd F=>S.GJ F Ef yJ
  have Rr:Def P w K mg b' 15 "many_of" ["board", "number"] S.oB:=Cp.to KX G (b2 fun _ _ _ _ _ _ _ _=>rfl) fun f fd F=>S.GF F gs D5 D2 yJ
  have R5:cf P w K mg b' 4 "need_board" ["board"] (qU K aB):=d5.jN KX G (b1 fun _ _ _ _ _ _ _=>rfl) fun f fd F=>WC F gs L8 D4
  have R2:cf P w K mg b' 3 "need_whole_within" ["number", "least", "most"] (uI K aN):=d2.jN KX G (b3 fun _ _ _ _ _ _ _ _ _=>rfl) fun f fd F=>NC F L6 D1
  have Ra:cf P w K mg b' 1 "need_at_most" ["board", "wide", "high"] (S.uJ aM):=d6.jN KX G (b3 fun _ _ _ _ _ _ _ _ _=>rfl) fun f fd F=>S.GB F L7
  have DV:cf P w K mg b' 13 "unlike_lays" ["board"] (S.qO aM):=Ct.jN KX G (b1 fun _ _ _ _ _ _ _=>rfl) fun f fd F=>S.Gu F gs Ra
  have Q6:cf P w K mg b' 14 "unlike_of" ["board", "number"] (S.uB aM):=Cs.jN KX G (b2 fun _ _ _ _ _ _ _ _=>rfl) fun f fd F=>S.Gp F DV
  have DU:cf P w K mg b' 14 "most" ["board"] (S.jj K aB aM):=Cr.jN KX G (b1 fun _ _ _ _ _ _ _=>rfl) fun f fd F=>S.GG F gs D5 R5 DV
  have Q5:cf P w K mg b' 15 "most_lays" ["board"] (S.jj K aB aM):=Cq.jN KX G (b1 fun _ _ _ _ _ _ _=>rfl) fun f fd F=>S.GI F DU yJ
  have Q4:cf P w K mg b' 15 "many_of" ["board", "number"] (S.qV K aB aN aM):=Cp.jN KX G (b2 fun _ _ _ _ _ _ _ _=>rfl) fun f fd F=>S.GD F gs D5 R5 D2 R2 Q6
  exact⟨⟨Ef,DU⟩,⟨Rt,Q5⟩,Rr,Q4⟩
 have hR:∀b':Heap,Def P w K mg b' 17 "_law_word" ["_law_call"] (ow P w K mg b' cS 16):=fun b'=>Co.to KX G (b1 fun _ _ _ _ _ _ _=>rfl) fun f fd F=>NF F gs
 have E1:Def P w K mg base 1 "_law_cell_at" ["_law_script", "_law_k"] (uS K):=Mx.to KX G (b2 fun _ _ _ _ _ _ _ _=>rfl) fun f fd F=>NB F gs
 have E2:Def P w K mg base 2 "_law_state" ["_law_script", "_law_k"] (uD K):=Mw.to KX G (b2 fun _ _ _ _ _ _ _ _=>rfl) fun f fd F=>OI F gs E1
 have E3:Def P w K mg base 1 "_law_take" ["_law_state_here", "_law_many"] oA:=Mv.to KX G (b2 fun _ _ _ _ _ _ _ _=>rfl) fun f fd F=>ND F
 have E4:Def P w K mg base 2 "_law_no_board" ["_law_state_here"] (uH K):=Ms.to KX G (b1 fun _ _ _ _ _ _ _=>rfl) fun f fd F=>Nu F E3
 have E5:Def P w K mg base 2 "_law_no_number" ["_law_state_here", "_law_low", "_law_high"] (uG K):=Mr.to KX G (b3 fun _ _ _ _ _ _ _ _ _=>rfl) fun f fd F=>Nv F E3
 have E7:Def P w K mg base 1 "_law_steps" ["_law_lay"] S.uO:=Mu.to KX G (b1 fun _ _ _ _ _ _ _=>rfl) fun f fd F=>S.GL F gs
 have E8:Def P w K mg base 2 "_law_unlike" ["_law_lay"] S.uN:=Mt.to KX G (b1 fun _ _ _ _ _ _ _=>rfl) fun f fd F=>S.GK F gs E7
 have E9:Def P w K mg base 3 "_law_all" ["_law_board"] S.uT:=Mq.to KX G (b1 fun _ _ _ _ _ _ _=>rfl) fun f fd F=>S.GQ F gs E8
 have S1:Def P w K mg base 1 "_law_same" ["_law_found", "_law_due"] (iM R1):=xK.to KX G (b2 fun _ _ _ _ _ _ _ _=>rfl) fun f fd F=>OH F gs
 have S2:Def P w K mg base 2 "_law_same" ["_law_found", "_law_due"] (iM (i9 R1)):=xK.to KX G (b2 fun _ _ _ _ _ _ _ _=>rfl) fun f fd F=>Qj (R:=R1) (fun r s=>R1.same r s) F gs S1
 have S3:Def P w K mg base 3 "_law_same" ["_law_found", "_law_due"] (iM (yo (i9 R1))):=xK.to KX G (b2 fun _ _ _ _ _ _ _ _=>rfl) fun f fd F=>Qi (R:=i9 R1) (fun r s=>i9.same (R:=R1) (fun r s=>R1.same r s) r s) F gs S2
 have Rf:Def P w K mg base 16 "_law_lists_right" ["_law_board", "_law_numbers"] S.uP:=Mp.to KX G (b2 fun _ _ _ _ _ _ _ _=>rfl) fun f fd F=>S.GN F gs E9 (good base).2.1.1 (good base).1.1 (good base).2.2.1 S3 S1
 obtain⟨fR,L5,Ml,FR⟩:=id Co
 exact Nr l2 l3 gs E2 E3 Rf E4 E5 (good base).1.1 (good base).2.2.1 hR (fun b'=> (good b').1.2) (fun b'=> (good b').2.1.2) (fun b'=> (good b').2.2.2) (PySem.W.mg_of KX G Ml) FR.kp MB MN MM (PySem.W.codeHd_of_K kb l4) bm
end
end U
def PySem.W.Fast.tw17983912945470199808 : Unit := ()
def PySem.W.Fast.tw13038364392772718624 : Unit := ()
def PySem.W.Fast.tw11777635265115262080 : Unit := ()
def PySem.W.Fast.tw6658572678748499072 : Unit := ()
def PySem.W.Fast.tw5024110558617154784 : Unit := ()
def PySem.W.Fast.tw271203619907228896 : Unit := ()
def PySem.W.Fast.tw18050900791307649344 : Unit := ()
def PySem.W.Fast.tw18050498345587499360 : Unit := ()
def PySem.W.Fast.tw116183678328340896 : Unit := ()
def PySem.W.Fast.tw12921661302834810432 : Unit := ()
def PySem.W.Fast.tw1624059360272406080 : Unit := ()
def PySem.W.Fast.tw11731275923604331072 : Unit := ()
def PySem.W.Fast.tw7240168836802552480 : Unit := ()
def PySem.W.Fast.tw11955728949709083328 : Unit := ()
def PySem.W.Fast.tw17573896299718475456 : Unit := ()
def PySem.W.Fast.tw14637443871994085056 : Unit := ()
def PySem.W.Fast.tw12090588795146941248 : Unit := ()
def PySem.W.Fast.tw9896717387307573088 : Unit := ()
def PySem.W.Fast.tw2391394124834739104 : Unit := ()
def PySem.W.Fast.tw8212678556437052320 : Unit := ()
def PySem.W.Fast.tw754565991435888544 : Unit := ()
def PySem.W.Fast.tw11020807957478059968 : Unit := ()
def PySem.W.Fast.tw681455385418708960 : Unit := ()
def PySem.W.Fast.tw5275454655946772448 : Unit := ()
def PySem.W.Fast.tw2580635406645385249 : Unit := ()
def PySem.W.Fast.tw6401448773647195201 : Unit := ()
def PySem.W.Fast.tw3478229353427420481 : Unit := ()
def PySem.W.Fast.tw2732683915181342017 : Unit := ()
def PySem.W.Fast.tw11418050552245743969 : Unit := ()
def PySem.W.Fast.tw5182889550147283393 : Unit := ()
def PySem.W.Fast.tw9536682832889393761 : Unit := ()
def PySem.W.Fast.tw11882436190520022689 : Unit := ()
def PySem.W.Fast.tw7961575015673627393 : Unit := ()
def PySem.W.Fast.tw2870558525127661377 : Unit := ()
def PySem.W.Fast.tw16709328534755260321 : Unit := ()
def PySem.W.Fast.tw16741158888673000385 : Unit := ()
def PySem.W.Fast.tw1542454754790093826 : Unit := ()
def PySem.W.Fast.tw7273832688592567362 : Unit := ()
def PySem.W.Fast.tw16774550875152207938 : Unit := ()
def PySem.W.Fast.tw17758971935791083714 : Unit := ()
def PySem.W.Fast.tw839459546917473538 : Unit := ()
def PySem.W.Fast.tw1271889763204610530 : Unit := ()
def PySem.W.Fast.tw6607563746839989794 : Unit := ()
def PySem.W.Fast.tw2958234200496069218 : Unit := ()
def PySem.W.Fast.tw12827608520033472130 : Unit := ()
def PySem.W.Fast.tw16039083574635815554 : Unit := ()
def PySem.W.Fast.tw8895240771204918946 : Unit := ()
def PySem.W.Fast.tw9259264868552250050 : Unit := ()
def PySem.W.Fast.tw14587829898276831010 : Unit := ()
def PySem.W.Fast.tw2831834784609873698 : Unit := ()
def PySem.W.Fast.tw87117987935184802 : Unit := ()
def PySem.W.Fast.tw12946708978360890403 : Unit := ()
def PySem.W.Fast.tw18018559327362423907 : Unit := ()
def PySem.W.Fast.tw2734544511593911491 : Unit := ()
def PySem.W.Fast.tw13294976711092752611 : Unit := ()
def PySem.W.Fast.tw9600964916461819235 : Unit := ()
def PySem.W.Fast.tw13378562366919561603 : Unit := ()
def PySem.W.Fast.tw6157737504444804483 : Unit := ()
def PySem.W.Fast.tw13006163417394652803 : Unit := ()
def PySem.W.Fast.tw15073472229358102243 : Unit := ()
def PySem.W.Fast.tw5793971203958440068 : Unit := ()
def PySem.W.Fast.tw5970756388113117412 : Unit := ()
def PySem.W.Fast.tw10677798954443091428 : Unit := ()
def PySem.W.Fast.tw1433401231491139044 : Unit := ()
def PySem.W.Fast.tw2985134091502031460 : Unit := ()
def PySem.W.Fast.tw16910693341901203396 : Unit := ()
def PySem.W.Fast.tw2515847314050055140 : Unit := ()
def PySem.W.Fast.tw11450492179233298469 : Unit := ()
def PySem.W.Fast.tw13849245638687023173 : Unit := ()
def PySem.W.Fast.tw16776815055376068677 : Unit := ()
def PySem.W.Fast.tw11192585955197802661 : Unit := ()
def PySem.W.Fast.tw10857216274706822309 : Unit := ()
def PySem.W.Fast.tw6912909722678607045 : Unit := ()
def PySem.W.Fast.tw7067561583921927397 : Unit := ()
def PySem.W.Fast.tw3025039256855302437 : Unit := ()
def PySem.W.Fast.tw7104814059684484613 : Unit := ()
def PySem.W.Fast.tw15589232638164179525 : Unit := ()
def PySem.W.Fast.tw16246238438503747397 : Unit := ()
def PySem.W.Fast.tw3252052021203214213 : Unit := ()
def PySem.W.Fast.tw5880728401229946821 : Unit := ()
def PySem.W.Fast.tw17250904658218265573 : Unit := ()
def PySem.W.Fast.tw5892552484621894726 : Unit := ()
def PySem.W.Fast.tw1044730212208316518 : Unit := ()
def PySem.W.Fast.tw4507608371236216966 : Unit := ()
def PySem.W.Fast.tw14864430916011757734 : Unit := ()
def PySem.W.Fast.tw7046930414226734470 : Unit := ()
def PySem.W.Fast.tw16484498233237229094 : Unit := ()
def PySem.W.Fast.tw2847811696758147718 : Unit := ()
def PySem.W.Fast.tw393961001451550406 : Unit := ()
def PySem.W.Fast.tw6028623530435729190 : Unit := ()
def PySem.W.Fast.tw13512347957077429062 : Unit := ()
def PySem.W.Fast.tw10380733000442346631 : Unit := ()
def PySem.W.Fast.tw7658944696203282567 : Unit := ()
def PySem.W.Fast.tw6826774566838226119 : Unit := ()
def PySem.W.Fast.tw16531219734439288071 : Unit := ()
def PySem.W.Fast.tw13165596047963657575 : Unit := ()
def PySem.W.Fast.tw4286592546091770375 : Unit := ()
def PySem.W.Fast.tw10237313446556737031 : Unit := ()
def PySem.W.Fast.tw3833287003839219303 : Unit := ()
def PySem.W.Fast.tw5434181306082252423 : Unit := ()
def PySem.W.Fast.tw1914039402127819527 : Unit := ()
def PySem.W.Fast.tw7725008128576865031 : Unit := ()
def PySem.W.Fast.tw17160883632549641991 : Unit := ()
def PySem.W.Fast.tw6681383261683348327 : Unit := ()
def PySem.W.Fast.tw11576109093009645415 : Unit := ()
def PySem.W.Fast.tw8546682199286602920 : Unit := ()
def PySem.W.Fast.tw7763144756447593672 : Unit := ()
def PySem.W.Fast.tw1993724672993071560 : Unit := ()
def PySem.W.Fast.tw15234887002899468872 : Unit := ()
def PySem.W.Fast.tw12376904432895564392 : Unit := ()
def PySem.W.Fast.tw5027523676231302760 : Unit := ()
def PySem.W.Fast.tw9542518358067733128 : Unit := ()
def PySem.W.Fast.tw15570819599992003240 : Unit := ()
def PySem.W.Fast.tw4113659286440635144 : Unit := ()
def PySem.W.Fast.tw12851593198957456168 : Unit := ()
def PySem.W.Fast.tw5937038669488888616 : Unit := ()
def PySem.W.Fast.tw12081706087967614856 : Unit := ()
def PySem.W.Fast.tw2885820238185307112 : Unit := ()
def PySem.W.Fast.tw17028004335230571529 : Unit := ()
def PySem.W.Fast.tw16467323608530280489 : Unit := ()
def PySem.W.Fast.tw5630116564958718217 : Unit := ()
def PySem.W.Fast.tw7272821141527245129 : Unit := ()
def PySem.W.Fast.tw8203059223436022281 : Unit := ()
def PySem.W.Fast.tw10722005492878900777 : Unit := ()
def PySem.W.Fast.tw10721496398520086089 : Unit := ()
def PySem.W.Fast.tw9165590995321253513 : Unit := ()
def PySem.W.Fast.tw16840478373385285289 : Unit := ()
def PySem.W.Fast.tw656345573990664873 : Unit := ()
def PySem.W.Fast.tw17545644364256243465 : Unit := ()
def PySem.W.Fast.tw3446162133299726153 : Unit := ()
def PySem.W.Fast.tw17832246970050262921 : Unit := ()
def PySem.W.Fast.tw18139474561755456425 : Unit := ()
def PySem.W.Fast.tw6077156411466857706 : Unit := ()
def PySem.W.Fast.tw328583281909351978 : Unit := ()
def PySem.W.Fast.tw16135575591682954858 : Unit := ()
def PySem.W.Fast.tw1985831032460396394 : Unit := ()
def PySem.W.Fast.tw15165909484934869962 : Unit := ()
def PySem.W.Fast.tw11125840759566817226 : Unit := ()
def PySem.W.Fast.tw16055529561634087179 : Unit := ()
def PySem.W.Fast.tw2459619056736091467 : Unit := ()
def PySem.W.Fast.tw13730190262095241579 : Unit := ()
def PySem.W.Fast.tw5071752133359290859 : Unit := ()
def PySem.W.Fast.tw3690658019533848043 : Unit := ()
def PySem.W.Fast.tw12003378784582394411 : Unit := ()
def PySem.W.Fast.tw14017441105830126283 : Unit := ()
def PySem.W.Fast.tw15905217675911826155 : Unit := ()
def PySem.W.Fast.tw18255341036109610763 : Unit := ()
def PySem.W.Fast.tw50519199990463275 : Unit := ()
def PySem.W.Fast.tw1092208887390601131 : Unit := ()
def PySem.W.Fast.tw727203209097679948 : Unit := ()
def PySem.W.Fast.tw9147253336655860876 : Unit := ()
def PySem.W.Fast.tw3304362282622698636 : Unit := ()
def PySem.W.Fast.tw16147831922122793132 : Unit := ()
def PySem.W.Fast.tw7864824286963499468 : Unit := ()
def PySem.W.Fast.tw13950128296147772972 : Unit := ()
def PySem.W.Fast.tw10359344910293427884 : Unit := ()
def PySem.W.Fast.tw9394188422746074892 : Unit := ()
def PySem.W.Fast.tw15670516789962742797 : Unit := ()
def PySem.W.Fast.tw14473087064281387053 : Unit := ()
def PySem.W.Fast.tw16911994912167387213 : Unit := ()
def PySem.W.Fast.tw4526592169802151181 : Unit := ()
def PySem.W.Fast.tw10019734234047571245 : Unit := ()
def PySem.W.Fast.tw203830080318873933 : Unit := ()
def PySem.W.Fast.tw6446794715913614861 : Unit := ()
def PySem.W.Fast.tw5462474632142747213 : Unit := ()
def PySem.W.Fast.tw16084738998259941101 : Unit := ()
def PySem.W.Fast.tw6243763107273658125 : Unit := ()
def PySem.W.Fast.tw7481957107433724909 : Unit := ()
def PySem.W.Fast.tw1494376193835282446 : Unit := ()
def PySem.W.Fast.tw8659586040481458382 : Unit := ()
def PySem.W.Fast.tw9637055219273341166 : Unit := ()
def PySem.W.Fast.tw17636258082020653390 : Unit := ()
def PySem.W.Fast.tw11378012771711727982 : Unit := ()
def PySem.W.Fast.tw16959791568203836814 : Unit := ()
def PySem.W.Fast.tw4481136051106665934 : Unit := ()
def PySem.W.Fast.tw2028614620746412654 : Unit := ()
def PySem.W.Fast.tw11122788400336160398 : Unit := ()
def PySem.W.Fast.tw18026160522092427086 : Unit := ()
def PySem.W.Fast.tw1682502569042821006 : Unit := ()
def PySem.W.Fast.tw947443730082629582 : Unit := ()
def PySem.W.Fast.tw399052921626851278 : Unit := ()
def PySem.W.Fast.tw17351452634514935790 : Unit := ()
def PySem.W.Fast.tw17480463628423158863 : Unit := ()
def PySem.W.Fast.tw3656957623808825647 : Unit := ()
def PySem.W.Fast.tw2532763688386461039 : Unit := ()
def PySem.W.Fast.tw3609634833944174991 : Unit := ()
def PySem.W.Fast.tw13438553860351257135 : Unit := ()
def PySem.W.Fast.tw16132426521155879471 : Unit := ()
def PySem.W.Fast.tw7629974361107152463 : Unit := ()
def PySem.W.Fast.tw16735249085273760463 : Unit := ()
def PySem.W.Fast.tw1695439096411326191 : Unit := ()
def PySem.W.Fast.tw13591554283177469711 : Unit := ()
def PySem.W.Fast.tw11738482307191837647 : Unit := ()
def PySem.W.Fast.tw17064961459102380048 : Unit := ()
def PySem.W.Fast.tw1925511257133376624 : Unit := ()
def PySem.W.Fast.tw14156021014712717520 : Unit := ()
def PySem.W.Fast.tw7209740124901386544 : Unit := ()
def PySem.W.Fast.tw11748625929139823984 : Unit := ()
def PySem.W.Fast.tw7459344421319726480 : Unit := ()
def PySem.W.Fast.tw12404010047535787472 : Unit := ()
def PySem.W.Fast.tw5188737364994505264 : Unit := ()
def PySem.W.Fast.tw3635918261017815696 : Unit := ()
def PySem.W.Fast.tw11573040895610613456 : Unit := ()
def PySem.W.Fast.tw9646631173666307792 : Unit := ()
def PySem.W.Fast.tw10294108031297642288 : Unit := ()
def PySem.W.Fast.tw17602277501602696144 : Unit := ()
def PySem.W.Fast.tw5538227540568923153 : Unit := ()
def PySem.W.Fast.tw16176372200935991377 : Unit := ()
def PySem.W.Fast.tw2689940112768796785 : Unit := ()
def PySem.W.Fast.tw6491878572020760753 : Unit := ()
def PySem.W.Fast.tw10555584048603004209 : Unit := ()
def PySem.W.Fast.tw13108695251665526097 : Unit := ()
def PySem.W.Fast.tw6746666030038392177 : Unit := ()
def PySem.W.Fast.tw14548987588117572049 : Unit := ()
def PySem.W.Fast.tw14589001135348090353 : Unit := ()
def PySem.W.Fast.tw15413862124464431633 : Unit := ()
def PySem.W.Fast.tw10576712326920088209 : Unit := ()
def PySem.W.Fast.tw224876364867349201 : Unit := ()
def PySem.W.Fast.tw16241500558963420913 : Unit := ()
def PySem.W.Fast.tw2700502154193251217 : Unit := ()
def PySem.W.Fast.tw10826213459463423921 : Unit := ()
def PySem.W.Fast.tw3807918506026914834 : Unit := ()
def PySem.W.Fast.tw10473382300462635122 : Unit := ()
def PySem.W.Fast.tw3500911321473037522 : Unit := ()
def PySem.W.Fast.tw16413434931039117714 : Unit := ()
def PySem.W.Fast.tw17417546851295986162 : Unit := ()
def PySem.W.Fast.tw17178681148880682482 : Unit := ()
def PySem.W.Fast.tw14865241892640059026 : Unit := ()
def PySem.W.Fast.tw16223846211879981842 : Unit := ()
def PySem.W.Fast.tw9319775832926634770 : Unit := ()
def PySem.W.Fast.tw6496403073043266482 : Unit := ()
def PySem.W.Fast.tw11991445824334678067 : Unit := ()
def PySem.W.Fast.tw4976132615058234515 : Unit := ()
def PySem.W.Fast.tw12975926064140538067 : Unit := ()
def PySem.W.Fast.tw4615323390892335539 : Unit := ()
def PySem.W.Fast.tw11401873917770343891 : Unit := ()
def PySem.W.Fast.tw5915239418050938387 : Unit := ()
def PySem.W.Fast.tw2689735985798097523 : Unit := ()
def PySem.W.Fast.tw6071261443916547731 : Unit := ()
def PySem.W.Fast.tw17642204451685682835 : Unit := ()
def PySem.W.Fast.tw17424363903794772787 : Unit := ()
def PySem.W.Fast.tw5113251740843897651 : Unit := ()
def PySem.W.Fast.tw3943083288193229651 : Unit := ()
def PySem.W.Fast.tw8156791558737426291 : Unit := ()
def PySem.W.Fast.tw6165491960037402547 : Unit := ()
def PySem.W.Fast.tw2970371888022834228 : Unit := ()
def PySem.W.Fast.tw7544179965375449172 : Unit := ()
def PySem.W.Fast.tw4323690565041858644 : Unit := ()
def PySem.W.Fast.tw4083556858769278068 : Unit := ()
def PySem.W.Fast.tw5925901084926747860 : Unit := ()
def PySem.W.Fast.tw8723547854021961940 : Unit := ()
def PySem.W.Fast.tw14583001235743242452 : Unit := ()
def PySem.W.Fast.tw9163270262648802644 : Unit := ()
def PySem.W.Fast.tw16549019789731066260 : Unit := ()
def PySem.W.Fast.tw8331524684208453172 : Unit := ()
def PySem.W.Fast.tw4216471823315599924 : Unit := ()
def PySem.W.Fast.tw10390604221283763796 : Unit := ()
def PySem.W.Fast.tw8265590045974401620 : Unit := ()
def PySem.W.Fast.tw18410810148388665940 : Unit := ()
def PySem.W.Fast.tw16525978672935082772 : Unit := ()
def PySem.W.Fast.tw13313907110669963124 : Unit := ()
def PySem.W.Fast.tw5064776740374995956 : Unit := ()
def PySem.W.Fast.tw14351812529422691445 : Unit := ()
def PySem.W.Fast.tw7964062719066557621 : Unit := ()
def PySem.W.Fast.tw9772595398435163445 : Unit := ()
def PySem.W.Fast.tw13566037060240645429 : Unit := ()
def PySem.W.Fast.tw10296263983652245845 : Unit := ()
def PySem.W.Fast.tw9676031183397237 : Unit := ()
def PySem.W.Fast.tw6955078762373040533 : Unit := ()
def PySem.W.Fast.tw1318812765517081013 : Unit := ()
def PySem.W.Fast.tw15843112465275587093 : Unit := ()
def PySem.W.Fast.tw17029135978257139285 : Unit := ()
def PySem.W.Fast.tw7879425522265462421 : Unit := ()
def PySem.W.Fast.tw73307138282031861 : Unit := ()
def PySem.W.Fast.tw9810133090303818517 : Unit := ()
def PySem.W.Fast.tw8251661082640975669 : Unit := ()
def PySem.W.Fast.tw9392296093854071605 : Unit := ()
def PySem.W.Fast.tw15632250356691980117 : Unit := ()
def PySem.W.Fast.tw14205695627235669973 : Unit := ()
def PySem.W.Fast.tw13955825649005683766 : Unit := ()
def PySem.W.Fast.tw17679256258093517942 : Unit := ()
def PySem.W.Fast.tw1217457537349688534 : Unit := ()
def PySem.W.Fast.tw7075825768756635990 : Unit := ()
def PySem.W.Fast.tw3383116565558604214 : Unit := ()
def PySem.W.Fast.tw17762755025156130358 : Unit := ()
def PySem.W.Fast.tw10329493659062546038 : Unit := ()
def PySem.W.Fast.tw14952911096753994358 : Unit := ()
def PySem.W.Fast.tw8537742579474787030 : Unit := ()
def PySem.W.Fast.tw11840741116107418390 : Unit := ()
def PySem.W.Fast.tw7854494389392537526 : Unit := ()
def PySem.W.Fast.tw4339403289904457654 : Unit := ()
def PySem.W.Fast.tw5096063447200273366 : Unit := ()
def PySem.W.Fast.tw6818738056049527831 : Unit := ()
def PySem.W.Fast.tw18289743646996845719 : Unit := ()
def PySem.W.Fast.tw5780788463675094199 : Unit := ()
def PySem.W.Fast.tw7349035716329060567 : Unit := ()
def PySem.W.Fast.tw13892618303796401431 : Unit := ()
def PySem.W.Fast.tw664386834226681495 : Unit := ()
def PySem.W.Fast.tw1832782511711480471 : Unit := ()
def PySem.W.Fast.tw9042216929998884567 : Unit := ()
def PySem.W.Fast.tw11084166434796692247 : Unit := ()
def PySem.W.Fast.tw14550627481805586231 : Unit := ()
def PySem.W.Fast.tw2124050596358476695 : Unit := ()
def PySem.W.Fast.tw16691279524458107831 : Unit := ()
def PySem.W.Fast.tw5523027705309339704 : Unit := ()
def PySem.W.Fast.tw15960076406416803928 : Unit := ()
def PySem.W.Fast.tw15386866706958286040 : Unit := ()
def PySem.W.Fast.tw2103054064115331352 : Unit := ()
def PySem.W.Fast.tw4941779461736919320 : Unit := ()
def PySem.W.Fast.tw12811308068003644856 : Unit := ()
def PySem.W.Fast.tw4235547610495307320 : Unit := ()
def PySem.W.Fast.tw11563887084828017304 : Unit := ()
def PySem.W.Fast.tw3044228717987741400 : Unit := ()
def PySem.W.Fast.tw18389594091717767928 : Unit := ()
def PySem.W.Fast.tw17905646250627402488 : Unit := ()
def PySem.W.Fast.tw16512010471636150040 : Unit := ()
def PySem.W.Fast.tw5324026048378605368 : Unit := ()
def PySem.W.Fast.tw5891173673396281208 : Unit := ()
def PySem.W.Fast.tw4896604951677991993 : Unit := ()
def PySem.W.Fast.tw12831108425691400345 : Unit := ()
def PySem.W.Fast.tw5035885519942965497 : Unit := ()
def PySem.W.Fast.tw4028918323600012633 : Unit := ()
def PySem.W.Fast.tw6969295798441772537 : Unit := ()
def PySem.W.Fast.tw17728394794198972921 : Unit := ()
def PySem.W.Fast.tw16953054170437769753 : Unit := ()
def PySem.W.Fast.tw7195849852900260473 : Unit := ()
def PySem.W.Fast.tw2721958600959591097 : Unit := ()
def PySem.W.Fast.tw7979830337979231993 : Unit := ()
def PySem.W.Fast.tw832832163880425273 : Unit := ()
def PySem.W.Fast.tw10480602540146942809 : Unit := ()
def PySem.W.Fast.tw4940859913463710585 : Unit := ()
def PySem.W.Fast.tw6828769053025066969 : Unit := ()
def PySem.W.Fast.tw1121362092480702618 : Unit := ()
def PySem.W.Fast.tw1084076431689294042 : Unit := ()
def PySem.W.Fast.tw17806305784270083322 : Unit := ()
def PySem.W.Fast.tw2746861128111908090 : Unit := ()
def PySem.W.Fast.tw8674545598893451610 : Unit := ()
def PySem.W.Fast.tw5473950934815756698 : Unit := ()
def PySem.W.Fast.tw323203600297131450 : Unit := ()
def PySem.W.Fast.tw6977922605436718554 : Unit := ()
def PySem.W.Fast.tw10084610357800792602 : Unit := ()
def PySem.W.Fast.tw15391008861660792570 : Unit := ()
def PySem.W.Fast.tw16977436822777600251 : Unit := ()
def PySem.W.Fast.tw16937311163990632731 : Unit := ()
def PySem.W.Fast.tw7018912164826925499 : Unit := ()
def PySem.W.Fast.tw9390376274264383067 : Unit := ()
def PySem.W.Fast.tw13143186453389173371 : Unit := ()
def PySem.W.Fast.tw508820792339052251 : Unit := ()
def PySem.W.Fast.tw15821901266281190139 : Unit := ()
def PySem.W.Fast.tw2263486009225071515 : Unit := ()
def PySem.W.Fast.tw14315307333328670748 : Unit := ()
def PySem.W.Fast.tw4335405055254407228 : Unit := ()
def PySem.W.Fast.tw1103342475737508956 : Unit := ()
def PySem.W.Fast.tw17152646416470471068 : Unit := ()
def PySem.W.Fast.tw15970484985666631100 : Unit := ()
def PySem.W.Fast.tw8195835117742273084 : Unit := ()
def PySem.W.Fast.tw11126927765114568284 : Unit := ()
def PySem.W.Fast.tw17365599226773939836 : Unit := ()
def PySem.W.Fast.tw11738212983771085564 : Unit := ()
def PySem.W.Fast.tw12640581186467953885 : Unit := ()
def PySem.W.Fast.tw13740531123605257565 : Unit := ()
def PySem.W.Fast.tw16967459992276621725 : Unit := ()
def PySem.W.Fast.tw11312234192074276285 : Unit := ()
def PySem.W.Fast.tw13754285215839628861 : Unit := ()
def PySem.W.Fast.tw5802752435382216381 : Unit := ()
def PySem.W.Fast.tw17596602684880513725 : Unit := ()
def PySem.W.Fast.tw7309644117805169437 : Unit := ()
def PySem.W.Fast.tw13735897546622737181 : Unit := ()
def PySem.W.Fast.tw7479457192570971005 : Unit := ()
def PySem.W.Fast.tw5310863782016774174 : Unit := ()
def PySem.W.Fast.tw2939145378692963390 : Unit := ()
def PySem.W.Fast.tw5804928346356414654 : Unit := ()
def PySem.W.Fast.tw8897989795283184926 : Unit := ()
def PySem.W.Fast.tw14746903847545792830 : Unit := ()
def PySem.W.Fast.tw914700247673020766 : Unit := ()
def PySem.W.Fast.tw8544467458224981342 : Unit := ()
def PySem.W.Fast.tw15588533839077873022 : Unit := ()
def PySem.W.Fast.tw6803237894345426334 : Unit := ()
def PySem.W.Fast.tw14344134587344521662 : Unit := ()
def PySem.W.Fast.tw15406195752204536414 : Unit := ()
def PySem.W.Fast.tw686557493961817822 : Unit := ()
def PySem.W.Fast.tw7294158019299018622 : Unit := ()
def PySem.W.Fast.tw14106922327706193983 : Unit := ()
def PySem.W.Fast.tw17795507894069029151 : Unit := ()
def PySem.W.Fast.tw8385326954559854911 : Unit := ()
def PySem.W.Fast.tw4763169518420800959 : Unit := ()
def PySem.W.Fast.tw8294514345989493279 : Unit := ()
def PySem.W.Fast.tw8202793545255761599 : Unit := ()
def PySem.W.Fast.tw9036624252060234336 : Unit := ()
def PySem.W.Fast.tw9143394660811171905 : Unit := ()
def PySem.W.Fast.tw11583738548457786115 : Unit := ()
def PySem.W.Fast.tw281261998530897253 : Unit := ()
def PySem.W.Fast.tw10382308679484112389 : Unit := ()
def PySem.W.Fast.tw246631664983643909 : Unit := ()
def PySem.W.Fast.tw11795300281534401158 : Unit := ()
def PySem.W.Fast.tw13735851550761609126 : Unit := ()
def PySem.W.Fast.tw16378262577412940263 : Unit := ()
def PySem.W.Fast.tw7454137822434189640 : Unit := ()
def PySem.W.Fast.tw12204034232580239816 : Unit := ()
def PySem.W.Fast.tw10095333406616355209 : Unit := ()
def PySem.W.Fast.tw7111357239289898154 : Unit := ()
def PySem.W.Fast.tw16883087488455388458 : Unit := ()
def PySem.W.Fast.tw4600048859328663370 : Unit := ()
def PySem.W.Fast.tw2285994411855868620 : Unit := ()
def PySem.W.Fast.tw6583266870558157901 : Unit := ()
def PySem.W.Fast.tw10808483206247651469 : Unit := ()
def PySem.W.Fast.tw13498294503746177070 : Unit := ()
def PySem.W.Fast.tw16467101846044729486 : Unit := ()
def PySem.W.Fast.tw9135918674464092526 : Unit := ()
def PySem.W.Fast.tw9277802070347860494 : Unit := ()
def PySem.W.Fast.tw5118194180878546606 : Unit := ()
def PySem.W.Fast.tw15309996364486612815 : Unit := ()
def PySem.W.Fast.tw4430866174167067952 : Unit := ()
def PySem.W.Fast.tw4474979212492231665 : Unit := ()
def PySem.W.Fast.tw8221275656187537842 : Unit := ()
def PySem.W.Fast.tw10682419674789478067 : Unit := ()
def PySem.W.Fast.tw2894861299159755156 : Unit := ()
def PySem.W.Fast.tw17472158395363344212 : Unit := ()
def PySem.W.Fast.tw10513899447300937173 : Unit := ()
def PySem.W.Fast.tw12237444099468344472 : Unit := ()
def PySem.W.Fast.tw15494826488544838904 : Unit := ()
def PySem.W.Fast.tw12105690698854520120 : Unit := ()
def PySem.W.Fast.tw16385052977110782681 : Unit := ()
def PySem.W.Fast.tw11522507877893943195 : Unit := ()
def PySem.W.Fast.tw13234098312704738621 : Unit := ()
def PySem.W.Fast.tw2396673983833677245 : Unit := ()
def PySem.W.Fast.tw8779252734431643390 : Unit := ()
def PySem.W.Fast.tw18024266863955179551 : Unit := ()
def PySem.W.Fast.tw10255773277292174463 : Unit := ()
def PySem.W.Fast.tw15725432830792828127 : Unit := ()
def PySem.W.Fast.tw9330964856245162623 : Unit := ()
def PySem.W.Fast.tw7440389319819890687 : Unit := ()
def PySem.W.Fast.tw18314600911019438335 : Unit := ()
set_option maxRecDepth 100000 in
set_option maxHeartbeats 0 in
theorem PySem.Challenge.cw_unlikesteps_k50_the_most_points_holds : PySem.Challenge.rw_unlikesteps_k50_the_most_points.Holds := by
 w_on; o_law; k_head; (case hw => w_witness2)
 k_fill
 refine U.Em (l := PySem.Challenge.rw_unlikesteps_k50_the_most_points) (n := 63) (k := 18) (x := "_law_script") (Pts := [412]) (sp := fun K => U.uM K 412) rfl (by decide) rfl ⟨rfl, by decide, by decide, rfl⟩ (fun w h Y => PySem.W.km_in_of Y) ?hT9 ?hC9 ?hN9 ?F ?S
 case hT9 =>
  intro w h Y P hP
  simp only [List.mem_cons, List.not_mem_nil, or_false] at hP
  rcases hP with rfl
  ·exact PySem.W.km_tabs_of Y 412 (by simp)
 case hC9 =>
  intro w h X P hP
  simp only [List.mem_cons, List.not_mem_nil, or_false] at hP
  rcases hP with rfl
  ·exact ⟨414, PySem.W.codeHd_of_K X (by kernel_rfl)⟩
 case hN9 =>
  intro w P hP
  simp only [List.mem_cons, List.not_mem_nil, or_false] at hP
  rcases hP with rfl
  ·kernel_rfl
 case S => exact fun K H a ns hl hs hp => ⟨a, ns, rfl, hs, hl, hp _ (by simp), fun _ => rfl⟩
 case F =>
  intro w mg fa h KX G hmg
  refine' U.HU (c := 414) (Pt := 412) KX G hmg (U.bB ?a0 ?b0 ?c0 ?e0) (U.bB ?a1 ?b1 ?c1 ?e1) (U.bB ?a2 ?b2 ?c2 ?e2) (U.bB ?a3 ?b3 ?c3 ?e3) (U.bB ?a4 ?b4 ?c4 ?e4) (U.bB ?a5 ?b5 ?c5 ?e5) (U.bB ?a6 ?b6 ?c6 ?e6) (U.bB ?a7 ?b7 ?c7 ?e7) (U.bB ?a8 ?b8 ?c8 ?e8) (U.bB ?a9 ?b9 ?c9 ?e9) (U.bB ?a10 ?b10 ?c10 ?e10) (U.bB ?a11 ?b11 ?c11 ?e11) (U.bB ?a12 ?b12 ?c12 ?e12) (U.bB ?a13 ?b13 ?c13 ?e13) (U.bB ?a14 ?b14 ?c14 ?e14) (U.bB ?a15 ?b15 ?c15 ?e15) (U.bB ?a16 ?b16 ?c16 ?e16) (U.bB ?a17 ?b17 ?c17 ?e17) (U.bB ?a18 ?b18 ?c18 ?e18) (U.bB ?a19 ?b19 ?c19 ?e19) (U.bB ?a20 ?b20 ?c20 ?e20) (U.bB ?a21 ?b21 ?c21 ?e21) (U.bB ?a22 ?b22 ?c22 ?e22) (U.bB ?a23 ?b23 ?c23 ?e23) (U.bB ?a24 ?b24 ?c24 ?e24) (U.bB ?a25 ?b25 ?c25 ?e25) (U.bB ?a26 ?b26 ?c26 ?e26) (U.bB ?a27 ?b27 ?c27 ?e27) (U.bB ?a28 ?b28 ?c28 ?e28) (U.bB ?a29 ?b29 ?c29 ?e29) (U.bB ?a30 ?b30 ?c30 ?e30) (U.bB ?a31 ?b31 ?c31 ?e31) (U.bB ?a32 ?b32 ?c32 ?e32) ?l1 ?l2 ?l3 ?l4 ?g1 ?lo0 ?lo1 ?lo2 ?eB ?eN ?eM ?eS ?xB ?xN ?xM ?gaB ?hoB ?clB ?gaN ?hoN ?clN ?gaM ?hoM ?clM
  (case a0 => k_is); (case b0 => k_is); (case c0 => k_is); (case e0 => k_is)
  (case a1 => k_is); (case b1 => k_is); (case c1 => k_is); (case e1 => k_is)
  (case a2 => k_is); (case b2 => k_is); (case c2 => k_is); (case e2 => k_is)
  (case a3 => k_is); (case b3 => k_is); (case c3 => k_is); (case e3 => k_is)
  (case a4 => k_is); (case b4 => k_is); (case c4 => k_is); (case e4 => k_is)
  (case a5 => k_is); (case b5 => k_is); (case c5 => k_is); (case e5 => k_is)
  (case a6 => k_is); (case b6 => k_is); (case c6 => k_is); (case e6 => k_is)
  (case a7 => k_is); (case b7 => k_is); (case c7 => k_is); (case e7 => k_is)
  (case a8 => k_is); (case b8 => k_is); (case c8 => k_is); (case e8 => k_is)
  (case a9 => k_is); (case b9 => k_is); (case c9 => k_is); (case e9 => k_is)
  (case a10 => k_is); (case b10 => k_is); (case c10 => k_is); (case e10 => k_is)
  (case a11 => k_is); (case b11 => k_is); (case c11 => k_is); (case e11 => k_is)
  (case a12 => k_is); (case b12 => k_is); (case c12 => k_is); (case e12 => k_is)
  (case a13 => k_is); (case b13 => k_is); (case c13 => k_is); (case e13 => k_is)
  (case a14 => k_is); (case b14 => k_is); (case c14 => k_is); (case e14 => k_is)
  (case a15 => k_is); (case b15 => k_is); (case c15 => k_is); (case e15 => k_is)
  (case a16 => k_is); (case b16 => k_is); (case c16 => k_is); (case e16 => k_is)
  (case a17 => k_is); (case b17 => k_is); (case c17 => k_is); (case e17 => k_is)
  (case a18 => k_is); (case b18 => k_is); (case c18 => k_is); (case e18 => k_is)
  (case a19 => k_is); (case b19 => k_is); (case c19 => k_is); (case e19 => k_is)
  (case a20 => k_is); (case b20 => k_is); (case c20 => k_is); (case e20 => k_is)
  (case a21 => k_is); (case b21 => k_is); (case c21 => k_is); (case e21 => k_is)
  (case a22 => k_is); (case b22 => k_is); (case c22 => k_is); (case e22 => k_is)
  (case a23 => k_is); (case b23 => k_is); (case c23 => k_is); (case e23 => k_is)
  (case a24 => k_is); (case b24 => k_is); (case c24 => k_is); (case e24 => k_is)
  (case a25 => k_is); (case b25 => k_is); (case c25 => k_is); (case e25 => k_is)
  (case a26 => k_is); (case b26 => k_is); (case c26 => k_is); (case e26 => k_is)
  (case a27 => k_is); (case b27 => k_is); (case c27 => k_is); (case e27 => k_is)
  (case a28 => k_is); (case b28 => k_is); (case c28 => k_is); (case e28 => k_is)
  (case a29 => k_is); (case b29 => k_is); (case c29 => k_is); (case e29 => k_is)
  (case a30 => k_is); (case b30 => k_is); (case c30 => k_is); (case e30 => k_is)
  (case a31 => k_is); (case b31 => k_is); (case c31 => k_is); (case e31 => k_is)
  (case a32 => k_is); (case b32 => k_is); (case c32 => k_is); (case e32 => k_is)
  (case l1 => k_is)
  (case l2 => k_is)
  (case l3 => k_is)
  (case l4 => kernel_rfl)
  (case g1 => kernel_rfl)
  (case lo0 => k_is)
  (case lo1 => k_is)
  (case lo2 => k_is)
  (case eB => k_is)
  (case eN => k_is)
  (case eM => k_is)
  (case eS => k_is)
  (case xB => kernel_rfl)
  (case xN => kernel_rfl)
  (case xM => kernel_rfl)
  (case gaB => k_is)
  (case hoB => k_is)
  (case clB => k_is)
  (case gaN => k_is)
  (case hoN => k_is)
  (case clN => k_is)
  (case gaM => k_is)
  (case hoM => k_is)
  (case clM => k_is)
