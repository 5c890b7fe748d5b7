import PyProof.Rows.All
import Wide.All
import OpenK.AllK
import Wide.FinOn
import Lean
import PyProof.EqAt
import PyProof.EqKinds
import PyProof.TupleCall
import PyProof.NeKinds
import PyProof.Rows.SortWalk
import PyProof.Rows.SortRuns
import KE.KMinKey
import PyProof.IsRules
import PySem.SetOps
import PyProof.SetScanFacts
import PyProof.TupleKey
import PyProof.SetKind
import PyProof.Rows.SetFrom
import KE.KRevSl
import PyProof.Rows.SumAny
import PyProof.EnumMake
import PyProof.SeqI3
import PyProof.TupleOfGen
import PyProof.ListRange
import PyProof.CollectIter
import PySem.Challenge.RW_unlikesteps_k02_points_there_and_back
set_option Elab.async false
set_option linter.all false
set_option maxRecDepth 100000
set_option maxHeartbeats 0
namespace L2
open PySem PySem.Spec PyProof.Rows
abbrev Key:=Sum Int Str
def wq:Key→Value→Bool
 | .inl k,v=>Value.isInt k v
 | .inr x,v=>Value.isStrOf x v
def B2 (w:World):Key→Int
 | .inl k=>hashInt k
 | .inr x=>hashStr w x
theorem ZI:∀{k:Key}{v:Value},wq k v=true→(∃i t,k=Sum.inl i∧v=Value.int i t)∨(∃x t,k=Sum.inr x∧v=Value.str x t)
 | .inl i,v,h=>by
  obtain⟨t,e⟩:=Value.isInt_shape (k:=i) (v:=v) h
  exact .inl ⟨i,t,rfl,e⟩
 | .inr x,v,h=>by
  obtain⟨t,e⟩:=Value.isStrOf_shape (x:=x) (v:=v) h
  exact .inr ⟨x,t,rfl,e⟩
theorem FT (a b:Int):decide ((Sum.inl a:Key)=Sum.inl b)=(a==b):=by
 by_cases e:a=b
 ·subst e;simp
 ·have h:¬(Sum.inl a:Key)=Sum.inl b:=fun q=>e (Sum.inl.inj q)
  rw[decide_eq_false h]
  exact(beq_eq_false_iff_ne.mpr e).symm
theorem FW (a b:Str):decide ((Sum.inr a:Key)=Sum.inr b)=decide (a=b):=by
 by_cases e:a=b
 ·subst e;simp
 ·have h:¬(Sum.inr a:Key)=Sum.inr b:=fun q=>e (Sum.inr.inj q)
  rw[decide_eq_false h,decide_eq_false e]
theorem FU (a:Int) (b:Str):decide ((Sum.inl a:Key)=Sum.inr b)=false:=decide_eq_false (fun q=>nomatch q)
theorem FV (a:Str) (b:Int):decide ((Sum.inr a:Key)=Sum.inl b)=false:=decide_eq_false (fun q=>nomatch q)
def v7 (prog:Program) (w:World):PySem.KeyKind prog w Key where
 is:=wq
 hash:=B2 w
 inj:=fun v a b ha hb=>by
  rcases ZI ha with ⟨i,t,rfl,rfl⟩ |⟨x,t,rfl,rfl⟩
  ·rcases ZI hb with ⟨j,u,rfl,e⟩ |⟨y,u,rfl,e⟩
   ·injection e with e1 _;rw[e1]
   ·exact nomatch e
  ·rcases ZI hb with ⟨j,u,rfl,e⟩ |⟨y,u,rfl,e⟩
   ·exact nomatch e
   ·injection e with e1 _;rw[e1]
 byValue:=fun k v h=>by
  rcases ZI h with ⟨i,t,rfl,rfl⟩ |⟨x,t,rfl,rfl⟩<;>rfl
 pyHash:=fun hv h=>by
  rcases ZI hv with ⟨i,t,rfl,rfl⟩ |⟨x,t,rfl,rfl⟩
  ·exact wpAny_pyHash_int h
  ·exact wpAny_pyHash_str h
 eqBool:=fun hu hv h=>by
  rcases ZI hu with ⟨i,t,rfl,rfl⟩ |⟨x,t,rfl,rfl⟩
  ·rcases ZI hv with ⟨j,u,rfl,rfl⟩ |⟨y,u,rfl,rfl⟩
   ·rw[FT]at h;exact wpAny_eqBool_int h
   ·rw[FU]at h;exact SeqAt.EqAt.int_str i t y u _ _ _ _ h
  ·rcases ZI hv with ⟨j,u,rfl,rfl⟩ |⟨y,u,rfl,rfl⟩
   ·rw[FV]at h;exact SeqAt.EqAt.str_int x t j u _ _ _ _ h
   ·rw[FW]at h;exact wpAny_eqBool_str h
 «strs» :=fun k x t v h=>by
  rcases ZI h with ⟨i,u,rfl,e⟩ |⟨y,u,rfl,e⟩
  ·exact nomatch e
  ·injection e with e1 _
   subst e1
   cases v<;>rfl
inductive V where
 |aa |bl (b:Bool) |int (i:Int) |str (x:Str) |eX (b:Array UInt8) |fq (b:UInt64) |ref (a:Addr) |ty (n:String)
 deriving DecidableEq
def RelV:V→Value→Prop
 | .aa,u=>u=Value.none
 | .bl b,u=>u=Value.bool b
 | .int i,u=> ∃t,u=Value.int i t
 | .str x,u=> ∃t,u=Value.str x t
 | .eX b,u=> ∃t,u=Value.bytes b t
 | .fq b,u=> ∃t,u=Value.float b t
 | .ref a,u=>u=Value.ref a
 | .ty n,u=>u=Value.type n
abbrev Vals:List V→List Value→Prop:=Paired RelV
theorem Vals.length {xs:List V}{us:List Value}(r:Vals xs us):xs.length=us.length:=Paired.length r
theorem Vals.get:∀{xs:List V}{us:List Value}{i:Nat}{x:V},Vals xs us→xs[i]? =some x→∃u,us[i]? =some u∧RelV x u
 |_,_,_,_,.nil,e=>by simp at e
 |_,_,0,_,.cons r _,e=>by simp at e;subst e;exact⟨_,rfl,r⟩
 |_,_,i+1,x,.cons _ t,e=>by
  obtain⟨u,h1,h2⟩:=Vals.get (i:=i) (x:=x) t (by simpa using e)
  exact⟨u,by simpa using h1,h2⟩
theorem Vals.set {x:V}{u:Value}(r:RelV x u):∀{xs:List V}{us:List Value}(i:Nat),Vals xs us→Vals (xs.set i x) (us.set i u)
 |_,_,_,.nil=> .nil
 |_,_,0,.cons _ t=> .cons r t
 |_,_,i+1,.cons q t=> .cons q (Vals.set r i t)
theorem Vals.append:∀{xs ys:List V}{us ws:List Value},Vals xs us→Vals ys ws→Vals (xs++ys) (us++ws)
 |_,_,_,_,.nil,s=>s
 |_,_,_,_,.cons r t,s=> .cons r (Vals.append t s)
theorem Vals.take:∀{xs:List V}{us:List Value}(n:Nat),Vals xs us→Vals (xs.take n) (us.take n)
 |_,_,0,_=> .nil
 |_,_,_+1,.nil=> .nil
 |_,_,n+1,.cons r t=> .cons r (Vals.take n t)
theorem Vals.drop:∀{xs:List V}{us:List Value}(n:Nat),Vals xs us→Vals (xs.drop n) (us.drop n)
 |_,_,0,r=>r
 |_,_,_+1,.nil=> .nil
 |_,_,n+1,.cons _ t=>Vals.drop n t
def ub:Option V→Option Value→Prop
 |some v,some u=>RelV v u
 |none,none=>True
 |_,_=>False
def KV {κ:Type} :List (κ×V)→List (κ×Value)→Prop:=Paired fun(p:κ×V) (q:κ×Value)=>p.1=q.1∧RelV p.2 q.2
def kV:Key→V
 | .inl i=> .int i
 | .inr x=> .str x
inductive HO where
  |lst (xs:List V)
  |tup (xs:List V)
  |par (xs:List V)
  |dK (kvs:List (Key×V)) |dT (kvs:List (List Key×V))
  |set (S:Int→Bool) (n:Nat)
  |ins (C dx:Addr) (fs:List (Str×V))
  |own (x:Addr)
  |xd (fs:List (Str×V))
  |met (f x:Addr)
  |ej (lo hi:Int)
  |bC (o:Obj) (u:HO)
  |bh (ps:Array Value)
  |ext (φ:Heap→Prop)
abbrev Hp:=Addr→Option HO
def upd (H:Hp) (a:Addr) (o:HO):Hp:=fun b=>if b=a then some o else H b
theorem Zc {H:Hp}{a:Addr}{o:HO} :upd H a o a=some o:=by unfold upd;rw[if_pos rfl]
theorem Ze {H:Hp}{a b:Addr}{o:HO}(h:b≠a):upd H a o b=H b:=by unfold upd;rw[if_neg h]
theorem Y0 {H:Hp}{a b:Addr}{o u:HO}(h:H a=some o) (h':H b=some u) (d:o≠u):a≠b:=by
 intro e;subst e;rw[h]at h';exact d (Option.some.inj h')
theorem Zf {H:Hp}{a b:Addr}{o:HO}(h:H a=some o) (h':H b=none):a≠b:=by
 intro e;subst e;rw[h]at h';cases h'
section
variable (P:Program) (w:World)
def aU (H:Hp) (h:Heap) (a:Addr):HO→Prop
 | .lst xs=>xs.length≤sizeLine∧∃(its:List Value) (n:Nat),Vals xs its∧h.get? a=some {cls:=.type "list",data:=.seq its.toArray n}
 | .tup xs=>xs.length≤sizeLine∧∃its:List Value,Vals xs its∧IsTup h a its.toArray∧∃o,h.get? a=some o∧o.dict=none
 | .par xs=>xs.length≤sizeLine∧∃its:List Value,Vals xs its∧IsTup h a its.toArray
 | .dK kvs=>kvs.length≤sizeLine∧(a==sysModules)=false∧∃vs,KV kvs vs∧h.DictOf (v7 P w) a vs
 | .dT kvs=>kvs.length≤sizeLine∧(a==sysModules)=false∧∃xs:List (List Key×Addr×Value),
   Paired (fun(p:List Key×V) (q:List Key×Addr×Value)=>p.1=q.1∧H q.2.1=some (.tup (p.1.map kV))∧RelV p.2 q.2.2) kvs xs∧
   ∃o es ep,h.get? a=some o∧o.ExactDict∧o.data=.dict es ep∧es.toList=xs.map (entryOfKey (tupleKind (v7 P w)))∧(xs.map (·.1)).Nodup
 | .set S n=>h.SetOf (intKind P w) a S n
 | .ins C dx fs=>H dx=some (.own a)∧fs.length≤1000∧dx≠a∧h.get? a=some (PySem.W.instObj C dx)∧
   ∃mA,h.Ns1 dx mA∧(∀f,ub (fs.lookup f) (mA f))∧PySem.Within mA (fs.map (·.1))
 | .own _=> ∃o,h.get? a=some o
 | .xd fs=> ∃mA,h.Ns1 a mA∧∀f,ub (fs.lookup f) (mA f)
 | .ej lo hi=> ∃t u v,h.get? a=some {cls:=.type "range",data:=.fields #[.int lo t,.int hi u,.int 1 v]}
 | .bC o u=>h.get? a=some o∧aU H h a u
 | .bh ps=>h.get? a=some {cls:=.none,data:=.fields ps}
 | .met f x=>h.get? a=some (PySem.W.methodObj (.ref f) (.ref x))
 | .ext φ=>φ h∧(∃o,h.get? a=some o)∧∀h1 h2:Heap,φ h1→(∀o,h1.get? a=some o→h2.get? a=some o)→φ h2
def bg (H:Hp) (h:Heap):Prop:=∀a o,H a=some o→aU P w H h a o
end
section
variable {P:Program}{w:World}{H H':Hp}{h h':Heap}{a:Addr}{o:HO}
theorem aU.lt (x:aU P w H h a o):a<h.objs.size:=by
 cases o with
 |lst xs=>obtain⟨_,_,_,_,e⟩:=x;exact Heap.lt_size e
 |tup xs=>obtain⟨_,_,_,p,_⟩:=x;exact p.lt
 |par xs=>obtain⟨_,_,_,p⟩:=x;exact p.lt
 |dK kvs=>obtain⟨_,_,_,_,o,_,_,e,_⟩:=x;exact Heap.lt_size e
 |dT kvs=>obtain⟨_,_,_,_,o,_,_,e,_⟩:=x;exact Heap.lt_size e
 |set S n=>obtain⟨o,_,_,_,e,_⟩:=x;exact Heap.lt_size e
 |ins C dx fs=>obtain⟨_,_,_,e,_⟩:=x;exact Heap.lt_size e
 |own y=>obtain⟨_,e⟩:=x;exact Heap.lt_size e
 |xd fs=>obtain⟨_,⟨_,_,_,e,_⟩,_⟩:=x;exact Heap.lt_size e
 |ej lo hi=>obtain⟨_,_,_,e⟩:=x;exact Heap.lt_size e
 |bC ob u=>obtain⟨e,_⟩:=x;exact Heap.lt_size e
 |bh ps=>exact Heap.lt_size (show h.get? a=some _ from x)
 |met f y=>exact Heap.lt_size (show h.get? a=some _ from x)
 |ext φ=>obtain⟨_,⟨_,e⟩,_⟩:=x;exact Heap.lt_size e
theorem Paired.aX {α β:Type}{F G:α→β→Prop} :∀{g8:List α}{g7:List β},Paired F g8 g7→(∀a b,F a b→G a b)→Paired G g8 g7
 |_,_,.nil,_=> .nil
 |_,_,.cons r t,f=> .cons (f _ _ r) (Paired.aX t f)
theorem aU.bj (x:aU P w H h a o) (k:∀b u,(b=a∨H b=some (.own a))→h.get? b=some u→h'.get? b=some u)
  (ho:∀b,H b=some (.own a)→H' b=some (.own a)) (ht:∀b xs,H b=some (.tup xs)→H' b=some (.tup xs)):aU P w H' h' a o:=by
 induction o with
 |lst xs=>obtain⟨z,its,n,r,e⟩:=x;exact⟨z,its,n,r,k _ _ (.inl rfl) e⟩
 |tup xs=>obtain⟨z,its,r,⟨ob,e,c⟩,o2,e2,c2⟩:=x;exact⟨z,its,r,⟨ob,k _ _ (.inl rfl) e,c⟩,o2,k _ _ (.inl rfl) e2,c2⟩
 |par xs=>obtain⟨z,its,r,ob,e,c⟩:=x;exact⟨z,its,r,ob,k _ _ (.inl rfl) e,c⟩
 |dK kvs=>obtain⟨z,y,vs,r,ob,es,ep,e,c⟩:=x;exact⟨z,y,vs,r,ob,es,ep,k _ _ (.inl rfl) e,c⟩
 |dT kvs=>
  obtain⟨z,y,xs,r,ob,es,ep,e,c⟩:=x
  exact⟨z,y,xs,Paired.aX r fun p q z=> ⟨z.1,ht _ _ z.2.1,z.2.2⟩,ob,es,ep,k _ _ (.inl rfl) e,c⟩
 |set S n=>obtain⟨ob,es,ep,t,e,c⟩:=x;exact⟨ob,es,ep,t,k _ _ (.inl rfl) e,c⟩
 |ins C dx fs=>
  obtain⟨d,z,ne,e,mA,⟨od,es,ep,e2,c⟩,r⟩:=x
  exact⟨ho _ d,z,ne,k _ _ (.inl rfl) e,mA,⟨od,es,ep,k _ _ (.inr d) e2,c⟩,r⟩
 |own y=>obtain⟨ob,e⟩:=x;exact⟨ob,k _ _ (.inl rfl) e⟩
 |xd fs=>obtain⟨mA,⟨od,es,ep,e,c⟩,r⟩:=x;exact⟨mA,⟨od,es,ep,k _ _ (.inl rfl) e,c⟩,r⟩
 |ej lo hi=>obtain⟨t,u,v,e⟩:=x;exact⟨t,u,v,k _ _ (.inl rfl) e⟩
 |bC ob u ih=>obtain⟨e,q⟩:=x;exact⟨k _ _ (.inl rfl) e,ih q⟩
 |bh ps=>
  have e:h.get? a=some {cls:=.none,data:=.fields ps} :=x
  show h'.get? a=some {cls:=.none,data:=.fields ps}
  exact k a _ (.inl rfl) e
 |met f y=>
  have e:h.get? a=some (PySem.W.methodObj (.ref f) (.ref y)):=x
  show h'.get? a=some (PySem.W.methodObj (.ref f) (.ref y))
  exact k a _ (.inl rfl) e
 |ext φ=>obtain⟨p,⟨o,e⟩,st⟩:=x;exact⟨st _ _ p fun o q=>k _ _ (.inl rfl) q,⟨o,k _ _ (.inl rfl) e⟩,st⟩
theorem bg.lt (x:bg P w H h) (e:H a=some o):a<h.objs.size:=(x a o e).lt
theorem bg.fresh (x:bg P w H h) (e:h.objs.size≤a):H a=none:=by
 cases q:H a with
 |none=>rfl
 |some u=>exact absurd (Nat.lt_of_lt_of_le (x.lt q) e) (Nat.lt_irrefl _)
theorem bg.kept (x:bg P w H h) (k:∀b u,h.get? b=some u→h'.get? b=some u):bg P w H h':=fun a o e=>
 (x a o e).bj (fun b u _ q=>k b u q) (fun _ q=>q) fun _ _ q=>q
theorem bg.laid (x:bg P w H h) (k:∀b u,h.get? b=some u→h'.get? b=some u) (hp:h.objs.size≤a) (new:aU P w (upd H a o) h' a o):bg P w (upd H a o) h':=fun b u e=>by
 have hn:=x.fresh hp
 by_cases hb:b=a
 ·subst hb;rw[Zc]at e;cases e;exact new
 ·rw[Ze hb]at e
  exact(x b u e).bj (fun c v _ q=>k c v q) (fun c q=>by rw[Ze (Zf q hn)];exact q) fun c xs q=>by rw[Ze (Zf q hn)];exact q
end
def Rd (H:Hp) (a:Addr) (u:HO):Prop:=H a=some u∨∃o,H a=some (.bC o u)
theorem Rd.ok {P:Program}{w:World}{H:Hp}{h:Heap}{a:Addr}{u:HO}(r:Rd H a u) (x:bg P w H h):aU P w H h a u:=by
 rcases r with r |⟨o,r⟩
 ·exact x a u r
 ·obtain⟨_,q⟩:=x a _ r
  exact q
def o9:Option HO→Prop
 |some (.lst _)=>True
 |some (.dK _)=>True
 |some (.dT _)=>True
 |some (.set _ _)=>True
 |some (.ins _ _ _)=>True
 |some (.ext _)=>True
 |_=>False
section
variable {P:Program}{w:World}{H:Hp}{h h':Heap}{x e:Addr}{o':HO}
theorem bg.write (ok:bg P w H h) (mu:o9 (H x)) (he:e=x∨H e=some (.own x)) (k:∀b u,b≠e→h.get? b=some u→h'.get? b=some u) (j9:∃u,h'.get? e=some u)
  (new:aU P w (upd H x o') h' x o'):bg P w (upd H x o') h':=fun b u q=>by
 have vR:∀c y,H c=some (.own y)→c≠x:=fun c y r z=>by subst z;rw[r]at mu;exact mu
 have Bs:∀c xs,H c=some (.tup xs)→c≠x:=fun c xs r z=>by subst z;rw[r]at mu;exact mu
 by_cases hb:b=x
 ·subst hb;rw[Zc]at q;cases q;exact new
 ·rw[Ze hb]at q
  by_cases fS:b=e
  ·have q':H b=some (.own x):=by
    rcases he with z |z
    ·exact absurd (fS.trans z) hb
    ·rw[fS];exact z
   rw[q]at q';cases q'
   obtain⟨v,hv⟩:=j9
   exact⟨v,by rw[fS];exact hv⟩
  ·refine(ok b u q).bj (fun c v hc r=>k c v ?_ r) (fun c r=>by rw[Ze (vR c b r)];exact r) fun c xs r=>by rw[Ze (Bs c xs r)];exact r
   rcases hc with rfl |hc
   ·exact fS
   ·rintro rfl
    rcases he with z |z
    ·exact vR c b hc z
    ·rw[hc]at z;cases z;exact hb rfl
end
structure Un (fs ex:List Addr) (H H':Hp) (h h':Heap):Prop where
 keep:∀b o,h.get? b=some o→H b=none→b∉fs→b∉ex→h'.get? b=some o
 slot:∀b o,h.get? b=some o→H b=none→b∈fs→b∉ex→∃sl,h'.get? b=some {o with slots:=sl}
 free:∀b o,h.get? b=some o→H b=none→b∉ex→H' b=none
 there:∀b o,h.get? b=some o→b∉ex→∃o',h'.get? b=some o'
 dX:∀b xs,H b=some (.tup xs)→H' b=some (.tup xs)
 dN:∀b o u,H b=some (.bC o u)→H' b=some (.bC o u)
 dB:∀b ps,H b=some (.bh ps)→∃more,H' b=some (.bh (ps++more))
section
variable {fs El ex xQ:List Addr}{H H1 H2:Hp}{h h1 h2 h':Heap}{a x e:Addr}{o:HO}
theorem Un.any (u:Un fs ex H H1 h h1) {b:Addr}{ob:Obj}(q:h.get? b=some ob) (n:H b=none) (hx:b∉ex):∃sl,h1.get? b=some {ob with slots:=sl} :=by
 by_cases hb:b∈fs
 ·exact u.slot b ob q n hb hx
 ·exact⟨ob.slots,u.keep b ob q n hb hx⟩
theorem Un.kept (k:∀b u,h.get? b=some u→h'.get? b=some u):Un fs ex H H h h':=
 ⟨fun b ob q _ _ _=>k b ob q,fun b ob q _ _ _=> ⟨ob.slots,k b ob q⟩,fun _ _ _ n _=>n,fun b ob q _=> ⟨ob,k b ob q⟩,fun _ _ q=>q,fun _ _ _ q=>q,fun _ ps q=> ⟨#[],by rw[q];simp⟩⟩
theorem Un.refl:Un fs ex H H h h:=Un.kept fun _ _ q=>q
theorem Un.laid (k:∀b u,h.get? b=some u→h'.get? b=some u) (hp:h.objs.size≤a) (hn:H a=none):Un fs ex H (upd H a o) h h' where
 keep:=fun b u q _ _ _=>k b u q
 slot:=fun b u q _ _ _=> ⟨u.slots,k b u q⟩
 free:=fun b u q n _=>by rw[Ze (Nat.ne_of_lt (Nat.lt_of_lt_of_le (Heap.lt_size q) hp))];exact n
 there:=fun b u q _=> ⟨u,k b u q⟩
 dX:=fun b xs q=>by rw[Ze (Zf q hn)];exact q
 dN:=fun b u xs q=>by rw[Ze (Zf q hn)];exact q
 dB:=fun b ps q=> ⟨#[],by rw[Ze (Zf q hn),q];simp⟩
theorem Un.write (mu:o9 (H x)) (he:e=x∨H e=some (.own x)) (k:∀b u,b≠e→h.get? b=some u→h'.get? b=some u) (j9:∃u,h'.get? e=some u):Un fs ex H (upd H x o) h h':=by
 have hx:∀b,H b=none→b≠x:=fun b n z=>by subst z;rw[n]at mu;exact mu
 have hb:∀b,H b=none→b≠e:=fun b n z=>by
  subst z
  rcases he with r |r
  ·exact hx b n r
  ·rw[n]at r;cases r
 have hm:∀b u,H b=some u→¬o9 (some u)→b≠x:=fun b u q nm z=>by subst z;rw[q]at mu;exact nm mu
 refine⟨fun b u q n _ _=>k b u (hb b n) q,fun b u q n _ _=> ⟨u.slots,k b u (hb b n) q⟩,fun b u q n _=>by rw[Ze (hx b n)];exact n,fun b u q _=> ?_,
  fun b xs q=>by rw[Ze (hm b _ q fun z=>z)];exact q,fun b u xs q=>by rw[Ze (hm b _ q fun z=>z)];exact q,fun b ps q=> ⟨#[],by rw[Ze (hm b _ q fun z=>z),q];simp⟩⟩
 by_cases fS:b=e
 ·subst fS;exact j9
 ·exact⟨u,k b u fS q⟩
end
def bR (h:Heap) (H:Hp):List Addr:=(List.range h.objs.size).filter fun a=> (H a).isSome
def eT (h:Heap) (H:Hp):Heap:=PySem.W.hideAll h (bR h H)
theorem JR (h:Heap) (H:Hp):(eT h H).objs.size=h.objs.size:=PySem.W.hideAll_size _ _
theorem Wx {h:Heap}{H:Hp}{b:Addr}{o:Obj}(e:h.get? b=some o) (n:H b=none):(eT h H).get? b=some o:=
 PySem.W.hideAll_get _ e fun hm=>by
  have q:(H b).isSome=true:=(List.mem_filter.mp hm).2
  rw[n]at q;simp at q
theorem W9 {h:Heap}{H:Hp}{b:Addr}{o:Obj}(e:(eT h H).get? b=some o):h.get? b=some o∧H b=none:=by
 have e':h.get? b=some o:=PySem.W.of_hideAll (bR h H) e
 refine⟨e',?_⟩
 cases q:H b with
 |none=>rfl
 |some x=>
  have hm:b∈bR h H:=List.mem_filter.mpr ⟨List.mem_range.mpr (Heap.lt_size e'),by simp[q]⟩
  have z:(eT h H).get? b=none:=PySem.W.hideAll_none (bR h H) hm
  rw[z]at e;cases e
def Fh (g h:Heap) (L:Addr):List (Addr×Obj):=(List.range h.objs.size).filterMap fun a=>if a=L∨(g.get? a).isSome=true then none else (h.get? a).map fun o=> (a,o)
def rest (g h:Heap) (L d:Addr):List (Addr×Obj):=(Fh g h L).filter fun p=>decide (p.1≠d)
structure Mod (K:PySem.W.Frag) (mg:Str→Option Value) (base:Heap):Prop where
 i4:K.In base
 glob:base.Ns mainGlobals mg
 blt:∃mb,base.Ns builtinsNs mb∧∀x:Str,x≠ "__name__" →mb x=bootBuiltins x
 nolimit:base.NoLimit
structure Cx where
 prog:Program
 w:World
 K:PySem.W.Frag
 mg:Str→Option Value
 base:Heap
 A:Around
 N:List Str
 bw:Shared
 gH:Hp
 env:Env
 outer:List Env
 stack:List Env
 ex:List Addr
 fn:Str→Bool
 calm:Bool
 pn:List (Addr×Obj)
 xe:Value→Shared→Prop
def aG (l:List Env):List Addr:=l.filterMap (·.frame)
abbrev Cx.fs (X:Cx):List Addr:=aG X.outer
def mJ (sc:Scope) (x:Str):Prop:=sc.names.lookup x=some .local∨sc.names.lookup x=some .cell∨sc.names.lookup x=some .free
def Loc (sc:Scope) (x:Str):Prop:=sc.names.lookup x=some .local∨sc.names.lookup x=some .cell
def Look (env:Env) (h:Heap) (m:Str→Option Value) (x:Str) (u:Value):Prop:=
 (env.kindOf x=some .local∧m x=some u)∨((env.kindOf x=some .cell∨env.kindOf x=some .free)∧∃c,env.cells.lookup x=some c∧h.IsCell c (some u))
structure Cx.Ok (X:Cx):Prop where
 mod:Mod X.K X.mg X.base
 kind:X.env.scope.kind=.function
 glob:X.env.globals=mainGlobals
 blt:X.env.builtins=builtinsNs
 above:X.bw.heap.objs.size≤X.env.locals
 inj:∀x y c,X.env.cells.lookup x=some c→X.env.cells.lookup y=some c→x=y
 has:∀x,(X.env.kindOf x=some .cell∨X.env.kindOf x=some .free)→∃c,X.env.cells.lookup x=some c
 iF:∀x c,X.fn x=true→X.env.cells.lookup x=some c→X.bw.heap.objs.size≤c
 hd:X.calm=true→X.A.handled=none
 frames:X.A.frames=some X.stack
 jG:X.stack=X.outer∨(X.stack=X.env::X.outer∧X.env.frame=some X.env.locals)
 ki:∀b∈X.ex,b≠X.env.locals∧∀x c,X.env.cells.lookup x=some c→c≠b
 bs:∀b o,X.base.get? b=some o→X.bw.heap.get? b=some o∧X.gH b=none
 fU:X.base.objs.size≤X.bw.heap.objs.size
 i0:∀b o,X.base.get? b=some o→b∉X.ex
 jm:∀b∈X.ex,b∉X.fs
 cE:X.bw.heap.FunFrames X.base X.outer
 eU:∀b∈X.fs,X.gH b=none
structure Inv (X:Cx) (pins:List (Addr×Obj)) (σ:List (Option V)) (H:Hp) (s:Shared):Prop where
 ok:X.Ok
 os:s.os=X.bw.os
 bare:AllBare s.gens
 base:Un X.fs X.ex X.gH H X.bw.heap s.heap
 loc:∃m,s.heap.Ns X.env.locals m∧∀(i:Nat) (x:Str) (v:V),X.N[i]? =some x→σ[i]? =some (some v)→mJ X.env.scope x→∃u,RelV v u∧Look X.env s.heap m x u
 cell:∀x c,X.env.cells.lookup x=some c→∃v,s.heap.IsCell c v
 free:H X.env.locals=none
 dP:∀x c,X.env.cells.lookup x=some c→H c=none
 pin:∀p∈X.pn++pins,s.heap.get? p.1=some p.2∧H p.1=none∧p.1≠X.env.locals∧p.1∉X.fs∧∀v,p.2.data≠.cell v
 ah:bg X.prog X.w H s.heap
 len:σ.length=X.N.length
section
variable {X:Cx}{pins:List (Addr×Obj)}{σ:List (Option V)}{H H':Hp}{s:Shared}{h':Heap}
theorem Cx.Ok.Bz (ok:X.Ok) {b:Addr}{o:Obj}(e:X.base.get? b=some o):b∉X.fs:=fun hb=>by
 have:=(ok.cE.mem hb).1
 rw[e]at this;cases this
theorem Inv.bs (I:Inv X pins σ H s):∀b o,X.base.get? b=some o→s.heap.get? b=some o∧H b=none:=fun b o e=>
 ⟨I.base.keep b o (I.ok.bs b o e).1 (I.ok.bs b o e).2 (I.ok.Bz e) (I.ok.i0 b o e),I.base.free b o (I.ok.bs b o e).1 (I.ok.bs b o e).2 (I.ok.i0 b o e)⟩
theorem Inv.bk (I:Inv X pins σ H s):∀b o,X.base.get? b=some o→s.heap.get? b=some o:=fun b o e=> (I.bs b o e).1
theorem Inv.mod (I:Inv X pins σ H s):Mod X.K X.mg X.base:=I.ok.mod
theorem Inv.bc (I:Inv X pins σ H s):X.K.In s.heap:=I.ok.mod.i4.keeps I.bk
theorem Inv.lt (I:Inv X pins σ H s):X.env.locals<s.heap.objs.size:=let ⟨_,hn,_⟩:=I.loc;hn.lt
theorem Inv.sz (I:Inv X pins σ H s):X.bw.heap.objs.size≤s.heap.objs.size:=Nat.le_trans I.ok.above (Nat.le_of_lt I.lt)
theorem Inv.Bx (I:Inv X pins σ H s) {a:Addr}(h:s.heap.objs.size≤a):a∉X.fs:=fun hb=>by
 obtain⟨_,o,ho,_⟩:=I.ok.cE.mem hb
 exact absurd (Nat.lt_of_lt_of_le (Heap.lt_size ho) (Nat.le_trans I.sz h)) (Nat.lt_irrefl _)
theorem Inv.eW (I:Inv X pins σ H s):∀x c,X.env.cells.lookup x=some c→c≠X.env.locals:=fun x c e z=>by
 obtain⟨v,o,ho,hd⟩:=I.cell x c e
 obtain⟨m,⟨o',es,ep,cj,Ds,_⟩,_⟩:=I.loc
 rw[z,cj]at ho;cases ho;rw[Ds]at hd;cases hd
theorem Inv.cE (I:Inv X pins σ H s):s.heap.FunFrames X.base X.outer:=by
 have all:∀(l:List Env),(∀b∈aG l,b∈X.fs)→X.bw.heap.FunFrames X.base l→s.heap.FunFrames X.base l:=by
  intro l
  induction l with
  |nil=>intro _ _;trivial
  |cons env r ih=>
   intro hs hl
   obtain⟨hk,⟨L,o,hf,hn,ho,hd⟩,hr⟩:=hl
   have hL:L∈X.fs:=hs L (by unfold aG;rw[List.filterMap_cons,hf];exact List.mem_cons_self)
   obtain⟨sl,e⟩:=I.base.slot L o ho (I.ok.eU L hL) hL fun z=>I.ok.jm L z hL
   exact⟨hk,⟨L,_,hf,hn,e,hd⟩,ih (fun b hb=>hs b (by unfold aG;rw[List.filterMap_cons,hf];exact List.mem_cons_of_mem _ hb)) hr⟩
 exact all X.outer (fun _ hb=>hb) I.ok.cE
theorem Inv.stack (I:Inv X pins σ H s):s.heap.FunFrames X.base X.stack:=by
 rcases I.ok.jG with e |⟨e,hf⟩
 ·rw[e];exact I.cE
 ·rw[e]
  obtain⟨m,hn,_⟩:=I.loc
  refine .cons (by rw[I.ok.kind];decide) hf hn ?_ I.cE
  exact Heap.get?_none_of_le (Nat.le_trans I.ok.fU I.ok.above)
theorem Inv.nD (I:Inv X pins σ H s):∀b∈aG X.stack,b∈X.env.locals::X.fs:=fun b hb=>by
 rcases I.ok.jG with e |⟨e,hf⟩
 ·rw[e]at hb;exact List.mem_cons_of_mem _ hb
 ·rw[e]at hb
  unfold aG at hb
  rw[List.filterMap_cons,hf]at hb
  exact hb
theorem Inv.kJ (I:Inv X pins σ H s):∀b∈aG X.stack,H b=none:=fun b hb=>by
 rcases List.mem_cons.mp (I.nD b hb) with e |hb
 ·rw[e];exact I.free
 ·obtain⟨_,o,ho,_⟩:=I.ok.cE.mem hb
  exact I.base.free b o ho (I.ok.eU b hb) fun z=>I.ok.jm b z hb
theorem Inv.step {g':Array GenState}{t':Nat}{d':Drawn}{ch:List Addr}(I:Inv X pins σ H s)
  (fP:∀b∈ch,(b∈X.ex∨X.bw.heap.objs.size≤b)∧b≠X.env.locals∧(∀x c,X.env.cells.lookup x=some c→c≠b)∧∀p∈X.pn++pins,p.1≠b)
  (keep:∀b o,b≠X.env.locals→b∉X.fs→b∉ch→s.heap.get? b=some o→H b=none→h'.get? b=some o)
  (slot:∀b o,b≠X.env.locals→b∈X.fs→b∉ch→s.heap.get? b=some o→H b=none→∃sl,h'.get? b=some {o with slots:=sl}) (free:∀b o,b∉ch→s.heap.get? b=some o→H b=none→H' b=none)
  (there:∀b o,b∉ch→s.heap.get? b=some o→∃o',h'.get? b=some o')
  (dX:∀b xs,H b=some (.tup xs)→H' b=some (.tup xs)) (dN:∀b o u,H b=some (.bC o u)→H' b=some (.bC o u)) (dB:∀b ps,H b=some (.bh ps)→∃more,H' b=some (.bh (ps++more)))
  (ns:∀m,s.heap.Ns X.env.locals m→h'.Ns X.env.locals m) (ah:bg X.prog X.w H' h') (hg:AllBare g'):
  Inv X pins σ H' {s with heap:=h',gens:=g',drawn:=d',toks:=t'} :=by
 have vW:∀b o,X.bw.heap.get? b=some o→b≠X.env.locals:=fun b o e=>Nat.ne_of_lt (Nat.lt_of_lt_of_le (Heap.lt_size e) I.ok.above)
 have eR:∀b o,X.bw.heap.get? b=some o→b∉X.ex→b∉ch:=fun b o e hx hb=>by
  rcases (fP b hb).1 with z |z
  ·exact hx z
  ·exact absurd (Nat.lt_of_lt_of_le (Heap.lt_size e) z) (Nat.lt_irrefl _)
 have cellK:∀x c,X.env.cells.lookup x=some c→∀v,s.heap.IsCell c v→h'.IsCell c v:=fun x c e v ⟨o,ho,hd⟩=>by
  have lB:c∉ch:=fun z=> (fP c z).2.2.1 x c e rfl
  by_cases hc:c∈X.fs
  ·obtain⟨sl,q⟩:=slot c o (I.eW x c e) hc lB ho (I.dP x c e)
   exact⟨_,q,hd⟩
  ·exact⟨o,keep c o (I.eW x c e) hc lB ho (I.dP x c e),hd⟩
 refine⟨I.ok,I.os,hg,⟨fun b o e n hb hx=> ?_,fun b o e n hb hx=> ?_,fun b o e n hx=> ?_,fun b o e hx=> ?_,fun b xs e=>dX b xs (I.base.dX b xs e),fun b o xs e=>dN b o xs (I.base.dN b o xs e),fun b ps e=> ?_⟩,?_,fun x c e=> ?_,?_,fun x c e=> ?_,fun p hp=> ?_,ah,I.len⟩
 ·exact keep b o (vW b o e) hb (eR b o e hx) (I.base.keep b o e n hb hx) (I.base.free b o e n hx)
 ·obtain⟨sl,e1⟩:=I.base.slot b o e n hb hx
  obtain⟨Aw,e2⟩:=slot b _ (vW b o e) hb (eR b o e hx) e1 (I.base.free b o e n hx)
  exact⟨Aw,e2⟩
 ·obtain⟨o',e1⟩:=I.base.there b o e hx
  exact free b o' (eR b o e hx) e1 (I.base.free b o e n hx)
 ·obtain⟨o',e1⟩:=I.base.there b o e hx
  exact there b o' (eR b o e hx) e1
 ·obtain⟨m1,e1⟩:=I.base.dB b ps e
  obtain⟨m2,e2⟩:=dB b _ e1
  exact⟨m1++m2,by rw[e2,Array.append_assoc]⟩
 ·obtain⟨m,hn,hl⟩:=I.loc
  refine⟨m,ns m hn,fun i x v e1 e2 e3=> ?_⟩
  obtain⟨u,r,l⟩:=hl i x v e1 e2 e3
  refine⟨u,r,?_⟩
  rcases l with l |⟨k,c,e,z⟩
  ·exact .inl l
  ·exact .inr ⟨k,c,e,cellK x c e _ z⟩
 ·obtain⟨v,z⟩:=I.cell x c e
  exact⟨v,cellK x c e v z⟩
 ·obtain⟨m,⟨o,_,_,ho,_⟩,_⟩:=I.loc
  exact free _ o (fun z=> (fP _ z).2.1 rfl) ho I.free
 ·obtain⟨v,o,ho,hd⟩:=I.cell x c e
  exact free c o (fun z=> (fP c z).2.2.1 x c e rfl) ho (I.dP x c e)
 ·obtain⟨e,n,ne,nf,d⟩:=I.pin p hp
  have lB:p.1∉ch:=fun z=> (fP p.1 z).2.2.2 p hp rfl
  exact⟨keep p.1 p.2 ne nf lB e n,free p.1 p.2 lB e n,ne,nf,d⟩
theorem Inv.un {t':Nat}(I:Inv X pins σ H s) (u:Un X.fs [] H H' s.heap h') (ah:bg X.prog X.w H' h'):Inv X pins σ H' {s with heap:=h',toks:=t'} :=by
 obtain⟨m,⟨o,es,ep,ho,r⟩,_⟩:=id I.loc
 obtain⟨sl,hL⟩:=u.any ho I.free (by simp)
 exact I.step (g':=s.gens) (d':=s.drawn) (ch:=[]) (fun _ z=>nomatch z) (fun b o _ hb _ e n=>u.keep b o e n hb (by simp)) (fun b o _ hb _ e n=>u.slot b o e n hb (by simp)) (fun b o _ e n=>u.free b o e n (by simp)) (fun b o _ e=>u.there b o e (by simp)) u.dX u.dN u.dB (fun m' hm=>by
  obtain⟨o',tG,tI,cj,r'⟩:=hm
  rw[ho]at cj;cases cj
  exact⟨_,tG,tI,hL,r'⟩) ah I.bare
theorem Inv.call {g':Array GenState}{t':Nat}{d':Drawn}{ch:List Addr}(I:Inv X pins σ H s) (u:Un (aG X.stack) ch H H' s.heap h') (ah:bg X.prog X.w H' h') (hg:AllBare g')
  (fP:∀b∈ch,(b∈X.ex∨X.bw.heap.objs.size≤b)∧b≠X.env.locals∧(∀x c,X.env.cells.lookup x=some c→c≠b)∧∀p∈X.pn++pins,p.1≠b):
  Inv X pins σ H' {s with heap:=h',gens:=g',drawn:=d',toks:=t'} :=by
 obtain⟨m,⟨o,es,ep,ho,r⟩,_⟩:=id I.loc
 obtain⟨sl,hL⟩:=u.any ho I.free fun z=> (fP _ z).2.1 rfl
 exact I.step (ch:=ch) fP (fun b o hL hb hc e n=>u.keep b o e n (fun z=> (List.mem_cons.mp (I.nD b z)).elim hL hb) hc) (fun b o _ _ hc e n=>u.any e n hc) (fun b o hc e n=>u.free b o e n hc) (fun b o hc e=>u.there b o e hc) u.dX u.dN u.dB (fun m' hm=>by
  obtain⟨o',tG,tI,cj,r'⟩:=hm
  rw[ho]at cj;cases cj
  exact⟨_,tG,tI,hL,r'⟩) ah hg
theorem Inv.turned {t':Nat}{it:Addr}(I:Inv X pins σ H s) (k:∀b o,b≠it→s.heap.get? b=some o→h'.get? b=some o) (hn:H it=none) (hL:it≠X.env.locals)
  (h1:it∈X.ex∨X.bw.heap.objs.size≤it) (h2:∀x c,X.env.cells.lookup x=some c→c≠it) (h3:∀p∈X.pn++pins,p.1≠it):Inv X pins σ H {s with heap:=h',toks:=t'} :=by
 have vU:∀b u,H b=some u→b≠it:=fun b u e z=>by rw[z,hn]at e;cases e
 refine I.step (g':=s.gens) (d':=s.drawn) (ch:=[it]) (fun b hb=> ?_) (fun b o _ _ hc e _=>k b o (fun z=>hc (by simp[z])) e) (fun b o _ _ hc e _=> ⟨o.slots,k b o (fun z=>hc (by simp[z])) e⟩) (fun _ _ _ _ n=>n)
  (fun b o hc e=> ⟨o,k b o (fun z=>hc (by simp[z])) e⟩) (fun _ _ e=>e) (fun _ _ _ e=>e) (fun b ps e=> ⟨#[],by rw[e];simp⟩) (fun m hm=> ?_) (fun b u e=> ?_) I.bare
 ·have e:b=it:=by simpa using hb
  subst e
  exact⟨h1,hL,h2,h3⟩
 ·obtain⟨o,es,ep,ho,r⟩:=hm
  exact⟨o,es,ep,k _ o (Ne.symm hL) ho,r⟩
 ·refine(I.ah b u e).bj (fun c v hc q=>k c v ?_ q) (fun _ q=>q) fun _ _ q=>q
  rcases hc with z |z
  ·rw[z];exact vU b u e
  ·exact vU c _ z
theorem Inv.tok (I:Inv X pins σ H s) (t:Nat):Inv X pins σ H {s with toks:=t} :=I.un (h':=s.heap) (t':=t) Un.refl I.ah
theorem Inv.kept {t':Nat}(I:Inv X pins σ H s) (k:∀b u,s.heap.get? b=some u→h'.get? b=some u):Inv X pins σ H {s with heap:=h',toks:=t'} :=I.un (Un.kept k) (I.ah.kept k)
theorem Inv.laid {a:Addr}{o:HO}{t':Nat}(I:Inv X pins σ H s) (k:∀b u,s.heap.get? b=some u→h'.get? b=some u) (hp:s.heap.objs.size≤a) (new:aU X.prog X.w (upd H a o) h' a o):
  Inv X pins σ (upd H a o) {s with heap:=h',toks:=t'} :=I.un (Un.laid k hp (I.ah.fresh hp)) (I.ah.laid k hp new)
theorem Inv.write {x e:Addr}{o:HO}{t':Nat}(I:Inv X pins σ H s) (mu:o9 (H x)) (he:e=x∨H e=some (.own x)) (k:∀b u,b≠e→s.heap.get? b=some u→h'.get? b=some u) (j9:∃u,h'.get? e=some u)
  (new:aU X.prog X.w (upd H x o) h' x o):Inv X pins σ (upd H x o) {s with heap:=h',toks:=t'} :=I.un (Un.write mu he k j9) (I.ah.write mu he k j9 new)
theorem Inv.vL {vM:List (Addr×Obj)}(I:Inv X pins σ H s) (h:∀p∈vM,s.heap.get? p.1=some p.2∧H p.1=none∧p.1≠X.env.locals∧p.1∉X.fs∧∀v,p.2.data≠.cell v):Inv X vM σ H s:=
 ⟨I.ok,I.os,I.bare,I.base,I.loc,I.cell,I.free,I.dP,fun p hp=> (List.mem_append.mp hp).elim (fun z=>I.pin p (List.mem_append_left _ z)) (h p),I.ah,I.len⟩
theorem Jr {N:List Str}(hN:N.Nodup) {i j:Nat}{x:Str}(a:N[i]? =some x) (b:N[j]? =some x):i=j:=by
 obtain⟨h1,e1⟩:=List.getElem?_eq_some_iff.mp a
 obtain⟨h2,e2⟩:=List.getElem?_eq_some_iff.mp b
 exact(List.getElem_inj hN).mp (e1.trans e2.symm)
theorem JL {M:Model}{A:Around}{E:Value→Shared→Prop}{i:Nat}{x:Str}{v:V}{u:Value}{Q:Unit→Shared→Prop}(I:Inv X pins σ H s) (hN:X.N.Nodup) (hi:X.N[i]? =some x) (hx:Loc X.env.scope x) (r:RelV v u)
  (h:∀s',Inv X pins (σ.set i (some v)) H s'→(∃a,Heap.SameBut a s.heap s'.heap∧(a=X.env.locals∨X.env.cells.lookup x=some a))→Q () s') (hf:X.fn x=true∨X.env.scope.names.lookup x=some .local:=by first |exact .inl rfl |exact .inr rfl |assumption):wpAny M A (storeName X.env x u) Q E s:=by
 obtain⟨m,hn,hl⟩:=id I.loc
 have sN:(X.env.scope.kind==.class||(X.env.scope.kind==.module&&X.env.locals !=X.env.globals))=false:=by rw[I.ok.kind];rfl
 have xc:i<σ.length:=by rw[I.len];exact(List.getElem?_eq_some_iff.mp hi).1
 have eW:=I.eW
 have tracked:∀{a:Addr}{h':Heap},(∃o,s.heap.get? a=some o∧H a=none)→Heap.SameBut a s.heap h'→bg X.prog X.w H h':=fun {a h'} ha hs b ob e=>by
  obtain⟨_,_,xg⟩:=ha
  refine(I.ah b ob e).bj (fun c w' hc q=> (hs.2 c ?_).trans q) (fun _ q=>q) fun _ _ q=>q
  rintro rfl
  rcases hc with rfl |hc
  ·rw[xg]at e;cases e
  ·rw[xg]at hc;cases hc
 rcases hx with hk |hk
 ·refine wpAny_storeName_local hk hn (fun h' CY hs=> ?_) sN
  obtain⟨oL,_,_,hoL,_⟩:=id hn
  refine h _ ⟨I.ok,I.os,I.bare,⟨fun b o e n hb hx=> ?_,fun b o e n hb hx=> ?_,I.base.free,fun b o e hx=> ?_,I.base.dX,I.base.dN,I.base.dB⟩,⟨_,CY,fun j y v' e1 e2 e3=> ?_⟩,fun y c e=> ?_,I.free,I.dP,fun p hp=> ?_,tracked ⟨oL,hoL,I.free⟩ hs,by simpa using I.len⟩ ⟨_,hs,.inl rfl⟩
  ·exact(hs.2 b (Nat.ne_of_lt (Nat.lt_of_lt_of_le (Heap.lt_size e) I.ok.above))).trans (I.base.keep b o e n hb hx)
  ·obtain⟨sl,e1⟩:=I.base.slot b o e n hb hx
   exact⟨sl,(hs.2 b (Nat.ne_of_lt (Nat.lt_of_lt_of_le (Heap.lt_size e) I.ok.above))).trans e1⟩
  ·obtain⟨o',e1⟩:=I.base.there b o e hx
   exact⟨o',(hs.2 b (Nat.ne_of_lt (Nat.lt_of_lt_of_le (Heap.lt_size e) I.ok.above))).trans e1⟩
  ·by_cases hj:j=i
   ·subst hj
    rw[hi]at e1;cases e1
    rw[List.getElem?_set_self xc]at e2
    cases e2
    exact⟨u,r,.inl ⟨hk,by simp⟩⟩
   ·rw[List.getElem?_set_ne (Ne.symm hj)]at e2
    obtain⟨u',r',q⟩:=hl j y v' e1 e2 e3
    refine⟨u',r',?_⟩
    rcases q with ⟨k,e⟩ |⟨k,c,e,z⟩
    ·refine .inl ⟨k,?_⟩
     have:y≠x:=fun e=>hj (Jr hN e1 (e▸hi))
     simp[this,e]
    ·exact .inr ⟨k,c,e,z.sameBut hs (eW y c e)⟩
  ·obtain⟨w',z⟩:=I.cell y c e
   exact⟨w',z.sameBut hs (eW y c e)⟩
  ·obtain⟨e,n,ne,nf,d⟩:=I.pin p hp
   exact⟨(hs.2 p.1 ne).trans e,n,ne,nf,d⟩
 ·have fj:X.fn x=true:=by
   rcases hf with z |z
   ·exact z
   ·rw[z]at hk;cases hk
  obtain⟨c,hc⟩:=I.ok.has x (.inl hk)
  obtain⟨w',z⟩:=I.cell x c hc
  refine wpAny_storeName_cell I.ok.kind hk hc z (fun h' aQ hs=> ?_)
  obtain⟨oc,wO,CQ⟩:=id z
  refine h {s with heap:=h'} ⟨I.ok,I.os,I.bare,⟨fun b o e n hb hx=> ?_,fun b o e n hb hx=> ?_,I.base.free,fun b o e hx=> ?_,I.base.dX,I.base.dN,I.base.dB⟩,⟨m,hn.sameBut hs (Ne.symm (eW x c hc)),fun j y v' e1 e2 e3=> ?_⟩,fun y c' e=> ?_,I.free,I.dP,fun p hp=> ?_,tracked ⟨oc,wO,I.dP x c hc⟩ hs,by simpa using I.len⟩ ⟨c,hs,.inr hc⟩
  ·exact(hs.2 b (Nat.ne_of_lt (Nat.lt_of_lt_of_le (Heap.lt_size e) (I.ok.iF x c fj hc)))).trans (I.base.keep b o e n hb hx)
  ·obtain⟨sl,e1⟩:=I.base.slot b o e n hb hx
   exact⟨sl,(hs.2 b (Nat.ne_of_lt (Nat.lt_of_lt_of_le (Heap.lt_size e) (I.ok.iF x c fj hc)))).trans e1⟩
  ·obtain⟨o',e1⟩:=I.base.there b o e hx
   exact⟨o',(hs.2 b (Nat.ne_of_lt (Nat.lt_of_lt_of_le (Heap.lt_size e) (I.ok.iF x c fj hc)))).trans e1⟩
  ·by_cases hj:j=i
   ·subst hj
    rw[hi]at e1;cases e1
    rw[List.getElem?_set_self xc]at e2
    cases e2
    exact⟨u,r,.inr ⟨.inl hk,c,hc,aQ⟩⟩
   ·rw[List.getElem?_set_ne (Ne.symm hj)]at e2
    obtain⟨u',r',q⟩:=hl j y v' e1 e2 e3
    refine⟨u',r',?_⟩
    rcases q with q |⟨k,c',e,z'⟩
    ·exact .inl q
    ·refine .inr ⟨k,c',e,z'.sameBut hs ?_⟩
     rintro rfl
     exact hj (Jr hN e1 (I.ok.inj _ _ _ e hc▸hi))
  ·by_cases fQ:c'=c
   ·subst fQ;exact⟨_,aQ⟩
   ·obtain⟨w2,z2⟩:=I.cell y c' e
    exact⟨w2,z2.sameBut hs fQ⟩
  ·obtain⟨e,n,ne,nf,d⟩:=I.pin p hp
   refine⟨(hs.2 p.1 ?_).trans e,n,ne,nf,d⟩
   intro q
   rw[q,wO]at e
   have q':oc=p.2:=Option.some.inj e
   exact d w' (by rw[←q'];exact CQ)
theorem ZV {M:Model}{A:Around}{E:Value→Shared→Prop}{i:Nat}{x:Str}{v:V}{u:Value}{Q:Unit→Shared→Prop}(I:Inv X pins σ H s) (hN:X.N.Nodup) (hi:X.N[i]? =some x) (hx:Loc X.env.scope x) (r:RelV v u)
  (h:∀s',Inv X pins (σ.set i (some v)) H s'→Q () s') (hf:X.fn x=true∨X.env.scope.names.lookup x=some .local:=by first |exact .inl rfl |exact .inr rfl |assumption):wpAny M A (storeName X.env x u) Q E s:=
 JL I hN hi hx r (fun s' I' _=>h s' I') hf
theorem Inv.yn {s':Shared}{ch:List Addr}(I:Inv X pins σ H s) (ho:s'.os=s.os) (u:Un (aG X.stack) ch H H' s.heap s'.heap) (ah:bg X.prog X.w H' s'.heap) (hg:AllBare s'.gens)
  (fP:∀b∈ch,(b∈X.ex∨X.bw.heap.objs.size≤b)∧b≠X.env.locals∧(∀x c,X.env.cells.lookup x=some c→c≠b)∧∀p∈X.pn++pins,p.1≠b):Inv X pins σ H' s':=by
 obtain⟨h',g',d',t',o'⟩:=s'
 have e:o'=s.os:=ho
 subst e
 exact I.call (g':=g') (t':=t') (d':=d') u ah hg fP
end
abbrev XK:=Value→Option Addr→Hp→Prop
abbrev St:=List (Option V)
abbrev VK:=V→Hp→Prop
abbrev TE:=St→Hp→VK→Prop
abbrev TT:=St→Hp→(Bool→Hp→Prop)→Prop
abbrev TA:=St→Hp→(List V→Hp→Prop)→Prop
structure Ends where
 nx:St→Hp→Prop
 rt:VK
 bk:St→Hp→Prop:=fun _ _=>False
 ct:St→Hp→Prop:=fun _ _=>False
abbrev TS:=Ends→St→Hp→Prop
def EP (X:Cx) (pins:List (Addr×Obj)) (σ:St) (Q:VK) (u:Value) (s':Shared):Prop:=∃v H',Inv X pins σ H' s'∧RelV v u∧Q v H'
def TP (X:Cx) (pins:List (Addr×Obj)) (σ:St) (Q:Bool→Hp→Prop) (b:Bool) (s':Shared):Prop:=∃H',Inv X pins σ H' s'∧Q b H'
def AP (X:Cx) (pins:List (Addr×Obj)) (σ:St) (Q:List V→Hp→Prop) (us:List Value) (s':Shared):Prop:=∃vs H',Inv X pins σ H' s'∧Vals vs us∧Q vs H'
def SP (X:Cx) (pins:List (Addr×Obj)) (D:Ends) (f:Flow) (s':Shared):Prop:=
 match f with
 | .next=> ∃aj H',Inv X pins aj H' s'∧D.nx aj H'
 | .brk=> ∃aj H',Inv X pins aj H' s'∧D.bk aj H'
 | .cont=> ∃aj H',Inv X pins aj H' s'∧D.ct aj H'
 | .ret u=> ∃v aj H',Inv X pins aj H' s'∧RelV v u∧D.rt v H'
def PE (X:Cx) (e:Expr) (t:TE):Prop:=
 ∀(pins:List (Addr×Obj)) (s:Shared) (σ:St) (H:Hp) (Q:VK),Inv X pins σ H s→t σ H Q→wpAny (model X.prog X.w) X.A (eval e X.env) (EP X pins σ Q) X.xe s
def PT (X:Cx) (e:Expr) (t:TT):Prop:=
 ∀(pins:List (Addr×Obj)) (s:Shared) (σ:St) (H:Hp) (Q:Bool→Hp→Prop),Inv X pins σ H s→t σ H Q→wpAny (model X.prog X.w) X.A (isTrue e X.env (eval e X.env)) (TP X pins σ Q) X.xe s
def PW (X:Cx) (e:Expr) (t:TT):Prop:=
 ∀(whole:Sem Value) (pins:List (Addr×Obj)) (s:Shared) (σ:St) (H:Hp) (Q:Bool→Hp→Prop),Inv X pins σ H s→t σ H Q→wpAny (model X.prog X.w) X.A (isTrue e X.env whole) (TP X pins σ Q) X.xe s
theorem PW.pt {X:Cx}{e:Expr}{t:TT}(h:PW X e t):PT X e t:=h _
def PA (X:Cx) (es:List Expr) (t:TA):Prop:=
 ∀(pos:Pos) (pins:List (Addr×Obj)) (s:Shared) (σ:St) (H:Hp) (Q:List V→Hp→Prop),Inv X pins σ H s→t σ H Q→wpAny (model X.prog X.w) X.A (spliced (backTo pos (starEach es X.env))) (AP X pins σ Q) X.xe s
def PS (X:Cx) (st:Stmt) (t:TS):Prop:=
 ∀(pins:List (Addr×Obj)) (s:Shared) (σ:St) (H:Hp) (D:Ends),Inv X pins σ H s→t D σ H→wpAny (model X.prog X.w) X.A (exec st X.env) (SP X pins D) X.xe s
def cW (X:Cx) (st:List Stmt) (t:TS):Prop:=
 ∀(pins:List (Addr×Obj)) (s:Shared) (σ:St) (H:Hp) (D:Ends),Inv X pins σ H s→t D σ H→wpAny (model X.prog X.w) X.A (execs st X.env) (SP X pins D) X.xe s
theorem aq {α:Type}{t:Sem α}{Q Q':α→Shared→Prop}{M:Model}{A:Around}{E:Value→Shared→Prop}{s:Shared}(h:wpAny M A t Q E s) (hQ:∀a s,Q a s→Q' a s):wpAny M A t Q' E s:=wpAny_mono h hQ fun _ _ x=>x
section
variable {X:Cx}
def gN (i:Nat):TE:=fun σ H Q=> ∃v,σ[i]? =some (some v)∧Q v H
def tC (v:V):TE:=fun _ H Q=>Q v H
theorem Jn {i:Nat}{x:Str}{pos:Pos}(hN:X.N[i]? =some x) (hv:mJ X.env.scope x) (hd:(x==("__debug__" :Str))=false:=by decide) (bP:(x==("__classdict__" :Str))=false:=by decide):PE X (.Name x pos) (gN i):=by
 intro pins s σ H Q I h
 obtain⟨v,e,h⟩:=h
 obtain⟨m,hn,hl⟩:=I.loc
 obtain⟨u,r,l⟩:=hl i x v hN e hv
 have fin:EP X pins σ Q u s:=⟨v,H,I,r,h⟩
 rcases l with ⟨hk,hm⟩ |⟨hk,c,hc,iq⟩
 ·exact wpAny_Name (wpAny_loadName_local I.ok.kind hk hn hm fin) hd
 ·rcases hk with hk |hk
  ·exact wpAny_Name (wpAny_loadName_cell I.ok.kind hk hc iq fin) hd
  ·exact wpAny_Name (wpAny_loadName_free I.ok.kind hk hc iq fin bP) hd
theorem Zh {i j pos} :PE X (.Constant (.int i) j pos) (tC (.int i)):=fun _ _ _ H _ I h=>wpAny_Constant_int ⟨.int i,H,I.tok _,⟨_,rfl⟩,h⟩
theorem yz {b j pos} :PE X (.Constant (.bool b) j pos) (tC (.bl b)):=fun _ _ _ H _ I h=>Constant_bool ⟨.bl b,H,I,rfl,h⟩
theorem ZX {j pos} :PE X (.Constant .none j pos) (tC .aa):=fun _ _ _ H _ I h=>Constant_none ⟨.aa,H,I,rfl,h⟩
theorem Yw {x j pos} :PE X (.Constant (.str x) j pos) (tC (.str x)):=fun _ _ _ H _ I h=>Calls.Constant_str ⟨.str x,H,I.tok _,⟨_,rfl⟩,h⟩
def Gl (X:Cx) (x:Str):Prop:=X.env.kindOf x=some .globalImplicit
theorem YE {E:Value→Shared→Prop}{pins:List (Addr×Obj)}{s:Shared}{σ:St}{H:Hp}{x:Str}{u:Value}{pos:Pos}{Q:Value→Shared→Prop}(I:Inv X pins σ H s) (hg:Gl X x) (hm:X.mg x=some u) (h:Q u s)
  (hd:(x==("__debug__" :Str))=false:=by decide):wpAny (model X.prog X.w) X.A (eval (.Name x pos) X.env) Q E s:=
 Calls.Name_function_global I.ok.kind hg (Calls.loadGlobal_global (by rw[I.ok.glob];exact I.mod.glob.keeps I.bk) hm h) hd
theorem YO {E:Value→Shared→Prop}{pins:List (Addr×Obj)}{s:Shared}{σ:St}{H:Hp}{x:Str}{u:Value}{pos:Pos}{Q:Value→Shared→Prop}(I:Inv X pins σ H s) (hg:Gl X x) (hm:X.mg x=none) (hv:bootBuiltins x=some u) (h:Q u s)
  (hn:x≠ "__name__" :=by decide) (hd:(x==("__debug__" :Str))=false:=by decide):wpAny (model X.prog X.w) X.A (eval (.Name x pos) X.env) Q E s:=by
 obtain⟨mb,h1,h2⟩:=I.mod.blt
 exact Calls.Name_function_global I.ok.kind hg (Calls.loadGlobal_builtin (by rw[I.ok.glob];exact I.mod.glob.keeps I.bk) hm (by rw[I.ok.blt];exact h1.keeps I.bk) ((h2 x hn).trans hv) h) hd
theorem ZH {x:Str}{v:V}{u:Value}{pos:Pos}(hg:Gl X x) (hm:X.mg x=some u) (r:RelV v u) (hd:(x==("__debug__" :Str))=false:=by decide):PE X (.Name x pos) (tC v):=
 fun _ _ _ H _ I h=>YE I hg hm ⟨v,H,I,r,h⟩ hd
theorem Zv {x:Str}{v:V}{u:Value}{pos:Pos}(hg:Gl X x) (hm:X.mg x=none) (hv:bootBuiltins x=some u) (r:RelV v u) (hn:x≠ "__name__" :=by decide) (hd:(x==("__debug__" :Str))=false:=by decide):PE X (.Name x pos) (tC v):=
 fun _ _ _ H _ I h=>YO I hg hm hv ⟨v,H,I,r,h⟩ hn hd
variable {a b:Expr}{ta tb:TE}{pos:Pos}
def PC (X:Cx) (op:CmpOp) (a b:Expr) (t:TE):Prop:=
 ∀(pins:List (Addr×Obj)) (s:Shared) (σ:St) (H:Hp) (Q:VK),Inv X pins σ H s→t σ H Q→
  wpAny (model X.prog X.w) X.A (eval a X.env) (fun v aA=>wpAny (model X.prog X.w) X.A (eval b X.env) (fun u pP=>wpAny (model X.prog X.w) X.A (compareOp op v u) (EP X pins σ Q) X.xe pP) X.xe aA) X.xe s
theorem BB (b:Expr) {op:CmpOp}(h:op≠.In) (h2:op≠.NotIn):behindInMarks op b=false:=by
 have e1:(op==CmpOp.In)=false:=by cases op<;>first |rfl |exact absurd rfl h
 have e2:(op==CmpOp.NotIn)=false:=by cases op<;>first |rfl |exact absurd rfl h2
 cases b<;>simp[behindInMarks,e1,e2]
def zX (ta:TE):TE:=fun σ H Q=>ta σ H fun x H1=>Q (.bl (!decide (x=.aa))) H1
theorem RelV.Bv {x:V}{v:Value}(r:RelV x v):(v==Value.none)=decide (x=.aa):=by
 cases x with
 |aa=>cases r;rfl
 |bl _=>cases r;rfl
 |int _=>obtain⟨t,rfl⟩:=r;rfl
 |str _=>obtain⟨t,rfl⟩:=r;rfl
 |eX _=>obtain⟨t,rfl⟩:=r;rfl
 |fq _=>obtain⟨t,rfl⟩:=r;rfl
 |ref _=>cases r;rfl
 |ty _=>cases r;rfl
theorem YB {j pos'} (ha:PE X a ta):PC X .IsNot a (.Constant .none j pos') (zX ta):=by
 intro pins s σ H Q I h
 refine aq (ha pins s σ H _ I h) fun v s1 ⟨x,H1,I1,r1,q1⟩=> ?_
 exact Constant_none (isnot_none_gen ⟨.bl _,H1,I1,by rw[r1.Bv];rfl,q1⟩)
def tB (t:TE):TT:=fun σ H Q=>t σ H fun x H1=> ∃c,x=.bl c∧Q c H1
theorem Y6 {op:CmpOp}{t:TE}(h:PC X op a b t) (h1:behindInMarks op b=false:=by first |exact BB _ (by decide) (by decide) |rfl):PT X (.Compare a [op] [b] pos) (tB t):=by
 intro pins s σ H Q I hw
 refine wpAny_isTrue_Compare1 (aq (h pins s σ H _ I hw) fun v s1 h1=>aq h1 fun u s2 h2=>aq h2 fun c s3 ⟨x,H1,I1,r1,q1⟩=> ?_) h1
 obtain⟨d,rfl,q⟩:=q1
 cases r1
 exact wpAny_truthy_bool ⟨H1,I1,q⟩
theorem ZL {e:Expr}{t:TE}(h:PE X e t) (he:∀whole,isTrue e X.env whole=(do let v ←whole;standAt e.pos;holding [v] (truthy v)):=by intro _;rfl):PT X e (tB t):=by
 intro pins s σ H Q I hw
 refine isTrue_plain (aq (h pins s σ H _ I hw) fun v s1 ⟨x,H1,I1,r1,q1⟩=> ?_) (he _)
 obtain⟨d,rfl,q⟩:=q1
 cases r1
 exact wpAny_truthy_bool ⟨H1,I1,q⟩
variable {tA nC:TT}{rest:List Expr}
def Aj (t u:TT):TT:=fun σ H Q=>t σ H fun c H1=>if c=true then u σ H1 Q else Q false H1
def zV (t u:TT):TT:=fun σ H Q=>t σ H fun c H1=>if c=true then Q true H1 else u σ H1 Q
def zY (t:TT):TT:=fun σ H Q=>t σ H fun c H1=>Q (!c) H1
theorem G8 (ha:PT X a tA):PW X (.BoolOp .And [a] pos) tA:=by
 intro wh pins s σ H Q I h
 refine isTrue_and (aq (ha pins s σ H Q I h) fun c s1 e=> ?_)
 cases c with
 |true=>exact isTrue_and_nil e
 |false=>exact e
theorem Z7 (ha:PT X a tA):PW X (.BoolOp .Or [a] pos) tA:=by
 intro wh pins s σ H Q I h
 refine isTrue_or (aq (ha pins s σ H Q I h) fun c s1 e=> ?_)
 cases c with
 |false=>exact isTrue_or_nil e
 |true=>exact e
theorem Fp (ha:PT X a tA) (hb:PW X (.BoolOp .And (b::rest) pos) nC):PW X (.BoolOp .And (a::b::rest) pos) (Aj tA nC):=by
 intro wh pins s σ H Q I h
 refine isTrue_and (aq (ha pins s σ H _ I h) fun c s1 ⟨H1,I1,q1⟩=> ?_)
 cases c with
 |true=>exact hb wh pins s1 σ H1 Q I1 q1
 |false=>exact⟨H1,I1,q1⟩
theorem Yj (ha:PT X a tA) (hb:PW X (.BoolOp .Or (b::rest) pos) nC):PW X (.BoolOp .Or (a::b::rest) pos) (zV tA nC):=by
 intro wh pins s σ H Q I h
 refine isTrue_or (aq (ha pins s σ H _ I h) fun c s1 ⟨H1,I1,q1⟩=> ?_)
 cases c with
 |true=>exact⟨H1,I1,q1⟩
 |false=>exact hb wh pins s1 σ H1 Q I1 q1
theorem ZS (ha:PT X a tA):PT X (.UnaryOp .Not a pos) (zY tA):=by
 intro pins s σ H Q I h
 exact isTrue_not (ha pins s σ H (fun c H1=>Q (!c) H1) I h)
def Ai (ta tb:TE):TE:=fun σ H Q=>ta σ H fun x H1=> ∃c,x=.bl c∧if c=true then tb σ H1 Q else Q (.bl false) H1
def zW (ta:TE):TE:=fun σ H Q=>ta σ H fun x H1=> ∃c,x=.bl c∧Q (.bl (!c)) H1
theorem Ye {op}{t:TE}(h:PE X a t):PE X (.BoolOp op [a] pos) t:=fun pins s σ H Q I hw=>BoolOp_one (h pins s σ H Q I hw)
theorem Yf (ha:PE X a ta) (hb:PE X (.BoolOp .And (b::rest) pos) tb):PE X (.BoolOp .And (a::b::rest) pos) (Ai ta tb):=by
 intro pins s σ H Q I h
 refine BoolOp_and (aq (ha pins s σ H _ I h) fun v s1 ⟨x,H1,I1,r1,q1⟩=> ?_)
 obtain⟨c,rfl,q1⟩:=q1
 cases r1
 refine wpAny_truthy_bool ?_
 cases c with
 |true=>exact hb pins s1 σ H1 Q I1 q1
 |false=>exact⟨.bl false,H1,I1,rfl,q1⟩
theorem F9 (ha:PE X a ta):PE X (.UnaryOp .Not a pos) (zW ta):=by
 intro pins s σ H Q I h
 refine UnaryOp_ (aq (ha pins s σ H _ I h) fun v s1 ⟨x,H1,I1,r1,q1⟩=> ?_)
 obtain⟨c,rfl,q1⟩:=q1
 cases r1
 exact not_of (wpAny_truthy_bool ⟨.bl (!c),H1,I1,rfl,q1⟩)
def Aa (t:TT) (ta tb:TE):TE:=fun σ H Q=>t σ H fun c H1=>if c=true then ta σ H1 Q else tb σ H1 Q
theorem UX {c:Expr}(hc:PT X c tA) (ha:PE X a ta) (hb:PE X b tb):PE X (.IfExp c a b pos) (Aa tA ta tb):=by
 intro pins s σ H Q I h
 refine wpAny_IfExp (aq (hc pins s σ H _ I h) fun d s1 ⟨H1,I1,q1⟩=> ?_)
 cases d with
 |true=>exact ha pins s1 σ H1 Q I1 q1
 |false=>exact hb pins s1 σ H1 Q I1 q1
end
def af (K:PySem.W.Frag) (H:Hp) (a:Addr) (xs:List V):Prop:=
 Rd H a (.lst xs)∨
  ∃(o:Obj) (its:Array Value) (n:Nat),K.lookup a=some o∧o.cls=.type "list" ∧o.dict=none∧o.data=.seq its n∧its.size≤sizeLine∧Vals xs its.toList
def ai (K:PySem.W.Frag) (H:Hp) (a:Addr) (xs:List V):Prop:=
 Rd H a (.tup xs)∨
  (∃(o:Obj) (its:Array Value) (n:Nat),K.lookup a=some o∧o.cls=.type "tuple" ∧o.data=.seq its n∧its.size≤sizeLine∧Vals xs its.toList)∨H a=some (.par xs)
def Fj:Value→Option V
 | .none=>some .aa
 | .bool b=>some (.bl b)
 | .int i _=>some (.int i)
 | .str x _=>some (.str x)
 | .bytes b _=>some (.eX b)
 | .float b _=>some (.fq b)
 | .ref a=>some (.ref a)
 | .type n=>some (.ty n)
 |_=>none
theorem RelV.abs {x:V}{u:Value}(r:RelV x u):Fj u=some x:=by
 cases x with
 |aa=>cases r;rfl
 |bl _=>cases r;rfl
 |int _=>obtain⟨t,rfl⟩:=r;rfl
 |str _=>obtain⟨t,rfl⟩:=r;rfl
 |eX _=>obtain⟨t,rfl⟩:=r;rfl
 |fq _=>obtain⟨t,rfl⟩:=r;rfl
 |ref _=>cases r;rfl
 |ty _=>cases r;rfl
theorem RelV.inj {x y:V}{u:Value}(r:RelV x u) (q:RelV y u):x=y:=Option.some.inj (r.abs.symm.trans q.abs)
theorem Vals.inj:∀{xs ys:List V}{us:List Value},Vals xs us→Vals ys us→xs=ys
 |_,_,_,.nil,.nil=>rfl
 |_,_,_,.cons r t,.cons r' t'=>by rw[r.inj r',Vals.inj t t']
section
variable {X:Cx}{pins:List (Addr×Obj)}{σ:St}{H:Hp}{s:Shared}{a:Addr}{xs ys:List V}
theorem af.of {K:PySem.W.Frag}(h:H a=some (.lst xs)):af K H a xs:=.inl (.inl h)
theorem ai.of {K:PySem.W.Frag}(h:H a=some (.tup xs)):ai K H a xs:=.inl (.inl h)
theorem ai.lu {K:PySem.W.Frag}(h:H a=some (.par xs)):ai K H a xs:=.inr (.inr h)
theorem Inv.list (I:Inv X pins σ H s) (h:af X.K H a xs):∃its:List Value,Vals xs its∧PlainL s.heap a its.toArray∧xs.length≤sizeLine:=by
 rcases h with h |⟨o,its,n,hk,hc,hd,hs,hz,r⟩
 ·obtain⟨z,its,n,r,e⟩:=h.ok I.ah
  exact⟨its,r,⟨_,n,e,rfl,rfl,rfl⟩,z⟩
 ·refine⟨its.toList,r,⟨o,n,I.bc a o hk,hc,hd,by simpa using hs⟩,?_⟩
  have e:=r.length
  simp only[Array.length_toList]at e
  omega
theorem Inv.tuple (I:Inv X pins σ H s) (h:ai X.K H a xs):∃its:List Value,Vals xs its∧IsTup s.heap a its.toArray∧xs.length≤sizeLine:=by
 rcases h with h |⟨o,its,n,hk,hc,hs,hz,r⟩ |h
 ·obtain⟨z,its,r,p,_⟩:=h.ok I.ah
  exact⟨its,r,p,z⟩
 rotate_left
 ·obtain⟨z,its,r,p⟩:=(show aU X.prog X.w H s.heap a (.par xs) from I.ah a _ h)
  exact⟨its,r,p,z⟩
 ·refine⟨its.toList,r,⟨o,I.bc a o hk,hc,n,by simpa using hs⟩,?_⟩
  have e:=r.length
  simp only[Array.length_toList]at e
  omega
theorem Inv.rE (I:Inv X pins σ H s) (h:af X.K H a xs) (h':af X.K H a ys):xs=ys:=by
 obtain⟨its,r,⟨o,n,e,_,_,d⟩,_⟩:=I.list h
 obtain⟨its',r',⟨o',n',e',_,_,d'⟩,_⟩:=I.list h'
 rw[e]at e';cases e'
 rw[d]at d'
 injection d' with d1 _
 have:its=its':=by simpa using congrArg Array.toList d1
 subst this
 exact r.inj r'
theorem Inv.nu (I:Inv X pins σ H s) (h:ai X.K H a xs) (h':ai X.K H a ys):xs=ys:=by
 obtain⟨its,r,⟨o,e,_,n,d⟩,_⟩:=I.tuple h
 obtain⟨its',r',⟨o',e',_,n',d'⟩,_⟩:=I.tuple h'
 rw[e]at e';cases e'
 rw[d]at d'
 injection d' with d1 _
 have:its=its':=by simpa using congrArg Array.toList d1
 subst this
 exact r.inj r'
end
abbrev Cx.eO (X:Cx) (E:Value→Shared→Prop):Cx:= {X with xe:=E}
abbrev Cx.cu (X:Cx):Cx:=X.eO fun _ _=>False
theorem Cx.Ok.eO {X:Cx}(ok:X.Ok) (E:Value→Shared→Prop):(X.eO E).Ok:=
 ⟨ok.mod,ok.kind,ok.glob,ok.blt,ok.above,ok.inj,ok.has,ok.iF,ok.hd,ok.frames,ok.jG,ok.ki,ok.bs,ok.fU,ok.i0,ok.jm,ok.cE,ok.eU⟩
theorem Cx.Ok.fY {X:Cx}{E:Value→Shared→Prop}(ok:(X.eO E).Ok):X.Ok:=
 ⟨ok.mod,ok.kind,ok.glob,ok.blt,ok.above,ok.inj,ok.has,ok.iF,ok.hd,ok.frames,ok.jG,ok.ki,ok.bs,ok.fU,ok.i0,ok.jm,ok.cE,ok.eU⟩
section
variable {X:Cx}{pins:List (Addr×Obj)}{σ:St}{H:Hp}{s:Shared}{E:Value→Shared→Prop}
theorem Inv.eO (I:Inv X pins σ H s) (E:Value→Shared→Prop):Inv (X.eO E) pins σ H s:=⟨I.ok.eO E,I.os,I.bare,I.base,I.loc,I.cell,I.free,I.dP,I.pin,I.ah,I.len⟩
theorem Inv.fY (I:Inv (X.eO E) pins σ H s):Inv X pins σ H s:=⟨I.ok.fY,I.os,I.bare,I.base,I.loc,I.cell,I.free,I.dP,I.pin,I.ah,I.len⟩
theorem SP.fY {D:Ends}{f:Flow}{s':Shared}(h:SP (X.eO E) pins D f s'):SP X pins D f s':=by
 cases f with
 |next=>obtain⟨aj,H',I,q⟩:=h;exact⟨aj,H',I.fY,q⟩
 |brk=>obtain⟨aj,H',I,q⟩:=h;exact⟨aj,H',I.fY,q⟩
 |cont=>obtain⟨aj,H',I,q⟩:=h;exact⟨aj,H',I.fY,q⟩
 |ret u=>obtain⟨v,aj,H',I,r,q⟩:=h;exact⟨v,aj,H',I.fY,r,q⟩
theorem cW.cu {st:List Stmt}{t:TS}(h:cW X.cu st t):cW X st t:=fun pins s σ H D I hw=>
 wpAny_mono (h pins s σ H D (I.eO _) hw) (fun _ _ q=>q.fY) fun _ _ z=>False.elim z
end
section
variable {X:Cx}{st:Stmt}{rest:List Stmt}{t u:TS}{e:Expr}{te:TE}{pos:Pos}
def pN:TS:=fun D σ H=>D.nx σ H
def nz (t u:TS):TS:=fun D σ H=>t {D with nx:=u D} σ H
theorem Zu:cW X [] pN:=fun _ _ σ H _ I h=>wpAny_execs_nil ⟨σ,H,I,h⟩
theorem Zd (h1:PS X st t) (h2:cW X rest u):cW X (st::rest) (nz t u):=by
 intro pins s σ H D I h
 refine wpAny_execs_cons (aq (h1 pins s σ H {D with nx:=u D} I h) fun f s1 q=> ?_)
 cases f with
 |next=>
  obtain⟨aj,H',I',q⟩:=q
  exact h2 pins s1 aj H' D I' q
 |ret v=>exact q
 |brk=>exact q
 |cont=>exact q
theorem Zk (h1:PS X st t):cW X [st] t:=by
 intro pins s σ H D I h
 refine wpAny_execs_cons (aq (h1 pins s σ H D I h) fun f s1 q=> ?_)
 cases f with
 |next=>exact wpAny_execs_nil q
 |ret v=>exact q
 |brk=>exact q
 |cont=>exact q
theorem Inv.quiet {pins:List (Addr×Obj)}{σ:St}{H:Hp}{s:Shared}(I:Inv X pins σ H s):interactive X.env=false:=by simp[interactive,I.ok.kind]
def Ae (te:TE):TS:=fun D σ H=>te σ H fun _ H1=>D.nx σ H1
theorem ZO (he:PE X e te) (hs:swapsWith e none pos.line X.env=pure false:=by rfl):PS X (.Expr e pos) (Ae te):=by
 intro pins s σ H D I h
 exact wpAny_Expr_any (aq (he pins s σ H _ I h) fun v s1 ⟨x,H1,I1,r1,q1⟩=> ⟨σ,H1,I1,q1⟩) I.quiet hs
def zP (te:TE):TS:=fun D σ H=>te σ H D.rt
theorem ZB (he:PE X e te):PS X (.Return (some e) pos) (zP te):=by
 intro pins s σ H D I h
 exact wpAny_Return_some (aq (he pins s σ H _ I h) fun v s1 ⟨x,H1,I1,r1,q1⟩=> ⟨x,σ,H1,I1,r1,q1⟩)
def z9 (c:TT) (t u:TS):TS:=fun D σ H=>c σ H fun b H1=>if b=true then t D σ H1 else u D σ H1
theorem ZM {c:Expr}{a b:List Stmt}{tc:TT}(hc:PT X c tc) (ha:cW X a t) (hb:cW X b u):PS X (.If c a b pos) (z9 tc t u):=by
 intro pins s σ H D I h
 refine wpAny_If (aq (hc pins s σ H _ I h) fun d s1 ⟨H1,I1,q1⟩=> ?_)
 cases d with
 |true=>exact ha pins s1 σ H1 D I1 q1
 |false=>exact hb pins s1 σ H1 D I1 q1
def zZ:TS:=fun _ _ _=>False
theorem Zr {An:List Stmt} :cW X An zZ:=fun _ _ _ _ _ _ h=>h.elim
end
abbrev TG:=V→St→Hp→(St→Hp→Prop)→Prop
abbrev jt:=List V→St→Hp→(St→Hp→Prop)→Prop
def PG (X:Cx) (target:Expr) (t:TG):Prop:=
 ∀(pins:List (Addr×Obj)) (s:Shared) (σ:St) (H:Hp) (v:V) (u:Value) (Q:St→Hp→Prop),Inv X pins σ H s→RelV v u→t v σ H Q→
  wpAny (model X.prog X.w) X.A (assign target X.env u) (fun _ s'=> ∃aj H',Inv X pins aj H' s'∧Q aj H') X.xe s
def o8 (X:Cx) (ts:List Expr) (t:jt):Prop:=
 ∀(pins:List (Addr×Obj)) (s:Shared) (σ:St) (H:Hp) (vs:List V) (us:List Value) (Q:St→Hp→Prop),Inv X pins σ H s→Vals vs us→t vs σ H Q→
  wpAny (model X.prog X.w) X.A (assignInOrder ((assignEach ts X.env).map (·.2)) us) (fun _ s'=> ∃aj H',Inv X pins aj H' s'∧Q aj H') X.xe s
abbrev t5:=V→V→V→Hp→(Hp→Prop)→Prop
def yR (X:Cx) (t:t5):Prop:=
 ∀(pins:List (Addr×Obj)) (s:Shared) (σ:St) (H:Hp) (o i v:V) (ov iv u:Value) (Q:Hp→Prop),Inv X pins σ H s→RelV o ov→RelV i iv→RelV v u→t o i v H Q→
  wpAny (model X.prog X.w) X.A (setItem ov iv u) (fun _ s'=> ∃H',Inv X pins σ H' s'∧Q H') X.xe s
section
variable {X:Cx}{pos:Pos}
def de (i:Nat):TG:=fun v σ H Q=>Q (σ.set i (some v)) H
theorem ZF {i:Nat}{x:Str}(hN:X.N.Nodup) (hi:X.N[i]? =some x) (hx:Loc X.env.scope x) (hf:X.fn x=true∨X.env.scope.names.lookup x=some .local:=by first |exact .inl rfl |exact .inr rfl |assumption):PG X (.Name x pos) (de i):=by
 intro pins s σ H v u Q I r h
 exact wpAny_assign_Name (ZV I hN hi hx r (fun s' I'=> ⟨_,H,I',h⟩) hf)
def kh:jt:=fun vs σ H Q=>vs=[]∧Q σ H
def fo (t:TG) (u:jt):jt:=fun vs σ H Q=> ∃v r,vs=v::r∧t v σ H fun aj H'=>u r aj H' Q
theorem ZW:o8 X [] kh:=by
 intro pins s σ H vs us Q I r h
 obtain⟨e,h⟩:=h
 subst e
 cases r
 exact assignInOrder_nil ⟨σ,H,I,h⟩
theorem Zt {e:Expr}{es:List Expr}{t:TG}{u:jt}(h1:PG X e t) (h2:o8 X es u)
  (hs:(assignEach (e::es) X.env).map (·.2)=assign e X.env::(assignEach es X.env).map (·.2):=by rfl):o8 X (e::es) (fo t u):=by
 intro pins s σ H vs us Q I r h
 obtain⟨v,vr,e1,h⟩:=h
 subst e1
 cases r with
 |cons r rr=>
  rw[hs]
  refine assignInOrder_cons (aq (h1 pins s σ H _ _ _ I r h) fun _ s1 ⟨jA,H1,I1,q1⟩=> ?_)
  exact h2 pins s1 jA H1 _ _ Q I1 rr q1
def kg (K:PySem.W.Frag) (n:Nat) (t:jt):TG:=fun v σ H Q=> ∃a xs,v=.ref a∧ai K H a xs∧xs.length=n∧t xs σ H Q
theorem Yc {es:List Expr}{k:Nat}{t:jt}{n:Nat}(hc:X.calm=true) (h:o8 X es t)
  (hn:(assignEach es X.env).length=n:=by rfl) (i9:(assignEach es X.env).findIdx? (·.1)=none:=by rfl):PG X (.Tuple es k pos) (kg X.K n t):=by
 intro pins s σ H v u Q I r hw
 obtain⟨a,xs,e1,hq,hl,hw⟩:=hw
 subst e1
 cases r
 obtain⟨its,rv,ht,hz⟩:=I.tuple hq
 refine assign_Tuple_tuple (I.ok.hd hc) ht (by simp[hn,←hl,rv.length]) i9 fun h' hx=> ?_
 have I1:Inv X pins σ H {s with heap:=h'} :=I.kept (t':=s.toks) fun b o e=>hx b o (Nat.ne_of_lt (Heap.lt_size e)) e
 exact h pins _ σ H xs _ Q I1 (by simpa using rv) hw
def Ed (to ti:TE) (t:t5):TG:=fun v σ H Q=>to σ H fun o H1=>ti σ H1 fun i H2=>t o i v H2 fun H3=>Q σ H3
theorem J6 {o i:Expr}{to ti:TE}{t:t5}(ho:PE X o to) (hi:PE X i ti) (hs:yR X t)
    (ha:∀v,assign (.Subscript o i pos) X.env v=(do
      let ov ←holding [v] (eval o X.env)
      let iv ←holding [v,ov] (eval i X.env)
      standAt pos
      holding [v,ov,iv] (setItem ov iv v)
      release [v,ov,iv] []):=by intro _;rfl):PG X (.Subscript o i pos) (Ed to ti t):=by
  intro pins s σ H v u Q I r h
  rw[ha]
  refine wpAny_bind (wpAny_holding (aq (ho pins s σ H _ I h) fun ov s1 ⟨x,H1,I1,r1,q1⟩=> ?_))
  refine wpAny_bind (wpAny_holding (aq (hi pins s1 σ H1 _ I1 q1) fun iv s2 ⟨y,H2,I2,r2,q2⟩=> ?_))
  refine wpAny_bind (wpAny_standAt (wpAny_bind (wpAny_holding (aq (hs pins s2 σ H2 x y v ov iv u _ I2 r1 r2 r q2) fun _ s3 ⟨H3,I3,q3⟩=> ?_))))
  exact wpAny_release ⟨σ,H3,I3,q3⟩
def kH (te:TE) (g:TG):TS:=fun D σ H=>te σ H fun x H1=>g x σ H1 D.nx
theorem Yv {tg e:Expr}{te:TE}{g:TG}(he:PE X e te) (hg:PG X tg g) (hs:swapsWithSole [tg] e pos.line X.env=pure false:=by rfl) (hw:swappedStores [tg] e X.env=pure none:=by rfl)
  (h1:(assignEach [tg] X.env).map (·.2)=[assign tg X.env]:=by rfl):PS X (.Assign [tg] e pos) (kH te g):=by
 intro pins s σ H D I h
 refine wpAny_Assign_stores (aq (he pins s σ H _ I h) fun v s1 ⟨x,H1,I1,r1,q1⟩=> ?_) hs hw
 rw[h1]
 exact aq (hg pins s1 σ H1 x v _ I1 r1 q1) fun _ s2 q=>q
theorem Zs {i:Nat}{x:Str}{e:Expr}{te:TE}{pos':Pos}(hN:X.N.Nodup) (hi:X.N[i]? =some x) (hx:Loc X.env.scope x) (he:PE X e te) (hs:swapsWith e (some (.Name x pos')) pos.line X.env=pure false:=by rfl) (hf:X.fn x=true∨X.env.scope.names.lookup x=some .local:=by first |exact .inl rfl |exact .inr rfl |assumption):
  PS X (.Assign [.Name x pos'] e pos) (kH te (de i)):=by
 intro pins s σ H D I h
 refine wpAny_Assign_Name (aq (he pins s σ H _ I h) fun v s1 ⟨y,H1,I1,r1,q1⟩=> ?_) hs
 exact ZV I1 hN hi hx r1 (fun s2 I2=> ⟨_,H1,I2,q1⟩) hf
def zU (i j:Nat) (ta:TA):TS:=fun D σ H=>ta σ H fun vs H1=> ∃v w,vs=[v,w]∧D.nx ((σ.set i (some v)).set j (some w)) H1
theorem J4 {i j:Nat}{x y:Str}{a b:Expr}{ta:TA}{px py pt:Pos}{kt k2 iV} (hc:X.calm=true) (hN:X.N.Nodup) (hi:X.N[i]? =some x) (hj:X.N[j]? =some y) (sv:i≠j)
  (hx:X.env.scope.names.lookup x=some .local) (hy:X.env.scope.names.lookup y=some .local) (ha:PA X [a,b] ta)
  (hw:swappedStores [.Tuple [.Name x px,.Name y py] kt pt] (.Tuple [a,b] k2 iV) X.env=pure (some [x,y]))
  (hs:swapsWithSole [.Tuple [.Name x px,.Name y py] kt pt] (.Tuple [a,b] k2 iV) pos.line X.env=pure false:=by rfl):
  PS X (.Assign [.Tuple [.Name x px,.Name y py] kt pt] (.Tuple [a,b] k2 iV) pos) (zU i j ta):=by
 intro pins s σ H D I h
 rw[exec_Assign_arm]
 refine wpAny_bind (wpAny_standAt ?_)
 rw[hs]
 refine wpAny_bind (wpAny_pure ?_)
 rw[if_neg (by decide)]
 refine wpAny_bind (Tuple_ (aq (ha _ pins s σ H _ I h) fun us s1 ⟨vs,H1,I1,r1,q1⟩=> ?_))
 obtain⟨v,w,e1,q1⟩:=q1
 subst e1
 obtain⟨u1,u2,rfl,rv,fc⟩:∃u1 u2,us=[u1,u2]∧RelV v u1∧RelV w u2:=by
  cases r1 with
  |cons p q=>
   cases q with
   |cons p' q'=>
    cases q'
    exact⟨_,_,rfl,p,p'⟩
 refine wpAny_newObj_type ?_ (by show 2≤sizeLine;decide)
 have I2:Inv X pins σ H1 {s1 with heap:=s1.heap.push {cls:=.type "tuple",data:=.seq [u1,u2].toArray} } :=I1.kept (t':=s1.toks) fun b o e=>Heap.get?_push_of_some _ e
 rw[hw]
 refine wpAny_bind (wpAny_pure ?_)
 show wpAny (model X.prog X.w) X.A (do rule "assign.swapped-stores";let items ←unpackItems (.ref s1.heap.objs.size) 2 none;assignInOrder [fun v=>bindName X.env y v,fun v=>bindName X.env x v] items.reverse;pure Flow.next) _ _ _
 refine wpAny_bind (wpAny_rule (wpAny_bind (unpackItems_tuple (items:= #[u1,u2]) (I.ok.hd hc) (IsTup.new s1.heap _) fun h' jV=> ?_)))
 have I3:=I2.kept (h':=h') (t':=s1.toks) fun b o e=>jV b o (Nat.ne_of_lt (Heap.lt_size e)) e
 show wpAny _ _ (assignInOrder [fun v=>bindName X.env y v,fun v=>bindName X.env x v] [u2,u1] >>=fun _=>pure Flow.next) _ _ _
 refine wpAny_bind (assignInOrder_cons (wpAny_bindName (ZV I3 hN hj (.inl hy) fc (fun s2 I4=> ?_) (.inr hy))))
 refine assignInOrder_cons (wpAny_bindName (ZV I4 hN hi (.inl hx) rv (fun s3 I5=>assignInOrder_nil (wpAny_pure ?_)) (.inr hx)))
 rw[List.set_comm _ _ (Ne.symm sv)]at I5
 exact⟨_,H1,I5,q1⟩
def zK (c:TT) (tb:TS):TS:=fun D σ H=> ∃W:Nat→St→Hp→Prop,(∃m,W m σ H)∧∀m σ H,W m σ H→
 c σ H fun b H1=>if b=true then ∃N:St→Hp→Prop,(∀aj H',N aj H'→∃m',m'<m∧W m' aj H')∧tb {D with nx:=N,ct:=N,bk:=D.nx} σ H1 else D.nx σ H1
theorem UU {c:Expr}{body:List Stmt}{tc:TT}{tb:TS}(hp:PassesOwn (model X.prog X.w) X.A X.env X.xe) (hc:PT X c tc) (hb:cW X body tb):PS X (.While c body [] pos) (zK tc tb):=by
 intro pins s σ H D I h
 obtain⟨W,⟨m0,w0⟩,turn⟩:=h
 refine wpAny_While (codeAny_whileLoop (fun n s'=> ∃aj H',Inv X pins aj H' s'∧W n aj H') ?_ m0 ⟨σ,H,I,w0⟩)
 rintro n s1 ⟨jA,H1,I1,w1⟩
 refine wpAny_passesOwn hp (aq (hc pins s1 jA H1 _ I1 (turn n jA H1 w1)) fun b s2 ⟨H2,I2,q2⟩=> ?_)
 cases b with
 |true=>
  obtain⟨N,hN,q2⟩:=q2
  rw[if_pos rfl]
  refine wpAny_passesOwn hp (aq (hb pins s2 jA H2 _ I2 q2) fun f s3 q3=> ?_)
  cases f with
  |next=>
   obtain⟨cM,H3,I3,n3⟩:=q3
   obtain⟨m',hm,w3⟩:=hN cM H3 n3
   exact⟨m',hm,cM,H3,I3,w3⟩
  |cont=>
   obtain⟨cM,H3,I3,n3⟩:=q3
   obtain⟨m',hm,w3⟩:=hN cM H3 n3
   exact⟨m',hm,cM,H3,I3,w3⟩
  |brk=>exact q3
  |ret v=>exact q3
 |false=>
  rw[if_neg Bool.false_ne_true]
  exact wpAny_execs_nil ⟨jA,H2,I2,q2⟩
end
structure It where
 go:Nat→Hp→Prop
 kE:Nat→Hp→V→Hp→Prop
 stop:Nat→Hp→Prop
def bE (X:Cx) (pins:List (Addr×Obj)) (H:Hp) (b:Addr):Prop:=
 H b=none∧b≠X.env.locals∧b∉X.fs∧(b∈X.ex∨X.bw.heap.objs.size≤b)∧(∀x c,X.env.cells.lookup x=some c→c≠b)∧∀p∈X.pn++pins,p.1≠b
theorem Inv.jj {X:Cx}{pins:List (Addr×Obj)}{σ:St}{H H':Hp}{s:Shared}{b:Addr}(I:Inv X pins σ H s) (hb:s.heap.objs.size≤b) (hn:H' b=none):bE X pins H' b:=by
 refine⟨hn,Nat.ne_of_gt (Nat.lt_of_lt_of_le I.lt hb),I.Bx hb,.inr (Nat.le_trans I.sz hb),fun x c e z=> ?_,fun p hp z=> ?_⟩
 ·obtain⟨v,q⟩:=I.cell x c e
  exact absurd (Nat.lt_of_lt_of_le q.lt (by rw[z];exact hb)) (Nat.lt_irrefl _)
 ·exact absurd (Nat.lt_of_lt_of_le (Heap.lt_size (I.pin p hp).1) (by rw[z];exact hb)) (Nat.lt_irrefl _)
structure Turn (P:Program) (w:World) (K:PySem.W.Frag) (tg:Expr) (J:It) (fp:List Addr) (it:Addr) (tn:Nat→Heap→Prop):Prop where
 mem:it∈fp
 obj:∀i h,tn i h→∀b∈fp,∃o,h.get? b=some o∧∀v,o.data≠.cell v
 keep:∀i h h',tn i h→(∀b∈fp,∀o,h.get? b=some o→h'.get? b=some o)→tn i h'
 item:∀(X:Cx),X.prog=P→X.w=w→X.K=K→X.calm=true→∀(i:Nat) (pins:List (Addr×Obj)) (s:Shared) (σ:St) (H:Hp) (E:Value→Shared→Prop),Inv X pins σ H s→(∀b∈fp,bE X pins H b)→tn i s.heap→J.go i H→
  wpAny (model P w) X.A (pyNext (.ref it)) (fun r s1=> ∃u,r=some u∧
   wpAny (model P w) X.A (letOwnedTupleGo tg (.ref it) u) (fun _ s2=> ∃x H',Inv X pins σ H' s2∧RelV x u∧J.kE i H x H'∧tn (i+1) s2.heap∧∀b∈fp,H' b=none) E s1) E s
 done:∀(X:Cx),X.prog=P→X.w=w→X.K=K→X.calm=true→∀(i:Nat) (pins:List (Addr×Obj)) (s:Shared) (σ:St) (H:Hp) (E:Value→Shared→Prop),Inv X pins σ H s→(∀b∈fp,bE X pins H b)→tn i s.heap→J.stop i H→
  wpAny (model P w) X.A (pyNext (.ref it)) (fun r s1=>r=none∧Inv X pins σ H s1) E s
 self:∀(A:Around) (i:Nat) (s:Shared) (Q:Value→Shared→Prop) (E:Value→Shared→Prop),tn i s.heap→Q (.ref it) s→wpAny (model P w) A (pyIter (.ref it)) Q E s
abbrev TI:=St→Hp→(It→Hp→Prop)→Prop
def yS (X:Cx) (pins:List (Addr×Obj)) (σ:St) (tg:Expr) (R:It→Hp→Prop) (i5:Value) (s2:Shared):Prop:=
 ∃(it:Addr) (fp:List Addr) (tn:Nat→Heap→Prop) (J:It) (H':Hp),i5=.ref it∧Inv X pins σ H' s2∧Turn X.prog X.w X.K tg J fp it tn∧tn 0 s2.heap∧(∀b∈fp,bE X pins H' b)∧R J H'
def PI (X:Cx) (tg iter:Expr) (wi:TI):Prop:=
 ∀(pins:List (Addr×Obj)) (s:Shared) (σ:St) (H:Hp) (R:It→Hp→Prop),Inv X pins σ H s→wi σ H R→
  wpAny (model X.prog X.w) X.A (eval iter X.env) (fun v s1=>wpAny (model X.prog X.w) X.A (pyIter v) (yS X pins σ tg R) X.xe s1) X.xe s
theorem tX {M:Model}{A:Around}{E:Value→Shared→Prop}{s:Shared}{tg:Expr}{it:Addr}{u:Value}{o:Obj}{n:String}{vs:Array Value}{Q:Unit→Shared→Prop}(ho:s.heap.get? it=some o) (hc:o.cls=.type n) (hd:o.data=.fields vs)
    (hn:["enumerate", "zip", "dict_itemiterator", "dict_reverseitemiterator", "odict_iterator", "itertools.zip_longest", "itertools.pairwise"].contains n=false) (hQ:Q () s):wpAny M A (letOwnedTupleGo tg (.ref it) u) Q E s:=by
  unfold letOwnedTupleGo
  cases tg<;>first
    |exact wpAny_pure hQ
    |(cases u<;>first
        |exact wpAny_pure hQ
        |(refine wpAny_bind (wpAny_load ho ?_)
          rw[hc,hd]
          show wpAny M A (if (["enumerate", "zip", "dict_itemiterator", "dict_reverseitemiterator", "odict_iterator", "itertools.zip_longest", "itertools.pairwise"].contains n&&vs[0]? ==some (rawInt _))=true then _ else _) Q E s
          rw[if_neg (by intro h;rw[hn,Bool.false_and]at h;cases h)]
          exact wpAny_pure hQ))
def kr (K:PySem.W.Frag) (a:Addr):It:=
 ⟨fun i H=> ∃xs x,af K H a xs∧xs[i]? =some x,fun i H x H'=>H'=H∧∀xs,af K H a xs→xs[i]? =some x,fun i H=> ∃xs,af K H a xs∧xs.length≤i⟩
def ug (K:PySem.W.Frag) (a:Addr):It:=
 ⟨fun i H=> ∃xs x,ai K H a xs∧xs[i]? =some x,fun i H x H'=>H'=H∧∀xs,ai K H a xs→xs[i]? =some x,fun i H=> ∃xs,ai K H a xs∧xs.length≤i⟩
def jw (lo:Int) (n:Nat):It:=⟨fun i _=>i<n,fun i H x H'=>H'=H∧x=.int (lo+i),fun i _=>n≤i⟩
theorem Ui {P:Program}{w:World}{K:PySem.W.Frag}{tg:Expr}(a it:Addr):Turn P w K tg (kr K a) [it] it (fun i h=>h.IsListIter it a i) where
 mem:=by simp
 obj:=fun i h st b hb=>by
  have e:b=it:=by simpa using hb
  subst e
  obtain⟨o,e,c,d⟩:=st
  exact⟨o,e,fun v z=>by rw[d]at z;cases z⟩
 keep:=fun i h h' st k=>st.at fun o e=>k it (by simp) o e
 item:=by
  intro X hP hw hK hc i pins s σ H E I hf st hg
  subst hP hw hK
  obtain⟨xs,x,hq,hx⟩:=hg
  obtain⟨its,rv,p,hz⟩:=I.list hq
  obtain⟨u,hu,ru⟩:=rv.get hx
  obtain⟨f0,f1,f2,f3,f4,f5⟩:=hf it (by simp)
  refine wpAny_pyNext_list_item st p.isList (x:=u) (by simpa using hu) fun h' cg sb=> ?_
  have I1:Inv X pins σ H {s with heap:=h'} :=I.turned (t':=s.toks) (fun b o hb e=> (sb.2 b hb).trans e) f0 f1 f3 f4 f5
  obtain⟨o,e,c,d⟩:=id cg
  exact⟨u,rfl,tX (s:= {s with heap:=h'}) e c d (by decide) ⟨x,H,I1,ru,⟨rfl,fun ys hy=>by rw[I.rE hy hq];exact hx⟩,cg,fun b hb=> (hf b hb).1⟩⟩
 done:=by
  intro X hP hw hK hc i pins s σ H E I hf st hg
  subst hP hw hK
  obtain⟨xs,hq,hx⟩:=hg
  obtain⟨its,rv,p,hz⟩:=I.list hq
  obtain⟨f0,f1,f2,f3,f4,f5⟩:=hf it (by simp)
  have hl:=rv.length
  exact wpAny_pyNext_list_end (I.ok.hd hc) st p.isList (by simp;omega) fun h' eb=> ⟨rfl,I.turned (t':=s.toks) (fun b o hb e=>eb b o hb e) f0 f1 f3 f4 f5⟩
 self:=fun _ _ _ _ _ st h=>wpAny_pyIter_listiter st h
theorem WG {P:Program}{w:World}{K:PySem.W.Frag}{tg:Expr}(a it:Addr):Turn P w K tg (ug K a) [it] it (fun i h=>h.IsTupleIter it a i) where
 mem:=by simp
 obj:=fun i h st b hb=>by
  have e:b=it:=by simpa using hb
  subst e
  obtain⟨o,e,c,d⟩:=st
  exact⟨o,e,fun v z=>by rw[d]at z;cases z⟩
 keep:=fun i h h' st k=>st.at fun o e=>k it (by simp) o e
 item:=by
  intro X hP hw hK hc i pins s σ H E I hf st hg
  subst hP hw hK
  obtain⟨xs,x,hq,hx⟩:=hg
  obtain⟨its,rv,p,hz⟩:=I.tuple hq
  obtain⟨u,hu,ru⟩:=rv.get hx
  obtain⟨f0,f1,f2,f3,f4,f5⟩:=hf it (by simp)
  refine wpAny_pyNext_tuple_item st (show s.heap.IsTuple a its.toArray from p) (x:=u) (by simpa using hu) fun h' cg sb=> ?_
  have I1:Inv X pins σ H {s with heap:=h'} :=I.turned (t':=s.toks) (fun b o hb e=> (sb.2 b hb).trans e) f0 f1 f3 f4 f5
  obtain⟨o,e,c,d⟩:=id cg
  exact⟨u,rfl,tX (s:= {s with heap:=h'}) e c d (by decide) ⟨x,H,I1,ru,⟨rfl,fun ys hy=>by rw[I.nu hy hq];exact hx⟩,cg,fun b hb=> (hf b hb).1⟩⟩
 done:=by
  intro X hP hw hK hc i pins s σ H E I hf st hg
  subst hP hw hK
  obtain⟨xs,hq,hx⟩:=hg
  obtain⟨its,rv,p,hz⟩:=I.tuple hq
  obtain⟨f0,f1,f2,f3,f4,f5⟩:=hf it (by simp)
  have hl:=rv.length
  exact wpAny_pyNext_tuple_end (I.ok.hd hc) st (show s.heap.IsTuple a its.toArray from p) (by simp;omega) fun h' eb=> ⟨rfl,I.turned (t':=s.toks) (fun b o hb e=>eb b o hb e) f0 f1 f3 f4 f5⟩
 self:=fun _ _ _ _ _ st h=>wpAny_pyIter_tupleiter st h
theorem WH {P:Program}{w:World}{K:PySem.W.Frag}{tg:Expr}(it:Addr) (lo:Int) (n:Nat):Turn P w K tg (jw lo n) [it] it (fun i h=>IsRangeIter h it (lo+(i:Nat)*1) ((n:Int) - (i:Nat)) 1) where
 mem:=by simp
 obj:=fun i h st b hb=>by
  have e:b=it:=by simpa using hb
  subst e
  exact⟨_,st,fun v z=>by
   have z':Data.fields _=Data.cell v:=z
   cases z'⟩
 keep:=fun i h h' st k=>k it (by simp) _ st
 item:=by
  intro X hP hw hK hc i pins s σ H E I hf st hg
  subst hP hw hK
  obtain⟨f0,f1,f2,f3,f4,f5⟩:=hf it (by simp)
  have W:=Walks.range (prog:=X.prog) (w:=X.w) (I.ok.hd hc) it lo 1 n
  refine W.item i s _ _ hg st fun v h' tk hv cg kk=> ?_
  obtain⟨t,rfl⟩:=hv
  have I1:Inv X pins σ H {s with heap:=h',toks:=tk} :=I.turned (fun b o hb e=>kk b o (by simpa using hb) e) f0 f1 f3 f4 f5
  refine⟨_,rfl,tX (s:= {s with heap:=h',toks:=tk}) (n:= "range_iterator") cg rfl rfl (by decide) ⟨.int (lo+i),H,I1,⟨t,?_⟩,⟨rfl,rfl⟩,cg,fun b hb=> (hf b hb).1⟩⟩
  rw[Int.mul_one]
 done:=by
  intro X hP hw hK hc i pins s σ H E I hf st hg
  subst hP hw hK
  obtain⟨f0,f1,f2,f3,f4,f5⟩:=hf it (by simp)
  exact wpAny_pyNext_range_end (I.ok.hd hc) st (by have:n≤i:=hg;omega) fun h' eb=> ⟨rfl,I.turned (t':=s.toks) (fun b o hb e=>eb b o hb e) f0 f1 f3 f4 f5⟩
 self:=fun _ _ _ _ _ st h=>wpAny_pyIter_rangeiter st h
section
variable {X:Cx}{tg:Expr}
def Cg (K:PySem.W.Frag) (tl:TE):TI:=fun σ H R=>tl σ H fun x H1=> ∃a,x=.ref a∧(∃xs,af K H1 a xs)∧R (kr K a) H1
def Ce (K:PySem.W.Frag) (tl:TE):TI:=fun σ H R=>tl σ H fun x H1=> ∃a,x=.ref a∧(∃xs,ai K H1 a xs)∧R (ug K a) H1
theorem Yo {l:Expr}{tl:TE}(hl:PE X l tl):PI X tg l (Cg X.K tl):=by
 intro pins s σ H R I h
 refine aq (hl pins s σ H _ I h) fun v s1 ⟨x,H1,I1,r1,q1⟩=> ?_
 obtain⟨a,e,⟨xs,hq⟩,q⟩:=q1
 subst e
 cases r1
 obtain⟨its,rv,p,hz⟩:=I1.list hq
 refine wpAny_pyIter_list p.isList ?_
 refine⟨s1.heap.objs.size,[s1.heap.objs.size],_,_,H1,rfl,I1.kept (t':=s1.toks) fun b o e=>Heap.get?_push_of_some _ e,Ui a _,⟨_,Heap.get?_push_size _ rfl,rfl,rfl⟩,fun b hb=> ?_,q⟩
 have e:b=s1.heap.objs.size:=by simpa using hb
 subst e
 exact I1.jj (Nat.le_refl _) (I1.ah.fresh (Nat.le_refl _))
theorem WN {l:Expr}{tl:TE}(hl:PE X l tl):PI X tg l (Ce X.K tl):=by
 intro pins s σ H R I h
 refine aq (hl pins s σ H _ I h) fun v s1 ⟨x,H1,I1,r1,q1⟩=> ?_
 obtain⟨a,e,⟨xs,hq⟩,q⟩:=q1
 subst e
 cases r1
 obtain⟨its,rv,p,hz⟩:=I1.tuple hq
 refine wpAny_pyIter_tuple (show s1.heap.IsTuple a its.toArray from p) ?_
 refine⟨s1.heap.objs.size,[s1.heap.objs.size],_,_,H1,rfl,I1.kept (t':=s1.toks) fun b o e=>Heap.get?_push_of_some _ e,WG a _,⟨_,Heap.get?_push_size _ rfl,rfl,rfl⟩,fun b hb=> ?_,q⟩
 have e:b=s1.heap.objs.size:=by simpa using hb
 subst e
 exact I1.jj (Nat.le_refl _) (I1.ah.fresh (Nat.le_refl _))
theorem UP {pins:List (Addr×Obj)}{σ:St}{H:Hp}{s:Shared}{R:It→Hp→Prop}{E:Value→Shared→Prop}{lo hi:Int}{t u v:Tok}{tk:Nat}(I:Inv X pins σ H s) (h1: -(2^62)≤lo) (h2:lo<2^62) (h3: -(2^62)≤hi) (h4:hi<2^62)
  (q:R (jw lo (hi - lo).toNat) H):wpAny (model X.prog X.w) X.A (pyIter (.ref s.heap.objs.size)) (yS X pins σ tg R) E {s with heap:=s.heap.push {cls:=.type "range",data:=.fields #[.int lo t,.int hi u,.int 1 v]},toks:=tk} :=by
 refine wpAny_pyIter_range (IsRange.new ..) (small_one h1 h2 h3 h4) ?_
 have I1:Inv X pins σ H {s with heap:=s.heap.push {cls:=.type "range",data:=.fields #[.int lo t,.int hi u,.int 1 v]},toks:=tk} :=I.kept fun b o e=>Heap.get?_push_of_some _ e
 refine⟨(s.heap.push {cls:=.type "range",data:=.fields #[.int lo t,.int hi u,.int 1 v]}).objs.size,[(s.heap.push {cls:=.type "range",data:=.fields #[.int lo t,.int hi u,.int 1 v]}).objs.size],_,_,H,rfl,
  I1.kept (t':=tk) fun b o e=>Heap.get?_push_of_some _ e,WH _ lo (hi - lo).toNat,?_,fun b hb=> ?_,q⟩
 ·have e1:lo+((0:Nat):Int)*1=lo:=by simp
  have e2:(((hi - lo).toNat:Nat):Int) - ((0:Nat):Int)=Builtin.Range.rangeSize lo hi 1:=by rw[rangeSize_one];split<;>omega
  show IsRangeIter _ _ (lo+((0:Nat):Int)*1) ((((hi - lo).toNat:Nat):Int) - ((0:Nat):Int)) 1
  rw[e1,e2]
  exact Heap.get?_push_size _ rfl
 ·have e:b=(s.heap.push {cls:=.type "range",data:=.fields #[.int lo t,.int hi u,.int 1 v]}).objs.size:=by simpa using hb
  subst e
  exact I1.jj (Nat.le_refl _) (I1.ah.fresh (Nat.le_refl _))
def Cf (ta:TA):TI:=fun σ H R=>ta σ H fun vs H1=> ∃j:Int,vs=[.int j]∧ -(2^62)≤j∧j<2^62∧R (jw 0 j.toNat) H1
theorem Z9 {a:Expr}{ta:TA}{p pos:Pos}(hg:Gl X "range") (hm:X.mg "range" =none) (ha:PA X [a] ta) (hs:starEach [a] X.env=[(false,eval a X.env)]:=by rfl):PI X tg (.Call (.Name "range" p) [a] [] pos) (Cf ta):=by
 intro pins s σ H R I h
 refine Call_ (YO I hg hm boot_range (PyProof.Rows.callWith_type1 (aq (ha pos pins s σ H _ I h) fun us s1 ⟨vs,H1,I1,r1,q1⟩=> ?_) hs rfl))
 obtain⟨j,e,q1,q2,q⟩:=q1
 subst e
 cases r1 with
 |cons r rr=>
  cases rr
  obtain⟨t,rfl⟩:=r
  exact call_range_1 (UP I1 (by omega) (by omega) q1 q2 (by simpa using q))
def Ac (wi:TI) (g:TG) (tb:TS):TS:=fun D σ H=>wi σ H fun J H1=> ∃W:Nat→Nat→St→Hp→Prop,(∃m,W 0 m σ H1)∧∀i m σ H,W i m σ H→
 (J.stop i H∧D.nx σ H)∨(J.go i H∧∃N:St→Hp→Prop,(∀aj H',N aj H'→∃m',m'<m∧W (i+1) m' aj H')∧∀x H',J.kE i H x H'→g x σ H' fun aN H2=>tb {D with nx:=N,ct:=N,bk:=D.nx} aN H2)
def gk (fp:List Addr) (h:Heap):List (Addr×Obj):=fp.filterMap fun b=> (h.get? b).map fun o=> (b,o)
theorem ZP {fp:List Addr}{h:Heap}{b:Addr}{o:Obj}(hb:b∈fp) (e:h.get? b=some o):(b,o)∈gk fp h:=List.mem_filterMap.mpr ⟨b,hb,by rw[e];rfl⟩
theorem Y8 {fp:List Addr}{h:Heap}{p:Addr×Obj}(hp:p∈gk fp h):p.1∈fp∧h.get? p.1=some p.2:=by
 obtain⟨b,hb,e⟩:=List.mem_filterMap.mp hp
 cases q:h.get? b with
 |none=>rw[q]at e;cases e
 |some o=>
  rw[q]at e
  have e':(b,o)=p:=Option.some.inj e
  subst e'
  exact⟨hb,q⟩
theorem Inv.pinned {pins:List (Addr×Obj)}{σ:St}{H:Hp}{s:Shared}{fp:List Addr}(I:Inv X pins σ H s) (hf:∀b∈fp,bE X pins H b) (ho:∀b∈fp,∃o,s.heap.get? b=some o∧∀v,o.data≠.cell v):Inv X (pins++gk fp s.heap) σ H s:=
 I.vL fun p hp=> (List.mem_append.mp hp).elim (fun z=>I.pin p (List.mem_append_right _ z)) fun z=>by
  obtain⟨hb,e⟩:=Y8 z
  obtain⟨f0,f1,f2,_⟩:=hf p.1 hb
  obtain⟨o,e',d⟩:=ho p.1 hb
  rw[e]at e';cases e'
  exact⟨e,f0,f1,f2,d⟩
theorem Inv.fZ {pins pl:List (Addr×Obj)}{σ:St}{H:Hp}{s:Shared}(I:Inv X (pins++pl) σ H s):Inv X pins σ H s:=I.vL fun p hp=>I.pin p (List.mem_append_right _ (List.mem_append_left _ hp))
theorem Y7 {iter:Expr}{body:List Stmt}{wi:TI}{g:TG}{tb:TS}{pos:Pos}(hp:PassesOwn (model X.prog X.w) X.A X.env X.xe) (hc:X.calm=true) (hi:PI X tg iter wi) (hg:PG X tg g) (hb:cW X body tb)
  (hs:∀x,foldedSetIterable iter X.env x=pure x:=by intro _;rfl):PS X (.For tg iter body [] pos) (Ac wi g tb):=by
 intro pins s σ H D I h
 refine wpAny_For (aq (hi pins s σ H _ I h) fun v s1 h1=>aq h1 fun i5 s2 h2=> ?_) hs
 obtain⟨it,fp,tn,J,H2,e,I2,T,bS,f2,W,⟨m0,w0⟩,turn⟩:=h2
 subst e
 have stat:∀{H':Hp},(∀b∈fp,H' b=none)→∀b∈fp,bE X pins H' b:=fun hn b hb=> ⟨hn b hb,(f2 b hb).2⟩
 refine codeAny_forLoop_any (fun n s'=> ∃i aj H',Inv X pins aj H' s'∧tn i s'.heap∧(∀b∈fp,H' b=none)∧W i n aj H') ?_ m0 ⟨0,σ,H2,I2,bS,fun b hb=> (f2 b hb).1,w0⟩
 rintro n s3 ⟨i,cM,H3,I3,cq,mw,w3⟩
 rcases turn i n cM H3 w3 with ⟨stop,qn⟩ |⟨go,N,hN,step⟩
 ·refine wpAny_passesOwn hp (aq (T.done X rfl rfl rfl hc i pins s3 cM H3 X.xe I3 (stat mw) cq stop) fun r s4 ⟨hr,I4⟩=> ?_)
  subst hr
  exact wpAny_execs_nil ⟨cM,H3,I4,qn⟩
 ·refine wpAny_passesOwn hp (aq (T.item X rfl rfl rfl hc i pins s3 cM H3 X.xe I3 (stat mw) cq go) fun r s4 ⟨u,hr,h4⟩=> ?_)
  subst hr
  refine wpAny_passesOwn hp (aq h4 fun _ s5 ⟨x,H5,I5,r5,y5,dh,tm⟩=> ?_)
  have ui:=I5.pinned (stat tm) (T.obj _ _ dh)
  refine wpAny_passesOwn hp (aq (hg _ s5 cM H5 x u _ ui r5 (step x H5 y5)) fun _ s6 ⟨kB,H6,I6,q6⟩=> ?_)
  refine wpAny_passesOwn hp (aq (hb _ s6 kB H6 _ I6 q6) fun f s7 q7=> ?_)
  have again:∀{cK:St}{H7:Hp},Inv X (pins++gk fp s5.heap) cK H7 s7→N cK H7→∃m,m<n∧∃i aj H',Inv X pins aj H' s7∧tn i s7.heap∧(∀b∈fp,H' b=none)∧W i m aj H':=fun {cK H7} I7 n7=>by
   obtain⟨m',hm,w7⟩:=hN cK H7 n7
   refine⟨m',hm,i+1,cK,H7,I7.fZ,T.keep _ _ _ dh fun b hb o e=> (I7.pin (b,o) (List.mem_append_right _ (List.mem_append_right _ (ZP hb e)))).1,fun b hb=> ?_,w7⟩
   obtain⟨o,e,d⟩:=T.obj _ _ dh b hb
   exact(I7.pin (b,o) (List.mem_append_right _ (List.mem_append_right _ (ZP hb e)))).2.1
  cases f with
  |next=>obtain⟨cK,H7,I7,n7⟩:=q7;exact again I7 n7
  |cont=>obtain⟨cK,H7,I7,n7⟩:=q7;exact again I7 n7
  |brk=>obtain⟨cK,H7,I7,q7⟩:=q7;exact⟨cK,H7,I7.fZ,q7⟩
  |ret v=>obtain⟨x7,cK,H7,I7,r7,q7⟩:=q7;exact⟨x7,cK,H7,I7.fZ,r7,q7⟩
end
theorem Wy {K:PySem.W.Frag}{a:Addr}{xs:List V}{g:TG}{tb:TS}{D:Ends}{σ:St}{H:Hp}(Pv:Nat→St→Hp→Prop) (h0:Pv 0 σ H) (hl:∀i σ H,i≤xs.length→Pv i σ H→af K H a xs)
  (hs:∀i x σ H,xs[i]? =some x→Pv i σ H→g x σ H fun aN H2=>tb {D with nx:=Pv (i+1),ct:=Pv (i+1),bk:=D.nx} aN H2) (hd:∀σ H,Pv xs.length σ H→D.nx σ H):
  ∃W:Nat→Nat→St→Hp→Prop,(∃m,W 0 m σ H)∧∀i m σ H,W i m σ H→
   ((kr K a).stop i H∧D.nx σ H)∨((kr K a).go i H∧∃N:St→Hp→Prop,(∀aj H',N aj H'→∃m',m'<m∧W (i+1) m' aj H')∧∀x H',(kr K a).kE i H x H'→g x σ H' fun aN H2=>tb {D with nx:=N,ct:=N,bk:=D.nx} aN H2):=by
 refine⟨fun i m σ H=>m=xs.length - i∧i≤xs.length∧Pv i σ H,⟨xs.length,by simp,Nat.zero_le _,h0⟩,?_⟩
 rintro i m σ H ⟨rfl,hi,p⟩
 have q:=hl i σ H hi p
 by_cases ar:i<xs.length
 ·refine .inr ⟨⟨xs,xs[i],q,by simp[ar]⟩,Pv (i+1),fun aj H' p'=> ⟨xs.length - (i+1),by omega,rfl,ar,p'⟩,fun x H' y=> ?_⟩
  obtain⟨e,y⟩:=y
  subst e
  exact hs i x σ _ (y xs q) p
 ·have e:i=xs.length:=by omega
  subst e
  exact .inl ⟨⟨xs,q,Nat.le_refl _⟩,hd σ H p⟩
theorem YG {lo:Int}{n:Nat}{g:TG}{tb:TS}{D:Ends}{σ:St}{H:Hp}(Pv:Nat→St→Hp→Prop) (h0:Pv 0 σ H)
  (hs:∀i σ H,i<n→Pv i σ H→g (.int (lo+i)) σ H fun aN H2=>tb {D with nx:=Pv (i+1),ct:=Pv (i+1),bk:=D.nx} aN H2) (hd:∀σ H,Pv n σ H→D.nx σ H):
  ∃W:Nat→Nat→St→Hp→Prop,(∃m,W 0 m σ H)∧∀i m σ H,W i m σ H→
   ((jw lo n).stop i H∧D.nx σ H)∨((jw lo n).go i H∧∃N:St→Hp→Prop,(∀aj H',N aj H'→∃m',m'<m∧W (i+1) m' aj H')∧∀x H',(jw lo n).kE i H x H'→g x σ H' fun aN H2=>tb {D with nx:=N,ct:=N,bk:=D.nx} aN H2):=by
 refine⟨fun i m σ H=>m=n - i∧i≤n∧Pv i σ H,⟨n,by simp,Nat.zero_le _,h0⟩,?_⟩
 rintro i m σ H ⟨rfl,hi,p⟩
 by_cases ar:i<n
 ·refine .inr ⟨ar,Pv (i+1),fun aj H' p'=> ⟨n - (i+1),by omega,rfl,ar,p'⟩,fun x H' y=> ?_⟩
  obtain⟨e,y⟩:=y
  subst e y
  exact hs i σ _ ar p
 ·have e:i=n:=by omega
  subst e
  exact .inl ⟨Nat.le_refl _,hd σ H p⟩
abbrev R2:=V→V→Hp→VK→Prop
def aO (X:Cx) (f:Value→Value→Sem Value) (r:R2):Prop:=
 ∀(pins:List (Addr×Obj)) (s:Shared) (σ:St) (H:Hp) (x y:V) (v u:Value) (Q:VK),Inv X pins σ H s→RelV x v→RelV y u→r x y H Q→
  wpAny (model X.prog X.w) X.A (f v u) (EP X pins σ Q) X.xe s
def tZ (X:Cx) (f:Value→Sem Value) (r:V→Hp→VK→Prop):Prop:=
 ∀(pins:List (Addr×Obj)) (s:Shared) (σ:St) (H:Hp) (x:V) (v:Value) (Q:VK),Inv X pins σ H s→RelV x v→r x H Q→
  wpAny (model X.prog X.w) X.A (f v) (EP X pins σ Q) X.xe s
def cX (X:Cx) (f:Value) (r:List V→Hp→VK→Prop):Prop:=
 ∀(pins:List (Addr×Obj)) (s:Shared) (σ:St) (H:Hp) (xs:List V) (us:List Value) (Q:VK),Inv X pins σ H s→Vals xs us→r xs H Q→
  wpAny (model X.prog X.w) X.A (call f us) (EP X pins σ Q) X.xe s
def fJ (r:R2) (ta tb:TE):TE:=fun σ H Q=>ta σ H fun x H1=>tb σ H1 fun y H2=>r x y H2 Q
def zL (r:V→Hp→VK→Prop) (ta:TE):TE:=fun σ H Q=>ta σ H fun x H1=>r x H1 Q
def rI (C:Int→Int→Prop) (g:Int→Int→V):R2:=fun x y H Q=> ∃i j,x=.int i∧y=.int j∧C i j∧Q (g i j) H
def gY (g:Int→Int→V):R2:=fun x y H Q=> ∃i j,x=.int i∧y=.int j∧Q (g i j) H
def rU (g:Int→V):V→Hp→VK→Prop:=fun x H Q=> ∃i,x=.int i∧Q (g i) H
section
variable {X:Cx}{a b c:Expr}{ta tb tc:TE}{pos:Pos}
theorem tS (ha:PE X a ta) (hb:PE X b tb) {pins:List (Addr×Obj)}{s:Shared}{σ:St}{H:Hp}{R:V→V→Hp→Prop}(I:Inv X pins σ H s)
  (h:ta σ H fun x H1=>tb σ H1 fun y H2=>R x y H2) {Q:Value→Shared→Prop}{f:Value→Value→Sem Value}
  (hf:∀v u s2 x y H2,Inv X pins σ H2 s2→RelV x v→RelV y u→R x y H2→wpAny (model X.prog X.w) X.A (f v u) Q X.xe s2):
  wpAny (model X.prog X.w) X.A (eval a X.env) (fun v aA=>wpAny (model X.prog X.w) X.A (eval b X.env) (fun u pP=>wpAny (model X.prog X.w) X.A (f v u) Q X.xe pP) X.xe aA) X.xe s:=by
 refine aq (ha pins s σ H _ I h) fun v s1 ⟨x,H1,I1,r1,q1⟩=> ?_
 refine aq (hb pins s1 σ H1 _ I1 q1) fun u s2 ⟨y,H2,I2,r2,q2⟩=> ?_
 exact hf v u s2 x y H2 I2 r1 r2 q2
theorem Zj {op:Operator}{r:R2}(ho:aO X (binaryOp op) r) (ha:PE X a ta) (hb:PE X b tb):PE X (.BinOp a op b pos) (fJ r ta tb):=by
 intro pins s σ H Q I h
 exact wpAny_BinOp (tS ha hb I h fun v u s2 x y H2 I2 rx ry q=>ho pins s2 σ H2 x y v u Q I2 rx ry q)
theorem Gm {op:UnaryOp}{r:V→Hp→VK→Prop}(ho:tZ X (unaryOp op) r) (ha:PE X a ta):PE X (.UnaryOp op a pos) (zL r ta):=by
 intro pins s σ H Q I h
 exact UnaryOp_ (aq (ha pins s σ H _ I h) fun v s1 ⟨x,H1,I1,r1,q1⟩=>ho pins s1 σ H1 x v Q I1 r1 q1)
theorem om {f:Value→Value→Sem Value}{C:Int→Int→Prop}{g:Int→Int→Int}
  (rule:∀(i j:Int) (t u:Tok) (s:Shared) (Q:Value→Shared→Prop) (E:Value→Shared→Prop),C i j→Q (.int (g i j) s.toks) {s with toks:=s.toks+1}→wpAny (model X.prog X.w) X.A (f (.int i t) (.int j u)) Q E s):
  aO X f (rI C fun i j=> .int (g i j)):=by
 intro pins s σ H x y v u Q I rx ry h
 obtain⟨i,j,rfl,rfl,hc,q⟩:=h
 obtain⟨t,rfl⟩:=rx
 obtain⟨t',rfl⟩:=ry
 exact rule i j t t' s _ _ hc ⟨.int (g i j),H,I.tok _,⟨_,rfl⟩,q⟩
theorem vP {f:Value→Value→Sem Value}{g:Int→Int→Int}
  (rule:∀(i j:Int) (t u:Tok) (s:Shared) (Q:Value→Shared→Prop) (E:Value→Shared→Prop),Q (.int (g i j) s.toks) {s with toks:=s.toks+1}→wpAny (model X.prog X.w) X.A (f (.int i t) (.int j u)) Q E s):
  aO X f (gY fun i j=> .int (g i j)):=by
 intro pins s σ H x y v u Q I rx ry h
 obtain⟨i,j,rfl,rfl,q⟩:=h
 obtain⟨t,rfl⟩:=rx
 obtain⟨t',rfl⟩:=ry
 exact rule i j t t' s _ _ ⟨.int (g i j),H,I.tok _,⟨_,rfl⟩,q⟩
theorem oo {f:Value→Value→Sem Value}{g:Int→Int→Bool}
  (rule:∀(i j:Int) (t u:Tok) (s:Shared) (Q:Value→Shared→Prop) (E:Value→Shared→Prop),Q (.bool (g i j)) s→wpAny (model X.prog X.w) X.A (f (.int i t) (.int j u)) Q E s):
  aO X f (gY fun i j=> .bl (g i j)):=by
 intro pins s σ H x y v u Q I rx ry h
 obtain⟨i,j,rfl,rfl,q⟩:=h
 obtain⟨t,rfl⟩:=rx
 obtain⟨t',rfl⟩:=ry
 exact rule i j t t' s _ _ ⟨.bl (g i j),H,I,rfl,q⟩
def HW (i j:Int):Prop:=0<j∧j<1073741824
def HV (i j:Int):Prop:=0≤j∧j≤1000000∧i.natAbs<2^64
def ur (i j:Int):Prop:=(-(2^64)<i∧i<2^64)∨(-(2^64)<j∧j<2^64)
theorem ur.ok {i j:Int}(h:ur i j):IntMulOk i j:=by
 rcases h with ⟨h1,h2⟩ |⟨h1,h2⟩
 ·exact .of_left (intBits_le_64 h1 h2)
 ·exact .of_right (intBits_le_64 h1 h2)
theorem Z2:aO X (binaryOp .Add) (gY fun i j=> .int (i+j)):=vP fun _ _ _ _ _ _ _ q=>add_int q
theorem Jo:aO X (binaryOp .Sub) (gY fun i j=> .int (i - j)):=vP fun _ _ _ _ _ _ _ q=>sub_int q
theorem Jp:aO X (binaryOp .Mult) (rI ur fun i j=> .int (i*j)):=om fun _ _ _ _ _ _ _ hc q=>mul_int q hc.ok
theorem W8:aO X (binaryOp .FloorDiv) (rI HW fun i j=> .int (i/j)):=om fun i j _ _ _ _ _ hc q=>by
 have h1:(0:Int)<j:=hc.1
 have h2:j<1073741824:=hc.2
 exact floordiv_int (by omega) (by rw[Int.fdiv_eq_ediv_of_nonneg i (by omega)];exact q) (.inl (PyProof.noPylong_small (by omega)))
theorem ZU:aO X (binaryOp .Mod) (rI (fun _ j=>0<j) fun i j=> .int (i%j)):=om fun i j _ _ _ _ _ hc q=>by
 have h1:(0:Int)<j:=hc
 exact mod_int' (by omega) (by rw[Int.fmod_eq_emod_of_nonneg i (by omega)];exact q)
theorem U0:aO X (binaryOp .Pow) (rI HV fun i j=> .int (i^j.toNat)):=om fun _ _ _ _ _ _ _ hc q=>pow_int_small hc.1 hc.2.1 hc.2.2 q
theorem zr {f:Value→Sem Value}{g:Int→Int}
  (rule:∀(i:Int) (t:Tok) (s:Shared) (Q:Value→Shared→Prop) (E:Value→Shared→Prop),Q (.int (g i) s.toks) {s with toks:=s.toks+1}→wpAny (model X.prog X.w) X.A (f (.int i t)) Q E s):
  tZ X f (rU fun i=> .int (g i)):=by
 intro pins s σ H x v Q I rx h
 obtain⟨i,rfl,q⟩:=h
 obtain⟨t,rfl⟩:=rx
 exact rule i t s _ _ ⟨.int (g i),H,I.tok _,⟨_,rfl⟩,q⟩
theorem Fw:tZ X (unaryOp .USub) (rU fun i=> .int (-i)):=zr fun _ _ _ _ _ q=>neg_int q
end
def gQ:V→V→Bool
 | .aa,.aa=>true | .aa,.int _=>true | .int _,.aa=>true | .aa,.bl _=>true | .bl _,.aa=>true | .aa,.str _=>true | .str _,.aa=>true
 | .int _,.int _=>true | .bl _,.bl _=>true | .str _,.str _=>true | .eX _,.eX _=>true
 | .int _,.str _=>true | .str _,.int _=>true | .bl _,.str _=>true | .str _,.bl _=>true
 |_,_=>false
def A6:R2:=fun x y H Q=>gQ x y=true∧Q (.bl (decide (x=y))) H
def A4:R2:=fun x y H Q=>gQ x y=true∧Q (.bl (!decide (x=y))) H
theorem Wg {i j:Int} :decide (V.int i=V.int j)=(i==j):=by
 rw[Bool.eq_iff_iff]
 simp
theorem yF {i j:Bool} :decide (V.bl i=V.bl j)=(i==j):=by
 rw[Bool.eq_iff_iff]
 simp
theorem Uc {i j:Str} :decide (V.str i=V.str j)=(i==j):=by
 rw[Bool.eq_iff_iff]
 simp
theorem Ud {i j:Array UInt8} :decide (V.eX i=V.eX j)=(i.toList==j.toList):=by
 rw[Bool.eq_iff_iff]
 cases i
 cases j
 simp
section
variable {X:Cx}{a b c:Expr}{ta tb tc:TE}{pos:Pos}
theorem Zw {pins:List (Addr×Obj)}{σ:St}{H:Hp}{s:Shared}{Q:VK}{k k':Bool}(I:Inv X pins σ H s) (q:Q (.bl k) H) (e:k=k'):EP X pins σ Q (.bool k') s:=by
 subst e
 exact⟨.bl k,H,I,rfl,q⟩
theorem Jq:aO X (compareOp .Eq) A6:=by
 intro pins s σ H x y v u Q I rx ry h
 obtain⟨hs,q⟩:=h
 cases x with
 |aa=>
  cases rx
  cases y with
  |aa=>cases ry;exact PySem.EqNone.eq_none_none (Zw I q (by simp))
  |bl j=>cases ry;exact PySem.EqNone.eq_none_bool (Zw I q (by simp))
  |int j=>obtain⟨t',rfl⟩:=ry;exact PySem.EqNone.eq_none_int (Zw I q (by simp))
  |str j=>obtain⟨t',rfl⟩:=ry;exact PySem.EqNone.eq_none_str (Zw I q (by simp))
  |_=>exact absurd (show false=true from hs) Bool.false_ne_true
 |bl i=>
  cases rx
  cases y with
  |aa=>cases ry;exact PySem.EqNone.eq_bool_none (Zw I q (by simp))
  |bl j=>cases ry;exact eq_bool (Zw I q yF)
  |str j=>obtain⟨t',rfl⟩:=ry;exact PySem.EqMixed.eq_bool_str (Zw I q (by simp))
  |_=>exact absurd (show false=true from hs) Bool.false_ne_true
 |int i=>
  obtain⟨t,rfl⟩:=rx
  cases y with
  |aa=>cases ry;exact PySem.EqNone.eq_int_none (Zw I q (by simp))
  |int j=>obtain⟨t',rfl⟩:=ry;exact eq_int (Zw I q Wg)
  |str j=>obtain⟨t',rfl⟩:=ry;exact PySem.EqMixed.eq_int_str (Zw I q (by simp))
  |_=>exact absurd (show false=true from hs) Bool.false_ne_true
 |str i=>
  obtain⟨t,rfl⟩:=rx
  cases y with
  |aa=>cases ry;exact PySem.EqNone.eq_str_none (Zw I q (by simp))
  |bl j=>cases ry;exact PySem.EqMixed.eq_str_bool (Zw I q (by simp))
  |int j=>obtain⟨t',rfl⟩:=ry;exact PySem.EqMixed.eq_str_int (Zw I q (by simp))
  |str j=>obtain⟨t',rfl⟩:=ry;exact eq_str (Zw I q Uc)
  |_=>exact absurd (show false=true from hs) Bool.false_ne_true
 |eX i=>
  obtain⟨t,rfl⟩:=rx
  cases y with
  |eX j=>obtain⟨t',rfl⟩:=ry;exact PySem.W.eq_bytes (Zw I q Ud)
  |_=>exact absurd (show false=true from hs) Bool.false_ne_true
 |_=>cases y<;>exact absurd (show false=true from hs) Bool.false_ne_true
theorem Wo:aO X (compareOp .NotEq) A4:=by
 intro pins s σ H x y v u Q I rx ry h
 obtain⟨hs,q⟩:=h
 cases x with
 |aa=>
  cases rx
  cases y with
  |aa=>cases ry;exact PySem.EqNone.ne_none_none (Zw I q (by simp))
  |bl j=>cases ry;exact PySem.EqNone.ne_none_bool (Zw I q (by simp))
  |int j=>obtain⟨t',rfl⟩:=ry;exact PySem.EqNone.ne_none_int (Zw I q (by simp))
  |str j=>obtain⟨t',rfl⟩:=ry;exact PySem.EqNone.ne_none_str (Zw I q (by simp))
  |_=>exact absurd (show false=true from hs) Bool.false_ne_true
 |bl i=>
  cases rx
  cases y with
  |aa=>cases ry;exact PySem.EqNone.ne_bool_none (Zw I q (by simp))
  |bl j=>cases ry;exact ne_bool (Zw I q (congrArg not yF))
  |str j=>obtain⟨t',rfl⟩:=ry;exact PySem.EqMixed.ne_bool_str (Zw I q (by simp))
  |_=>exact absurd (show false=true from hs) Bool.false_ne_true
 |int i=>
  obtain⟨t,rfl⟩:=rx
  cases y with
  |aa=>cases ry;exact PySem.EqNone.ne_int_none (Zw I q (by simp))
  |int j=>obtain⟨t',rfl⟩:=ry;exact ne_int (Zw I q (congrArg not Wg))
  |str j=>obtain⟨t',rfl⟩:=ry;exact PySem.EqMixed.ne_int_str (Zw I q (by simp))
  |_=>exact absurd (show false=true from hs) Bool.false_ne_true
 |str i=>
  obtain⟨t,rfl⟩:=rx
  cases y with
  |aa=>cases ry;exact PySem.EqNone.ne_str_none (Zw I q (by simp))
  |bl j=>cases ry;exact PySem.EqMixed.ne_str_bool (Zw I q (by simp))
  |int j=>obtain⟨t',rfl⟩:=ry;exact PySem.EqMixed.ne_str_int (Zw I q (by simp))
  |str j=>obtain⟨t',rfl⟩:=ry;exact ne_str (Zw I q (congrArg not Uc))
  |_=>exact absurd (show false=true from hs) Bool.false_ne_true
 |eX i=>
  obtain⟨t,rfl⟩:=rx
  cases y with
  |eX j=>obtain⟨t',rfl⟩:=ry;exact PySem.W.ne_bytes (Zw I q (congrArg not Ud))
  |_=>exact absurd (show false=true from hs) Bool.false_ne_true
 |_=>cases y<;>exact absurd (show false=true from hs) Bool.false_ne_true
theorem Gk:aO X (compareOp .Lt) (gY fun i j=> .bl (decide (i<j))):=oo fun _ _ _ _ _ _ _ q=>lt_int q
theorem yy:aO X (compareOp .LtE) (gY fun i j=> .bl (decide (i≤j))):=oo fun _ _ _ _ _ _ _ q=>le_int q
theorem yx:aO X (compareOp .Gt) (gY fun i j=> .bl (decide (j<i))):=oo fun _ _ _ _ _ _ _ q=>gt_int q
theorem Gj:aO X (compareOp .GtE) (gY fun i j=> .bl (decide (j≤i))):=oo fun _ _ _ _ _ _ _ q=>ge_int q
theorem aO.or {f:Value→Value→Sem Value}{r r':R2}(h:aO X f r) (h':aO X f r'):aO X f (fun x y H Q=>r x y H Q∨r' x y H Q):=by
 intro pins s σ H x y v u Q I rx ry q
 rcases q with q |q
 ·exact h pins s σ H x y v u Q I rx ry q
 ·exact h' pins s σ H x y v u Q I rx ry q
theorem bz (b:Expr) {op:CmpOp}(h:op≠.In:=by decide) (h2:op≠.NotIn:=by decide):behindInMarks op b=false:=by
 have e1:(op==CmpOp.In)=false:=by cases op<;>first |rfl |exact absurd rfl h
 have e2:(op==CmpOp.NotIn)=false:=by cases op<;>first |rfl |exact absurd rfl h2
 cases b<;>simp[behindInMarks,e1,e2]
theorem Yh {op:CmpOp}{r:R2}(ho:aO X (compareOp op) r) (ha:PE X a ta) (hb:PE X b tb) (hm:behindInMarks op b=false):PE X (.Compare a [op] [b] pos) (fJ r ta tb):=by
 intro pins s σ H Q I h
 exact wpAny_Compare1 (tS ha hb I h fun v u s2 x y H2 I2 rx ry q=>ho pins s2 σ H2 x y v u Q I2 rx ry q) hm
def zO (t:TE):TT:=fun σ H Q=>t σ H fun x H'=> ∃k,x=.bl k∧Q k H'
theorem ZA {op:CmpOp}{r:R2}(ho:aO X (compareOp op) r) (ha:PE X a ta) (hb:PE X b tb) (hm:behindInMarks op b=false):PT X (.Compare a [op] [b] pos) (zO (fJ r ta tb)):=by
 intro pins s σ H Q I h
 refine wpAny_isTrue_Compare1 (aq (ha pins s σ H _ I h) fun v s1 ⟨x,H1,I1,r1,q1⟩=>aq (hb pins s1 σ H1 _ I1 q1) fun u s2 ⟨y,H2,I2,r2,q2⟩=>
  aq (ho pins s2 σ H2 x y v u _ I2 r1 r2 q2) fun c s3 ⟨z,H3,I3,r3,k,e,q3⟩=> ?_) hm
 subst e
 cases r3
 exact wpAny_truthy_bool ⟨H3,I3,q3⟩
def Ah (r r':R2) (ta tb tc:TE):TE:=fun σ H Q=>ta σ H fun x H1=>tb σ H1 fun y H2=>r x y H2 fun z H3=> ∃k,z=.bl k∧
 (if k=true then tc σ H3 fun w' H4=>r' y w' H4 Q else Q (.bl false) H3)
theorem UZ {op qX:CmpOp}{r r':R2}(ho:aO X (compareOp op) r) (cj:aO X (compareOp qX) r') (ha:PE X a ta) (hb:PE X b tb) (hc:PE X c tc)
  (hm:lastMarks [op,qX] [b,c]=false:=by with_unfolding_all rfl):PE X (.Compare a [op,qX] [b,c] pos) (Ah r r' ta tb tc):=by
 intro pins s σ H Q I h
 refine Compare_chain (aq (ha pins s σ H _ I h) fun v s1 ⟨x,H1,I1,r1,q1⟩=>chain_link (aq (hb pins s1 σ H1 _ I1 q1) fun u s2 ⟨y,H2,I2,r2,q2⟩=>
  aq (ho pins s2 σ H2 x y v u _ I2 r1 r2 q2) fun d s3 ⟨z,H3,I3,r3,k,e,q3⟩=> ?_)) hm
 subst e
 cases r3
 refine wpAny_truthy_bool ?_
 cases k with
 |false=>exact ite_ff ⟨.bl false,H3,I3,rfl,q3⟩
 |true=>exact ite_tt (chain_last (aq (hc pins s3 σ H3 _ I3 q3) fun w' s4 ⟨z',H4,I4,r4,q4⟩=>cj pins s4 σ H4 y z' u w' Q I4 r2 r4 q4))
theorem oC:(sizeLine:Nat)<2^63:=by rw[sizeLine_eq];decide
theorem vals1 {x:V}{us:List Value}(r:Vals [x] us):∃u,us=[u]∧RelV x u:=by
 cases r with
 |cons r1 r2=>cases r2;exact⟨_,rfl,r1⟩
theorem vals2 {x y:V}{us:List Value}(r:Vals [x,y] us):∃u w',us=[u,w']∧RelV x u∧RelV y w':=by
 cases r with
 |cons r1 r2=>
  cases r2 with
  |cons r3 r4=>cases r4;exact⟨_,_,rfl,r1,r3⟩
theorem JT (hc:X.calm=true):cX X (.builtin "max") (fun xs H Q=> ∃i j,xs=[.int i,.int j]∧Q (.int (if j>i then j else i)) H):=by
 intro pins s σ H xs us Q I r h
 obtain⟨i,j,rfl,q⟩:=h
 obtain⟨u,w',rfl,⟨t,rfl⟩,⟨t',rfl⟩⟩:=vals2 r
 refine max_two_ints (I.ok.hd hc) fun h' tk k=> ⟨_,H,I.kept k,?_,q⟩
 by_cases hj:j>i
 ·rw[if_pos hj,if_pos hj];exact⟨_,rfl⟩
 ·rw[if_neg hj,if_neg hj];exact⟨_,rfl⟩
theorem UG (hc:X.calm=true):cX X (.builtin "min") (fun xs H Q=> ∃i j,xs=[.int i,.int j]∧Q (.int (if j<i then j else i)) H):=by
 intro pins s σ H xs us Q I r h
 obtain⟨i,j,rfl,q⟩:=h
 obtain⟨u,w',rfl,⟨t,rfl⟩,⟨t',rfl⟩⟩:=vals2 r
 refine min_two_ints (I.ok.hd hc) fun h' tk k=> ⟨_,H,I.kept k,?_,q⟩
 by_cases hj:j<i
 ·rw[if_pos hj,if_pos hj];exact⟨_,rfl⟩
 ·rw[if_neg hj,if_neg hj];exact⟨_,rfl⟩
end
structure ud (h:Heap) (x dx C:Addr) (mA:Str→Option Value):Prop where
 obj:h.get? x=some (PySem.W.instObj C dx)
 ns:h.Ns1 dx mA
 ne:dx≠x
theorem Uy {h:Heap}{dx:Addr}{mA:Str→Option Value}(n:h.Ns1 dx mA):∃od,h.get? dx=some od∧∀name,PySem.W.lookIn name od=some (mA name):=by
 obtain⟨o,es,ep,ho,hd,hk,_,hm⟩:=n
 refine⟨o,ho,fun name=> ?_⟩
 have e:=hm name
 unfold nsFind findBy at e
 rw[←Array.find?_toList]at e
 unfold PySem.W.lookIn
 rw[hd]
 dsimp only
 split
 ·rename_i y q
  rw[q]at e
  exact congrArg some e
 ·rename_i q
  rw[q]at e
  have a:es.toList.any (·.refKey)=false:=by
   rw[List.any_eq_false]
   intro y hy
   obtain⟨z,t,Dc⟩:=hk y (Array.mem_toList_iff.mp hy)
   simp[DictEntry.refKey,Dc]
  have a':¬es.toList.any (·.refKey)=true:=by rw[a];exact Bool.false_ne_true
  rw[if_neg a']
  exact congrArg some e
theorem ud.look {h:Heap}{x dx C:Addr}{mA:Str→Option Value}(I:ud h x dx C mA):∃od,PySem.W.InstAt h x (PySem.W.instObj C dx) C (some od)∧∀name,PySem.W.lookIn name od=some (mA name):=
 let ⟨od,ho,hl⟩:=Uy I.ns
 ⟨od,⟨I.obj,rfl,rfl,ho⟩,hl⟩
section
variable {P:Program}{w:World}{H H':Hp}{h h':Heap}{a C dx:Addr}{fs El:List (Str×V)}
theorem FE (ah:bg P w H h) (e:H a=some (.ins C dx fs)):∃mA,ud h a dx C mA∧(∀f,ub (fs.lookup f) (mA f))∧PySem.Within mA (fs.map (·.1))∧fs.length≤1000∧H dx=some (.own a):=by
 obtain⟨d,z,ne,ob,mA,n,r,q⟩:=(show aU P w H h a (.ins C dx fs) from ah a _ e)
 exact⟨mA,⟨ob,n,ne⟩,r,q,z,d⟩
end
structure uq (K:PySem.W.Frag) (C:Addr):Prop where
 pg:PySem.W.plainGet K C Str.empty=true
 hd:PySem.W.hasDictIn K C=true
 po:PySem.W.plainOver K C=true
 sa:PySem.W.findIn K (.ref C) "__setattr__" =some (some (.builtin "object.__setattr__"))
theorem uq.get {K:PySem.W.Frag}{C:Addr}(c:uq K C) (f:Str):PySem.W.plainGet K C f=true:=c.pg
structure Ki (K:PySem.W.Frag) (C:Addr) (f:Str) (v:V) (u:Value):Prop where
 at_:PySem.W.findIn K (.ref C) f=some (some u)
 rel:RelV v u
 get:PySem.W.specialIn K u "__get__" =some none
 cp:PySem.W.copiedNames.contains f=false
structure Meth (K:PySem.W.Frag) (C:Addr) (m:Str) (f:Addr):Prop where
 at_:PySem.W.findIn K (.ref C) m=some (some (.ref f))
 fn:PySem.W.isFn K (.ref f)=true
 kp:PySem.W.keepIn K (.ref f)=true
section
variable {X:Cx}{pins:List (Addr×Obj)}{σ:St}{H:Hp}{s:Shared}{A:Around}{E:Value→Shared→Prop}{Q:Value→Shared→Prop}{c:Value}{b:Bool}
inductive cV (K:PySem.W.Frag) (H:Hp):V→Value→Prop where
 |aa:cV K H .aa (.type "NoneType")
 |bl (x:Bool):cV K H (.bl x) (.type "bool")
 |int (i:Int):cV K H (.int i) (.type "int")
 |str (x:Str):cV K H (.str x) (.type "str")
 |fq (x:UInt64):cV K H (.fq x) (.type "float")
 |lst {a:Addr}{xs:List V} (e:H a=some (.lst xs)):cV K H (.ref a) (.type "list")
 |bC {a:Addr}{o:Obj}{xs:List V} (e:H a=some (.bC o (.lst xs))):cV K H (.ref a) (.type "list")
 |tup {a:Addr}{xs:List V} (e:H a=some (.tup xs)):cV K H (.ref a) (.type "tuple")
 |dK {a:Addr}{kvs:List (Key×V)} (e:H a=some (.dK kvs)):cV K H (.ref a) (.type "dict")
 |dT {a:Addr}{kvs:List (List Key×V)} (e:H a=some (.dT kvs)):cV K H (.ref a) (.type "dict")
 |ins {a C dx:Addr}{fs:List (Str×V)} (e:H a=some (.ins C dx fs)) (cl:uq K C) (ha:PySem.W.findIn K (.ref C) "__class__" =some (some (.builtin "object.__class__")))
  (hn:PySem.W.specialIn K (.builtin "object.__class__") "__get__" =some (some (.builtin "getset_descriptor.__get__"))) (wF:PySem.W.takesIn K (.builtin "object.__class__")=some true)
  (hm:PySem.W.mroIn K C (.type "object")=some true):cV K H (.ref a) (.ref C)
theorem UA {x:V}{u t:Value}(I:Inv X pins σ H s) (rx:RelV x u) (ty:cV X.K H x t) (e:PySem.W.kitOne X.K t c=some b) (h:∀tk,Q (.bool b) {s with toks:=tk}):
  wpAny (model X.prog X.w) A (call (.builtin "isinstance") [u,c]) Q E s:=by
 cases ty with
 |aa=>cases (show u=Value.none from rx);exact PySem.W.kia_one PySem.W.kitx_none I.bc True.intro e (fun z=>nomatch z) h
 |bl y=>cases (show u=Value.bool y from rx);exact PySem.W.kia_one PySem.W.kitx_bool I.bc True.intro e (fun z=>nomatch z) h
 |int i=>obtain⟨t,q⟩:=(show ∃t,u=Value.int i t from rx);cases q;exact PySem.W.kia_one PySem.W.kitx_int I.bc True.intro e (fun z=>nomatch z) h
 |str y=>obtain⟨t,q⟩:=(show ∃t,u=Value.str y t from rx);cases q;exact PySem.W.kia_one PySem.W.kitx_str I.bc True.intro e (fun z=>nomatch z) h
 |fq y=>obtain⟨t,q⟩:=(show ∃t,u=Value.float y t from rx);cases q;exact PySem.W.kia_one PySem.W.kitx_float I.bc True.intro e (fun z=>nomatch z) h
 | @lst a xs ea=>
  cases (show u=Value.ref a from rx)
  obtain⟨_,_,n,_,h1⟩:=(show aU X.prog X.w H s.heap a (.lst xs) from I.ah a _ ea)
  exact PySem.W.kia_one PySem.W.kitx_list I.bc ⟨_,h1,rfl⟩ e (fun z=>nomatch z) h
 | @bC a ob xs ea=>
  cases (show u=Value.ref a from rx)
  obtain⟨_,_,_,n,_,h1⟩:=(show aU X.prog X.w H s.heap a (.bC ob (.lst xs)) from I.ah a _ ea)
  exact PySem.W.kia_one PySem.W.kitx_list I.bc ⟨_,h1,rfl⟩ e (fun z=>nomatch z) h
 | @tup a xs ea=>
  cases (show u=Value.ref a from rx)
  obtain⟨_,_,_,p,_⟩:=(show aU X.prog X.w H s.heap a (.tup xs) from I.ah a _ ea)
  obtain⟨o,h1,h2,_⟩:=p
  exact PySem.W.kia_one PySem.W.kitx_tuple I.bc ⟨o,h1,h2⟩ e (fun z=>nomatch z) h
 | @dK a kvs ea=>
  cases (show u=Value.ref a from rx)
  obtain⟨_,_,vs,_,p⟩:=(show aU X.prog X.w H s.heap a (.dK kvs) from I.ah a _ ea)
  obtain⟨o,es,ep,h1,h2,_⟩:=p
  exact PySem.W.kia_one PySem.W.kitx_dict I.bc ⟨o,h1,h2.1⟩ e (fun z=>nomatch z) h
 | @dT a kvs ea=>
  cases (show u=Value.ref a from rx)
  obtain⟨_,_,xs,_,o,es,ep,h1,h2,_⟩:=(show aU X.prog X.w H s.heap a (.dT kvs) from I.ah a _ ea)
  exact PySem.W.kia_one PySem.W.kitx_dict I.bc ⟨o,h1,h2.1⟩ e (fun z=>nomatch z) h
 | @ins a C dx fs ea cl ha hn wF hm=>
  cases (show u=Value.ref a from rx)
  obtain⟨mA,O,_⟩:=FE I.ah ea
  obtain⟨od,J,_⟩:=O.look
  exact PySem.W.kia_one (PySem.W.kitx_own (cl.get _) cl.hd ha hn wF hm) I.bc J e (fun z=>nomatch z) h
end
structure bo (k:Nat) (A:Around):Prop where
 hd:A.handled=none
 dp:A.depth+3*k+5<recursionLimit
 un:A.units+16*k+200<cLine
 gd:A.guards=some []
theorem bo.mono {j k:Nat}{A:Around}(r:bo k A) (h:j≤k):bo j A:=⟨r.hd,by have:=r.dp;omega,by have:=r.un;omega,r.gd⟩
theorem bo.deeper {k:Nat}{A:Around}(r:bo (k+1) A) (env:Env):bo k (A.deeper env):=
 ⟨r.hd,by have:=r.dp;show A.depth+1+3*k+5<_;omega,by have:=r.un;show A.units+3+16*k+200<_;omega,r.gd⟩
theorem bo.depth {k:Nat}{A:Around}(r:bo k A):A.depth<recursionLimit:=by have:=r.dp;omega
theorem bo.units {k:Nat}{A:Around}(r:bo k A):A.units+64<cLine:=by have:=r.un;omega
theorem bo.pF {k:Nat}{A:Around}(r:bo k A):A.units<cLine:=by have:=r.un;omega
def jE:TA:=fun _ H Q=>Q [] H
def iP (ta:TE) (tr:TA):TA:=fun σ H Q=>ta σ H fun x H1=>tr σ H1 fun xs H2=>Q (x::xs) H2
section
variable {X:Cx}{e:Expr}{es:List Expr}{te:TE}{t:TA}{pos:Pos}
theorem Zb:PA X [] jE:=fun _ _ _ _ H Q I h=>Calls.spliced_nil ⟨[],H,I,.nil,h⟩
theorem Za (ha:PE X e te) (hr:PA X es t) (hs:starEach (e::es) X.env=(false,eval e X.env)::starEach es X.env:=by rfl):PA X (e::es) (iP te t):=by
 intro pos pins s σ H Q I h
 rw[hs]
 show wpAny _ _ (spliced ((false,eval e X.env)::backTo pos (starEach es X.env))) _ _ s
 refine Calls.spliced_cons (aq (ha pins s σ H _ I h) fun u s1 ⟨x,H1,I1,r1,q1⟩=> ?_)
 exact aq (hr pos pins s1 σ H1 _ I1 q1) fun us s2 ⟨xs,H2,I2,r2,q2⟩=> ⟨x::xs,H2,I2,.cons r1 r2,q2⟩
def pM (t:TA):TE:=fun σ H Q=>t σ H fun xs H1=>xs.length≤sizeLine∧∀p,H1 p=none→Q (.ref p) (upd H1 p (.tup xs))
def jF (t:TA):TE:=fun σ H Q=>t σ H fun xs H1=>xs.length≤sizeLine∧∀p,H1 p=none→Q (.ref p) (upd H1 p (.lst xs))
theorem Zz {x1} (h:PA X es t):PE X (.Tuple es x1 pos) (pM t):=by
 intro pins s σ H Q I hq
 refine wpAny_Tuple_spliced (aq (h pos pins s σ H _ I hq) fun us s1 ⟨xs,H1,I1,r,z,q⟩=> ⟨by rw[←r.length];exact z,?_⟩)
 have hf:H1 s1.heap.objs.size=none:=I1.ah.fresh (Nat.le_refl _)
 refine⟨.ref s1.heap.objs.size,upd H1 s1.heap.objs.size (.tup xs),I1.laid (t':=s1.toks) (fun b u e=>Heap.get?_push_of_some _ e) (Nat.le_refl _) ?_,rfl,q _ hf⟩
 exact⟨z,us,r,⟨_,Heap.get?_push_size _ rfl,rfl,_,rfl⟩,_,Heap.get?_push_size _ rfl,rfl⟩
theorem Zl (h:PA X es t):PE X (.List es pos) (jF t):=by
 intro pins s σ H Q I hq
 refine wpAny_List_spliced (aq (h pos pins s σ H _ I hq) fun us s1 ⟨xs,H1,I1,r,z,q⟩=> ⟨by rw[←r.length];exact z,?_⟩)
 have hf:H1 s1.heap.objs.size=none:=I1.ah.fresh (Nat.le_refl _)
 refine⟨.ref s1.heap.objs.size,upd H1 s1.heap.objs.size (.lst xs),I1.laid (t':=s1.toks) (fun b u e=>Heap.get?_push_of_some _ e) (Nat.le_refl _) ?_,rfl,q _ hf⟩
 exact⟨z,us,0,r,Heap.get?_push_size _ rfl⟩
end
abbrev Sp:=List V→Hp→VK→XK→Prop
abbrev fI:=List Env→Hp→Shared→XK→Value→Shared→Prop
structure mT (P:Program) (w:World) (K:PySem.W.Frag) (mg:Str→Option Value) (base:Heap) (A:Around) (outer:List Env) (s:Shared) (H:Hp):Prop where
 frames:A.frames=some outer
 mod:Mod K mg base
 bs:∀b o,base.get? b=some o→s.heap.get? b=some o∧H b=none
 fU:base.objs.size≤s.heap.objs.size
 cE:s.heap.FunFrames base outer
 eU:∀b∈aG outer,H b=none
 ah:bg P w H s.heap
 bare:AllBare s.gens
def CE (outer:List Env) (P:Program) (w:World) (H:Hp) (s:Shared) (Q:VK) (u:Value) (s':Shared):Prop:=
 ∃v H',s'.os=s.os∧AllBare s'.gens∧Un (aG outer) [] H H' s.heap s'.heap∧bg P w H' s'.heap∧RelV v u∧Q v H'
def CR (CX:fI) (outer:List Env) (P:Program) (w:World) (H:Hp) (s:Shared) (Q:VK) (E:XK) (r:Result) (s':Shared):Prop:=
 match r with
 | .ok (.ret u)=>CE outer P w H s Q u s'
 | .ok _=>False
 | .error e=>CX outer H s E e s'
structure az (P:Program) (w:World) (K:PySem.W.Frag) (mg:Str→Option Value) (base:Heap) (CX:fI) (k:Nat) (f:Addr) (fd:FuncData) (ps:List Str) (sp:Sp):Prop where
 len:∀vs H Q E,sp vs H Q E→vs.length=ps.length
 run:∀(A:Around) (outer:List Env) (s:Shared) (H:Hp) (args:Args) (us:List Value) (vs:List V) (Q:VK) (E:XK),bo k A→mT P w K mg base A outer s H→BindsTo s fd args (ps.zip us)→Vals vs us→sp vs H Q E→
  codeAny (model P w) A (.call (.ref f) args) (CR CX outer P w H s Q E) s
section
variable {X:Cx}{pins:List (Addr×Obj)}{σ:St}{H:Hp}{s s':Shared}
theorem Inv.xV (I:Inv X pins σ H s):mT X.prog X.w X.K X.mg X.base X.A X.stack s H:=
 ⟨I.ok.frames,I.ok.mod,I.bs,Nat.le_trans I.ok.fU I.sz,I.stack,I.kJ,I.ah,I.bare⟩
theorem Inv.after {Q:VK}{u:Value}(I:Inv X pins σ H s) (h:CE X.stack X.prog X.w H s Q u s'):EP X pins σ Q u s':=by
 obtain⟨v,H',os,bare,un,ah,r,q⟩:=h
 obtain⟨hh,g,d,t,Bo⟩:=s'
 obtain rfl:Bo=s.os:=os
 exact⟨v,H',I.call (h':=hh) (g':=g) (d':=d) (t':=t) (ch:=[]) un ah bare (fun b z=>absurd z (by simp)),r,q⟩
end
def pO (sp:Sp) (iE:List V) (E:XK) (t:TA):TE:=fun σ H Q=>t σ H fun vs H1=>sp (vs++iE) H1 Q E
def Binds (K:PySem.W.Frag) (fd:FuncData) (ps:List Str) (ds:List Value):Prop:=
 ∀(s:Shared) (us:List Value),K.In s.heap→(us++ds).length=ps.length→BindsTo s fd ⟨us,[]⟩ (ps.zip (us++ds))
theorem Binds.all {K:PySem.W.Frag}{fd:FuncData}{ps:List Str}(h:∀us:List Value,us.length=ps.length→bindArgs fd ⟨us,[]⟩=pure (ps.zip us)):Binds K fd ps []:=fun s us _ hl=>by
 rw[List.append_nil]at hl ⊢
 exact .of_eq (h us hl)
def Passes (CX:fI) (X:Cx) (E:XK):Prop:=∀(pins:List (Addr×Obj)) (σ:St) (H:Hp) (s:Shared) (e:Value) (s':Shared),Inv X pins σ H s→CX X.stack H s E e s'→X.xe e s'
section
variable {X:Cx}{CX:fI}{k:Nat}{f C:Addr}{fd:FuncData}{ps:List Str}{sp:Sp}{iE:List V}{ds:List Value}{E:XK}{x m:Str}{p pos apos:Pos}{e o:Expr}{es:List Expr}{ta:TE}{t:TA}
theorem Fs {pins:List (Addr×Obj)}{σ:St}{H:Hp}{s:Shared}{Q:VK}{us:List Value}{vs:List V}(F:az X.prog X.w X.K X.mg X.base CX k f fd ps sp) (hr:bo k X.A) (hb:Binds X.K fd ps ds) (hd:Vals iE ds) (hx:Passes CX X E)
  (I:Inv X pins σ H s) (r:Vals vs us) (h:sp (vs++iE) H Q E):wpAny (model X.prog X.w) X.A (call (.ref f) us) (EP X pins σ Q) X.xe s:=by
 have r2:Vals (vs++iE) (us++ds):=r.append hd
 have hl:(us++ds).length=ps.length:=by rw[←r2.length];exact F.len _ _ _ _ h
 refine wpAny_call (codeAny_mono (F.run X.A X.stack s H ⟨us,[]⟩ (us++ds) (vs++iE) Q E hr I.xV (hb s us I.bc hl) r2 h) fun r s' hq=> ?_)
 cases r with
 |error e=>exact hx pins σ H s e s' I hq
 |ok fl=>
  cases fl with
  |ret u=>exact I.after hq
  |next=>exact False.elim hq
  |brk=>exact False.elim hq
  |cont=>exact False.elim hq
theorem YX (F:az X.prog X.w X.K X.mg X.base CX k f fd ps sp) (hr:bo k X.A) (hg:Gl X x) (hm:X.mg x=some (.ref f)) (hk:PySem.W.keepIn X.K (.ref f)=true) (hb:Binds X.K fd ps ds) (hd:Vals iE ds) (hx:Passes CX X E)
  (ha:PA X (e::es) t) (gu:(x==("__debug__" :Str))=false:=by decide) (he:starEach (e::es) X.env=(false,eval e X.env)::starEach es X.env:=by rfl) (cf:(backTo pos (starEach es X.env)).any (·.1)=false:=by rfl):
  PE X (.Call (.Name x p) (e::es) [] pos) (pO sp iE E t):=by
 intro pins s σ H Q I h
 refine wpAny_Call_Name_kw (YE I hg hm ?_ gu)
 refine PySem.W.callWith_K (h₀:=X.base) I.ok.mod.i4 hk (aq (ha pos pins s σ H _ I h) fun us s1 ⟨vs,H1,I1,r,q⟩=> ⟨I1.bc,?_⟩) he cf
 exact Fs F hr hb hd hx I1 r q
structure Mk (K:PySem.W.Frag) (C f:Addr):Prop where
 makes:PySem.W.makesIn K C=true
 init:PySem.W.findIn K (.ref C) "__init__" =some (some (.ref f))
 fn:PySem.W.isFn K (.ref f)=true
 kp:PySem.W.keepIn K (.ref C)=true
end
section
variable {X:Cx}{CX:fI}{k:Nat}{f C:Addr}{fd:FuncData}{ps ks:List Str}{sp:Sp}{E:XK}{x m:Str}{p pos apos IB:Pos}{e o:Expr}{es:List Expr}{IA:List Keyword}{te ta:TE}{t tk:TA}{nm:Option Str}
structure Kf (K:PySem.W.Frag) (fd:FuncData) (ps ks:List Str) (g:List Value→List Value→List Value) (gV:List V→List V→List V):Prop where
 to:∀(s:Shared) (us ws:List Value),K.In s.heap→(g us ws).length=ps.length→BindsTo s fd ⟨us,ks.zip ws⟩ (ps.zip (g us ws))
 rel:∀{vs:List V}{us:List Value}{zs:List V}{ws:List Value},Vals vs us→Vals zs ws→Vals (gV vs zs) (g us ws)
variable {g:List Value→List Value→List Value}{gV:List V→List V→List V}
end
structure bI (N P:List Str) (sc:Scope):Prop where
 kind:sc.kind=.function
 co:sc.isCoroutine=false
 gen:sc.isGenerator=false
 nd:N.Nodup
 pre:N.take P.length=P
 par:∀x∈P,sc.names.lookup x=some .local∨sc.names.lookup x=some .cell
 By:∀y∈sc.names,y.2≠.free
theorem JU {kindOf:Str→Option NameKind}{x:Str} :∀{binds:List (Str×Value)}{m:Str→Option Value},(∀v,(x,v)∉binds)→bindL kindOf binds m x=m x
 | [],_,_=>rfl
 |(n,v)::r,m,h=>by
  unfold bindL
  rw[JU fun w hw=>h w (List.mem_cons_of_mem _ hw)]
  split
  ·have:x≠n:=by rintro rfl;exact h v List.mem_cons_self
   simp[this]
  ·rfl
theorem JX {kindOf:Str→Option NameKind}{x:Str} :∀{binds:List (Str×Value)}{m:Str→Option Value},(∀v,(x,v)∉binds)→bindC kindOf binds m x=m x
 | [],_,_=>rfl
 |(n,v)::r,m,h=>by
  unfold bindC
  rw[JX fun w hw=>h w (List.mem_cons_of_mem _ hw)]
  split
  ·rfl
  ·have:x≠n:=by rintro rfl;exact h v List.mem_cons_self
   simp[this]
theorem JV {kindOf:Str→Option NameKind}{x:Str}{v:Value} :∀{P:List Str}{vs:List Value}{i:Nat}{m:Str→Option Value},P.Nodup→P[i]? =some x→vs[i]? =some v→kindOf x=some .local→
  bindL kindOf (P.zip vs) m x=some v
 | [],_,_,_,_,h,_,_=>by simp at h
 |_::_,[],_,_,_,_,h,_=>by simp at h
 |p::P,w::vs,0,m,nd,h1,h2,hk=>by
  simp at h1 h2;subst h1;subst h2
  show bindL kindOf ((p,w)::P.zip vs) m p=_
  unfold bindL
  rw[JU fun v hv=> (List.nodup_cons.mp nd).1 (List.of_mem_zip hv).1,if_pos hk]
  simp
 |p::P,w::vs,i+1,m,nd,h1,h2,hk=>by
  show bindL kindOf ((p,w)::P.zip vs) m x=_
  unfold bindL
  exact JV (i:=i) (List.nodup_cons.mp nd).2 (by simpa using h1) (by simpa using h2) hk
theorem JY {kindOf:Str→Option NameKind}{x:Str}{v:Value} :∀{P:List Str}{vs:List Value}{i:Nat}{m:Str→Option Value},P.Nodup→P[i]? =some x→vs[i]? =some v→kindOf x≠some .local→
  bindC kindOf (P.zip vs) m x=some v
 | [],_,_,_,_,h,_,_=>by simp at h
 |_::_,[],_,_,_,_,h,_=>by simp at h
 |p::P,w::vs,0,m,nd,h1,h2,hk=>by
  simp at h1 h2;subst h1;subst h2
  show bindC kindOf ((p,w)::P.zip vs) m p=_
  unfold bindC
  rw[JX fun v hv=> (List.nodup_cons.mp nd).1 (List.of_mem_zip hv).1,if_neg hk]
  simp
 |p::P,w::vs,i+1,m,nd,h1,h2,hk=>by
  show bindC kindOf ((p,w)::P.zip vs) m x=_
  unfold bindC
  exact JY (i:=i) (List.nodup_cons.mp nd).2 (by simpa using h1) (by simpa using h2) hk
def start (N:List Str) (vs:List V):St:=vs.map some++List.replicate (N.length - vs.length) none
def aV (CX:fI) (P:Program) (w:World) (K:PySem.W.Frag) (mg:Str→Option Value) (base:Heap) (N:List Str) (qual:Str) (scope:Scope) (f:Addr) (cd:Value) (A:Around) (outer:List Env) (s:Shared) (H:Hp) (E:XK):Cx where
 prog:=P
 w:=w
 K:=K
 mg:=mg
 base:=base
 A:=A.deeper (envOfC qual scope s.heap.objs.size f cd)
 N:=N
 bw:=s
 gH:=H
 env:=envOfC qual scope s.heap.objs.size f cd
 outer:=outer
 stack:=envOfC qual scope s.heap.objs.size f cd::outer
 ex:=[]
 calm:=true
 fn:=fun _=>true
 pn:=[]
 xe:=fun e s'=>wpAny (model P w) (A.deeper (envOfC qual scope s.heap.objs.size f cd)) (leaving (envOfC qual scope s.heap.objs.size f cd) e) (fun _ dZ=>CX outer H s E e dZ) (fun e' dZ=>CX outer H s E e' dZ) s'
theorem WD {sc:Scope}{n:Nat}{x:Str}(h:sc.names.lookup x=some .cell):∃c,(cellsFrom n sc.names []).lookup x=some c:=by
 have q:=PySem.W.cellsFrom_some sc.names n [] (.inl h)
 exact Option.isSome_iff_exists.mp q
theorem UB {CX:fI}{P:Program}{w:World}{K:PySem.W.Frag}{mg:Str→Option Value}{base:Heap}{N ps:List Str}{qual:Str}{scope:Scope}{f:Addr}{cd:Value}{A:Around}{outer:List Env}{s s1:Shared}{H:Hp}{E:XK}{us:List Value}{vs:List V}
  (S:bI N ps scope) (hd:A.handled=none) (e0:mT P w K mg base A outer s H) (hl:vs.length=ps.length) (r:Vals vs us)
  (x:InCallC s s.heap.objs.size (bindL (envOfC qual scope s.heap.objs.size f cd).kindOf (ps.zip us) fun _=>none) (cellsFrom (s.heap.objs.size+1) scope.names []) (bindC (envOfC qual scope s.heap.objs.size f cd).kindOf (ps.zip us) fun _=>none) s1):
  Inv (aV CX P w K mg base N qual scope f cd A outer s H E) [] (start N vs) H s1:=by
 have cf:ps.length≤N.length:=by have:=congrArg List.length S.pre;rw[List.length_take]at this;omega
 obtain⟨h1,tk,rfl,hk⟩:=x.done
 have cb:∀b:Addr,b∉(aV CX P w K mg base N qual scope f cd A outer s H E).ex:=fun b z=>absurd (show b∈([]:List Addr) from z) (by simp)
 refine⟨⟨e0.mod,S.kind,rfl,rfl,Nat.le_refl _,fun y z c h1 h2=> ?_,fun y hy=> ?_,fun y c _ h=> ?_,fun _=>hd,Around.frames_deeper e0.frames,.inr ⟨rfl,rfl⟩,fun b z=>absurd z (cb b),e0.bs,e0.fU,fun b _ _=>cb b,fun b z=>absurd z (cb b),e0.cE,e0.eU⟩,
  rfl,e0.bare,Un.kept hk,⟨_,x.toInCall.ns,fun i y v h1 h2 h3=> ?_⟩,fun y c h=> ⟨_,x.cell y c h⟩,e0.ah.fresh (Nat.le_refl _),fun y c h=> ?_,fun p hp=>absurd (show p∈([]:List (Addr×Obj)) from hp) (by simp),e0.ah.kept hk,?_⟩
 ·exact name_of_addr x.apart (PySem.mem_of_lookup h1) (PySem.mem_of_lookup h2)
 ·have hy:scope.names.lookup y=some .cell∨scope.names.lookup y=some .free:=hy
  rcases hy with hy |hy
  ·exact WD hy
  ·exact absurd rfl (S.By _ (PySem.mem_of_lookup hy))
 ·exact Nat.le_of_lt (x.above y c (PySem.mem_of_lookup h))
 ·have hi:i<vs.length:=by
   unfold start at h2
   by_cases hi:i<vs.length
   ·exact hi
   ·rw[List.getElem?_append_right (by simpa using hi)]at h2
    rw[List.getElem?_replicate]at h2
    split at h2<;>cases h2
  have ha:vs[i]? =some v:=by
   unfold start at h2
   rw[List.getElem?_append_left (by simpa using hi),List.getElem?_map]at h2
   cases e:vs[i]? with
   |none=>rw[e]at h2;cases h2
   |some a=>rw[e]at h2;cases h2;rfl
  obtain⟨u,hu,rv⟩:=r.get ha
  have hp:ps[i]? =some y:=by
   rw[←S.pre,List.getElem?_take_of_lt (by omega)];exact h1
  have vX:ps.Nodup:=by rw[←S.pre];exact S.nd.sublist (List.take_sublist _ _)
  refine⟨u,rv,?_⟩
  rcases S.par y (List.mem_of_getElem? hp) with k |k
  ·exact .inl ⟨k,JV vX hp hu k⟩
  ·obtain⟨c,e⟩:=WD (n:=s.heap.objs.size+1) k
   refine .inr ⟨.inl k,c,e,?_⟩
   have q:=x.cell y c e
   rw[JY vX hp hu (by show scope.names.lookup y≠_;rw[k];decide)]at q
   exact q
 ·exact e0.ah.fresh (Nat.le_of_lt (x.above y c (PySem.mem_of_lookup h)))
 ·unfold start
  show _=N.length
  rw[List.length_append,List.length_map,List.length_replicate]
  omega
theorem tW {CX:fI}{P:Program}{w:World}{K:PySem.W.Frag}{mg:Str→Option Value}{base:Heap}{k:Nat}{f:Addr}{name qual:Str}{params:Arguments}{body:List Stmt}{scope:Scope}{dV kV doc pm ao ct oc:Value}{an od:Option Addr}
    {dq:Array (Option Value)}{N ps:List Str}{sp:Sp} (lk:K.lookup f=some ⟨oc,od,.func (PySem.W.fnOf name qual params body scope dV kV doc pm an ao ct),dq⟩) (bP:PySem.W.codeIn K ao qual=true) (S:bI N ps scope)
    (len:∀vs H Q E,sp vs H Q E→vs.length=ps.length)
    (sP:∀(A:Around) (outer:List Env) (s:Shared) (H:Hp) (vs:List V) (Q:VK) (E:XK),bo k (A.deeper (envOfC qual scope s.heap.objs.size f ao))→sp vs H Q E→
      ∃t,cW (aV CX P w K mg base N qual scope f ao A outer s H E) body t∧t {nx:=fun _ H'=>Q .aa H',rt:=Q} (start N vs) H):
    az P w K mg base CX (k+1) f (PySem.W.fnOf name qual params body scope dV kV doc pm an ao ct) ps sp:=by
  refine⟨len,fun A outer s H args us vs Q E hr e0 hb r cw=> ?_⟩
  have hl:=len _ _ _ _ cw
  have KX:K.In s.heap:=e0.mod.i4.keeps fun b o e=> (e0.bs b o e).1
  have lim:s.heap.NoLimit:=e0.mod.nolimit.keeps fun b o e=> (e0.bs b o e).1
  have C9:∀y∈ps.zip us,scope.names.lookup y.1=some .local∨(scope.names.lookup y.1=some .cell∧((cellsFrom (s.heap.objs.size+1) scope.names []).lookup y.1).isSome=true):=fun⟨n,v⟩ hy=>by
    rcases S.par n (List.of_mem_zip hy).1 with q |q
    · exact .inl q
    · exact .inr ⟨q,PySem.W.cellsFrom_some _ _ _ (.inl q)⟩
  refine codeAny_call_function hr.depth (KX _ _ lk) rfl S.co S.gen rfl (PySem.W.codeRec_of KX bP) (hb _ _ _ _ ?_)
  refine wpAny_newFunctionEnv_cells S.kind C9 fun env he s1 x=> ?_
  subst he
  refine⟨lim.keeps x.toInCall.keep,codeAny_func ?_⟩
  obtain⟨t,ht,hq⟩:=sP A outer s H vs Q E (hr.deeper _) cw
  have I:Inv (aV CX P w K mg base N qual scope f ao A outer s H E) [] (start N vs) H s1:=UB S hr.hd e0 hl r x
  refine wpAny_mono (ht [] s1 (start N vs) H _ I hq) (fun fl s' hs=> ?_) fun e s' hs=>hs
  have fin:∀{aj:St}{H':Hp}{v:V}{u:Value},Inv (aV CX P w K mg base N qual scope f ao A outer s H E) [] aj H' s'→RelV v u→Q v H'→CE outer P w H s Q u s':=
    fun {aj H' v u} J rv q=> ⟨v,H',J.os,J.bare,J.base,J.ah,rv,q⟩
  cases fl with
  |ret u=>
   obtain⟨v,aj,H',J,rv,q⟩:=hs
   exact fin J rv q
  |next=>
   obtain⟨aj,H',J,q⟩:=hs
   exact fin (v:=V.aa) (u:=Value.none) J rfl q
  |brk=>
   obtain⟨_,_,_,q⟩:=hs
   exact False.elim q
  |cont=>
   obtain⟨_,_,_,q⟩:=hs
   exact False.elim q
section
variable {X:Cx}{x:Str}{p pos:Pos}{e:Expr}{es:List Expr}{t:TA}{id T:String}{r:List V→Hp→VK→Prop}
def uH (r:List V→Hp→VK→Prop) (t:TA):TE:=fun σ H Q=>t σ H fun vs H1=>r vs H1 Q
theorem Zg (hc:cX X (.builtin id) r) (hg:Gl X x) (hm:X.mg x=none) (hv:bootBuiltins x=some (.builtin id)) (ha:PA X (e::es) t) (hn:x≠ "__name__" :=by decide) (gu:(x==("__debug__" :Str))=false:=by decide)
  (he:starEach (e::es) X.env=(false,eval e X.env)::starEach es X.env:=by rfl) (cf:(backTo pos (starEach es X.env)).any (·.1)=false:=by rfl):PE X (.Call (.Name x p) (e::es) [] pos) (uH r t):=by
 intro pins s σ H Q I h
 refine wpAny_Call_Name_kw (YO I hg hm hv ?_ hn gu)
 exact PyProof.Rows.callWith_builtin1 (aq (ha pos pins s σ H _ I h) fun us s1 ⟨vs,H1,I1,r1,q1⟩=>hc pins s1 σ H1 vs us Q I1 r1 q1) he cf
theorem ZR (hc:cX X (.type T) r) (hg:Gl X x) (hm:X.mg x=none) (hv:bootBuiltins x=some (.type T)) (ha:PA X (e::es) t) (hn:x≠ "__name__" :=by decide) (gu:(x==("__debug__" :Str))=false:=by decide)
  (he:starEach (e::es) X.env=(false,eval e X.env)::starEach es X.env:=by rfl) (cf:(backTo pos (starEach es X.env)).any (·.1)=false:=by rfl):PE X (.Call (.Name x p) (e::es) [] pos) (uH r t):=by
 intro pins s σ H Q I h
 refine wpAny_Call_Name_kw (YO I hg hm hv ?_ hn gu)
 exact PyProof.Rows.callWith_type1 (aq (ha pos pins s σ H _ I h) fun us s1 ⟨vs,H1,I1,r1,q1⟩=>hc pins s1 σ H1 vs us Q I1 r1 q1) he cf
end
end L2
namespace HT
open PySem PyProof.Rows
section
open PySem.SeqAt
open PySem.AutoSeq1 (wpAny_loadPart')
open PySem.MeetsSeq PySem.MeetsSeq2 PySem.MeetsSeq3
end
section
variable {prog:Program}{w:World}{A:Around}{E:Value→Shared→Prop}{s:Shared}
theorem ER {t b:Addr}{vs ws:List Value}{Q:Value→Shared→Prop}(ht:IsTup s.heap t vs.toArray) (hb:IsTup s.heap b ws.toArray) (hv:vs≠[])
  (h1:ws=[]→Q (.ref t) s) (h2:ws≠[]→Q (.ref s.heap.objs.size) {s with heap:=s.heap.push {cls:=.type "tuple",data:=.seq (vs++ws).toArray} })
  (eC:vs.length+ws.length≤sizeLine):wpAny (model prog w) A (binaryOp .Add (.ref t) (.ref b)) Q E s:=by
 obtain⟨⟨cls,dd,data,sl⟩,ho,hc,n,hd⟩:=id ht
 obtain⟨⟨EN,oW,data2,iR⟩,jd,jf,n2,hd2⟩:=id hb
 simp only at hc hd jf hd2
 subst hc hd jf hd2
 have e:vs.toArray++ws.toArray=(vs++ws).toArray:=by simp
 by_cases hw:ws=[]
 ·exact concat_meets ⟨_,ho,rfl⟩ ⟨_,jd,rfl⟩ noFill_tuple_add seq_tuple_add PySem.F.slot_tuple_add PySem.F.entry_tuple_add (PySem.F.args_tuple_add_2 _ _)
   (tuple_addW1 t b vs.toArray ws.toArray n n2 dd oW sl iR (by simpa using hv) (by simp[hw])) ⟨ho,jd,h1 hw⟩
 ·refine concat_meets ⟨_,ho,rfl⟩ ⟨_,jd,rfl⟩ noFill_tuple_add seq_tuple_add PySem.F.slot_tuple_add PySem.F.entry_tuple_add (PySem.F.args_tuple_add_2 _ _)
   (tuple_addW2 t b vs.toArray ws.toArray n n2 dd oW sl iR (by simpa using hv) (by simpa using hw) (by rw[List.size_toArray,List.size_toArray];exact eC)) ⟨ho,jd,?_⟩
  rw[e]
  exact h2 hw
def aw (n d:Nat):Option Int→Nat
 |none=>d
 |some v=>if v<0 then (v+(n:Int)).toNat else min v.toNat n
theorem nV (n d:Nat):aw n d none=d:=rfl
theorem jP (n d k:Nat):aw n d (some (k:Int))=min k n:=by
 show(if (k:Int)<0 then ((k:Int)+(n:Int)).toNat else min (k:Int).toNat n)=min k n
 rw[if_neg (by omega),Int.toNat_natCast]
theorem Ft (n d:Nat) (hd:d≤n) (o:Option Int):aw n d o≤n:=by
 cases o with
 |none=>exact hd
 |some v=>
  show(if v<0 then (v+(n:Int)).toNat else min v.toNat n)≤n
  by_cases hv:v<0
  ·rw[if_pos hv];omega
  ·rw[if_neg hv];exact Nat.min_le_right _ _
theorem Ue (v:Int) (n d:Nat):(if v<0 then max (v+(n:Int)) 0 else min v (n:Int))=((aw n d (some v):Nat):Int):=by
 show(if v<0 then max (v+(n:Int)) 0 else min v (n:Int))=(((if v<0 then (v+(n:Int)).toNat else min v.toNat n):Nat):Int)
 by_cases hv:v<0
 ·simp only[if_pos hv];omega
 ·simp only[if_neg hv];omega
theorem W4 (lo hi:Option Int) (n:Nat):Builtin.Slice.sliceAdjust lo hi 1 (n:Int)=(((aw n 0 lo:Nat):Int),((aw n n hi:Nat):Int)):=by
 have h1:¬((1:Int)<0):=by omega
 unfold Builtin.Slice.sliceAdjust
 simp only[h1,if_false]
 refine Prod.ext ?_ ?_
 ·cases lo with
  |none=>rfl
  |some v=>exact Ue v n 0
 ·cases hi with
  |none=>rfl
  |some v=>exact Ue v n n
theorem WM (i j:Nat):Builtin.Slice.slicePlaces (i:Int) (j:Int) 1=j - i:=by
 unfold Builtin.Slice.slicePlaces
 have h1:(1:Int)>0:=by omega
 simp only[h1,if_true,Int.ediv_one]
 split<;>omega
theorem Jk {v:Value}{o:Option Int}{Q:Option Int→Shared→Prop}(p:IsPart v o) (h:Q o s):wpAny (model prog w) A (Builtin.Slice.slicePartIndex v) Q E s:=by
 cases p with
 |none=>exact slicePart_none h
 |int i t=>exact slicePart_int h
theorem Y4 {sl:Addr}{vl vu:Value}{lo hi:Option Int}{n:Nat}{Q:Int×Int×Nat→Shared→Prop}(hs:s.heap.IsSliceOf sl vl vu .none) (pl:IsPart vl lo) (pu:IsPart vu hi)
  (h:Q (((aw n 0 lo:Nat):Int),1,aw n n hi - aw n 0 lo) s):wpAny (model prog w) A (Builtin.Slice.sliceApplied (.ref sl) (pure (n:Int))) Q E s:=by
 obtain⟨os,lN,xj,oS⟩:=id hs
 unfold Builtin.Slice.sliceApplied Builtin.Slice.sliceFields
 refine wpAny_bind (wpAny_bind (wpAny_field lN oS (x:=vl) rfl (wpAny_bind (wpAny_field lN oS (x:=vu) rfl (wpAny_bind (wpAny_field lN oS (x:=.none) rfl (wpAny_pure ?_)))))))
 refine wpAny_bind (slicePart_none ?_)
 show wpAny _ _ (if ((1:Int)==0)=true then _ else _) _ _ s
 rw[if_neg (by decide)]
 refine wpAny_bind (Jk pl (wpAny_bind (Jk pu (wpAny_bind (wpAny_pure ?_)))))
 show wpAny _ _ (match Builtin.Slice.sliceAdjust lo hi 1 (n:Int) with |(lo,hi)=>pure (lo,(1:Int),Builtin.Slice.slicePlaces lo hi 1)) _ _ s
 rw[W4 lo hi n]
 show wpAny _ _ (pure (((aw n 0 lo:Nat):Int),(1:Int),Builtin.Slice.slicePlaces ((aw n 0 lo:Nat):Int) ((aw n n hi:Nat):Int) 1)) _ _ s
 rw[WM]
 exact wpAny_pure h
theorem UV (xs:Array Value) (i k:Nat):((List.range k).filterMap fun(m:Nat)=>xs[((i:Int)+(m:Int)*1).toNat]?).toArray=((xs.toList.drop i).take k).toArray:=by
 have e:(fun(m:Nat)=>xs[((i:Int)+(m:Int)*1).toNat]?)=fun m=>xs[i+m]? :=by
  funext m
  have:((i:Int)+(m:Int)*1).toNat=i+m:=by omega
  rw[this]
 rw[e]
 have:=pick_run xs i k
 rw[List.filterMap_map]at this
 have e2:((fun x=>xs[x]?)∘fun x=>i+x)=fun m=>xs[i+m]? :=rfl
 rw[e2]at this
 rw[this]
theorem Ec {t sl:Addr}{items:Array Value}{vl vu:Value}{lo hi:Option Int}{Q:Value→Shared→Prop}(ht:IsTup s.heap t items) (hs:s.heap.IsSliceOf sl vl vu .none) (pl:IsPart vl lo) (pu:IsPart vu hi)
  (hw:¬(aw items.size 0 lo=0∧aw items.size items.size hi=items.size))
  (h:Q (.ref s.heap.objs.size) {s with heap:=s.heap.push {cls:=.type "tuple",data:=.seq ((items.toList.drop (aw items.size 0 lo)).take (aw items.size items.size hi - aw items.size 0 lo)).toArray} })
  (eC:items.size≤sizeLine):wpAny (model prog w) A (getItem (.ref t) (.ref sl)) Q E s:=by
 have oF:sizeOk (.seq ((items.toList.drop (aw items.size 0 lo)).take (aw items.size items.size hi - aw items.size 0 lo)).toArray):=by
  show((items.toList.drop (aw items.size 0 lo)).take (aw items.size items.size hi - aw items.size 0 lo)).toArray.size≤sizeLine
  rw[List.size_toArray,List.length_take,List.length_drop,Array.length_toList]
  omega
 have hj:aw items.size items.size hi≤items.size:=Ft _ _ (Nat.le_refl _) hi
 obtain⟨os,lN,xj,oS⟩:=id hs
 have eH:s.TypeIs (.ref sl) "slice" :=⟨os,lN,xj⟩
 unfold getItem
 try with_reducible refine wpAny_holding ?_
 first |refine wpAny_bind (wpAny_pure ?_) |skip
 refine wpAny_bind (wpAny_sequenceKey ht.typeIs (by decide) ?_)
 refine wpAny_bind (wpAny_callSpecial?_slot (name:=Str.ofString "__getitem__") ht.typeIs PyProof.Rows.slot_tuple_getitem
  (wpAny_call_entry PyProof.Rows.slot_tuple_getitem ht.typeIs entry_tuple_getitem ?_ (args_tuple_getitem _ _)))
 show wpAny _ _ (Builtin.Tuple.tupleItemsOf (.ref t) >>=_) _ _ s
 refine wpAny_bind (tupleItemsOf_ ht ?_)
 refine wpAny_bind (wpAny_typeOf eH ?_)
 rw[if_pos (by decide)]
 refine wpAny_bind (Y4 hs pl pu ?_)
 have fN:¬((((aw items.size 0 lo:Nat):Int)==0&&(1:Int)==1&&(aw items.size items.size hi - aw items.size 0 lo)==items.size)=true):=by
  intro q
  rw[Bool.and_eq_true,Bool.and_eq_true]at q
  have q1:((aw items.size 0 lo:Nat):Int)=0:=eq_of_beq q.1.1
  have q2:aw items.size items.size hi - aw items.size 0 lo=items.size:=eq_of_beq q.2
  exact hw ⟨by omega,by omega⟩
 show wpAny _ _ (if (((aw items.size 0 lo:Nat):Int)==0&&(1:Int)==1&&(aw items.size items.size hi - aw items.size 0 lo)==items.size)=true then _ else _) _ _ s
 rw[if_neg fN,UV]
 first
  |exact wpAny_bind (m:=Builtin.Tuple.tupleExact _) (wpAny_newObj_type (wpAny_pure ⟨_,rfl,wpAny_pure h⟩) oF)
  |exact wpAny_bind (m:=Builtin.Tuple.tupleExact _) (wpAny_newObj_type (wpAny_bind (wpAny_pure (wpAny_pure ⟨_,rfl,wpAny_pure h⟩))) oF)
  |exact wpAny_bind (wpAny_bind (m:=Builtin.Tuple.tupleExact _) (wpAny_newObj_type (wpAny_pure (wpAny_pure ⟨_,rfl,wpAny_pure h⟩)) oF))
  |exact wpAny_bind (wpAny_bind (m:=Builtin.Tuple.tupleExact _) (wpAny_newObj_type (wpAny_pure ⟨_,rfl,wpAny_pure h⟩) oF))
end
end HT
namespace L2
open PySem PySem.Spec PyProof.Rows
abbrev TO:=St→Hp→(Option Int→Hp→Prop)→Prop
def PO (X:Cx) (e:Option Expr) (t:TO):Prop:=
 ∀(pins:List (Addr×Obj)) (s:Shared) (σ:St) (H:Hp) (Q:Option Int→Hp→Prop),Inv X pins σ H s→t σ H Q→
  wpAny (model X.prog X.w) X.A (evalPart e X.env) (fun u s'=> ∃o H',Inv X pins σ H' s'∧IsPart u o∧Q o H') X.xe s
def nB:TO:=fun _ H Q=>Q none H
def nA (t:TE):TO:=fun σ H Q=>t σ H fun x H1=> ∃i,x=.int i∧Q (some i) H1
theorem WZ {ns:List Int} :∀{us:List Value},Vals (ns.map V.int) us→IntsAre us ns:=by
 induction ns with
 |nil=>intro us r;rw[List.map_nil]at r;cases r;exact .nil
 |cons n ns ih=>
  intro us r
  rw[List.map_cons]at r
  cases r with
  |cons r1 r2=>
   obtain⟨t,e⟩:=r1
   subst e
   exact .cons n t (ih r2)
section
variable {X:Cx}{e:Expr}{te:TE}{lo hi:Option Expr}{tl th:TO}{pos p2:Pos}
theorem Yn:PO X none nB:=by
 intro pins s σ H Q I h
 rw[evalPart_none]
 exact wpAny_pure ⟨none,H,I,.none,h⟩
theorem Ym (h:PE X e te):PO X (some e) (nA te):=by
 intro pins s σ H Q I hw
 rw[evalPart_some]
 refine aq (h pins s σ H _ I hw) fun u s1 ⟨x,H1,I1,r1,q1⟩=> ?_
 obtain⟨i,rfl,q⟩:=q1
 obtain⟨t,rfl⟩:=r1
 exact⟨some i,H1,I1,.int i t,q⟩
def ua (X:Cx) (r:V→Option Int→Option Int→Hp→VK→Prop):Prop:=
 ∀(pins:List (Addr×Obj)) (s:Shared) (σ:St) (H:Hp) (x:V) (v vl vu:Value) (lo hi:Option Int) (sl:Addr) (Q:VK),Inv X pins σ H s→RelV x v→s.heap.IsSliceOf sl vl vu .none→IsPart vl lo→IsPart vu hi→r x lo hi H Q→
  ∃T id,typeLookup (.type T) "__getitem__" =pure (some (.builtin id))∧s.TypeIs v T∧wpAny (model X.prog X.w) X.A (getItem v (.ref sl)) (EP X pins σ Q) X.xe s
def nv (r:V→Option Int→Option Int→Hp→VK→Prop) (te:TE) (tl th:TO):TE:=fun σ H Q=>te σ H fun x H1=>tl σ H1 fun l H2=>th σ H2 fun u H3=>r x l u H3 Q
theorem Yd {r:V→Option Int→Option Int→Hp→VK→Prop}(hr:ua X r) (he:PE X e te) (hl:PO X lo tl) (hu:PO X hi th):PE X (.Subscript e (.Slice lo hi none p2) pos) (nv r te tl th):=by
 intro pins s σ H Q I h
 refine Subscript_ (aq (he pins s σ H _ I h) fun v s1 ⟨x,H1,I1,r1,q1⟩=> ?_)
 refine wpAny_Slice (aq (hl pins s1 σ H1 _ I1 q1) fun vl s2 ⟨l,H2,I2,pl,q2⟩=>aq (hu pins s2 σ H2 _ I2 q2) fun vu s3 ⟨u,H3,I3,pu,q3⟩=> ?_)
 rw[evalPart_none]
 refine wpAny_pure ?_
 have I4:Inv X pins σ H3 {s3 with heap:=s3.heap.push {cls:=.type "slice",data:=.fields #[vl,vu,.none]} } :=I3.kept (t':=s3.toks) fun b ob q=>Heap.get?_push_of_some _ q
 obtain⟨T,id,hT,ht,hg⟩:=hr pins {s3 with heap:=s3.heap.push {cls:=.type "slice",data:=.fields #[vl,vu,.none]} } σ H3 x v vl vu l u s3.heap.objs.size Q I4 r1 (Heap.IsSliceOf.new ..) pl pu q3
 show wpAny (model X.prog X.w) X.A (subscriptTail e (.Slice lo hi none p2) v (.ref s3.heap.objs.size)) (EP X pins σ Q) X.xe {s3 with heap:=s3.heap.push {cls:=.type "slice",data:=.fields #[vl,vu,.none]} }
 exact tail_any (ops:=[.ref s3.heap.objs.size,v]) ht hT hg (by with_unfolding_all rfl)
def dw (xs:List V) (lo hi:Option Int):List V:=(xs.drop (HT.aw xs.length 0 lo)).take (HT.aw xs.length xs.length hi - HT.aw xs.length 0 lo)
theorem Jc (xs:List V) (lo hi:Option Int):(dw xs lo hi).length≤xs.length:=by
 unfold dw
 rw[List.length_take,List.length_drop]
 omega
def gX (K:PySem.W.Frag):V→Option Int→Option Int→Hp→VK→Prop:=fun x lo hi H Q=> ∃a xs,x=.ref a∧ai K H a xs∧
 ¬(HT.aw xs.length 0 lo=0∧HT.aw xs.length xs.length hi=xs.length)∧∀p,H p=none→Q (.ref p) (upd H p (.tup (dw xs lo hi)))
theorem Jl:ua X (gX X.K):=by
 intro pins s σ H x v vl vu lo hi sl Q I rx hs pl pu h
 obtain⟨a,xs,rfl,hx,hw,q⟩:=h
 cases rx
 obtain⟨its,r,ht,hz⟩:=I.tuple hx
 have hlen:its.toArray.size=xs.length:=by rw[List.size_toArray];exact r.length.symm
 refine⟨"tuple",_,PyProof.Rows.slot_tuple_getitem.lookup,ht.typeIs,?_⟩
 refine HT.Ec ht hs pl pu (by rw[hlen];exact hw) ?_ (by rw[hlen];exact hz)
 rw[hlen]
 refine⟨.ref s.heap.objs.size,_,I.laid (t':=s.toks) (o:=.tup (dw xs lo hi)) (fun b ob q=>Heap.get?_push_of_some _ q) (Nat.le_refl _) ?_,rfl,q _ (I.ah.fresh (Nat.le_refl _))⟩
 exact⟨Nat.le_trans (Jc xs lo hi) hz,_,(r.drop (HT.aw xs.length 0 lo)).take (HT.aw xs.length xs.length hi - HT.aw xs.length 0 lo),IsTup.new _ _,_,Heap.get?_push_size _ rfl,rfl⟩
def vq (K:PySem.W.Frag):R2:=fun x y H Q=> ∃a b xs ys,x=.ref a∧y=.ref b∧ai K H a xs∧ai K H b ys∧xs≠[]∧xs.length+ys.length≤sizeLine∧
 (ys=[]→Q (.ref a) H)∧(ys≠[]→∀p,H p=none→Q (.ref p) (upd H p (.tup (xs++ys))))
theorem Vals.rm {xs:List V}{us:List Value}(r:Vals xs us):us=[]↔xs=[]:=by
 cases r with
 |nil=>simp
 |cons _ _=>simp
theorem GR:aO X (binaryOp .Add) (vq X.K):=by
 intro pins s σ H x y v u Q I rx ry h
 obtain⟨a,b,xs,ys,rfl,rfl,ha,hb,hx,hz,q1,q2⟩:=h
 cases rx
 cases ry
 obtain⟨its,r1,p1,_⟩:=I.tuple ha
 obtain⟨i6,r2,p2,_⟩:=I.tuple hb
 refine HT.ER p1 p2 (fun z=>hx (r1.rm.mp z)) (fun z=> ⟨.ref a,H,I,rfl,q1 (r2.rm.mp z)⟩) (fun z=> ?_) (by rw[←r1.length,←r2.length];exact hz)
 refine⟨.ref s.heap.objs.size,_,I.laid (t':=s.toks) (o:=.tup (xs++ys)) (fun b ob q=>Heap.get?_push_of_some _ q) (Nat.le_refl _) ?_,rfl,q2 (fun w=>z (r2.rm.mpr w)) _ (I.ah.fresh (Nat.le_refl _))⟩
 exact⟨by rw[List.length_append];exact hz,_,r1.append r2,IsTup.new _ _,_,Heap.get?_push_size _ rfl,rfl⟩
end
def fg (n:Nat) (i:Int):Option Nat:=if 0≤i then (if i<n then some i.toNat else none) else if -(n:Int)≤i then some (i+n).toNat else none
def eJ {α:Type} (xs:List α) (i:Int):Option α:=(fg xs.length i).bind fun j=>xs[j]?
theorem Wd {n:Nat}{i:Int}{j:Nat}(h:fg n i=some j):seqIndex? i n=some j∧j<n∧ -(n:Int)≤i∧i<n:=by
 unfold fg at h
 by_cases h0:0≤i
 ·rw[if_pos h0]at h
  by_cases h1:i<n
  ·rw[if_pos h1]at h
   have e:i.toNat=j:=Option.some.inj h
   exact⟨by rw[seqIndex_of h0 h1,e],by omega,by omega,h1⟩
  ·rw[if_neg h1]at h;cases h
 ·rw[if_neg h0]at h
  by_cases h1: -(n:Int)≤i
  ·rw[if_pos h1]at h
   have e:(i+n).toNat=j:=Option.some.inj h
   exact⟨by rw[seqIndex_neg (by omega) h1,e],by omega,h1,by omega⟩
  ·rw[if_neg h1]at h;cases h
theorem Uf {α:Type}{xs:List α}{i:Int}{v:α}(h:eJ xs i=some v):∃j,seqIndex? i xs.length=some j∧xs[j]? =some v∧j<xs.length∧ -(xs.length:Int)≤i∧i<xs.length:=by
 unfold eJ at h
 cases e:fg xs.length i with
 |none=>rw[e]at h;cases h
 |some j=>
  rw[e]at h
  obtain⟨h1,h2,h3,h4⟩:=Wd e
  exact⟨j,h1,h,h2,h3,h4⟩
theorem ZK {α:Type}{xs:List α}{j:Nat}{v:α}(h:xs[j]? =some v):eJ xs (j:Int)=some v:=by
 have hj:j<xs.length:=(List.getElem?_eq_some_iff.mp h).1
 have e:fg xs.length (j:Int)=some j:=by
  unfold fg
  rw[if_pos (by omega),if_pos (by omega)];simp
 unfold eJ;rw[e];exact h
def Hy (b:Expr):Prop:=∀o i,subscripted b false o i=operate [o,i] (getItem o i)
def kq (X:Cx) (r:R2):Prop:=
 ∀(value slice:Expr) (pins:List (Addr×Obj)) (s:Shared) (σ:St) (H:Hp) (x y:V) (v u:Value) (Q:VK),Inv X pins σ H s→RelV x v→RelV y u→r x y H Q→
  subscripted slice false v u=operate [v,u] (getItem v u)→wpAny (model X.prog X.w) X.A (subscriptTail value slice v u) (EP X pins σ Q) X.xe s
def yT (X:Cx) (id:String) (r:V→List V→Hp→VK→Prop):Prop:=
 ∀(pins:List (Addr×Obj)) (s:Shared) (σ:St) (H:Hp) (x:V) (xs:List V) (v:Value) (us:List Value) (Q:VK),Inv X pins σ H s→RelV x v→Vals xs us→r x xs H Q→
  wpAny (model X.prog X.w) X.A (call (.builtin id) (v::us)) (EP X pins σ Q) X.xe s
section
variable {X:Cx}{a b:Expr}{ta tb:TE}{pos:Pos}
theorem ZG {r:R2}(hr:kq X r) (ha:PE X a ta) (hb:PE X b tb) (hs:Hy b):PE X (.Subscript a b pos) (fJ r ta tb):=by
 intro pins s σ H Q I h
 exact Subscript_ (tS ha hb I h fun v u s2 x y H2 I2 rx ry q=>hr a b pins s2 σ H2 x y v u Q I2 rx ry q (hs _ _))
def vp (K:PySem.W.Frag):R2:=fun x y H Q=> ∃p xs i v,x=.ref p∧y=.int i∧af K H p xs∧eJ xs i=some v∧Q v H
def qJ (K:PySem.W.Frag):R2:=fun x y H Q=> ∃p xs i v,x=.ref p∧y=.int i∧ai K H p xs∧eJ xs i=some v∧Q v H
theorem ZC:kq X (vp X.K):=by
 intro value slice pins s σ H x y v u Q I rx ry h hs
 obtain⟨p,xs,i,z,rfl,rfl,hq,he,q⟩:=h
 cases rx
 obtain⟨t,rfl⟩:=ry
 obtain⟨its,r,pl,hz⟩:=I.list hq
 obtain⟨j,h1,h2,h3,h4,h5⟩:=Uf he
 obtain⟨w,ew,fc⟩:=r.get h2
 have hl:=r.length
 have hn:=oC
 have fin:EP X pins σ Q w s:=⟨z,H,I,fc,q⟩
 by_cases h0:0≤i
 ·have hj:i.toNat=j:=by
   rw[seqIndex_of h0 h5]at h1
   exact Option.some.inj h1
  exact item_listR pl.isList h0 (by omega) (by rw[hj];simpa using ew) fin hs
 ·have hj:(i+(its.toArray.size:Int)).toNat=j:=by
   rw[seqIndex_neg (by omega) h4]at h1
   rw[List.size_toArray,←hl]
   exact Option.some.inj h1
  exact subscriptTail_builtinR (x:=w) pl.isList.typeIs slot_list_getitem.lookup
   (wpAny_getItem_list_neg (Q:=fun r s'=>r=w∧EP X pins σ Q r s') pl.isList (by omega) (by rw[List.size_toArray]<;>omega) (by omega) (by rw[hj];simpa using ew) ⟨rfl,fin⟩) hs
theorem Yq:kq X (qJ X.K):=by
 intro value slice pins s σ H x y v u Q I rx ry h hs
 obtain⟨p,xs,i,z,rfl,rfl,hq,he,q⟩:=h
 cases rx
 obtain⟨t,rfl⟩:=ry
 obtain⟨its,r,pl,hz⟩:=I.tuple hq
 obtain⟨j,h1,h2,h3,h4,h5⟩:=Uf he
 obtain⟨w,ew,fc⟩:=r.get h2
 have hl:=r.length
 have hn:=oC
 have fin:EP X pins σ Q w s:=⟨z,H,I,fc,q⟩
 exact subscriptTail_builtinR (x:=w) pl.typeIs slot_tuple_getitem.lookup
  (getItem_tuple (j:=j) (Q:=fun r s'=>r=w∧EP X pins σ Q r s') pl (by omega) (by omega) (by rw[List.size_toArray,←hl];exact h1) (by simpa using ew) ⟨rfl,fin⟩) hs
theorem WU (its:List Value) (n j:Nat) (u:Value):Obj.mapSeq (·.setIfInBounds j u) {cls:=.type "list",data:=.seq its.toArray n} = {cls:=.type "list",data:=.seq (its.set j u).toArray n} :=by
 simp[Obj.mapSeq]
theorem Inv.lst {pins:List (Addr×Obj)}{σ:St}{H:Hp}{s:Shared}{p:Addr}{xs:List V}(I:Inv X pins σ H s) (h:H p=some (.lst xs)):
  ∃(its:List Value) (n:Nat),Vals xs its∧s.heap.get? p=some {cls:=.type "list",data:=.seq its.toArray n}∧xs.length≤sizeLine:=by
 obtain⟨z,its,n,r,e⟩:=I.ah p _ h
 exact⟨its,n,r,e,z⟩
theorem Inv.BS {pins:List (Addr×Obj)}{σ:St}{H:Hp}{s:Shared}{p:Addr}{xs ys:List V}{its its':List Value}{n n':Nat}{f:Obj→Obj}(I:Inv X pins σ H s) (h:H p=some (.lst xs))
  (ho:s.heap.get? p=some {cls:=.type "list",data:=.seq its.toArray n}) (hf:f {cls:=.type "list",data:=.seq its.toArray n} = {cls:=.type "list",data:=.seq its'.toArray n'}) (r:Vals ys its') (hz:ys.length≤sizeLine) (t:Nat):
  Inv X pins σ (upd H p (.lst ys)) {s with heap:=s.heap.update p f,toks:=t} :=by
 have e:(s.heap.update p f).get? p=some {cls:=.type "list",data:=.seq its'.toArray n'} :=by
  rw[Heap.get?_update_self f ho (by rw[hf]<;>rfl),hf]
 refine I.write (x:=p) (e:=p) (by rw[h];trivial) (.inl rfl) (fun b u hb q=> (Heap.get?_update_other _ _ (Ne.symm hb)).trans q) ⟨_,e⟩ ?_
 exact⟨hz,its',n',r,e⟩
def AX:V→V→V→Hp→(Hp→Prop)→Prop:=fun o i v H Q=> ∃p xs k j,o=.ref p∧i=.int k∧H p=some (.lst xs)∧fg xs.length k=some j∧Q (upd H p (.lst (xs.set j v)))
theorem YU:yR X AX:=by
 intro pins s σ H o i v ov iv u Q I ro ri rv h
 obtain⟨p,xs,k,j,rfl,rfl,hp,hj,q⟩:=h
 cases ro
 obtain⟨t,rfl⟩:=ri
 obtain⟨its,n,r,ho,hz⟩:=I.lst hp
 obtain⟨h1,h2,h3,h4⟩:=Wd hj
 have hl:=r.length
 have hn:=oC
 have I':Inv X pins σ (upd H p (.lst (xs.set j v))) {s with heap:=s.heap.update p (Obj.mapSeq (·.setIfInBounds j u))} :=
  I.BS hp ho (WU its n j u) (r.set rv j) (by rw[List.length_set];exact hz) s.toks
 by_cases h0:0≤k
 ·have hk:k.toNat=j:=by
   rw[seqIndex_of h0 h4]at h1
   exact Option.some.inj h1
  exact PySem.W.ki_setAt ho h0 (by omega) (by rw[List.size_toArray,←hl];exact h4) (by rw[hk];exact⟨_,I',q⟩)
 ·have hk:(k+(its.toArray.size:Int)).toNat=j:=by
   rw[seqIndex_neg (by omega) h3]at h1
   rw[List.size_toArray,←hl]
   exact Option.some.inj h1
  exact PySem.W.ki_setBack ho (by omega) (by rw[List.size_toArray,←hl];exact h3) (by omega) (by rw[hk];exact⟨_,I',q⟩)
theorem JZ (lo hi:Option Int) (n:Nat):(sliceBounds lo hi none n).1=((HT.aw n 0 lo:Nat):Int)∧(sliceBounds lo hi none n).2.1=((HT.aw n n hi:Nat):Int)∧(sliceBounds lo hi none n).2.2=1:=by
 refine⟨?_,?_,rfl⟩
 ·cases lo with
  |none=>simp[sliceBounds,HT.aw]
  |some i=>
   simp only[sliceBounds,HT.aw,Option.getD_none,show(1:Int)>0 by decide,if_true]
   by_cases h:i<0
   ·simp only[h,if_true]<;>omega
   ·simp only[h,if_false]<;>omega
 ·cases hi with
  |none=>simp[sliceBounds,HT.aw]
  |some i=>
   simp only[sliceBounds,HT.aw,Option.getD_none,show(1:Int)>0 by decide,if_true]
   by_cases h:i<0
   ·simp only[h,if_true]<;>omega
   ·simp only[h,if_false]<;>omega
theorem JD (its:List Value) (lo hi:Option Int):slicePick its.toArray lo hi none=((its.drop (HT.aw its.length 0 lo)).take (HT.aw its.length its.length hi - HT.aw its.length 0 lo)).toArray:=by
 obtain⟨h1,h2,h3⟩:=JZ lo hi its.toArray.size
 unfold slicePick
 rw[h1,h2,h3]
 simp only[sliceRange_one,pick_run,List.size_toArray]<;>rfl
def AW (K:PySem.W.Frag):V→Option Int→Option Int→Hp→VK→Prop:=fun x lo hi H Q=> ∃a xs,x=.ref a∧af K H a xs∧∀p,H p=none→Q (.ref p) (upd H p (.lst (dw xs lo hi)))
theorem W5:ua X (AW X.K):=by
 intro pins s σ H x v vl vu lo hi sl Q I rx hs pl pu h
 obtain⟨a,xs,rfl,hx,q⟩:=h
 cases rx
 obtain⟨its,r,ht,hz⟩:=I.list hx
 have hlen:=r.length
 refine⟨"list",_,slot_list_getitem.lookup,ht.isList.typeIs,?_⟩
 refine wpAny_getItem_list_slice ht.isList hs pl pu .none (by simp) ?_ (by rw[List.size_toArray]<;>omega)
 rw[JD,←hlen]
 refine⟨.ref s.heap.objs.size,_,I.laid (t':=s.toks) (o:=.lst (dw xs lo hi)) (fun b ob q=>Heap.get?_push_of_some _ q) (Nat.le_refl _) ?_,rfl,q _ (I.ah.fresh (Nat.le_refl _))⟩
 exact⟨Nat.le_trans (Jc xs lo hi) hz,_,0,(r.drop (HT.aw xs.length 0 lo)).take (HT.aw xs.length xs.length hi - HT.aw xs.length 0 lo),Heap.get?_push_size _ rfl⟩
def eV:V→Bool
 | .aa=>true
 | .bl _=>true
 | .int _=>true
 | .str _=>true
 |_=>false
def cF:V→V→Bool
 | .aa,.aa=>true
 | .bl a,.bl b=>a==b
 | .bl a,.int b=> (if a then 1 else 0)==b
 | .int a,.bl b=>a==(if b then 1 else 0)
 | .int a,.int b=>a==b
 | .str a,.str b=>a==b
 |_,_=>false
theorem yG {A:Around}{s:Shared}{y x:V}{u v:Value}(ry:RelV y u) (rx:RelV x v) (fy:eV y=true) (fx:eV x=true):SeqAt.EqAt A s u v (cF y x):=by
 cases y with
 |aa=>
  cases ry
  cases x with
  |aa=>cases rx;exact SeqAt.EqAt.same _
  |bl b=>cases rx;exact SeqAt.EqAt.none_bool b
  |int b=>obtain⟨t,rfl⟩:=rx;exact SeqAt.EqAt.none_int b t
  |str b=>obtain⟨t,rfl⟩:=rx;exact SeqAt.EqAt.none_str b t
  |_=>exact absurd (show false=true from fx) Bool.false_ne_true
 |bl a=>
  cases ry
  cases x with
  |aa=>cases rx;exact SeqAt.EqAt.bool_none a
  |bl b=>cases rx;exact SeqAt.EqAt.bool_bool a b
  |int b=>obtain⟨t,rfl⟩:=rx;exact SeqAt.EqAt.bool_int a b t
  |str b=>obtain⟨t,rfl⟩:=rx;exact SeqAt.EqAt.bool_str a b t
  |_=>exact absurd (show false=true from fx) Bool.false_ne_true
 |int a=>
  obtain⟨t',rfl⟩:=ry
  cases x with
  |aa=>cases rx;exact SeqAt.EqAt.int_none a t'
  |bl b=>cases rx;exact SeqAt.EqAt.int_bool a t' b
  |int b=>obtain⟨t,rfl⟩:=rx;exact SeqAt.EqAt.int_int a t' b t
  |str b=>obtain⟨t,rfl⟩:=rx;exact SeqAt.EqAt.int_str a t' b t
  |_=>exact absurd (show false=true from fx) Bool.false_ne_true
 |str a=>
  obtain⟨t',rfl⟩:=ry
  cases x with
  |aa=>cases rx;exact SeqAt.EqAt.str_none a t'
  |bl b=>cases rx;exact SeqAt.EqAt.str_bool a t' b
  |int b=>obtain⟨t,rfl⟩:=rx;exact SeqAt.EqAt.str_int a t' b t
  |str b=>obtain⟨t,rfl⟩:=rx;exact SeqAt.EqAt.str_str a t' b t
  |_=>exact absurd (show false=true from fx) Bool.false_ne_true
 |_=>exact absurd (show false=true from fy) Bool.false_ne_true
def gz (x:V) (u:Value):Bool:=match u with
 | .none=>cF .aa x
 | .bool b=>cF (.bl b) x
 | .int i _=>cF (.int i) x
 | .str z _=>cF (.str z) x
 |_=>false
theorem yH {x y:V}{u:Value}(r:RelV y u) (f:eV y=true):gz x u=cF y x:=by
 cases y with
 |aa=>cases r;rfl
 |bl b=>cases r;rfl
 |int i=>obtain⟨t,rfl⟩:=r;rfl
 |str z=>obtain⟨t,rfl⟩:=r;rfl
 |_=>exact absurd (show false=true from f) Bool.false_ne_true
theorem Wi {x:V} :∀{xs:List V}{us:List Value},Vals xs us→xs.all eV=true→us.any (gz x)=xs.any fun y=>cF y x
 |_,_,.nil,_=>rfl
 |y::xs,u::us,.cons r t,f=>by
  rw[List.all_cons,Bool.and_eq_true]at f
  rw[List.any_cons,List.any_cons,yH r f.1,Wi t f.2]
theorem Ju {A:Around}{s:Shared}{x:V}{v:Value}(rx:RelV x v) (fx:eV x=true):∀{xs:List V}{us:List Value},Vals xs us→xs.all eV=true→∀u∈us,SeqAt.EqAt A s u v (gz x u)
 |_,_,.nil,_=>fun u hu=>by cases hu
 |y::xs,u::us,.cons r t,f=>fun u' hu=>by
  rw[List.all_cons,Bool.and_eq_true]at f
  rcases List.mem_cons.mp hu with rfl |hu
  ·rw[yH r f.1];exact yG r rx f.1 fx
  ·exact Ju rx fx t f.2 u' hu
def g9 (x:V) (xs:List V):Bool:=xs.any fun y=>cF y x
def A5 (K:PySem.W.Frag) (neg:Bool):R2:=fun x y H Q=> ∃p xs,y=.ref p∧(af K H p xs∨ai K H p xs)∧eV x=true∧xs.all eV=true∧Q (.bl (if neg then !g9 x xs else g9 x xs)) H
theorem JN:aO X (compareOp .In) (A5 X.K false):=by
 intro pins s σ H x y v u Q I rx ry h
 obtain⟨p,xs,rfl,hq,fx,fs,q⟩:=h
 cases ry
 rcases hq with hq |hq
 ·obtain⟨its,r,pl,hz⟩:=I.list hq
  refine SeqAt.in_listAt (gz x) pl.isList (fun w hw=>Ju rx fx r fs w (by simpa using hw)) ⟨.bl _,H,I,rfl,?_⟩
  rw[show its.toArray.any (gz x)=its.any (gz x) by simp,Wi r fs]
  exact q
 ·obtain⟨its,r,pl,hz⟩:=I.tuple hq
  refine SeqAt.in_tupleAt (gz x) pl (fun w hw=>Ju rx fx r fs w (by simpa using hw)) ⟨.bl _,H,I,rfl,?_⟩
  rw[show its.toArray.any (gz x)=its.any (gz x) by simp,Wi r fs]
  exact q
theorem Zq:cX X (.builtin "len") (fun xs H Q=> ∃p ys,xs=[.ref p]∧(af X.K H p ys∨ai X.K H p ys)∧Q (.int ys.length) H):=by
 intro pins s σ H xs us Q I r h
 obtain⟨p,ys,rfl,hq,q⟩:=h
 obtain⟨u,rfl,rx⟩:=vals1 r
 cases rx
 have hn:=oC
 rcases hq with hq |hq
 ·obtain⟨its,r',pl,hz⟩:=I.list hq
  have hlen:=r'.length
  exact Calls.call_len_list pl.isList (by simp only[List.size_toArray]<;>omega) ⟨.int ys.length,H,I.tok _,⟨s.toks+1,by rw[List.size_toArray,hlen]⟩,q⟩
 ·obtain⟨its,r',pl,hz⟩:=I.tuple hq
  have hlen:=r'.length
  exact len_tuple pl (by simp only[List.size_toArray]<;>omega) ⟨.int ys.length,H,I.tok _,⟨s.toks+1,by rw[List.size_toArray,hlen]⟩,q⟩
theorem Yt:cX X (.type "list") (fun xs H Q=> ∃p ys,xs=[.ref p]∧(af X.K H p ys∨ai X.K H p ys)∧∀l,H l=none→Q (.ref l) (upd H l (.lst ys))):=by
 intro pins s σ H xs us Q I r h
 obtain⟨p,ys,rfl,hq,q⟩:=h
 obtain⟨u,rfl,rx⟩:=vals1 r
 cases rx
 have fin:∀(its:List Value),Vals ys its→ys.length≤sizeLine→∀(h':Heap) (c':Nat),(∀b o',s.heap.get? b=some o'→h'.get? b=some o')→
   h'.get? s.heap.objs.size=some {cls:=.type "list",dict:=none,data:=.seq its.toArray c',slots:= #[]}→EP X pins σ Q (.ref s.heap.objs.size) {s with heap:=h'} :=fun its r' hz h' c' kp e=>
  ⟨.ref s.heap.objs.size,_,I.laid (t':=s.toks) kp (Nat.le_refl _) (show aU X.prog X.w _ h' _ (.lst ys) from ⟨hz,its,c',r',e⟩),rfl,q _ (I.ah.fresh (Nat.le_refl _))⟩
 rcases hq with hq |hq
 ·obtain⟨its,r',pl,hz⟩:=I.list hq
  have hlen:=r'.length
  obtain⟨o,ho,hc,n,hd⟩:=pl.isList
  exact call_list_seq p (.inl rfl) ho hc hd (fun h' c' kp e=>fin its r' hz h' c' kp e) (by simp only[List.size_toArray]<;>omega)
 ·obtain⟨its,r',pl,hz⟩:=I.tuple hq
  have hlen:=r'.length
  obtain⟨o,ho,hc,n,hd⟩:=pl
  exact call_list_seq p (.inr rfl) ho hc hd (fun h' c' kp e=>fin its r' hz h' c' kp e) (by simp only[List.size_toArray]<;>omega)
theorem Yi:cX X (.type "tuple") (fun xs H Q=> ∃p ys,xs=[.ref p]∧((af X.K H p ys∧∀l,H l=none→Q (.ref l) (upd H l (.tup ys)))∨(ai X.K H p ys∧Q (.ref p) H))):=by
 intro pins s σ H xs us Q I r h
 obtain⟨p,ys,rfl,h⟩:=h
 obtain⟨u,rfl,rx⟩:=vals1 r
 cases rx
 rcases h with ⟨hq,q⟩ |⟨hq,q⟩
 ·obtain⟨its,r',pl,hz⟩:=I.list hq
  have hlen:=r'.length
  refine call_tuple_list pl.isList (fun h' kp=> ?_) (by simp only[List.size_toArray]<;>omega)
  have I1:Inv X pins σ H {s with heap:=h'} :=I.kept (t':=s.toks) kp
  have I2:Inv X pins σ (upd H h'.objs.size (.tup ys)) {s with heap:=h'.push {cls:=.type "tuple",data:=.seq its.toArray} } :=
   I1.laid (t':=s.toks) (fun b o e=>Heap.get?_push_of_some _ e) (Nat.le_refl _) (show aU X.prog X.w _ _ _ (.tup ys) from ⟨hz,its,r',IsTup.new _ _,_,Heap.get?_push_size _ rfl,rfl⟩)
  exact⟨.ref h'.objs.size,_,I2,rfl,q _ (I1.ah.fresh (Nat.le_refl _))⟩
 ·obtain⟨its,r',pl,hz⟩:=I.tuple hq
  exact call_tuple_same pl ⟨.ref p,H,I,rfl,q⟩
def uz (K:PySem.W.Frag) (T:String) (x:V) (H:Hp):Prop:=match x with
 | .str _=>T= "str"
 | .int _=>T= "int"
 | .ref p=> (T= "list" ∧∃xs,af K H p xs)∨(T= "tuple" ∧((∃o,K.lookup p=some o∧o.cls=.type "tuple" ∧o.dict=none)∨∃xs,H p=some (.tup xs)))∨
   (T= "dict" ∧((∃kvs,H p=some (.dK kvs))∨∃kvs,H p=some (.dT kvs)))∨(T= "set" ∧∃S n,H p=some (.set S n))
 |_=>False
theorem Fv {pins:List (Addr×Obj)}{σ:St}{H:Hp}{s:Shared}{T:String}{x:V}{v:Value}(I:Inv X pins σ H s) (r:RelV x v) (ty:uz X.K T x H):
  s.TypeIs v T∧∀a,v=.ref a→∃ob,s.heap.get? a=some ob∧ob.dict=none:=by
 cases x with
 |str z=>
  obtain⟨t,rfl⟩:=r
  cases (show T= "str" from ty)
  exact⟨typeIs_str s z t,fun _ e=>nomatch e⟩
 |int i=>
  obtain⟨t,rfl⟩:=r
  cases (show T= "int" from ty)
  exact⟨typeIs_int s i t,fun _ e=>nomatch e⟩
 |ref p=>
  cases r
  rcases ty with ⟨rfl,xs,hq⟩ |⟨rfl,⟨o,hk,hc,hd⟩ |⟨xs,hx⟩⟩ |⟨rfl,hk⟩ |⟨rfl,S,n,hk⟩
  ·obtain⟨its,_,pl,_⟩:=I.list hq
   refine⟨pl.isList.typeIs,fun a e=> ?_⟩
   cases e
   obtain⟨o,n,e,c,hd,_⟩:=pl
   exact⟨o,e,hd⟩
  ·refine⟨⟨o,I.bc p o hk,hc⟩,fun a e=> ?_⟩
   cases e
   exact⟨o,I.bc _ o hk,hd⟩
  ·obtain⟨_,_,_,⟨o,e,c,_⟩,o2,e2,hd⟩:=(show aU X.prog X.w H s.heap p (.tup xs) from I.ah p _ hx)
   refine⟨⟨o,e,c⟩,fun a e3=> ?_⟩
   cases e3
   exact⟨o2,e2,hd⟩
  ·have z:∃o,s.heap.get? p=some o∧o.ExactDict:=by
    rcases hk with ⟨kvs,hk⟩ |⟨kvs,hk⟩
    ·obtain⟨_,_,_,_,o,_,_,e,ex,_⟩:=I.ah p _ hk
     exact⟨o,e,ex⟩
    ·obtain⟨_,_,_,_,o,_,_,e,ex,_⟩:=I.ah p _ hk
     exact⟨o,e,ex⟩
   obtain⟨o,e,ex⟩:=z
   refine⟨⟨o,e,ex.1⟩,fun a e2=> ?_⟩
   cases e2
   exact⟨o,e,ex.2.1⟩
  ·obtain⟨o,_,_,_,e,ex,_⟩:=I.ah p _ hk
   refine⟨⟨o,e,ex.1⟩,fun a e2=> ?_⟩
   cases e2
   exact⟨o,e,ex.2.1⟩
 |_=>exact False.elim ty
def uI (K:PySem.W.Frag) (T:String) (r:V→List V→Hp→VK→Prop) (to:TE) (t:TA):TE:=fun σ H Q=>to σ H fun x H1=>uz K T x H1∧t σ H1 fun xs H2=>r x xs H2 Q
variable {o e:Expr}{es:List Expr}{to:TE}{t:TA}{name:Str}{apos bF:Pos}{T id:String}{r:V→List V→Hp→VK→Prop}
theorem YY (pa:PlainAttrs T) (slot:Slot T name id) (Cr:typeOf (.builtin id)=pure (.type "method_descriptor")) (hm:yT X id r) (ho:PE X o to) (ha:PA X (e::es) t)
    (DB:attributeBase o name X.env (eval o X.env)=eval o X.env:=by rfl)
    (Dm:((backTo bF (starEach (e::es) X.env)).all (fun x=> !x.1)&&(backToKw bF (keywordEach [] X.env)).all (fun x=>x.1.isSome)
      &&decide ((e::es).length+([]:List Keyword).length+(if ([]:List Keyword).isEmpty then 0 else 1)<30))=true:=by rfl)
    (C5:(apos.endLine==bF.line)=true:=by rfl) (hs:starEach (e::es) X.env=(false,eval e X.env)::starEach es X.env:=by rfl) (CN:(backTo bF (starEach es X.env)).any (·.1)=false:=by rfl):
    PE X (.Call (.Attribute o name apos) (e::es) [] bF) (uI X.K T r to t):=by
  intro pins s σ H Q I h
  refine wpAny_Call_method_late DB Dm C5 rfl (aq (ho pins s σ H _ I h) fun v s1 ⟨x,H1,I1,r1,ty,q1⟩=> ?_)
  obtain⟨h1,h2⟩:=Fv I1 r1 ty
  refine⟨T,id,pa,slot,Cr,h1,h2,?_⟩
  have hA:=ha bF pins s1 σ H1 _ I1 q1
  rw[hs]at hA ⊢
  refine Calls.callWith_builtin (by show(false||(backTo bF (starEach es X.env)).any (·.1))=false;rw[CN]<;>rfl) (Calls.evalArgs_plain ?_)
  exact aq hA fun us s2 ⟨vs,H2,I2,r2,q2⟩=>hm pins s2 σ H2 x vs v us Q I2 r1 r2 q2
end
def yU (X:Cx) (id:String) (r:V→List V→Hp→VK→Prop):Prop:=
 ∀(pins:List (Addr×Obj)) (s:Shared) (σ:St) (H:Hp) (x:V) (xs:List V) (v:Value) (us:List Value) (Q:VK),Inv X pins σ H s→RelV x v→Vals xs us→r x xs H Q→
  wpAny (model X.prog X.w) X.A (call (.builtin id) (v::us)) (EP X pins σ Q) X.xe s
theorem Vals.one:∀{x:V}{us:List Value},Vals [x] us→∃u,us=[u]∧RelV x u
 |_,_,.cons r .nil=> ⟨_,rfl,r⟩
theorem Vals.eraseIdx:∀{xs:List V}{us:List Value}(i:Nat),Vals xs us→Vals (xs.eraseIdx i) (us.eraseIdx i)
 |_,_,_,.nil=> .nil
 |_,_,0,.cons _ t=>t
 |_,_,i+1,.cons r t=> .cons r (Vals.eraseIdx i t)
theorem Vals.rep {xs:List V}{us:List Value}(h:Vals xs us):∀k:Nat,Vals (List.replicate k xs).flatten (List.replicate k us).flatten
 |0=> .nil
 |k+1=>by
  rw[List.replicate_succ,List.replicate_succ,List.flatten_cons,List.flatten_cons]
  exact Vals.append h (Vals.rep h k)
theorem JP {α:Type} :∀(l:List α) (i:Nat),(l.eraseIdx i).length≤l.length
 | [],_=>Nat.le_refl _
 |_::_,0=>Nat.le_succ _
 |_::r,i+1=>Nat.succ_le_succ (JP r i)
theorem JS (its:List Value):∀(k:Nat) (acc:List Value),
  List.foldl (fun x1 x2=>x1++x2) acc.toArray (List.replicate k its.toArray)=(acc++(List.replicate k its).flatten).toArray
 |0,acc=>by simp
 |k+1,acc=>by
  have e:acc.toArray++its.toArray=(acc++its).toArray:=by simp
  have e2:(acc++its)++(List.replicate k its).flatten=acc++(List.replicate (k+1) its).flatten:=by
   rw[List.replicate_succ,List.flatten_cons,List.append_assoc]
  rw[←e2,←JS its k (acc++its),←e,List.replicate_succ,List.foldl_cons]
section
variable {X:Cx}{pins:List (Addr×Obj)}{σ:St}{H:Hp}{s:Shared}{l b:Addr}{xs ys zs:List V}
theorem Inv.wa {its its':List Value}{n:Nat}{f:Array Value→Array Value}{t':Nat}(I:Inv X pins σ H s) (hH:H l=some (.lst xs))
  (e:s.heap.get? l=some {cls:=.type "list",data:=.seq its.toArray n}) (hf:f its.toArray=its'.toArray) (hv:Vals ys its') (hz:ys.length≤sizeLine):
  Inv X pins σ (upd H l (.lst ys)) {s with heap:=s.heap.update l (Obj.mapSeq f),toks:=t'} :=by
 have q:=PySem.IsL.update e f
 rw[hf]at q
 refine I.write (x:=l) (e:=l) (by rw[hH];exact trivial) (.inl rfl) (fun b' u hb hu=> (Heap.get?_update_other s.heap (Obj.mapSeq f) (Ne.symm hb)).trans hu) ⟨_,q⟩ ?_
 exact⟨hz,its',_,hv,q⟩
theorem Inv.wg {its:List Value}{t':Nat}(I:Inv X pins σ H s) (hv:Vals ys its) (hz:ys.length≤sizeLine):
  Inv X pins σ (upd H s.heap.objs.size (.lst ys)) {s with heap:=s.heap.push {cls:=.type "list",data:=.seq its.toArray},toks:=t'} :=
 I.laid (fun _ _ q=>Heap.get?_push_of_some _ q) (Nat.le_refl _) ⟨hz,its,0,hv,Heap.get?_push_size _ rfl⟩
theorem Inv.fresh (I:Inv X pins σ H s):H s.heap.objs.size=none:=I.ah.fresh (Nat.le_refl _)
theorem Inv.lC (I:Inv X pins σ H s) (hH:H l=some (.lst xs)):xs.length≤sizeLine∧∃(its:List Value) (n:Nat),Vals xs its∧xs.length=its.length∧s.heap.get? l=some {cls:=.type "list",data:=.seq its.toArray n} :=by
 obtain⟨z,its,n,r,e⟩:=I.ah l _ hH
 exact⟨z,its,n,r,r.length,e⟩
theorem Bu {n:Nat}(h:n≤sizeLine):Builtin.List.listTooLong n=false:=by
 unfold Builtin.List.listTooLong
 exact decide_eq_false (by omega)
end
section
variable {X:Cx}
def vt:V→List V→Hp→VK→Prop:=fun x vs H Q=> ∃l xs y,x=.ref l∧vs=[y]∧H l=some (.lst xs)∧xs.length<sizeLine∧Q .aa (upd H l (.lst (xs++[y])))
theorem Ya:yU X "list.append" vt:=by
 intro pins s σ H x vs v us Q I rx rv h
 obtain⟨l,xs,y,rfl,rfl,hH,hz,q⟩:=h
 cases rx
 obtain⟨u,rfl,ru⟩:=rv.one
 obtain⟨z,its,n,r,hl,e⟩:=I.lC hH
 refine call_meets F.slot_list_append ⟨_,e,rfl⟩ F.entry_list_append (F.args_list_append_2 _ _) (PySem.list_append l its.toArray n u (by rw[List.size_toArray];omega)) ⟨e,?_⟩
 refine⟨.aa,_,I.wa (its':=its++[u]) hH e (by simp) (r.append (.cons ru .nil)) ?_,rfl,q⟩
 rw[List.length_append,List.length_singleton]
 omega
def A3:V→List V→Hp→VK→Prop:=fun x vs H Q=> ∃l xs i k y,x=.ref l∧vs=[.int i]∧H l=some (.lst xs)∧ -(2^63)≤i∧i<2^63∧seqIndex? i xs.length=some k∧xs[k]? =some y∧Q y (upd H l (.lst (xs.eraseIdx k)))
theorem Wr:yU X "list.pop" A3:=by
 intro pins s σ H x vs v us Q I rx rv h
 obtain⟨l,xs,i,k,y,rfl,rfl,hH,h1,h2,hk,hy,q⟩:=h
 cases rx
 obtain⟨u,rfl,ru⟩:=rv.one
 obtain⟨t,rfl⟩:=ru
 obtain⟨z,its,n,r,hl,e⟩:=I.lC hH
 obtain⟨w,hw,fc⟩:=r.get hy
 refine call_meets F.slot_list_pop ⟨_,e,rfl⟩ F.entry_list_pop (F.args_list_pop_2 _ _)
  (MeetsSeq.list_pop_at l its.toArray n i t k w (fitsIndex_both h1 h2) (by rw[List.size_toArray,←hl];exact hk) (by rw[←Array.getElem?_toList];exact hw) (by rw[List.size_toArray];omega)) ⟨e,?_⟩
 refine⟨y,_,I.wa (its':=its.eraseIdx k) hH e ?_ (r.eraseIdx k) ?_,fc,q⟩
 ·show its.toArray.eraseIdxIfInBounds k=(its.eraseIdx k).toArray
  rw[List.eraseIdxIfInBounds_toArray]
 ·have:=JP xs k
  omega
def kW:R2:=fun x y H Q=> ∃l b xs zs,x=.ref l∧y=.ref b∧H l=some (.lst xs)∧H b=some (.lst zs)∧xs.length+zs.length≤sizeLine∧∀p,H p=none→Q (.ref p) (upd H p (.lst (xs++zs)))
theorem Zy:aO X (binaryOp .Add) kW:=by
 intro pins s σ H x y v u Q I rx ry h
 obtain⟨l,b,xs,zs,rfl,rfl,hH,hB,hz,q⟩:=h
 cases rx
 cases ry
 obtain⟨z,its,n,r,hl,e⟩:=I.lC hH
 obtain⟨z2,i6,n2,r2,gr,e2⟩:=I.lC hB
 refine PySem.P.add_list e e2 ?_ (by rw[List.size_toArray,List.size_toArray];omega)
 have ea:its.toArray++i6.toArray=(its++i6).toArray:=by simp
 rw[ea]
 exact⟨.ref _,_,I.wg (t':=s.toks) (r.append r2) (by rw[List.length_append];omega),rfl,q _ I.fresh⟩
def A1:R2:=fun x y H Q=> ∃l k xs,x=.ref l∧y=.int k∧H l=some (.lst xs)∧ -(2^63)≤k∧k<2^63∧xs.length*k.toNat≤sizeLine∧
 ∀p,H p=none→Q (.ref p) (upd H p (.lst (List.replicate k.toNat xs).flatten))
theorem Hl {α:Type}(xs:List α) (k:Nat):(List.replicate k xs).flatten.length=k*xs.length:=by
 induction k with
 |zero=>simp
 |succ k ih=>rw[List.replicate_succ,List.flatten_cons,List.length_append,ih,Nat.succ_mul,Nat.add_comm]
theorem WP:aO X (binaryOp .Mult) A1:=by
  intro pins s σ H x y v u Q I rx ry h
  obtain⟨l,k,xs,rfl,rfl,hH,h1,h2,hz,q⟩:=h
  cases rx
  obtain⟨t,rfl⟩:=ry
  obtain⟨z,its,n,r,hl,e⟩:=I.lC hH
  have hlen:its.toArray.size*k.toNat≤sizeLine:=by rw[List.size_toArray,←hl];exact hz
  have Dw:¬its.toArray.size*k.toNat> (2^63 - 1)/8:=by
    have:(sizeLine:Nat)≤(2^63 - 1)/8:=by decide
    omega
  have Dk:¬(!Builtin.List.listFitsIndex k)=true:=by
    rw[fitsIndex_both h1 h2]
    exact Bool.false_ne_true
  have C4:¬Builtin.List.listTooLong (its.toArray.size*k.toNat)=true:=by
    rw[Bu hlen]
    exact Bool.false_ne_true
  have CU:List.foldl (fun x1 x2=>x1++x2) #[] (List.replicate (if its.toArray.isEmpty=true then 0 else k.toNat) its.toArray)=(List.replicate k.toNat its).flatten.toArray:=by
    have f0:∀m:Nat,List.foldl (fun x1 x2=>x1++x2) #[] (List.replicate m its.toArray)=(List.replicate m its).flatten.toArray:=fun m=>by
      have:=JS its m []
      rw[List.nil_append]at this
      exact this
    rw[f0]
    cases its with
    |nil=>simp
    |cons a r'=>rw[if_neg (by simp)]
  refine wpAny_binaryOp_repeat_ref (T:= "list") (U:= "int") (by decide) ⟨_,e,rfl⟩ (fun s'=>typeIs_int s' k t) noFill_list_mul F.fills_int_mul F.slot_int_rmul repeat_list F.slot_int_index.lookup
    (call_meets F.slot_int_rmul (typeIs_int s k t) F.entry_int_rmul (F.args_int_rmul_2 _ _) (int___rmul___int_list k t l its.toArray n)
      ⟨e,rfl,⟨_,e,rfl⟩,call_meets F.slot_list_mul ⟨_,e,rfl⟩ F.entry_list_mul (F.args_list_mul_2 _ _) (AutoListH.list___mul___list_int_3 l its.toArray n k t Dk Dw C4) ⟨e,?_⟩⟩)
  rw[CU]
  exact⟨.ref _,_,I.wg (t':=s.toks) (r.rep k.toNat) (by rw[Hl,Nat.mul_comm];exact hz),rfl,q _ I.fresh⟩
end
end L2
namespace za
open PySem PySem.W PySem.Calls PyProof.Rows
theorem Je {P:Params}{h:Heap} :∀(ns:List Int) (vs:List Value),WellAll P h vs (ns.map WData.int)→IntsAre vs ns:=by
 intro ns
 induction ns with
 |nil=>
  intro vs w
  rw[List.map_nil]at w
  cases w
  exact .nil
 |cons n ns ih=>
  intro vs w
  rw[List.map_cons]at w
  cases w with
  |cons a b=>
   cases a
   exact .cons _ _ (ih _ b)
theorem Ul {l:OpenLaw}{n:Nat}(hn:l.most=some n) {P:Params}{h:Heap}{args:List WData}{vals:List Value}
  (oH:l.row.toRowW.claim.pre args=true) (rT:WellAll P h vals args):
  ∃a vs ns,vals=[Value.ref a]∧args=[WData.list (ns.map WData.int)]∧h.get? a=some {cls:=.type "list",data:=.seq vs.toArray}∧IntsAre vs ns∧ns.length≤n:=by
 have CC:WShape.hasAll [] args [.list .int]=true:=(pre_splitW oH).1
 have hc:l.pre.holds [] {args:=args} =true:=(pre_splitW oH).2
 obtain⟨d,r,rfl,h1,h2⟩:=hasAllW_cons CC
 obtain rfl:=hasAllW_nil h2
 obtain⟨xs,rfl,h3⟩:=hasW_list h1
 obtain⟨ns,rfl⟩:=items_int h3
 have hlen:ns.length≤n:=by
  unfold OpenLaw.pre at hc
  have h4:(WTm.not (.lt (.lit (.int (n:Int))) (.len (.arg 0)))).holds [] {args:=[.list (ns.map .int)]} =true:=by
   have h4:=(holds_andW hc).1
   rw[hn]at h4
   exact h4
  have h5:=condW_of h4 (w_not (w_lt w_lit (w_len_list (w_arg rfl))))
  rw[List.length_map]at h5
  refine Nat.le_of_not_lt fun q=> ?_
  have q':(n:Int)< ((ns.length:Nat):Int):=by omega
  first
   |(rw[decide_eq_true q']at h5;exact absurd h5 (by decide))
   |(simp at h5;omega)
 cases rT with
 |cons w1 w2=>
  cases w2
  cases w1 with
  |list ho l6=>exact⟨_,_,ns,rfl,rfl,ho,Je ns _ l6,hlen⟩
theorem Um (l:OpenLaw) (args:List WData):l.row.toRowW.claim.post args (.bool true) args=true:=
 postW_of (r:=l.row.toRowW) (X:=(true==true))
  (show WShape.has [] (.bool true) .bool=true by first |rfl |decide |simp[WShape.has,WShape.arms,WShape.armsAll])
  (show(WTm.eq .res (.lit (.bool true))).value [] {args:=args,res:=some (.bool true),after:=args} =some (.bool (true==true)) from w_eq_bool (w_res rfl) w_lit) rfl
theorem Ff {l:OpenLaw}{n:Nat}{q:Program}{loose:List Str}{XP:(Str→Option Value)→Heap→Prop}{YP:World→Heap→Prop}{d:DefRec}
    (hn:l.most=some n) (sI:d.params.defaults=[])
    (call:∀(w:World) (bw aA:Shared) (mg mb:Str→Option Value) (fa:Addr) (o:Obj) (pm cd doc:Value) (a:Addr) (vs:List Value) (ns:List Int),
      Ground q loose [] XP w bw mg mb aA.heap→YP w aA.heap→
      aA.heap.get? fa=some o→o.data=.func (docDef d.name d.params d.body d.scope pm cd doc)→aA.heap.CodeRec cd d.name→mg d.name=some (.ref fa)→
      aA.heap.get? a=some {cls:=.type "list",data:=.seq vs.toArray}→IntsAre vs ns→ns.length≤n→aA.gens= #[]→
      codeAny (model l.prog w) callerA (.call (.ref fa) ⟨[.ref a],[]⟩) (fun r s'=>r=.ok (.ret (.bool true))∧OldK aA.heap s'.heap∧s'.os=aA.os∧AllBare s'.gens) aA):
    WalkO q loose XP YP l.row.toRowW d [] (fun f vs=>PySem.call f vs):=by
  intro w bw aA mg mb G Y fa o pm cd doc dV kV ho hd bP hD hmg hg args vals as oH II IF rT sk
  obtain rfl:dV=.none:=Dflts.none hD sI
  obtain rfl:kV=.none:=Dflts.noKw hD
  obtain⟨a,vs,ns,rfl,rfl,se,hints,hlen⟩:=Ul hn oH rT
  refine enter_call (codeAny_mono (call w bw aA mg mb fa o pm cd doc a vs ns G Y ho (fd_plain hd) bP hmg se hints hlen hg) fun r s' hq=> ?_)
  obtain⟨rfl,h2,h3,h4⟩:=hq
  exact⟨.inl ⟨.bool true,.bool true,[],rfl,fun _=>rfl,.bool true,Um l _,fun _=> ⟨List.Pairwise.nil,fun _ hm=> (nomatch hm)⟩⟩,h2,h3,h4⟩
end za
namespace L2
open PySem PySem.Spec PyProof.Rows
theorem JK:∀{vs:List Value}{ns:List Int},IntsAre vs ns→Vals (ns.map V.int) vs
 |_,_,.nil=> .nil
 |_,_,.cons n t h=> .cons ⟨t,rfl⟩ (JK h)
def dQ (s:Stmt):Arguments:=match s with
 | .FunctionDef _ a _ _ _ _ _ _ _ _=>a
 |_=> {posonlyargs:=[],args:=[],vararg:=none,kwonlyargs:=[],kw_defaults:=[],kwarg:=none,defaults:=[]}
def bu (s:Stmt):List Stmt:=match s with
 | .FunctionDef _ _ b _ _ _ _ _ _ _=>b
 |_=> []
def au (s:Stmt):Scope:=match s with
 | .FunctionDef _ _ _ _ _ _ sc _ _ _=>sc
 |_=> {kind:=.function,names:=[],isGenerator:=false,isCoroutine:=false}
abbrev aE:fI:=fun _ _ _ _ _ _=>False
abbrev E0:XK:=fun _ _ _=>False
theorem Bm {X:Cx} :Passes aE X E0:=fun _ _ _ _ _ _ _ h=>h.elim
structure aK (K:PySem.W.Frag) (x qual:Str) (st:Stmt) (f:Addr) (fd:FuncData):Prop where
 ex:∃(oc:Value) (od:Option Addr) (kV doc pm:Value) (an:Option Addr) (ao ct:Value) (dq:Array (Option Value)),
  fd=PySem.W.fnOf x qual (dQ st) (bu st) (au st) .none kV doc pm an ao ct∧K.lookup f=some ⟨oc,od,.func fd,dq⟩∧PySem.W.codeIn K ao qual=true
 kp:PySem.W.keepIn K (.ref f)=true
section
variable {P:Program}{w:World}{K:PySem.W.Frag}{mg:Str→Option Value}{base:Heap}
theorem aK.ok {x qual:Str}{st:Stmt}{f:Addr}{fd:FuncData}{N ps:List Str}{k:Nat}{sp:Sp}(F:aK K x qual st f fd) (S:bI N ps (au st)) (len:∀vs H Q E,sp vs H Q E→vs.length=ps.length)
    (sP:∀(ao:Value) (A:Around) (outer:List Env) (s:Shared) (H:Hp) (vs:List V) (Q:VK) (E:XK),bo k (A.deeper (envOfC qual (au st) s.heap.objs.size f ao))→sp vs H Q E→
      ∃t,cW (aV aE P w K mg base N qual (au st) f ao A outer s H E).cu (bu st) t∧t {nx:=fun _ H'=>Q .aa H',rt:=Q} (start N vs) H):az P w K mg base aE (k+1) f fd ps sp:=by
  obtain⟨oc,od,kV,doc,pm,an,ao,ct,dq,rfl,lk,bP⟩:=F.ex
  refine tW lk bP S len fun A outer s H vs Q E hr cw=> ?_
  obtain⟨t,h,q⟩:=sP ao A outer s H vs Q E hr cw
  exact⟨t,h.cu,q⟩
theorem aK.binds {x qual:Str}{st:Stmt}{f:Addr}{fd:FuncData}{ps:List Str}(F:aK K x qual st f fd)
  (h:∀(kV doc pm:Value) (an:Option Addr) (ao ct:Value) (us:List Value),us.length=ps.length→bindArgs (PySem.W.fnOf x qual (dQ st) (bu st) (au st) .none kV doc pm an ao ct) ⟨us,[]⟩=pure (ps.zip us)):Binds K fd ps []:=by
 obtain⟨oc,od,kV,doc,pm,an,ao,ct,dq,rfl,lk,bP⟩:=F.ex
 exact .all (h kV doc pm an ao ct)
theorem FP {x qual:Str}{st:Stmt}{f:Addr}{oc:Value}{od an:Option Addr}{dq:Array (Option Value)}{kV doc pm ao ct:Value}(l:K.lookup f=some ⟨oc,od,.func (PySem.W.fnOf x qual (dQ st) (bu st) (au st) .none kV doc pm an ao ct),dq⟩)
  (c:PySem.W.codeIn K ao qual=true) (k:PySem.W.keepIn K (.ref f)=true):aK K x qual st f (PySem.W.fnOf x qual (dQ st) (bu st) (au st) .none kV doc pm an ao ct):=⟨⟨oc,od,kV,doc,pm,an,ao,ct,dq,rfl,l,c⟩,k⟩
end
theorem Ge {A:Around}{k:Nat}(hr:bo k A):A.units+1<cLine:=Nat.lt_of_le_of_lt (Nat.add_le_add_left (by decide:1≤64) _) hr.units
theorem qe {n:Nat}(h:n≤1000):n<sizeLine:=Nat.lt_of_le_of_lt h (by decide)
section
variable {X:Cx}
theorem pv (i:Nat) {x:Str}{pos:Pos}(hN:X.N[i]? =some x:=by rfl) (hv:mJ X.env.scope x:=by first |exact Or.inl rfl |exact Or.inr (Or.inl rfl) |exact Or.inr (Or.inr rfl)) (hd:(x==("__debug__" :Str))=false:=by decide)
  (bP:(x==("__classdict__" :Str))=false:=by decide):PE X (.Name x pos) (gN i):=Jn hN hv hd bP
end
theorem ay {A B:Prop}(h:B):if false=true then A else B:=by
 rw[if_neg Bool.false_ne_true]
 exact h
theorem aH {A B:Prop}(h:A):if true=true then A else B:=by
 rw[if_pos rfl]
 exact h
theorem rJ {c A B:Prop} [Decidable c] (h1:c→A) (h2:¬c→B):if c then A else B:=by
 by_cases h:c
 ·rw[if_pos h]
  exact h1 h
 ·rw[if_neg h]
  exact h2 h
def ae (H H':Hp):Prop:=∀b o,H b=some o→H' b=some o
theorem ae.refl (H:Hp):ae H H:=fun _ _ h=>h
theorem ae.trans {H H1 H2:Hp}(a:ae H H1) (b:ae H1 H2):ae H H2:=fun c o h=>b c o (a c o h)
theorem ae.free {H H':Hp}(e:ae H H') {l:Addr}(h:H' l=Option.none):H l=Option.none:=by
 cases q:H l with
 |none=>rfl
 |some o=>
  rw[e l o q]at h
  cases h
section
variable {X:Cx}{pins:List (Addr×Obj)}{σ:St}{H:Hp}{s:Shared}{a:Addr}{y v:V}{u r:Value}{o:Option V}{A:Around}{E:Value→Shared→Prop}
theorem Inv.big (I:Inv X pins σ H s):sysModules<s.heap.objs.size:=by
 have h:mainGlobals<s.heap.objs.size:=(I.mod.glob.keeps I.bk).lt
 exact Nat.lt_trans (by decide) h
end
theorem Gv {P:Program}{w:World}{H:Hp}(h:Heap) (hb:sysModules<h.objs.size):aU P w H (h.push {cls:=.type "dict",data:=.dict #[]}) h.objs.size (.dK []):=
 ⟨Nat.zero_le _,beq_eq_false_iff_ne.mpr (Ne.symm (Nat.ne_of_lt hb)),[],.nil,Heap.DictOf.new h⟩
def Af:TE:=fun _ H Q=> ∀p,H p=none→Q (.ref p) (upd H p (.dK []))
section
variable {X:Cx}{pos:Pos}
theorem Wn:PE X (.Dict [] [] pos) Af:=fun pins s σ H Q I h=>
 wpAny_Dict_empty ⟨.ref s.heap.objs.size,_,I.laid (a:=s.heap.objs.size) (o:=.dK []) (t':=s.toks) (fun _ _ q=>Heap.get?_push_of_some _ q) (Nat.le_refl _) (Gv s.heap I.big),rfl,h _ (I.ah.fresh (Nat.le_refl _))⟩
end
structure M1 (X:Cx) (o:Expr) (m:Str) (apos:Pos) (e:Expr) (bF:Pos):Prop where
 base:attributeBase o m X.env (eval o X.env)=eval o X.env
 Ep:((backTo bF (starEach [e] X.env)).all (fun x=> !x.1)&&(backToKw bF (keywordEach [] X.env)).all (fun x=>x.1.isSome)
  &&decide (([e]:List Expr).length+([]:List Keyword).length+(if ([]:List Keyword).isEmpty then 0 else 1)<30))=true
 line:(apos.endLine==bF.line)=true
 trees:backTo bF (starEach [e] X.env)=[(false,eval e X.env)]
structure M2 (X:Cx) (o:Expr) (m:Str) (apos:Pos) (e f:Expr) (bF:Pos):Prop where
 base:attributeBase o m X.env (eval o X.env)=eval o X.env
 Ep:((backTo bF (starEach [e,f] X.env)).all (fun x=> !x.1)&&(backToKw bF (keywordEach [] X.env)).all (fun x=>x.1.isSome)
  &&decide (([e,f]:List Expr).length+([]:List Keyword).length+(if ([]:List Keyword).isEmpty then 0 else 1)<30))=true
 line:(apos.endLine==bF.line)=true
 trees:backTo bF (starEach [e,f] X.env)=[(false,eval e X.env),(false,eval f X.env)]
def bG (scope:Scope) (env:Env):List (Str×Addr):=scope.names.foldl (fun cs y=>if y.2==.free then (y.1,(env.cells.lookup y.1).getD 0)::cs else cs) []
theorem Z5 {scope:Scope}{env:Env}(h:∀y∈scope.names,y.2=.free→∃c,env.cells.lookup y.1=some c):closureFor scope env=pure (bG scope env):=by
 unfold closureFor bG
 have key:∀(l:List (Str×NameKind)) (cs:List (Str×Addr)),(∀y∈l,y.2=.free→∃c,env.cells.lookup y.1=some c)→
   (forIn l cs (fun x r=>match x with |(name,kind)=>if (kind==NameKind.free)=true then do let c ←cellOf env name;pure (ForInStep.yield ((name,c)::r)) else pure (ForInStep.yield r)):Sem (List (Str×Addr)))
    =pure (l.foldl (fun cs y=>if y.2==.free then (y.1,(env.cells.lookup y.1).getD 0)::cs else cs) cs):=by
  intro l
  induction l with
  |nil=>intro cs _;rfl
  |cons y l ih=>
   intro cs hl
   obtain⟨n,k⟩:=y
   rw[List.forIn_cons,List.foldl_cons]
   by_cases hk:k=.free
   ·subst hk
    obtain⟨c,hc⟩:=hl (n,.free) List.mem_cons_self rfl
    have aQ:env.cells.lookup n=some c:=hc
    have e1:cellOf env n=pure c:=by unfold cellOf;rw[aQ]
    simp only[beq_self_eq_true,if_true,e1,aQ,Option.getD_some,pure_bind]
    exact ih _ fun y hy=>hl y (List.mem_cons_of_mem _ hy)
   ·have hb:(k==NameKind.free)=false:=by simpa using hk
    simp only[hb,Bool.false_eq_true,if_false,pure_bind]
    exact ih _ fun y hy=>hl y (List.mem_cons_of_mem _ hy)
 simp only[key scope.names [] h,pure_bind]
 all_goals rfl
theorem ZZ {scope:Scope}{env:Env}{x:Str}{c:Addr}(h:(bG scope env).lookup x=some c):c=(env.cells.lookup x).getD 0∧(x,NameKind.free)∈scope.names:=by
 unfold bG at h
 have key:∀(l:List (Str×NameKind)) (cs:List (Str×Addr)),(l.foldl (fun cs y=>if y.2==.free then (y.1,(env.cells.lookup y.1).getD 0)::cs else cs) cs).lookup x=some c→
   (c=(env.cells.lookup x).getD 0∧(x,NameKind.free)∈l)∨cs.lookup x=some c:=by
  intro l
  induction l with
  |nil=>intro cs h;exact .inr h
  |cons y l ih=>
   intro cs h
   obtain⟨n,k⟩:=y
   rw[List.foldl_cons]at h
   rcases ih _ h with ⟨h1,h2⟩ |h'
   ·exact .inl ⟨h1,List.mem_cons_of_mem _ h2⟩
   ·by_cases hk:k=.free
    ·subst hk
     simp only[beq_self_eq_true,if_true]at h'
     rw[List.lookup_cons]at h'
     cases hx:x==n with
     |true=>
      rw[hx]at h'
      have e:x=n:=by simpa using hx
      subst e
      have e':(env.cells.lookup x).getD 0=c:=Option.some.inj h'
      exact .inl ⟨e'.symm,List.mem_cons_self⟩
     |false=>rw[hx]at h';exact .inr h'
    ·have hb:(k==NameKind.free)=false:=by simpa using hk
     simp only[hb,Bool.false_eq_true,if_false]at h'
     exact .inr h'
 rcases key _ _ h with h |h
 ·exact h
 ·simp at h
theorem Jw {scope:Scope}{env:Env}{x:Str}(h:(x,NameKind.free)∈scope.names):∃c,(bG scope env).lookup x=some c:=by
 unfold bG
 have key:∀(l:List (Str×NameKind)) (cs:List (Str×Addr)),((x,NameKind.free)∈l∨∃c,cs.lookup x=some c)→∃c,(l.foldl (fun cs y=>if y.2==.free then (y.1,(env.cells.lookup y.1).getD 0)::cs else cs) cs).lookup x=some c:=by
  intro l
  induction l with
  |nil=>
   intro cs h
   rcases h with h |h
   ·simp at h
   ·exact h
  |cons y l ih=>
   intro cs h
   obtain⟨n,k⟩:=y
   rw[List.foldl_cons]
   refine ih _ ?_
   by_cases hk:k=.free
   ·subst hk
    simp only[beq_self_eq_true,if_true]
    rw[List.lookup_cons]
    cases hx:x==n with
    |true=>exact .inr ⟨_,rfl⟩
    |false=>
     rcases h with h |h
     ·rcases List.mem_cons.mp h with e |h
      ·have e1:x=n:=congrArg Prod.fst e
       simp[e1]at hx
      ·exact .inl h
     ·exact .inr h
   ·have hb:(k==NameKind.free)=false:=by simpa using hk
    simp only[hb,Bool.false_eq_true,if_false]
    rcases h with h |h
    ·rcases List.mem_cons.mp h with e |h
     ·exact absurd (congrArg Prod.snd e).symm hk
     ·exact .inl h
    ·exact .inr h
 exact key _ _ (.inl h)
def rl (env:Env) (y:Str×NameKind):Str×NameKind:=if (y.2==NameKind.free&&env.scope.kind==.function&&env.kindOf y.1==some .cell) then (y.1,NameKind.cell) else y
theorem UN (env:Env) (y:Str×NameKind):(rl env y).1=y.1:=by unfold rl;split<;>rfl
theorem G9 {env:Env}{y:Str×NameKind}(h:y.2=.free):(rl env y).2=.cell∨(rl env y).2=.free:=by
 unfold rl;split
 ·exact .inl rfl
 ·exact .inr h
theorem Fq {env:Env}{y:Str×NameKind}(h:y.2≠.free):rl env y=y:=by
 have hb:(y.2==NameKind.free)=false:=by simpa using h
 unfold rl;rw[hb];simp
theorem YJ (scope:Scope) (env:Env):(relabel scope env).names=scope.names.map (rl env):=rfl
theorem J0 {scope:Scope}{env:Env}{x:Str}(hc:∀y∈scope.names,y.2≠.cell) (h:(relabel scope env).names.lookup x=some .cell∨(relabel scope env).names.lookup x=some .free):(x,NameKind.free)∈scope.names:=by
 rw[YJ]at h
 have key:∀(l:List (Str×NameKind)),(∀y∈l,y.2≠.cell)→(∃k,(k=NameKind.cell∨k=.free)∧(l.map (rl env)).lookup x=some k)→(x,NameKind.free)∈l:=by
  intro l
  induction l with
  |nil=>rintro _ ⟨k,_,h⟩;simp at h
  |cons y l ih=>
   rintro hl ⟨k',cD,h⟩
   obtain⟨n,k⟩:=y
   have e1:(rl env (n,k))=(n,(rl env (n,k)).2):=Prod.ext (UN env _) rfl
   rw[List.map_cons,e1,List.lookup_cons]at h
   cases hx:x==n with
   |true=>
    have e:x=n:=by simpa using hx
    subst e
    by_cases hk:k=.free
    ·subst hk;exact List.mem_cons_self
    ·rw[hx]at h
     rw[Fq (env:=env) (y:=(x,k)) hk]at h
     have e:k=k':=Option.some.inj h
     subst e
     rcases cD with z |z
     ·exact absurd z (hl _ List.mem_cons_self)
     ·exact absurd z hk
   |false=>
    rw[hx]at h
    exact List.mem_cons_of_mem _ (ih (fun y hy=>hl y (List.mem_cons_of_mem _ hy)) ⟨k',cD,h⟩)
 refine key _ hc ?_
 rcases h with h |h
 ·exact⟨_,.inl rfl,h⟩
 ·exact⟨_,.inr rfl,h⟩
theorem YI {scope:Scope}{env:Env}{x:Str}(h:scope.names.lookup x=some .free):(relabel scope env).names.lookup x=some .cell∨(relabel scope env).names.lookup x=some .free:=by
 rw[YJ]
 have key:∀(l:List (Str×NameKind)),l.lookup x=some .free→(l.map (rl env)).lookup x=some .cell∨(l.map (rl env)).lookup x=some .free:=by
  intro l
  induction l with
  |nil=>intro h;simp at h
  |cons y l ih=>
   intro h
   obtain⟨n,k⟩:=y
   have e1:(rl env (n,k))=(n,(rl env (n,k)).2):=Prod.ext (UN env _) rfl
   rw[List.map_cons,e1,List.lookup_cons]
   rw[List.lookup_cons]at h
   cases hx:x==n with
   |true=>
    rw[hx]at h
    have e:k=.free:=Option.some.inj h
    rcases G9 (env:=env) (y:=(n,k)) e with z |z
    ·exact .inl (congrArg some z)
    ·exact .inr (congrArg some z)
   |false=>rw[hx]at h;exact ih h
 exact key _ h
def aJ (X:Cx) (N':List Str) (scope:Scope) (C:Addr) (s2:Shared) (H2:Hp) (fp:List Addr):Cx:=
 {X with N:=N',bw:=s2,gH:=H2,env:=compEnvC scope (bG scope X.env) C X.env,outer:=X.stack,stack:=X.stack,ex:=fp,fn:=fun _=>false,pn:=[],xe:=fun _ _=>False}
def mE (so si:Scope) (N N':List Str) (ts:Nat) (aR:List Nat):Bool:=
 decide (si.kind=.function)&&si.names.all (fun y=>y.2 !=.cell)&&si.names.all (fun y=>y.2 !=.local||si.names.lookup y.1==some .local)
 &&si.names.all (fun y=>y.2 !=.free||so.names.lookup y.1==some .cell||so.names.lookup y.1==some .free)
 &&decide N'.Nodup&&decide (N'.length=ts+aR.length)
 &&(List.range aR.length).all (fun k=> (N'[ts+k]? ==(aR[k]?.bind fun j=>N[j]?))&&(N'[ts+k]?.isSome)&&(N'[ts+k]?.all fun x=>so.names.lookup x !=some .local&&si.names.lookup x==some .free))
def gC (ts:Nat) (aR:List Nat) (σ:St):St:=List.replicate ts none++aR.map fun j=> (σ[j]?).join
structure uo (X:Cx) (N':List Str) (ts:Nat) (aR:List Nat) (scope:Scope):Prop where
 kind:scope.kind=.function
 fe:∀y∈scope.names,y.2≠.cell
 names:∀y∈scope.names,y.2=.local→scope.names.lookup y.1=some .local
 free:∀y∈scope.names,y.2=.free→X.env.kindOf y.1=some .cell∨X.env.kindOf y.1=some .free
 nd:N'.Nodup
 len:N'.length=ts+aR.length
 ES:∀k j,aR[k]? =some j→∃x,N'[ts+k]? =some x∧X.N[j]? =some x∧X.env.kindOf x≠some .local∧scope.names.lookup x=some .free
theorem YN {x:Str}{k:NameKind} :∀{l:List (Str×NameKind)},l.lookup x=some k→(x,k)∈l
 | [],h=>by simp at h
 |(n,j)::l,h=>by
  rw[List.lookup_cons]at h
  cases hx:x==n with
  |true=>
   rw[hx]at h
   have e:x=n:=by simpa using hx
   have e':j=k:=Option.some.inj h
   subst e e'
   exact List.mem_cons_self
  |false=>rw[hx]at h;exact List.mem_cons_of_mem _ (YN h)
theorem Jv {X:Cx}{N':List Str}{ts:Nat}{aR:List Nat}{scope:Scope}(h:mE X.env.scope scope X.N N' ts aR=true):uo X N' ts aR scope:=by
 unfold mE at h
 simp only[Bool.and_eq_true]at h
 obtain⟨⟨⟨⟨⟨⟨h1,h2⟩,h3⟩,h4⟩,h5⟩,h6⟩,h7⟩:=h
 refine⟨of_decide_eq_true h1,fun y hy z=> ?_,fun y hy z=> ?_,fun y hy z=> ?_,of_decide_eq_true h5,of_decide_eq_true h6,fun k j hk=> ?_⟩
 ·have q:=List.all_eq_true.mp h2 y hy
  rw[z]at q;exact absurd q (by decide)
 ·have q:=List.all_eq_true.mp h3 y hy
  rw[z]at q
  simpa using q
 ·have q:=List.all_eq_true.mp h4 y hy
  rw[z]at q
  simpa[Env.kindOf] using q
 ·have ar:k<aR.length:=(List.getElem?_eq_some_iff.mp hk).1
  have q:=List.all_eq_true.mp h7 k (List.mem_range.mpr ar)
  simp only[Bool.and_eq_true]at q
  obtain⟨⟨q1,q2⟩,q3⟩:=q
  obtain⟨x,hx⟩:=Option.isSome_iff_exists.mp q2
  rw[hx]at q1 q3
  rw[hk]at q1
  have e1:some x=X.N[j]? :=by simpa using q1
  have qK:(X.env.scope.names.lookup x !=some .local&&scope.names.lookup x==some .free)=true:=q3
  simp only[Bool.and_eq_true]at qK
  refine⟨x,hx,e1.symm,?_,by simpa using qK.2⟩
  have z:=qK.1
  intro e
  have e':X.env.scope.names.lookup x=some .local:=e
  rw[e']at z
  exact absurd z (by decide)
section
variable {X:Cx}{pins:List (Addr×Obj)}{σ:St}{H:Hp}{s:Shared}
theorem FG {N':List Str}{ts:Nat}{aR:List Nat}{scope:Scope}{fp:List Addr}{h':Heap}{t':Nat}{m:Str→Option Value}{C:Addr}(S:uo X N' ts aR scope) (I:Inv X pins σ H s) (hf:∀b∈fp,bE X pins H b)
  (ho:∀b∈fp,∃o,s.heap.get? b=some o) (hC:s.heap.objs.size≤C) (hn:h'.Ns C m) (k:∀b o,s.heap.get? b=some o→h'.get? b=some o):
  Inv (aJ X N' scope C s H fp) [] (gC ts aR σ) H {s with heap:=h',toks:=t'} :=by
 have sub:∀x c,(bG scope X.env).lookup x=some c→X.env.cells.lookup x=some c:=fun x c e=>by
  obtain⟨e1,e2⟩:=ZZ e
  obtain⟨c',aQ⟩:=I.ok.has x (S.free _ e2 rfl)
  rw[aQ]at e1
  rw[aQ,e1];rfl
 have eR:∀b o,s.heap.get? b=some o→b≠C:=fun b o e=>Nat.ne_of_lt (Nat.lt_of_lt_of_le (Heap.lt_size e) hC)
 refine⟨⟨I.ok.mod,?_,I.ok.glob,I.ok.blt,hC,fun x y c e1 e2=>I.ok.inj x y c (sub x c e1) (sub y c e2),fun x hx=> ?_,fun x c z _=>absurd z Bool.false_ne_true,I.ok.hd,I.ok.frames,.inl rfl,fun b hb=> ?_,fun b o e=>I.bs b o e,Nat.le_trans I.ok.fU I.sz,fun b o e hb=> ?_,fun b hb=> ?_,I.stack,I.kJ⟩,
  rfl,I.bare,Un.kept k,⟨m,hn,fun i x v e1 e2 e3=> ?_⟩,fun x c e=> ?_,I.ah.fresh hC,fun x c e=>I.dP x c (sub x c e),fun p hp=>absurd (show p∈([]:List (Addr×Obj)) from hp) (by simp),I.ah.kept k,?_⟩
 ·show(relabel scope X.env).kind=.function
  exact S.kind
 ·exact Jw (J0 S.fe hx)
 ·obtain⟨o,e⟩:=ho b hb
  refine⟨eR b o e,fun x c ec=> ?_⟩
  exact(hf b hb).2.2.2.2.1 x c (sub x c ec)
 ·obtain⟨e1,e2⟩:=I.bs b o e
  obtain⟨f0,f1,f2,f3,f4,f5⟩:=hf b hb
  rcases f3 with z |z
  ·exact I.ok.i0 b o e z
  ·exact absurd (Nat.lt_of_lt_of_le (Heap.lt_size (I.ok.bs b o e).1) z) (Nat.lt_irrefl _)
 ·intro z
  obtain⟨f0,f1,f2,f3,f4,f5⟩:=hf b hb
  rcases List.mem_cons.mp (I.nD b z) with q |q
  ·exact f1 q
  ·exact f2 q
 ·-- the Iq values
  have hlen:¬i<ts:=fun ar=>by
   unfold gC at e2
   rw[List.getElem?_append_left (by simpa using ar),List.getElem?_replicate]at e2
   split at e2<;>cases e2
  have mD:(aR.map fun j=> (σ[j]?).join)[i - ts]? =some (some v):=by
   unfold gC at e2
   rw[List.getElem?_append_right (by simpa using hlen),List.length_replicate]at e2
   exact e2
  rw[List.getElem?_map]at mD
  cases hc:aR[i - ts]? with
  |none=>rw[hc]at mD;cases mD
  |some j=>
   rw[hc]at mD
   have jo:(σ[j]?).join=some v:=Option.some.inj mD
   have e4:σ[j]? =some (some v):=by
    cases q:σ[j]? with
    |none=>rw[q]at jo;cases jo
    |some o=>rw[q]at jo;exact congrArg some jo
   obtain⟨x',n1,n2,n3,n4⟩:=S.ES _ _ hc
   have ei:ts+(i - ts)=i:=by omega
   rw[ei]at n1
   have ex:x=x':=by
    have tN:N'[i]? =some x:=e1
    rw[n1]at tN;exact(Option.some.inj tN).symm
   subst ex
   obtain⟨mX,IH,hl⟩:=I.loc
   have zj:mJ X.env.scope x:=by
    rcases S.free _ (YN n4) rfl with z |z
    ·exact .inr (.inl z)
    ·exact .inr (.inr z)
   obtain⟨u,ru,lk⟩:=hl j x v n2 e4 zj
   refine⟨u,ru,?_⟩
   rcases lk with ⟨z,_⟩ |⟨z,c,ec,iq⟩
   ·exact absurd z n3
   ·obtain⟨c',aQ⟩:=Jw (env:=X.env) (YN n4)
    have:=sub x c' aQ
    rw[ec]at this
    cases this
    refine .inr ⟨?_,c,aQ,iq.keeps k⟩
    exact YI n4
 ·obtain⟨v,z⟩:=I.cell x c (sub x c e)
  exact⟨v,z.keeps k⟩
 ·show(gC ts aR σ).length=N'.length
  unfold gC
  rw[List.length_append,List.length_replicate,List.length_map,S.len]
end
def AccAt (h:Heap) (D:Addr) (ys:List V):Prop:=ys.length≤sizeLine∧∃(its:List Value) (n:Nat),Vals ys its∧h.get? D=some {cls:=.type "list",data:=.seq its.toArray n}
theorem AccAt.keep {h h':Heap}{D:Addr}{ys:List V}(a:AccAt h D ys) (k:∀o,h.get? D=some o→h'.get? D=some o):AccAt h' D ys:=by
 obtain⟨z,its,n,r,e⟩:=a
 exact⟨z,its,n,r,k _ e⟩
abbrev TC:=List V→St→Hp→(List V→St→Hp→Prop)→Prop
def ko (Y:Cx) (D:Addr) (m:Sem PySem.Fin→Sem PySem.Fin) (t:TC):Prop:=
 ∀(pins:List (Addr×Obj)) (s:Shared) (σ:St) (H:Hp) (ys:List V) (Q:List V→St→Hp→Prop) (k:Sem PySem.Fin) (R:PySem.Fin→Shared→Prop),Inv Y pins σ H s→bE Y pins H D→AccAt s.heap D ys→t ys σ H Q→
  (∀s' bK aj H',Inv Y pins aj H' s'→bE Y pins H' D→AccAt s'.heap D bK→Q bK aj H'→wpAny (model Y.prog Y.w) Y.A k R (fun _ _=>False) s')→wpAny (model Y.prog Y.w) Y.A (m k) R (fun _ _=>False) s
def uC (ifs:List Expr) (env:Env):Sem Bool:=forIn ifs true fun c r=>if r=true then do let ok ←isTrue c env (eval c env);pure (ForInStep.yield ok) else pure (ForInStep.yield r)
def ju (Y:Cx) (ifs:List Expr) (t:TT):Prop:=
 ∀(pins:List (Addr×Obj)) (s:Shared) (σ:St) (H:Hp) (Q:Bool→Hp→Prop),Inv Y pins σ H s→t σ H Q→wpAny (model Y.prog Y.w) Y.A (uC ifs Y.env) (TP Y pins σ Q) Y.xe s
def zN:TT:=fun _ H Q=>Q true H
section
variable {Y:Cx}{D:Addr}
theorem Z3:ju Y [] zN:=fun pins s σ H Q I h=>wpAny_tests_nil ⟨H,I,h⟩
theorem YV {c:Expr}{t:TT}(hc:PT Y c t):ju Y [c] t:=fun pins s σ H Q I h=>wpAny_tests_one (hc pins s σ H Q I h)
def Ad (te:TE):TC:=fun ys σ H Q=>te σ H fun v H1=>ys.length<sizeLine∧Q (ys++[v]) σ H1
theorem AccAt.fe {h:Heap}{ys:List V}(a:AccAt h D ys):∀b∈[D],∃o,h.get? b=some o∧∀v,o.data≠.cell v:=fun b hb=>by
 have e:b=D:=by simpa using hb
 subst e
 obtain⟨z,its,n,r,e⟩:=a
 exact⟨_,e,fun v z=>by
  have z':Data.seq its.toArray n=Data.cell v:=z
  cases z'⟩
theorem AccAt.through {h:Heap}{pins:List (Addr×Obj)}{aj:St}{H':Hp}{s':Shared}{ys:List V}(a:AccAt h D ys) (I:Inv Y (pins++gk [D] h) aj H' s'):AccAt s'.heap D ys∧H' D=none:=by
 obtain⟨z,its,n,r,e⟩:=a
 have q:=I.pin (D,_) (List.mem_append_right _ (List.mem_append_right _ (ZP (List.mem_singleton.mpr rfl) e)))
 exact⟨⟨z,its,n,r,q.1⟩,q.2.1⟩
theorem ZE {elt:Expr}{te:TE}(hx:Y.xe=fun _ _=>False) (he:PE Y elt te):
    ko Y D (fun k=> (do let _ ←call (.builtin "list.append") [.ref D,←eval elt Y.env]) >>=fun _=>k) (Ad te):=by
  intro pins s σ H ys Q k R I f a h hk
  refine wpAny_bind (wpAny_mono (Q:=fun _ s'=> ∃bK aj H',Inv Y pins aj H' s'∧bE Y pins H' D∧AccAt s'.heap D bK∧Q bK aj H') ?_ (fun _ s' ⟨bK,aj,H',q1,q2,q3,q4⟩=>hk s' bK aj H' q1 q2 q3 q4) fun _ _ z=>z)
  have I':=I.pinned (fp:=[D]) (fun b hb=>by have e:b=D:=by simpa using hb
                                            subst e;exact f) a.fe
  refine wpAny_bind (wpAny_mono (he _ s σ H _ I' h) (fun u s1 ⟨v,H1,I1,ru,hz,q⟩=> ?_) fun e s1 z=>by rw[hx]at z;exact z)
  obtain⟨a1,n1⟩:=a.through I1
  have f1:bE Y pins H1 D:=⟨n1,f.2⟩
  obtain⟨z,its,n,r,e⟩:=a1
  have hl:=r.length
  refine wpAny_bind (call_meets F.slot_list_append ⟨_,e,rfl⟩ F.entry_list_append (F.args_list_append_2 _ _) (PySem.list_append D its.toArray n u (by rw[List.size_toArray];omega)) ⟨e,wpAny_pure ?_⟩)
  have q2:=PySem.IsL.update e (·.push u)
  obtain⟨f0,g1,g2,g3,g4,g5⟩:=f1
  have I2:Inv Y pins σ H1 {s1 with heap:=s1.heap.update D (Obj.mapSeq (·.push u))} :=I1.fZ.turned (t':=s1.toks) (it:=D) (fun b o hb eb=> (Heap.get?_update_other s1.heap _ (Ne.symm hb)).trans eb) f0 g1 g3 g4 g5
  refine⟨ys++[v],σ,H1,I2,⟨f0,g1,g2,g3,g4,g5⟩,⟨by rw[List.length_append,List.length_singleton];omega,its++[u],(if ((its.toArray.push u).size==its.toArray.size)=true then n else n+1),r.append (.cons ru .nil),?_⟩,q⟩
  have e3:its.toArray.push u=(its++[u]).toArray:=by simp
  rw[←e3]
  exact q2
def inner (elt:Expr) (gens:List Comprehension) (scope:Scope) (pos:Pos) (d:Nat) (acc:Value) (env:Env) (k:Sem PySem.Fin):Sem PySem.Fin:=
 match gens[d+1]? with
 |some g'=>eval g'.iter env >>=fun x=>standAt g'.iter.pos >>=fun _=>foldedSetIterable g'.iter env x >>=fun x=>holding [x] (pyIter x) >>=fun i5=>
  runOwn (.compStart (.ListComp elt gens scope pos) (d+1) i5 acc env) env >>=fun _=>k
 |none=> (do let _ ←call (.builtin "list.append") [acc,←eval elt env]) >>=fun _=>k
set_option maxHeartbeats 400000 in
theorem WB (elt tg iter:Expr) (ifs:List Expr) (gens:List Comprehension) (scope:Scope) (pos:Pos) (d:Nat) (it acc:Value) (env:Env) (hg:gens[d]? =some ⟨tg,iter,ifs,0⟩) (h2:∀g',gens[d+1]? =some g'→g'.is_async=0):
  compTurn (.ListComp elt gens scope pos) d it acc env=(standAt iter.pos >>=fun _=>pyNext it >>=fun r=>match r with
   |none=>pure (.done .next)
   |some v=>letOwnedTupleGo tg it v >>=fun _=>assign tg env v >>=fun _=>uC ifs env >>=fun ok=>
    if ok=true then inner elt gens scope pos d acc env (again (.compLoop (.ListComp elt gens scope pos) d it acc env)) else again (.compLoop (.ListComp elt gens scope pos) d it acc env)):=by
 unfold compTurn inner
 dsimp only
 rw[hg]
 generalize hn:gens[d+1]? =o
 cases o with
 |none=>rfl
 |some g'=>
  have e:=h2 g' hn
  obtain⟨t',i',f',a'⟩:=g'
  have e':a'=0:=e
  subst e'
  rfl
def fK (g:TG) (tt:TT) (ti:TC) (J:It):TC:=fun ys σ H Q=> ∃W:Nat→Nat→List V→St→Hp→Prop,(∃m,W 0 m ys σ H)∧∀i m ys σ H,W i m ys σ H→
 (J.stop i H∧Q ys σ H)∨(J.go i H∧∃N:List V→St→Hp→Prop,(∀bK aj H',N bK aj H'→∃m',m'<m∧W (i+1) m' bK aj H')∧
  ∀x H',J.kE i H x H'→g x σ H' fun aN H2=>tt aN H2 fun b H3=>if b=true then ti ys aN H3 N else N ys aN H3)
theorem UF {elt tg iter:Expr}{ifs:List Expr}{gens:List Comprehension}{scope:Scope}{pos:Pos}{d:Nat}{it:Addr}{fp:List Addr}{tn:Nat→Heap→Prop}{J:It}{g:TG}{tt:TT}{ti:TC}{pins:List (Addr×Obj)}{s:Shared}{σ:St}{H:Hp}{ys:List V}{Q:List V→St→Hp→Prop}
    (hx:Y.xe=fun _ _=>False) (hc:Y.calm=true) (hg:gens[d]? =some ⟨tg,iter,ifs,0⟩) (T:Turn Y.prog Y.w Y.K tg J fp it tn) (hf:∀b∈fp,bE Y pins H b) (st:tn 0 s.heap) (hD:D∉fp)
    (h2:∀g',gens[d+1]? =some g'→g'.is_async=0) (pg:PG Y tg g) (pt:ju Y ifs tt) (pi:ko Y D (inner elt gens scope pos d (.ref D) Y.env) ti)
    (I:Inv Y pins σ H s) (f:bE Y pins H D) (a:AccAt s.heap D ys) (h:fK g tt ti J ys σ H Q):
    codeAny (model Y.prog Y.w) Y.A (.compLoop (.ListComp elt gens scope pos) d (.ref it) (.ref D) Y.env) (fun r s'=>match r with
      | .ok _=> ∃bK aj H',Inv Y pins aj H' s'∧bE Y pins H' D∧AccAt s'.heap D bK∧Q bK aj H'
      | .error _=>False) s:=by
  obtain⟨W,⟨m0,w0⟩,turn⟩:=h
  have stat:∀{H':Hp},(∀b∈fp,H' b=none)→∀b∈fp,bE Y pins H' b:=fun hn b hb=> ⟨hn b hb,(hf b hb).2⟩
  refine codeAny_loop rfl (fun n s'=> ∃i bK aj H',Inv Y pins aj H' s'∧bE Y pins H' D∧AccAt s'.heap D bK∧tn i s'.heap∧(∀b∈fp,H' b=none)∧W i n bK aj H') (fun n s3 hI=> ?_) m0 ⟨0,ys,σ,H,I,f,a,st,fun b hb=> (hf b hb).1,w0⟩
  obtain⟨i,kD,cM,H3,I3,f3,a3,cq,mw,w3⟩:=hI
  show wpAny _ Y.A ((compTurn (.ListComp elt gens scope pos) d (.ref it) (.ref D) Y.env).onRaise (fun x=>do noteFrame x Y.env;theTreesLotGoes x)) _ _ s3
  refine wpAny_noted (wpAny_mono (E:=fun _ _=>False) ?_ (fun _ _ q=>q) fun _ _ z=>z.elim)
  rw[WB elt tg iter ifs gens scope pos d (.ref it) (.ref D) Y.env hg h2]
  refine wpAny_bind (wpAny_standAt (wpAny_bind ?_))
  have aD:∀{h h':Heap},(∀b o,b∉fp→h.get? b=some o→h'.get? b=some o)→∀{zs},AccAt h D zs→AccAt h' D zs:=fun k _ q=>q.keep fun o e=>k D o hD e
  have yX:=I3.pinned (fp:=[D]) (fun b hb=>by have e:b=D:=by simpa using hb
                                             subst e;exact f3) a3.fe
  have uM:∀b∈fp,bE Y (pins++gk [D] s3.heap) H3 b:=fun b hb=>by
    obtain⟨g0,g1,g2,g3,g4,g5⟩:=stat mw b hb
    refine⟨g0,g1,g2,g3,g4,fun p hp=> ?_⟩
    rcases List.mem_append.mp hp with z |z
    · exact g5 p (List.mem_append_left _ z)
    · rcases List.mem_append.mp z with z |z
      · exact g5 p (List.mem_append_right _ z)
      · intro q
        have e:p.1=D:=by simpa using (Y8 z).1
        exact hD (by rw[←e,q];exact hb)
  rcases turn i n kD cM H3 w3 with ⟨stop,qn⟩ |⟨go,N,hN,step⟩
  · refine wpAny_mono (T.done Y rfl rfl rfl hc i _ s3 cM H3 (fun _ _=>False) yX uM cq stop) (fun r s4 ⟨hr,I4⟩=> ?_) fun _ _ z=>z
    subst hr
    obtain⟨a4,n4⟩:=a3.through I4
    exact wpAny_pure ⟨kD,cM,H3,I4.fZ,f3,a4,qn⟩
  · refine wpAny_mono (T.item Y rfl rfl rfl hc i _ s3 cM H3 (fun _ _=>False) yX uM cq go) (fun r s4 ⟨u,hr,h4⟩=> ?_) fun _ _ z=>z
    subst hr
    refine wpAny_bind (wpAny_mono h4 (fun _ s5 ⟨x,H5,I5,r5,y5,dh,tm⟩=> ?_) fun _ _ z=>z)
    obtain⟨a5,n5⟩:=a3.through I5
    have f5:bE Y pins H5 D:=⟨n5,f3.2⟩
    have CS:∀b∈D::fp,∃o,s5.heap.get? b=some o∧∀v,o.data≠.cell v:=fun b hb=>by
      rcases List.mem_cons.mp hb with e |hb
      · exact a5.fe b (by simp[e])
      · exact T.obj _ _ dh b hb
    have ui:=I5.fZ.pinned (fp:=D::fp) (fun b hb=>by
      rcases List.mem_cons.mp hb with e |hb
      · rw[e];exact f5
      · exact stat tm b hb) CS
    refine wpAny_bind (wpAny_mono (pg _ s5 cM H5 x u _ ui r5 (step x H5 y5)) (fun _ s6 ⟨kB,H6,I6,q6⟩=> ?_) fun _ _ z=>by rw[hx]at z;exact z)
    refine wpAny_bind (wpAny_mono (pt _ s6 kB H6 _ I6 q6) (fun b s7 ⟨H7,I7,q7⟩=> ?_) fun _ _ z=>by rw[hx]at z;exact z)
    have vO:∀{cK:St}{H7:Hp}{s7:Shared},Inv Y (pins++gk (D::fp) s5.heap) cK H7 s7→AccAt s7.heap D kD∧H7 D=none:=fun {cK H7 s7} J=>by
      obtain⟨z,its,n,r,e⟩:=id a5
      have q:=J.pin (D,_) (List.mem_append_right _ (List.mem_append_right _ (ZP List.mem_cons_self e)))
      exact⟨⟨z,its,n,r,q.1⟩,q.2.1⟩
    have vN:∀{cK:St}{H7:Hp}{s7:Shared},Inv Y (pins++gk (D::fp) s5.heap) cK H7 s7→tn (i+1) s7.heap∧∀b∈fp,H7 b=none:=fun {cK H7 s7} J=>by
      refine⟨T.keep _ _ _ dh fun b hb o e=> (J.pin (b,o) (List.mem_append_right _ (List.mem_append_right _ (ZP (List.mem_cons_of_mem _ hb) e)))).1,fun b hb=> ?_⟩
      obtain⟨o,e,dd⟩:=T.obj _ _ dh b hb
      exact(J.pin (b,o) (List.mem_append_right _ (List.mem_append_right _ (ZP (List.mem_cons_of_mem _ hb) e)))).2.1
    cases b with
    |false=>
     simp only[Bool.false_eq_true,if_false]at q7 ⊢
     obtain⟨m',hm,w7⟩:=hN _ _ _ q7
     obtain⟨a7,n7⟩:=vO I7
     obtain⟨t7,r7⟩:=vN I7
     exact wpAny_pure ⟨rfl,m',hm,i+1,kD,kB,H7,I7.fZ,⟨n7,f3.2⟩,a7,t7,r7,w7⟩
    |true=>
     simp only[if_true]at q7 ⊢
     obtain⟨a7,n7⟩:=vO I7
     obtain⟨t7,r7⟩:=vN I7
     have HC:=I7.fZ.pinned (fp:=fp) (stat r7) (T.obj _ _ t7)
     have f7:bE Y (pins++gk fp s7.heap) H7 D:=by
       obtain⟨g0,g1,g2,g3,g4,g5⟩:=f3
       refine⟨n7,g1,g2,g3,g4,fun p hp=> ?_⟩
       rcases List.mem_append.mp hp with z |z
       · exact g5 p (List.mem_append_left _ z)
       · rcases List.mem_append.mp z with z |z
         · exact g5 p (List.mem_append_right _ z)
         · intro q
           exact hD (by rw[←q];exact(Y8 z).1)
     refine pi _ s7 kB H7 kD N _ _ HC f7 a7 q7 fun s8 zc mW H8 I8 f8 a8 q8=> ?_
     obtain⟨m',hm,w8⟩:=hN _ _ _ q8
     refine wpAny_pure ⟨rfl,m',hm,i+1,zc,mW,H8,I8.fZ,⟨f8.1,f3.2⟩,a8,T.keep _ _ _ t7 fun b hb o e=> (I8.pin (b,o) (List.mem_append_right _ (List.mem_append_right _ (ZP hb e)))).1,fun b hb=> ?_,w8⟩
     obtain⟨o,e,dd⟩:=T.obj _ _ t7 b hb
     exact(I8.pin (b,o) (List.mem_append_right _ (List.mem_append_right _ (ZP hb e)))).2.1
theorem W2 {elt tg iter:Expr}{ifs:List Expr}{gens:List Comprehension}{scope:Scope}{pos:Pos}{d:Nat}{it:Addr}{R:Result→Shared→Prop}{s:Shared}{A:Around}{prog:Program}{w:World}{env:Env}{acc:Value}{fp:List Addr}{tn:Nat→Heap→Prop}{J:It}{K:PySem.W.Frag}
  (hg:gens[d]? =some ⟨tg,iter,ifs,0⟩) (T:Turn prog w K tg J fp it tn) {i:Nat} (st:tn i s.heap) (h:codeAny (model prog w) A (.compLoop (.ListComp elt gens scope pos) d (.ref it) acc env) R s):
  codeAny (model prog w) A (.compStart (.ListComp elt gens scope pos) d (.ref it) acc env) R s:=by
 refine codeAny_of_tree ?_
 show wpAny _ _ ((compStart (.ListComp elt gens scope pos) d (.ref it) acc env).onRaise (fun x=>do noteFrame x env;standAt theWindowsPlace)) _ _ s
 refine wpAny_notedAt ?_
 have Dj:(clausesOf (.ListComp elt gens scope pos))[d]? =some ⟨tg,iter,ifs,0⟩:=hg
 unfold compStart
 rw[Dj]
 show wpAny _ _ (ask >>=_) _ _ s
 refine wpAny_bind (wpAny_askSetting (wpAny_ite ?_))
 split
 ·first
   |exact wpAny_bind (wpAny_pure (wpAny_pure (And.intro rfl h)))
   |exact wpAny_pure (And.intro rfl h)
 ·refine wpAny_bind (wpAny_rule ?_)
  show wpAny _ _ (standAt iter.pos >>=_) _ _ s
  exact wpAny_bind (wpAny_standAt (wpAny_bind (T.self A i s _ _ st (wpAny_pure (And.intro rfl h)))))
end
section
variable {X:Cx}{pins:List (Addr×Obj)}{σ:St}{H H':Hp}{s s':Shared}
theorem Jy {N':List Str}{scope:Scope}{C D:Addr}{fp:List Addr}{aj:St}{ys:List V}{pl:List (Addr×Obj)}{h':Heap}(I:Inv X pins σ H s) (hf:∀b∈fp,bE X pins H b) (hC:s.heap.objs.size≤C) (hD:s.heap.objs.size≤D) (gy:D≠C)
  (J:Inv (aJ X N' scope C s H fp) pl aj H' s') (n:H' D=none) (a:AccAt s'.heap D ys) (sb:Heap.SameBut C s'.heap h'):Inv X pins σ (upd H' D (.lst ys)) {s' with heap:=h'} :=by
 have eR:∀b o,s.heap.get? b=some o→b≠C:=fun b o e=>Nat.ne_of_lt (Nat.lt_of_lt_of_le (Heap.lt_size e) hC)
 have BG:∀b o,s.heap.get? b=some o→b≠D:=fun b o e=>Nat.ne_of_lt (Nat.lt_of_lt_of_le (Heap.lt_size e) hD)
 have rp:∀b o,H b=some o→b≠D:=fun b o e=>Nat.ne_of_lt (Nat.lt_of_lt_of_le (I.ah.lt e) hD)
 have fC:H' C=none:=J.free
 have u:Un (aG X.stack) fp H H' s.heap s'.heap:=J.base
 refine I.yn (s':= {s' with heap:=h'}) (ch:=fp) J.os ⟨fun b o e nb hb hx=> (sb.2 b (eR b o e)).trans (u.keep b o e nb hb hx),fun b o e nb hb hx=> ?_,fun b o e nb hx=>by rw[Ze (BG b o e)];exact u.free b o e nb hx,fun b o e hx=> ?_,
  fun b xs e=>by rw[Ze (rp b _ e)];exact u.dX b xs e,fun b o xs e=>by rw[Ze (rp b _ e)];exact u.dN b o xs e,fun b ps e=>by rw[Ze (rp b _ e)];exact u.dB b ps e⟩ (fun b v e=> ?_) J.bare fun b hb=> ?_
 ·obtain⟨sl,q⟩:=u.slot b o e nb hb hx
  exact⟨sl,(sb.2 b (eR b o e)).trans q⟩
 ·obtain⟨o',q⟩:=u.there b o e hx
  exact⟨o',(sb.2 b (eR b o e)).trans q⟩
 ·by_cases hb:b=D
  ·subst hb
   rw[Zc]at e
   cases e
   obtain⟨z,its,k,r,q⟩:=a
   exact⟨z,its,k,r,(sb.2 b gy).trans q⟩
  ·rw[Ze hb]at e
   refine(J.ah b v e).bj (fun c w hc q=> (sb.2 c ?_).trans q) (fun c q=>by rw[Ze (Zf q n)];exact q) fun c xs q=>by rw[Ze (Zf q n)];exact q
   rcases hc with z |z
   ·rw[z];exact Zf e fC
   ·exact Zf z fC
 ·obtain⟨f0,f1,f2,f3,f4,f5⟩:=hf b hb
  exact⟨f3,f1,f4,f5⟩
theorem YS {elt tg iter:Expr}{ifs:List Expr}{rest:List Comprehension}{scope:Scope}{pos:Pos}{N':List Str}{ts:Nat}{aR:List Nat}{it:Addr}{fp:List Addr}{tn:Nat→Heap→Prop}{J:It}{g:TG}{tt:TT}{ti:TC}{Q:List V→Hp→Prop}{E:Value→Shared→Prop}{RR:Value→Addr→Result→Shared→Prop}
  (S:uo X N' ts aR scope) (hc:X.calm=true) (I:Inv X pins σ H s) (T:Turn X.prog X.w X.K tg J fp it tn) (st:tn 0 s.heap) (hf:∀b∈fp,bE X pins H b)
  (h2:∀g',(Comprehension.mk tg iter ifs 0::rest)[0+1]? =some g'→g'.is_async=0)
  (pg:∀C,PG (aJ X N' scope C s H fp) tg g) (pt:∀C,ju (aJ X N' scope C s H fp) ifs tt)
  (pi:∀C D,ko (aJ X N' scope C s H fp) D (inner elt (⟨tg,iter,ifs,0⟩::rest) scope pos 0 (.ref D) (aJ X N' scope C s H fp).env) ti)
  (h:fK g tt ti J [] (gC ts aR σ) H fun ys _ H2=>Q ys H2)
  (DG:∀C D s' aj H' ys fl,s.heap.objs.size≤C→s.heap.objs.size≤D→D≠C→Inv (aJ X N' scope C s H fp) [] aj H' s'→H' D=none→AccAt s'.heap D ys→Q ys H'→RR (.ref D) C (.ok fl) s'):
  wpAny (model X.prog X.w) X.A (newList []) (fun acc Al=>wpAny (model X.prog X.w) X.A (newFunctionEnv scope X.env.globals (bG scope X.env) [] X.env.qual none .none (some X.env)) (fun yl Ak=>
   codeAny (model X.prog X.w) X.A (.compStart (.ListComp elt (⟨tg,iter,ifs,0⟩::rest) scope pos) 0 (.ref it) acc {yl with scope:=relabel scope X.env}) (RR acc yl.locals) Ak) E Al) E s:=by
 refine wpAny_newObj_type (wpAny_newFunctionEnv S.fe (by intro y hy;simp at hy) (fun lF sf oG=> ?_) S.kind)
 dsimp only at sf oG ⊢
 generalize sX:s.heap.push {cls:=.type "list",dict:=none,data:=.seq ([]:List Value).toArray} =h0 at sf oG ⊢
 have hC:h0.objs.size=s.heap.objs.size+1:=by rw[←sX,Heap.size_push]
 have gy:s.heap.objs.size≠h0.objs.size:=by rw[hC];exact Nat.ne_of_lt (Nat.lt_succ_self _)
 have sY:s.heap.objs.size≤h0.objs.size:=by rw[hC];exact Nat.le_succ _
 have eR:∀b o,s.heap.get? b=some o→b≠h0.objs.size:=fun b o e=>Nat.ne_of_lt (Nat.lt_of_lt_of_le (Heap.lt_size e) sY)
 have old:∀b o,s.heap.get? b=some o→lF.get? b=some o:=fun b o e=>oG.extBut b o (eR b o e) (Heap.get?_push_of_some _ (sX▸Heap.get?_push_of_some _ e))
 have sV:lF.get? s.heap.objs.size=some {cls:=.type "list",data:=.seq ([]:List Value).toArray 0} :=oG.extBut _ _ gy (Heap.get?_push_of_some _ (sX▸Heap.get?_push_size _ rfl))
 have ho:∀b∈fp,∃o,s.heap.get? b=some o:=fun b hb=>let ⟨o,e,_⟩:=T.obj _ _ st b hb;⟨o,e⟩
 have I1:Inv (aJ X N' scope h0.objs.size s H fp) [] (gC ts aR σ) H {s with heap:=lF,toks:=s.toks+([]:List (Str×Value)).length} :=FG S I hf ho sY sf old
 have fresh:=I.ah.fresh (a:=s.heap.objs.size) (Nat.le_refl _)
 have Em:∀b∈fp,bE (aJ X N' scope h0.objs.size s H fp) [] H b:=fun b hb=>by
  obtain⟨f0,f1,f2,f3,f4,f5⟩:=hf b hb
  refine⟨f0,(I1.ok.ki b hb).1,I1.ok.jm b hb,.inl hb,(I1.ok.ki b hb).2,fun p hp=>absurd (show p∈([]:List (Addr×Obj)) from hp) (by simp)⟩
 have fD:bE (aJ X N' scope h0.objs.size s H fp) [] H s.heap.objs.size:=by
  refine⟨fresh,gy,fun z=> ?_,.inr (Nat.le_refl _),fun x c e z=> ?_,fun p hp=>absurd (show p∈([]:List (Addr×Obj)) from hp) (by simp)⟩
  ·obtain⟨_,o,cj,_⟩:=I.stack.mem z
   exact absurd (Heap.lt_size cj) (Nat.lt_irrefl _)
  ·obtain⟨e1,e2⟩:=ZZ e
   obtain⟨c',aQ⟩:=I.ok.has x (S.free _ e2 rfl)
   obtain⟨v,q⟩:=I.cell x c' aQ
   rw[aQ]at e1
   have e3:c=c':=e1
   have l:=q.lt
   rw[←e3,z]at l
   exact absurd l (Nat.lt_irrefl _)
 have aD:AccAt lF s.heap.objs.size []:=⟨Nat.zero_le _,[],0,.nil,sV⟩
 have DX:s.heap.objs.size∉fp:=fun z=>by obtain⟨o,e⟩:=ho _ z;exact absurd (Heap.lt_size e) (Nat.lt_irrefl _)
 have cN:tn 0 lF:=T.keep _ _ _ st fun b _ o e=>old b o e
 have run:=W2 (elt:=elt) (gens:=⟨tg,iter,ifs,0⟩::rest) (scope:=scope) (pos:=pos) (d:=0) rfl T cN
  (UF (Y:=aJ X N' scope h0.objs.size s H fp) (D:=s.heap.objs.size) (Q:=fun ys _ H2=>Q ys H2) (elt:=elt) (gens:=⟨tg,iter,ifs,0⟩::rest) (scope:=scope) (pos:=pos) (d:=0) rfl hc rfl T Em cN DX h2 (pg _) (pt _) (pi _ _) I1 fD aD h)
 refine codeAny_mono run fun r s' hr=> ?_
 cases r with
 |error e=>exact hr.elim
 |ok fl=>
  obtain⟨bK,aj,H',q1,q2,q3,q4⟩:=hr
  exact DG _ _ s' aj H' bK fl sY (Nat.le_refl _) gy q1 q2.1 q3 q4
end
def uG (wi:TI) (ts:Nat) (aR:List Nat) (g:TG) (tt:TT) (ti:TC):TE:=fun σ H Q=>wi σ H fun J H1=>fK g tt ti J [] (gC ts aR σ) H1 fun ys _ H2=> ∀p,H2 p=none→Q (.ref p) (upd H2 p (.lst ys))
section
variable {X:Cx}{elt tg iter:Expr}{ifs:List Expr}{rest:List Comprehension}{scope:Scope}{pos:Pos}{wi:TI}{g:TG}{tt:TT}{ti:TC}
theorem ZY (N':List Str) (ts:Nat) (aR:List Nat) (hi:PI X tg iter wi) (pg:∀C s H fp,PG (aJ X N' scope C s H fp) tg g) (pt:∀C s H fp,ju (aJ X N' scope C s H fp) ifs tt)
  (pi:∀C s H fp D,ko (aJ X N' scope C s H fp) D (inner elt (⟨tg,iter,ifs,0⟩::rest) scope pos 0 (.ref D) (aJ X N' scope C s H fp).env) ti)
  (ok:mE X.env.scope scope X.N N' ts aR=true:=by rfl) (hc:X.calm=true:=by rfl) (h2:∀g',(Comprehension.mk tg iter ifs 0::rest)[0+1]? =some g'→g'.is_async=0:=by(intro g' h;cases h<;>rfl))
  (hs:∀x,foldedSetIterable iter X.env x=pure x:=by intro _;rfl):
  PE X (.ListComp elt (⟨tg,iter,ifs,0⟩::rest) scope pos) (uG wi ts aR g tt ti):=by
 intro pins s σ H Q I h
 have S:=Jv ok
 rw[eval_ListComp]
 refine wpAny_comprehension_free (use:=none) rfl hs (Z5 fun y hy e=>I.ok.has _ (S.free y hy e)) S.kind S.names (aq (hi pins s σ H _ I h) fun v s1 h1=>aq h1 fun i5 s2 ke=> ?_)
 obtain⟨it,fp,tn,J,H2,e,I2,T,bS,f2,q2⟩:=ke
 subst e
 refine YS (RR:=fun acc C=>compPost (model X.prog X.w) X.A X.xe none _ acc C) S hc I2 T bS f2 h2 (fun C=>pg C _ _ _) (fun C=>pt C _ _ _) (fun C D=>pi C _ _ _ D) q2 ?_
 intro C D s' aj H' ys fl hC hD gy J' n a q
 obtain⟨m,hn,_⟩:=J'.loc
 exact⟨m,hn,fun h' sb=> ⟨.ref D,_,Jy I2 f2 hC hD gy J' n a sb,rfl,q D n⟩⟩
theorem J3 (N':List Str) (ts:Nat) (aR:List Nat) {i:Nat}{x:Str}{px uO:Pos}(hN:X.N.Nodup) (dc:X.N[i]? =some x) (hx:Loc X.env.scope x) (hi:PI X tg iter wi) (pg:∀C s H fp,PG (aJ X N' scope C s H fp) tg g) (pt:∀C s H fp,ju (aJ X N' scope C s H fp) ifs tt)
  (pi:∀C s H fp D,ko (aJ X N' scope C s H fp) D (inner elt (⟨tg,iter,ifs,0⟩::rest) scope pos 0 (.ref D) (aJ X N' scope C s H fp).env) ti)
  (rY:swapsWith (.ListComp elt (⟨tg,iter,ifs,0⟩::rest) scope pos) (some (.Name x px)) uO.line X.env=pure true:=by rfl)
  (ok:mE X.env.scope scope X.N N' ts aR=true:=by rfl) (hc:X.calm=true:=by rfl) (h2:∀g',(Comprehension.mk tg iter ifs 0::rest)[0+1]? =some g'→g'.is_async=0:=by(intro g' h;cases h<;>rfl))
  (hs:∀x,foldedSetIterable iter X.env x=pure x:=by intro _;rfl) (fj:X.fn x=true∨X.env.scope.names.lookup x=some .local:=by first |exact .inl rfl |exact .inr rfl |assumption):
  PS X (.Assign [.Name x px] (.ListComp elt (⟨tg,iter,ifs,0⟩::rest) scope pos) uO) (kH (uG wi ts aR g tt ti) (de i)):=by
 intro pins s σ H D I h
 have S:=Jv ok
 rw[exec_Assign_Name_used _ _ _ _ rY]
 refine wpAny_bind (wpAny_standAt (wpAny_bind ?_))
 show wpAny _ X.A (do let _ ←comprehension (.ListComp elt (⟨tg,iter,ifs,0⟩::rest) scope pos) scope X.env _ (newList []) false (eval iter X.env) (some (assign (.Name x px) X.env))) _ _ s
 refine wpAny_bind (wpAny_mono (wpAny_comprehension_free (use:=some (assign (.Name x px) X.env)) (Q:=fun _ s'=> ∃aj H',Inv X pins aj H' s'∧D.nx aj H') rfl hs (Z5 fun y hy e=>I.ok.has _ (S.free y hy e)) S.kind S.names
  (aq (hi pins s σ H _ I h) fun v s1 h1=>aq h1 fun i5 s2 ke=> ?_)) (fun _ s' hq=>wpAny_pure (wpAny_pure hq)) fun _ _ e=>e)
 obtain⟨it,fp,tn,J,H2,e,I2,T,bS,f2,q2⟩:=ke
 subst e
 refine YS (RR:=fun acc C=>compPost (model X.prog X.w) X.A X.xe (some (assign (.Name x px) X.env)) _ acc C) S hc I2 T bS f2 h2 (fun C=>pg C _ _ _) (fun C=>pt C _ _ _) (fun C D=>pi C _ _ _ D) q2 ?_
 intro C B s' aj H' ys fl hC hB xF J' n a q
 obtain⟨m,hn,_⟩:=J'.loc
 have IX:Inv X pins σ (upd H' B (.lst ys)) s':=Jy I2 f2 hC hB xF J' n a (Heap.SameBut.refl C s'.heap)
 have fC:=I2.jj (H':=upd H' B (.lst ys)) (b:=C) hC (by rw[Ze (Ne.symm xF)];exact J'.free)
 obtain⟨f0,f1,IU,f3,f4,f5⟩:=fC
 show wpAny _ X.A (assign (.Name x px) X.env (.ref B)) _ _ s'
 refine wpAny_assign_Name (JL (v:=.ref B) (u:=.ref B) IX hN dc hx rfl (fun dZ HD ⟨c,sb,fQ⟩=> ?_) fj)
 have DZ:C≠c:=by
  rcases fQ with z |z
  ·rw[z];exact f1
  ·exact(f4 x c z).symm
 refine⟨m,Heap.Ns.sameBut hn sb DZ,fun h' AN=> ?_⟩
 refine⟨σ.set i (some (.ref B)),_,HD.turned (t':=dZ.toks) (it:=C) (fun b o hb e=> (AN.2 b hb).trans e) f0 f1 f3 f4 f5,q B n⟩
end
section
variable {X:Cx}
theorem Zn {c:String} :cX X (.builtin "isinstance") (fun xs H Q=> ∃x t b,xs=[x,.ty c]∧cV X.K H x t∧PySem.W.kitOne X.K t (.type c)=some b∧Q (.bl b) H):=by
 intro pins s σ H xs us Q I r h
 obtain⟨x,t,b,rfl,ty,e,q⟩:=h
 obtain⟨u,v,rfl,ru,rv⟩:=vals2 r
 cases rv
 exact UA I ru ty e fun tk=> ⟨.bl b,H,I.tok tk,rfl,q⟩
theorem Z0 (hc:X.calm=true:=by rfl):cX X (.builtin "all") (fun xs H Q=> ∃(p:Addr) (bs:List Bool),xs=[.ref p]∧af X.K H p (bs.map V.bl)∧Q (.bl (bs.all id)) H):=by
 intro pins s σ H xs us Q I r h
 obtain⟨p,bs,rfl,hp,q⟩:=h
 obtain⟨u,rfl,ru⟩:=vals1 r
 cases ru
 obtain⟨its,rv,pl,hz⟩:=I.list hp
 have hb:∀(i:Nat) (v:Value),its.toArray[i]? =some v→v=.bool (bs.getD i false):=fun i v e=>by
  have e':its[i]? =some v:=by simpa using e
  have hl:=rv.length
  have hi:i<its.length:=(List.getElem?_eq_some_iff.mp e').1
  have j8:i< (bs.map V.bl).length:=by omega
  obtain⟨u,hu,ru⟩:=rv.get (i:=i) (x:=(bs.map V.bl)[i]) (by simp)
  rw[e']at hu
  cases hu
  rw[List.getElem_map]at ru
  have De:i<bs.length:=by simpa using j8
  have e2:bs.getD i false=bs[i]:=by simp[List.getD_eq_getElem?_getD,De]
  rw[e2]
  exact ru
 refine call_all_walk (wpAny_pyIter_list pl.isList ?_)
 have bB:p≠s.heap.objs.size:=Nat.ne_of_lt (by obtain⟨o,n,e,_⟩:=pl;exact Heap.lt_size e)
 refine⟨s.heap.objs.size,_,_,_,_,_,fun i=>bs.getD i false,rfl,Walks.list (A:=X.A.in1) (show X.A.in1.handled=none from I.ok.hd hc) s.heap.objs.size p bB its.toArray,⟨⟨_,Heap.get?_push_size _ rfl,rfl,rfl⟩,pl.isList.at fun o e=>Heap.get?_push_of_some _ e⟩,fun i v s' Q' E' hP hQ=> ?_,fun h' tk hk=> ?_⟩
 ·rw[hb i v hP]
  exact wpAny_truthy_bool hQ
 ·have e:(List.range its.toArray.size).all (fun i=>bs.getD i false)=bs.all id:=by
   have hl:its.toArray.size=bs.length:=by have:=rv.length;rw[List.length_map]at this;simpa using this.symm
   rw[hl,Bool.eq_iff_iff,List.all_eq_true,List.all_eq_true]
   constructor
   ·intro h b hb
    obtain⟨i,hi,e⟩:=List.mem_iff_getElem.mp hb
    have:=h i (List.mem_range.mpr hi)
    rw[List.getD_eq_getElem?_getD,List.getElem?_eq_getElem hi,Option.getD_some,e]at this
    exact this
   ·intro h i hi
    have j8:=List.mem_range.mp hi
    rw[List.getD_eq_getElem?_getD,List.getElem?_eq_getElem j8,Option.getD_some]
    exact h _ (List.getElem_mem j8)
  rw[e]
  refine⟨.bl (bs.all id),H,I.kept fun b o eb=>hk b o ?_ (Heap.get?_push_of_some _ eb),rfl,q⟩
  intro z
  have e1:b=s.heap.objs.size:=by simpa using z
  exact absurd (Heap.lt_size eb) (by rw[e1];exact Nat.lt_irrefl _)
def jM (ns:List Int):Nat:=(PyProof.Rows.firstMet (fun i=>ns.getD i 0) ns.length).length
theorem JF (hc:X.calm=true:=by rfl):cX X (.type "set") (fun xs H Q=> ∃(p:Addr) (ns:List Int),xs=[.ref p]∧af X.K H p (ns.map V.int)∧ns.length≤1000∧∀q S,H q=none→Q (.ref q) (upd H q (.set S (jM ns)))):=by
 intro pins s σ H xs us Q I r h
 obtain⟨p,ns,rfl,hp,hn,q⟩:=h
 obtain⟨u,rfl,ru⟩:=vals1 r
 cases ru
 obtain⟨its,rv,pl,hz⟩:=I.list hp
 have hl:=rv.length
 rw[List.length_map]at hl
 refine call_set_list (I.ok.hd hc) pl.isList (WZ rv) (by rw[List.size_toArray,←hl];unfold scanBound;omega) fun h' tk hs hk=> ?_
 have e:its.toArray.size=ns.length:=by simp[hl]
 rw[e]at hs
 exact⟨.ref s.heap.objs.size,_,I.laid (a:=s.heap.objs.size) (o:=.set _ (jM ns)) (fun b o eb=>hk b o (Heap.lt_size eb) eb) (Nat.le_refl _) hs,rfl,q _ _ I.fresh⟩
theorem JI:cX X (.builtin "len") (fun xs H Q=> ∃p S n,xs=[.ref p]∧H p=some (.set S n)∧Q (.int n) H):=by
 intro pins s σ H xs us Q I r h
 obtain⟨p,S,n,rfl,hp,q⟩:=h
 obtain⟨u,rfl,ru⟩:=vals1 r
 cases ru
 obtain⟨o,es,ep,t,h1,h2,h3,h4,h5,h6,h7,h8⟩:=(show aU X.prog X.w H s.heap p (.set S n) from I.ah p _ hp)
 refine call_len_set h1 h2 h3 h7 (by have:scanBound=4096:=rfl;omega) ⟨.int n,H,I.tok _,⟨_,by rw[h8]⟩,q⟩
theorem WE:cX X (.type "range") (fun xs H Q=> ∃j:Int,xs=[.int j]∧∀q,H q=none→Q (.ref q) (upd H q (.ej 0 j))):=by
 intro pins s σ H xs us Q I r h
 obtain⟨j,rfl,q⟩:=h
 obtain⟨u,rfl,ru⟩:=vals1 r
 obtain⟨t,rfl⟩:=ru
 refine call_range_1 ?_
 exact⟨.ref s.heap.objs.size,_,I.laid (a:=s.heap.objs.size) (o:=.ej 0 j) (fun b o eb=>Heap.get?_push_of_some _ eb) (Nat.le_refl _) ⟨_,_,_,Heap.get?_push_size _ rfl⟩,rfl,q _ I.fresh⟩
def upTo (n:Nat):List V:=(List.range n).map fun(i:Nat)=>V.int (i:Int)
theorem We {acc:Array Value}{n:Nat}(h:ItemsOf (fun i v=> ∃t,v=.int (0+i*1) t) acc n):Vals (upTo n) acc.toList:=by
 obtain⟨h1,h2⟩:=h
 obtain⟨l⟩:=acc
 have h1:l.length=n:=h1
 have h2:∀(j:Nat) (v:Value),l[j]? =some v→∃t,v=.int (j:Int) t:=fun j v e=>by
  obtain⟨t,q⟩:=h2 j v (by simpa using e)
  exact⟨t,by rw[q];congr 1;omega⟩
 have key:∀(l:List Value) (k:Nat),(∀(j:Nat) (v:Value),l[j]? =some v→∃t,v=.int ((k+j:Nat):Int) t)→Vals ((List.range' k l.length).map fun(i:Nat)=>V.int (i:Int)) l:=by
  intro l
  induction l with
  |nil=>intro k _;exact .nil
  |cons v l ih=>
   intro k h
   rw[List.length_cons,List.range'_succ,List.map_cons]
   obtain⟨t,e⟩:=h 0 v rfl
   refine .cons ⟨t,by rw[e];simp⟩ (ih (k+1) fun j w q=> ?_)
   obtain⟨t',e'⟩:=h (j+1) w (by simpa using q)
   exact⟨t',by rw[e'];congr 1;omega⟩
 have:=key l 0 (fun j v e=>by simpa using h2 j v e)
 unfold upTo
 rw[←h1,List.range_eq_range']
 exact this
theorem JG (hc:X.calm=true:=by rfl):cX X (.type "list") (fun xs H Q=> ∃(p:Addr) (j:Int),xs=[.ref p]∧H p=some (.ej 0 j)∧0≤j∧j≤1000∧∀q,H q=none→Q (.ref q) (upd H q (.lst (upTo j.toNat)))):=by
 intro pins s σ H xs us Q I r h
 obtain⟨p,j,rfl,hp,h0,h1,q⟩:=h
 obtain⟨u,rfl,ru⟩:=vals1 r
 cases ru
 obtain⟨t,u,v,e⟩:=(show aU X.prog X.w H s.heap p (.ej 0 j) from I.ah p _ hp)
 refine call_list_range (n:=j.toNat) (I.ok.hd hc) e (small_one (by omega) (by omega) (by omega) (by omega)) (by rw[rangeSize_one];split<;>omega) (by omega) fun h' tk acc c' hk hS sV=> ?_
 have r2:=We sV
 have hlen:(upTo j.toNat).length≤sizeLine:=by unfold upTo;rw[List.length_map,List.length_range,sizeLine_eq];omega
 exact⟨.ref s.heap.objs.size,_,I.laid (a:=s.heap.objs.size) (o:=.lst (upTo j.toNat)) hk (Nat.le_refl _) ⟨hlen,acc.toList,c',r2,by simpa using hS⟩,rfl,q _ I.fresh⟩
theorem U5:aO X (binaryOp .Add) (fun x y H Q=> ∃a b ys,x=.ref a∧y=.ref b∧ai X.K H a []∧ai X.K H b ys∧Q (.ref b) H):=by
 intro pins s σ H x y u v Q I rx ry h
 obtain⟨a,b,ys,rfl,rfl,ha,hb,q⟩:=h
 cases rx
 cases ry
 obtain⟨its,rv,pl,hz⟩:=I.tuple ha
 obtain⟨i6,dn,bZ,bU⟩:=I.tuple hb
 cases rv
 obtain⟨⟨cls,dd,data,sl⟩,ho,fk,n,hd⟩:=id pl
 obtain⟨⟨EN,oW,data2,iR⟩,jd,jf,n2,hd2⟩:=id bZ
 simp only at fk hd jf hd2
 subst fk hd jf hd2
 exact concat_meets ⟨_,ho,rfl⟩ ⟨_,jd,rfl⟩ noFill_tuple_add seq_tuple_add PySem.F.slot_tuple_add PySem.F.entry_tuple_add (PySem.F.args_tuple_add_2 _ _)
   (tuple_addW0 a b #[] i6.toArray n n2 dd oW sl iR rfl) ⟨ho,jd,⟨.ref b,H,I,rfl,q⟩⟩
end
theorem Js {K:PySem.W.Frag}{a:Addr}{xs:List V}{g:TG}{tt:TT}{ti:TC}{ys:List V}{σ:St}{H:Hp}{Q:List V→St→Hp→Prop}(Pv:Nat→List V→St→Hp→Prop) (h0:Pv 0 ys σ H)
  (hl:∀i ys σ H,i≤xs.length→Pv i ys σ H→ai K H a xs)
  (hs:∀i x ys σ H,xs[i]? =some x→Pv i ys σ H→g x σ H fun aN H2=>tt aN H2 fun b H3=>if b=true then ti ys aN H3 (Pv (i+1)) else Pv (i+1) ys aN H3)
  (hd:∀ys σ H,Pv xs.length ys σ H→Q ys σ H):fK g tt ti (ug K a) ys σ H Q:=by
 refine⟨fun i m ys σ H=>m=xs.length - i∧i≤xs.length∧Pv i ys σ H,⟨xs.length,by simp,Nat.zero_le _,h0⟩,?_⟩
 rintro i m ys σ H ⟨rfl,hi,p⟩
 have q:=hl i ys σ H hi p
 by_cases ar:i<xs.length
 ·refine .inr ⟨⟨xs,xs[i],q,by simp[ar]⟩,Pv (i+1),fun bK aj H' p'=> ⟨xs.length - (i+1),by omega,rfl,ar,p'⟩,fun x H' y=> ?_⟩
  obtain⟨e,y⟩:=y
  subst e
  exact hs i x ys σ _ (y xs q) p
 ·have e:i=xs.length:=by omega
  subst e
  exact .inl ⟨⟨xs,q,Nat.le_refl _⟩,hd ys σ H p⟩
theorem Yk {K:PySem.W.Frag}{a:Addr}{xs:List V}{g:TG}{tt:TT}{ti:TC}{ys:List V}{σ:St}{H:Hp}{Q:List V→St→Hp→Prop}(Pv:Nat→List V→St→Hp→Prop) (h0:Pv 0 ys σ H)
  (hl:∀i ys σ H,i≤xs.length→Pv i ys σ H→af K H a xs)
  (hs:∀i x ys σ H,xs[i]? =some x→Pv i ys σ H→g x σ H fun aN H2=>tt aN H2 fun b H3=>if b=true then ti ys aN H3 (Pv (i+1)) else Pv (i+1) ys aN H3)
  (hd:∀ys σ H,Pv xs.length ys σ H→Q ys σ H):fK g tt ti (kr K a) ys σ H Q:=by
 refine⟨fun i m ys σ H=>m=xs.length - i∧i≤xs.length∧Pv i ys σ H,⟨xs.length,by simp,Nat.zero_le _,h0⟩,?_⟩
 rintro i m ys σ H ⟨rfl,hi,p⟩
 have q:=hl i ys σ H hi p
 by_cases ar:i<xs.length
 ·refine .inr ⟨⟨xs,xs[i],q,by simp[ar]⟩,Pv (i+1),fun bK aj H' p'=> ⟨xs.length - (i+1),by omega,rfl,ar,p'⟩,fun x H' y=> ?_⟩
  obtain⟨e,y⟩:=y
  subst e
  exact hs i x ys σ _ (y xs q) p
 ·have e:i=xs.length:=by omega
  subst e
  exact .inl ⟨⟨xs,q,Nat.le_refl _⟩,hd ys σ H p⟩
theorem Jt {lo:Int}{n:Nat}{g:TG}{tt:TT}{ti:TC}{ys:List V}{σ:St}{H:Hp}{Q:List V→St→Hp→Prop}(Pv:Nat→List V→St→Hp→Prop) (h0:Pv 0 ys σ H)
  (hs:∀i ys σ H,i<n→Pv i ys σ H→g (.int (lo+i)) σ H fun aN H2=>tt aN H2 fun b H3=>if b=true then ti ys aN H3 (Pv (i+1)) else Pv (i+1) ys aN H3)
  (hd:∀ys σ H,Pv n ys σ H→Q ys σ H):fK g tt ti (jw lo n) ys σ H Q:=by
 refine⟨fun i m ys σ H=>m=n - i∧i≤n∧Pv i ys σ H,⟨n,by simp,Nat.zero_le _,h0⟩,?_⟩
 rintro i m ys σ H ⟨rfl,hi,p⟩
 by_cases ar:i<n
 ·refine .inr ⟨ar,Pv (i+1),fun bK aj H' p'=> ⟨n - (i+1),by omega,rfl,ar,p'⟩,fun x H' y=> ?_⟩
  obtain⟨e,y⟩:=y
  subst e y
  exact hs i ys σ _ ar p
 ·have e:i=n:=by omega
  subst e
  exact .inl ⟨Nat.le_refl _,hd ys σ H p⟩
theorem pb {X:Cx}{N':List Str}{scope:Scope}{C:Addr}{s:Shared}{H:Hp}{fp:List Addr}(i:Nat) {x:Str}{pos:Pos}(hN:N'.Nodup:=by decide+kernel) (hi:N'[i]? =some x:=by rfl) (hx:(relabel scope X.env).names.lookup x=some .local:=by rfl):
  PG (aJ X N' scope C s H fp) (.Name x pos) (de i):=ZF (X:=aJ X N' scope C s H fp) hN hi (.inl hx) (.inr hx)
def Def (P:Program) (w:World) (K:PySem.W.Frag) (mg:Str→Option Value) (base:Heap) (k:Nat) (x:Str) (ps:List Str) (sp:Sp):Prop:=
 ∃f fd,az P w K mg base aE k f fd ps sp∧mg x=some (.ref f)∧PySem.W.keepIn K (.ref f)=true∧Binds K fd ps []
section
variable {X:Cx}{k:Nat}{x:Str}{ps:List Str}{sp:Sp}{e:Expr}{es:List Expr}{t:TA}{p pos:Pos}
theorem Zi (d:Def X.prog X.w X.K X.mg X.base k x ps sp) (hr:bo k X.A) (ha:PA X (e::es) t) (hg:Gl X x:=by rfl) (gu:(x==("__debug__" :Str))=false:=by decide)
  (he:starEach (e::es) X.env=(false,eval e X.env)::starEach es X.env:=by rfl) (cf:(backTo pos (starEach es X.env)).any (·.1)=false:=by rfl):
  PE X (.Call (.Name x p) (e::es) [] pos) (pO sp [] E0 t):=by
 obtain⟨f,fd,F,hm,hk,hb⟩:=d
 exact YX F hr hg hm hk hb .nil Bm ha gu he cf
end
def bN (K:PySem.W.Frag) (H:Hp) (x:V):Prop:=∃T,cV K H x (.type T)
def whole:V→Bool
 | .int _=>true
 |_=>false
def av:V→Int→Int→Bool
 | .int i,a,b=>decide (a≤i)&&decide (i≤b)
 |_,_,_=>false
def pG:Option HO→Option (List V)
 |some (.tup xs)=>some xs
 |_=>none
def aC (H:Hp):V→Option (List V)
 | .ref a=>pG (H a)
 |_=>none
theorem Zp {H:Hp}{a:Addr} :aC H (.ref a)=pG (H a):=rfl
theorem Zo {H:Hp}{a:Addr}{xs:List V}(h:H a=some (.tup xs)):aC H (.ref a)=some xs:=by rw[Zp,h];rfl
theorem Uk {o:Option HO}{xs:List V}(h:pG o=some xs):o=some (.tup xs):=by
 cases o with
 |none=>cases h
 |some o=>cases o<;>first |(cases h;rfl) |cases h
theorem Zx {H:Hp}{x:V}{xs:List V}(h:aC H x=some xs):∃a,x=.ref a∧H a=some (.tup xs):=by
 cases x with
 |ref a=>exact⟨a,rfl,Uk h⟩
 |_=>cases h
theorem ae.aC {H H':Hp}(s:ae H H') {x:V}{xs:List V}(h:L2.aC H x=some xs):L2.aC H' x=some xs:=by
 obtain⟨a,rfl,q⟩:=Zx h
 exact Zo (s _ _ q)
theorem ae.iY {K:PySem.W.Frag}{H H':Hp}(s:ae H H') {x:V}(h:bN K H x):bN K H' x:=by
 obtain⟨T,t⟩:=h
 cases t with
 |aa=>exact⟨_,.aa⟩
 |bl y=>exact⟨_,.bl y⟩
 |int i=>exact⟨_,.int i⟩
 |str y=>exact⟨_,.str y⟩
 |fq y=>exact⟨_,.fq y⟩
 |lst e=>exact⟨_,.lst (s _ _ e)⟩
 |bC e=>exact⟨_,.bC (s _ _ e)⟩
 |tup e=>exact⟨_,.tup (s _ _ e)⟩
 |dK e=>exact⟨_,.dK (s _ _ e)⟩
 |dT e=>exact⟨_,.dT (s _ _ e)⟩
def rL:V→Bool
 | .int _=>true
 | .bl _=>true
 |_=>false
def wu:V→Bool
 | .bl _=>true
 |_=>false
theorem Hi {K:PySem.W.Frag}{H:Hp}{x:V}{T:String}(t:cV K H x (.type T)):PySem.W.kitOne K (.type T) (.type "int")=some (rL x):=by cases t<;>rfl
theorem GA {K:PySem.W.Frag}{H:Hp}{x:V}{T:String}(t:cV K H x (.type T)):PySem.W.kitOne K (.type T) (.type "bool")=some (wu x):=by cases t<;>rfl
theorem Uz {K:PySem.W.Frag}{H:Hp}{x:V}{T:String}(t:cV K H x (.type T)):PySem.W.kitOne K (.type T) (.type "tuple")=some (aC H x).isSome:=by
 cases t with
 |tup e=>rw[Zo e];rfl
 |lst e=>rw[Zp,e];rfl
 |bC e=>rw[Zp,e];rfl
 |dK e=>rw[Zp,e];rfl
 |dT e=>rw[Zp,e];rfl
 |_=>rfl
theorem Wu (x:V):whole x=(rL x&& !wu x):=by cases x<;>rfl
def zT (i j k:Nat) (ta:TA):TS:=fun D σ H=>ta σ H fun vs H1=> ∃v w z,vs=[v,w,z]∧D.nx (((σ.set k (some z)).set j (some w)).set i (some v)) H1
theorem Jf {X:Cx}{pos:Pos}{i j k:Nat}{x y z:Str}{a b c:Expr}{ta:TA}{px py pz pt:Pos}{kt k2 iV} (hc:X.calm=true) (hN:X.N.Nodup) (hi:X.N[i]? =some x) (hj:X.N[j]? =some y) (hk:X.N[k]? =some z)
  (hx:X.env.scope.names.lookup x=some .local) (hy:X.env.scope.names.lookup y=some .local) (hz:X.env.scope.names.lookup z=some .local) (ha:PA X [a,b,c] ta)
  (hw:swappedStores [.Tuple [.Name x px,.Name y py,.Name z pz] kt pt] (.Tuple [a,b,c] k2 iV) X.env=pure (some [x,y,z]):=by rfl)
  (hs:swapsWithSole [.Tuple [.Name x px,.Name y py,.Name z pz] kt pt] (.Tuple [a,b,c] k2 iV) pos.line X.env=pure false:=by rfl):
  PS X (.Assign [.Tuple [.Name x px,.Name y py,.Name z pz] kt pt] (.Tuple [a,b,c] k2 iV) pos) (zT i j k ta):=by
 intro pins s σ H D I h
 rw[exec_Assign_arm]
 refine wpAny_bind (wpAny_standAt ?_)
 rw[hs]
 refine wpAny_bind (wpAny_pure ?_)
 rw[if_neg (by decide)]
 refine wpAny_bind (Tuple_ (aq (ha _ pins s σ H _ I h) fun us s1 ⟨vs,H1,I1,r1,q1⟩=> ?_))
 obtain⟨v,w,t,e1,q1⟩:=q1
 subst e1
 obtain⟨u1,u2,u3,rfl,rv,fc,rt⟩:∃u1 u2 u3,us=[u1,u2,u3]∧RelV v u1∧RelV w u2∧RelV t u3:=by
  cases r1 with
  |cons p q=>
   cases q with
   |cons p' q'=>
    cases q' with
    |cons Bn Bd=>
     cases Bd
     exact⟨_,_,_,rfl,p,p',Bn⟩
 refine wpAny_newObj_type ?_ (by show 3≤sizeLine;decide)
 have I2:Inv X pins σ H1 {s1 with heap:=s1.heap.push {cls:=.type "tuple",data:=.seq [u1,u2,u3].toArray} } :=I1.kept (t':=s1.toks) fun b o e=>Heap.get?_push_of_some _ e
 rw[hw]
 refine wpAny_bind (wpAny_pure ?_)
 show wpAny (model X.prog X.w) X.A (do rule "assign.swapped-stores";let items ←unpackItems (.ref s1.heap.objs.size) 3 none;assignInOrder [fun v=>bindName X.env z v,fun v=>bindName X.env y v,fun v=>bindName X.env x v] items.reverse;pure Flow.next) _ _ _
 refine wpAny_bind (wpAny_rule (wpAny_bind (unpackItems_tuple (items:= #[u1,u2,u3]) (I.ok.hd hc) (IsTup.new s1.heap _) fun h' jV=> ?_)))
 have I3:=I2.kept (h':=h') (t':=s1.toks) fun b o e=>jV b o (Nat.ne_of_lt (Heap.lt_size e)) e
 show wpAny _ _ (assignInOrder [fun v=>bindName X.env z v,fun v=>bindName X.env y v,fun v=>bindName X.env x v] [u3,u2,u1] >>=fun _=>pure Flow.next) _ _ _
 refine wpAny_bind (assignInOrder_cons (wpAny_bindName (ZV I3 hN hk (.inl hz) rt (fun s2 I4=> ?_) (.inr hz))))
 refine assignInOrder_cons (wpAny_bindName (ZV I4 hN hj (.inl hy) fc (fun s3 I5=> ?_) (.inr hy)))
 refine assignInOrder_cons (wpAny_bindName (ZV I5 hN hi (.inl hx) rv (fun s4 I6=>assignInOrder_nil (wpAny_pure ?_)) (.inr hx)))
 exact⟨_,H1,I6,q1⟩
def ak (p:Addr) (H H':Hp):Prop:=∀b o,H b=some o→b≠p→H' b=some o
theorem ak.trans {p:Addr}{H H1 H2:Hp}(a:ak p H H1) (b:ak p H1 H2):ak p H H2:=fun c o h n=>b c o (a c o h n) n
theorem ae.x {p:Addr}{H H1:Hp}(a:ae H H1):ak p H H1:=fun c o h _=>a c o h
theorem ak.upd {p:Addr}{H:Hp}{o:HO} :ak p H (L2.upd H p o):=fun b u h n=>by rw[Ze n];exact h
theorem U4 {X:Cx}(hu:X.A.units<cLine):aO X (compareOp .Eq) (fun x y H Q=> ∃(a b:Addr) (xs:List V),x=.ref a∧y=.ref b∧af X.K H a xs∧af X.K H b []∧Q (.bl xs.isEmpty) H):=by
 intro pins s σ H x y u v Q I rx ry h
 obtain⟨a,b,xs,rfl,rfl,ha,hb,q⟩:=h
 cases rx
 cases ry
 obtain⟨its,rv,pl,hz⟩:=I.list ha
 obtain⟨i6,dn,bZ,bU⟩:=I.list hb
 cases dn
 cases rv with
 |nil=>exact SeqAt.eq_listAt (e:=fun _=>true) pl.isList bZ.isList rfl hu (fun j h1 h2=>absurd h2 (by simp)) ⟨.bl true,H,I,rfl,q⟩
 |cons r t=>exact SeqAt.eq_list_lengthsAt pl.isList bZ.isList (by simp) hu ⟨.bl false,H,I,rfl,q⟩
theorem U3 {X:Cx}(hu:X.A.units<cLine):aO X (compareOp .NotEq) (fun x y H Q=> ∃(a b:Addr) (xs:List V),x=.ref a∧y=.ref b∧af X.K H a xs∧af X.K H b []∧Q (.bl (!xs.isEmpty)) H):=by
 intro pins s σ H x y u v Q I rx ry h
 obtain⟨a,b,xs,rfl,rfl,ha,hb,q⟩:=h
 cases rx
 cases ry
 obtain⟨its,rv,pl,hz⟩:=I.list ha
 obtain⟨i6,dn,bZ,bU⟩:=I.list hb
 cases dn
 cases rv with
 |nil=>exact SeqAt.RcNeAt.lists (e:=fun _=>true) pl.isList bZ.isList rfl hu (fun j h1 h2=>absurd h2 (by simp)) _ _ _ _ ⟨.bl false,H,I,rfl,q⟩
 |cons r t=>exact SeqAt.RcNeAt.lists_lengths pl.isList bZ.isList (by simp) hu _ _ _ _ ⟨.bl true,H,I,rfl,q⟩
section
variable {prog:Program}{w:World}{A:Around}{E:Value→Shared→Prop}{s:Shared}
theorem WT {j t:Addr}{i:Nat}{its:Array Value}{x:Value}{Q:Value→Shared→Prop}(h1:s.heap.IsTupleIter j t i) (h2:s.heap.IsTuple t its) (hx:its[i]? =some x)
  (k:∀h',h'.IsTupleIter j t (i+1)→Heap.SameBut j s.heap h'→Q x {s with heap:=h'}):wpAny (model prog w) A (Builtin.SmallTypes.nextOf (.ref j)) Q E s:=by
 obtain⟨o,eo,co,dO⟩:=id h1
 obtain⟨ot,et,_,nt,dt⟩:=h2
 unfold Builtin.SmallTypes.nextOf
 refine wpAny_bind (wpAny_callSpecial?_slot (name:=Str.ofString "__next__") h1.typeIs F.slot_tuple_iterator_next (wpAny_call_entry F.slot_tuple_iterator_next h1.typeIs F.entry_tuple_iterator_next ?_ (F.args_tuple_iterator_next_1 _)))
 show wpAny _ _ (field (.ref j) 0 >>=_) _ _ s
 refine wpAny_bind (wpAny_field eo dO (x:=.ref t) rfl ?_)
 show wpAny _ _ (if (Value.ref t==Value.none)=true then _ else _) _ _ s
 rw[if_neg (show ¬((Value.ref t==Value.none)=true) from Bool.false_ne_true)]
 show wpAny _ _ (field (.ref j) 1 >>=_) _ _ s
 refine wpAny_bind (wpAny_field eo dO (x:=.int i 0) rfl ?_)
 show wpAny _ _ (seqItems? (.ref t) >>=_) _ _ s
 refine wpAny_bind (wpAny_seqItems et dt ?_)
 simp only[Int.toNat_natCast,hx]
 refine wpAny_bind (wpAny_setField eo dO (by simp) (wpAny_pure ⟨x,rfl,wpAny_pure (k _ ⟨_,Heap.get?_update_self _ eo (Obj.isFreed_of_fields (Obj.data_mapFields dO _)),(Obj.cls_mapFields ..).trans co,?_⟩ (Heap.SameBut.update ..))⟩))
 rw[Obj.data_mapFields dO]
 simp[rawInt]
theorem Uu {j t:Addr}{i:Nat}{its:Array Value}{Q:Value→Shared→Prop}(hh:A.handled=none) (h1:s.heap.IsTupleIter j t i) (h2:s.heap.IsTuple t its) (hx:its[i]? =none)
  (k:∀h' e,Heap.ExtBut j s.heap h'→(∃o,h'.get? e=some o∧o.cls=.type "StopIteration")→E (.ref e) {s with heap:=h'}):wpAny (model prog w) A (Builtin.SmallTypes.nextOf (.ref j)) Q E s:=by
 obtain⟨o,eo,co,dO⟩:=id h1
 obtain⟨ot,et,_,nt,dt⟩:=h2
 unfold Builtin.SmallTypes.nextOf
 refine wpAny_bind (wpAny_callSpecial?_slot (name:=Str.ofString "__next__") h1.typeIs F.slot_tuple_iterator_next (wpAny_call_entry F.slot_tuple_iterator_next h1.typeIs F.entry_tuple_iterator_next ?_ (F.args_tuple_iterator_next_1 _)))
 show wpAny _ _ (field (.ref j) 0 >>=_) _ _ s
 refine wpAny_bind (wpAny_field eo dO (x:=.ref t) rfl ?_)
 show wpAny _ _ (if (Value.ref t==Value.none)=true then _ else _) _ _ s
 rw[if_neg (show ¬((Value.ref t==Value.none)=true) from Bool.false_ne_true)]
 show wpAny _ _ (field (.ref j) 1 >>=_) _ _ s
 refine wpAny_bind (wpAny_field eo dO (x:=.int i 0) rfl ?_)
 show wpAny _ _ (seqItems? (.ref t) >>=_) _ _ s
 refine wpAny_bind (wpAny_seqItems et dt ?_)
 simp only[Int.toNat_natCast,hx]
 refine wpAny_bind (wpAny_rule (wpAny_bind (wpAny_setField eo dO (by simp) ?_)))
 show wpAny _ _ (newExc (.type "StopIteration") [] >>=_) _ _ _
 refine wpAny_bind ?_
 simp only[newExc,newTuple]
 refine wpAny_bind (wpAny_newObj_type ?_ (by size_fits))
 refine wpAny_bind (m:=firstArgMember _ _) (wpAny_of_eq (a:=Value.none) (by first |rfl |(simp only[firstArgMember];rfl)) (wpAny_newObj_type ?_ (by size_fits)))
 simp only[raiseNew]
 refine wpAny_bind (wpAny_handled ?_)
 first |rw[show A.in1.handled=none from hh] |rw[hh]
 exact wpAny_bind (wpAny_pure (wpAny_throw (k _ _ (((Heap.SameBut.update ..).extBut.push _).push _) ⟨_,Heap.get?_push_size _ rfl,rfl⟩)))
end
theorem yj {prog:Program}{w:World}{A:Around}(hh:A.handled=none) (j t:Addr) (bB:t≠j) (its:Array Value):
  Draws prog w A j [j,t] its.size (fun i v=>its[i]? =some v) (fun i h=>h.IsTupleIter j t i∧h.IsTuple t its) where
 live:=fun _ _ st=>let ⟨o,ho,_⟩:=st.1;⟨o,ho⟩
 frame:=fun _ _ _ st hk=> ⟨st.1.at fun o e=>hk j (by simp) o e,st.2.at fun o e=>hk t (by simp) o e⟩
 item:=fun i s Q E hi st hQ=>WT st.1 st.2 (x:=its[i]) (by simp[hi]) fun h' a b=>hQ _ h' s.toks (by simp[hi]) ⟨a,st.2.extBut b.extBut bB⟩ b
 done:=fun s Q E st hE=>Uu hh st.1 st.2 (by simp) hE
section
variable {prog:Program}{w:World}{A:Around}{E:Value→Shared→Prop}{s:Shared}
theorem UD (l:Addr) (its:Array Value) (n:Nat) (bD:Option Addr) (sl:Array (Option Value)):
  Meets (Builtin.«enumerate.__new__» ⟨[.type "enumerate",.ref l],[]⟩) (fun _ R s=>s.heap.get? l=some {cls:=.type "tuple",dict:=bD,data:=.seq its n,slots:=sl}∧
   R (.ok (.ret (.ref (s.heap.push {cls:=.type "tuple_iterator",data:=.fields #[.ref l,.int 0 0]}).objs.size)))
    {s with heap:=(s.heap.push {cls:=.type "tuple_iterator",data:=.fields #[.ref l,.int 0 0]}).push {cls:=.type "enumerate",data:=.fields #[.none,.bool false,.ref s.heap.objs.size,rawInt 0,.none,.none]} }):=
 .of_wp fun prog w A R s h=>by
  obtain⟨hp,g,d,tk,os⟩:=s
  obtain⟨hl,h⟩:=h
  have Cw:=sub_enumerate
  have hL:Heap.IsTuple (Shared.heap ⟨hp,g,d,tk,os⟩) l its:=⟨_,hl,rfl,n,rfl⟩
  wp_walk using AutoSeq1.wpAny_loadPart' hl
  refine wpAny_stack_any fun st=>wpAny_pure ?_
  split
  ·rename_i c _ _ _ _ _
   cases (c==Value.type "enumerate")<;> (wp_walk using AutoSeq1.wpAny_loadPart' hl,wpAny_pyIter_tuple hL;exact⟨_,rfl,h⟩)
  ·wp_walk using AutoSeq1.wpAny_loadPart' hl,wpAny_pyIter_tuple hL
   exact⟨_,rfl,h⟩
theorem W3 {l:Addr}{its:Array Value}{Q:Value→Shared→Prop}(hL:s.heap.IsTuple l its)
  (h:∀h',IsEnum h' (s.heap.objs.size+1) s.heap.objs.size 0 .none→h'.IsTupleIter s.heap.objs.size l 0→(∀b o,s.heap.get? b=some o→h'.get? b=some o)→Q (.ref (s.heap.objs.size+1)) {s with heap:=h'}):
  wpAny (model prog w) A (call (.type "enumerate") [.ref l]) Q E s:=by
 obtain⟨⟨c,bD,dt,sl⟩,hl,hc,n,hd⟩:=hL
 replace hc:c=.type "tuple" :=hc
 replace hd:dt=.seq its n:=hd
 subst hc hd
 refine callType_new F.called_enumerate (by decide) (F.typeCall_enumerate_1 _) (F.newCall_enumerate_1 _) (fun obj=>F.args_object_init_2 obj _) F.entry_enumerate_new (UD l its n bD sl) ⟨hl,?_⟩
 have hz:(s.heap.push {cls:=.type "tuple_iterator",data:=.fields #[.ref l,.int 0 0]}).objs.size=s.heap.objs.size+1:=Heap.size_push ..
 show _∧_
 rw[hz]
 have he:IsEnum ((s.heap.push {cls:=.type "tuple_iterator",data:=.fields #[.ref l,.int 0 0]}).push {cls:=.type "enumerate",data:=.fields #[.none,.bool false,.ref s.heap.objs.size,rawInt 0,.none,.none]}) (s.heap.objs.size+1) s.heap.objs.size 0 .none:=by
  have q:=Heap.get?_push_size (s.heap.push {cls:=.type "tuple_iterator",data:=.fields #[.ref l,.int 0 0]}) (o:= {cls:=.type "enumerate",data:=.fields #[.none,.bool false,.ref s.heap.objs.size,rawInt 0,.none,.none]}) rfl
  rw[hz]at q
  exact q
 exact⟨⟨_,he,rfl⟩,h _ he ⟨_,Heap.get?_push_of_some _ (Heap.get?_push_size _ rfl),rfl,rfl⟩ fun b o x=>Heap.get?_push_of_some _ (Heap.get?_push_of_some _ x)⟩
end
def uh (K:PySem.W.Frag) (t:Addr):It:=
 ⟨fun i H=> ∃xs x,ai K H t xs∧xs[i]? =some x,fun i H x H'=> ∃(T:Addr) (y:V),x=.ref T∧H T=none∧H'=upd H T (.par [.int (i:Int),y])∧∀xs,ai K H t xs→xs[i]? =some y,fun i H=> ∃xs,ai K H t xs∧xs.length=i⟩
theorem Uj {P:Program}{w:World}{K:PySem.W.Frag}{elts:List Expr}{kk:Nat}{pos:Pos}(t e j:Addr) (oO:e≠j) (wH:t≠e) (wG:t≠j):
  Turn P w K (.Tuple elts kk pos) (uh K t) [e,j] e (fun i h=> (∃old,IsEnum h e j i old)∧h.IsTupleIter j t i) where
 mem:=by simp
 obj:=fun i h st b hb=>by
  obtain⟨⟨old,he⟩,o,ho,hc,hd⟩:=st
  rcases List.mem_cons.mp hb with rfl |hb
  ·exact⟨_,he,fun v z=>by cases z⟩
  ·rw[List.mem_singleton.mp hb]
   exact⟨o,ho,fun v z=>by rw[hd]at z;cases z⟩
 keep:=fun i h h' st k=> ⟨let ⟨old,he⟩:=st.1;⟨old,k e (by simp) _ he⟩,st.2.at fun o q=>k j (by simp) o q⟩
 item:=by
  intro X hP hw hK hc i pins s σ H E I hf st hg
  subst hP hw hK
  obtain⟨xs,x,hq,hx⟩:=hg
  obtain⟨its,rv,p,hz⟩:=I.tuple hq
  obtain⟨u,hu,ru⟩:=rv.get hx
  have hl:=rv.length
  have lT:i<its.toArray.size:=by
   have:=(List.getElem?_eq_some_iff.mp hu).1
   simpa using this
  have W:=WalksT.enumerateD (prog:=X.prog) (w:=X.w) (A:=X.A) (yj (A:=X.A.in1) (show X.A.in1.handled=none from I.ok.hd hc) j t wG its.toArray) e oO (by simp[oO,wH.symm]) (by simp)
  have hT:s.heap.IsTuple t its.toArray:=p
  refine W.item i s _ _ lT ⟨st.1,st.2,hT⟩ fun T vals h' tk hP eH l9 hV hk=> ⟨_,rfl,W.go elts kk pos i T _ _ _ hV fun dM dC ip=> ?_⟩
  obtain⟨pH,x2,gq,rfl⟩:=hP
  have lH:its[i]? =some x2:=by simpa using gq
  rw[hu]at lH
  cases lH
  have iw:H T=none:=I.ah.fresh eH
  have both:∀b o,b∉[e,j]→s.heap.get? b=some o→dM.get? b=some o:=fun b o hb q=>ip b o hb (hk b o hb q)
  have kd:T∉[e,j]:=W.apart _ _ _ hV
  have ma:dM.IsTuple T #[.int i pH,u]:=l9.at fun o q=>ip T o kd q
  have neT:∀b o,s.heap.get? b=some o→b≠T:=fun b o q=>Nat.ne_of_lt (Nat.lt_of_lt_of_le (Heap.lt_size q) eH)
  have cR:∀b o,H b=some o→b≠T:=fun b o q=>Zf q iw
  have bR:∀b o,H b=some o→b∉[e,j]:=fun b o q z=>by
   have:=(hf b z).1
   rw[this]at q;cases q
  refine⟨.ref T,upd H T (.par [.int (i:Int),x]),?_,rfl,⟨T,x,rfl,iw,rfl,fun ys hy=>by rw[I.nu hy hq];exact hx⟩,⟨dC.1,dC.2.1⟩,fun b hb=> ?_⟩
  ·refine(show Inv X pins σ (upd H T (.par [.int (i:Int),x])) {s with heap:=dM,toks:=tk} from ?_)
   refine I.call (g':=s.gens) (d':=s.drawn) (t':=tk) (h':=dM) (ch:=[e,j]) ⟨fun b o q _ _ hx=>both b o hx q,fun b o q _ _ hx=> ⟨o.slots,both b o hx q⟩,fun b o q n hx=>by rw[Ze (neT b o q)];exact n,fun b o q hx=> ⟨o,both b o hx q⟩,
    fun b ys q=>by rw[Ze (cR b _ q)];exact q,fun b o u q=>by rw[Ze (cR b _ q)];exact q,fun b ps q=> ⟨#[],by rw[Ze (cR b _ q),q];simp⟩⟩ (fun b v q=> ?_) I.bare fun b hb=> ?_
   ·by_cases hb:b=T
    ·subst hb
     rw[Zc]at q
     cases q
     exact⟨by show 2≤sizeLine;decide,[.int i pH,u],.cons ⟨pH,rfl⟩ (.cons ru .nil),ma⟩
    ·rw[Ze hb]at q
     refine(I.ah b v q).bj (fun c z aQ q'=>both c z ?_ q') (fun c q'=>by rw[Ze (cR c _ q')];exact q') fun c ys q'=>by rw[Ze (cR c _ q')];exact q'
     rcases aQ with z' |z'
     ·rw[z'];exact bR b v q
     ·exact bR c _ z'
   ·obtain⟨f0,f1,f2,f3,f4,f5⟩:=hf b hb
    exact⟨f3,f1,f4,f5⟩
  ·rw[Ze (fun z=>kd (by rw[←z];exact hb))]
   exact(hf b hb).1
 done:=by
  intro X hP hw hK hc i pins s σ H E I hf st hg
  subst hP hw hK
  obtain⟨xs,hq,hx⟩:=hg
  obtain⟨its,rv,p,hz⟩:=I.tuple hq
  have hl:=rv.length
  have W:=WalksT.enumerateD (prog:=X.prog) (w:=X.w) (A:=X.A) (yj (A:=X.A.in1) (show X.A.in1.handled=none from I.ok.hd hc) j t wG its.toArray) e oO (by simp[oO,wH.symm]) (by simp)
  have hn:i=its.toArray.size:=by rw[List.size_toArray];omega
  have hT:s.heap.IsTuple t its.toArray:=p
  rw[hn]at st
  refine W.done s _ _ ⟨st.1,st.2,hT⟩ fun h' tk hk=> ⟨rfl,?_⟩
  have bR:∀b o,H b=some o→b∉[e,j]:=fun b o q z=>by
   have:=(hf b z).1
   rw[this]at q;cases q
  refine I.call (g':=s.gens) (d':=s.drawn) (t':=tk) (h':=h') (ch:=[e,j]) ⟨fun b o q _ _ hx=>hk b o hx q,fun b o q _ _ hx=> ⟨o.slots,hk b o hx q⟩,fun b o q n hx=>n,fun b o q hx=> ⟨o,hk b o hx q⟩,fun b ys q=>q,fun b o u q=>q,fun b ps q=> ⟨#[],by rw[q];simp⟩⟩ (fun b v q=> ?_) I.bare fun b hb=> ?_
  ·refine(I.ah b v q).bj (fun c z aQ q'=>hk c z ?_ q') (fun _ q'=>q') fun _ _ q'=>q'
   rcases aQ with z' |z'
   ·rw[z'];exact bR b v q
   ·exact bR c _ z'
  ·obtain⟨f0,f1,f2,f3,f4,f5⟩:=hf b hb
   exact⟨f3,f1,f4,f5⟩
 self:=fun A i s Q E st h=>let ⟨old,he⟩:=st.1;wpAny_pyIter_enum he h
section
variable {X:Cx}{elts:List Expr}{kk:Nat}{tp:Pos}
def Ci (K:PySem.W.Frag) (ta:TA):TI:=fun σ H R=>ta σ H fun vs H1=> ∃t,vs=[.ref t]∧(∃xs,ai K H1 t xs)∧R (uh K t) H1
theorem GY {a:Expr}{ta:TA}{p pos:Pos}(hg:Gl X "enumerate") (hm:X.mg "enumerate" =none) (ha:PA X [a] ta) (hs:starEach [a] X.env=[(false,eval a X.env)]:=by rfl):PI X (.Tuple elts kk tp) (.Call (.Name "enumerate" p) [a] [] pos) (Ci X.K ta):=by
 intro pins s σ H R I h
 refine Call_ (YO I hg hm boot_enumerate (PyProof.Rows.callWith_type1 (aq (ha pos pins s σ H _ I h) fun us s1 ⟨vs,H1,I1,r1,q1⟩=> ?_) hs rfl))
 obtain⟨t,e,⟨xs,hq⟩,q⟩:=q1
 subst e
 obtain⟨u,rfl,ru⟩:=vals1 r1
 cases ru
 obtain⟨its,rv,pl,hz⟩:=I1.tuple hq
 have hT:s1.heap.IsTuple t its.toArray:=pl
 have ht:t<s1.heap.objs.size:=by obtain⟨o,ho,_⟩:=hT;exact Heap.lt_size ho
 refine W3 hT fun h' he hj hk=>wpAny_pyIter_enum he ?_
 have I2:Inv X pins σ H1 {s1 with heap:=h'} :=I1.kept (t':=s1.toks) hk
 refine⟨s1.heap.objs.size+1,[s1.heap.objs.size+1,s1.heap.objs.size],_,_,H1,rfl,I2,Uj t _ _ (Nat.succ_ne_self _) (Nat.ne_of_lt (Nat.lt_succ_of_lt ht)) (Nat.ne_of_lt ht),⟨⟨_,he⟩,hj⟩,fun b hb=> ?_,q⟩
 have iu:s1.heap.objs.size≤b:=by
  rcases List.mem_cons.mp hb with z |z
  ·rw[z];exact Nat.le_succ _
  ·rw[List.mem_singleton.mp z];exact Nat.le_refl _
 exact I1.jj iu (I1.ah.fresh iu)
end
theorem Uw {K:PySem.W.Frag}{a:Addr}{xs:List V}{g:TG}{tt:TT}{ti:TC}{ys:List V}{σ:St}{H:Hp}{Q:List V→St→Hp→Prop}(Pv:Nat→List V→St→Hp→Prop) (h0:Pv 0 ys σ H)
  (hl:∀i ys σ H,i≤xs.length→Pv i ys σ H→ai K H a xs)
  (hs:∀i x T ys σ H,xs[i]? =some x→H T=none→Pv i ys σ H→g (.ref T) σ (upd H T (.par [.int (i:Int),x])) fun aN H2=>tt aN H2 fun b H3=>if b=true then ti ys aN H3 (Pv (i+1)) else Pv (i+1) ys aN H3)
  (hd:∀ys σ H,Pv xs.length ys σ H→Q ys σ H):fK g tt ti (uh K a) ys σ H Q:=by
 refine⟨fun i m ys σ H=>m=xs.length - i∧i≤xs.length∧Pv i ys σ H,⟨xs.length,by simp,Nat.zero_le _,h0⟩,?_⟩
 rintro i m ys σ H ⟨rfl,hi,p⟩
 have q:=hl i ys σ H hi p
 by_cases ar:i<xs.length
 ·refine .inr ⟨⟨xs,xs[i],q,by simp[ar]⟩,Pv (i+1),fun bK aj H' p'=> ⟨xs.length - (i+1),by omega,rfl,ar,p'⟩,fun x H' y=> ?_⟩
  obtain⟨T,z,e1,e2,e3,e4⟩:=y
  subst e1 e3
  exact hs i z T ys σ H (e4 xs q) e2 p
 ·have e:i=xs.length:=by omega
  subst e
  exact .inl ⟨⟨xs,q,rfl⟩,hd ys σ H p⟩
structure Fl (P:Program) (w:World) (outer:List Env) (H:Hp) (s:Shared) (e C:Addr) (H':Hp) (s':Shared):Prop where
 os:s'.os=s.os
 bare:AllBare s'.gens
 un:Un (aG outer) [] H H' s.heap s'.heap
 ah:bg P w H' s'.heap
 tw:∃B a0,Heap.FlyingW B outer e (.ref C) a0 s'.heap∧(∀b o,s.heap.get? b=some o→b∉aG outer→∃u,B.get? b=some u)∧∀b o,H' b=some o→∃u,B.get? b=some u
def bq (P:Program) (w:World):fI:=fun outer H s E ev s'=> ∃e C H',ev=.ref e∧Fl P w outer H s e C H' s'∧E (.ref e) (some C) H'
section
variable {P:Program}{w:World}{base:Heap}{env:Env}{outer:List Env}{s0 s1 s2:Shared}{H0 H1 H2:Hp}{e C L:Addr}{A:Around}
theorem YF {B h1 h2:Heap}{H:Hp}(x:bg P w H h1) (bf:∀b o,H b=some o→∃u,B.get? b=some u) (k1:B.StaysIn h1) (k2:B.StaysIn h2):bg P w H h2:=fun a o ha=>
  (x a o ha).bj (fun b u hb hq=>by
    have:∃u',B.get? b=some u':=by
      rcases hb with rfl |hb
      · exact bf _ _ ha
      · exact bf _ _ hb
    obtain⟨u',hu⟩:=this
    have e1:=k1 b u' hu
    rw[hq]at e1
    cases e1
    exact k2 b _ hu) (fun _ q=>q) fun _ _ q=>q
theorem Jj {B h':Heap}(u0:Un (aG outer) [] H0 H1 s0.heap s1.heap) (u1:Un (aG (env::outer)) [] H1 H2 s1.heap s2.heap) (hf:env.frame=some L) (ab:s0.heap.objs.size≤L) (fu:s0.heap.FunFrames base outer) (fz:∀b∈aG outer,H0 b=none)
  (bf:∀b o,s1.heap.get? b=some o→b∉aG (env::outer)→∃u,B.get? b=some u) (k1:B.StaysIn s2.heap) (k2:B.StaysIn h') (up:s2.heap.UpToSlots h'):Un (aG outer) [] H0 H2 s0.heap h':=by
 have jZ:∀b,b∈aG (env::outer)↔b=L∨b∈aG outer:=fun b=>by
  show b∈(env::outer).filterMap (·.frame)↔_
  rw[List.filterMap_cons_some (f:=fun(x:Env)=>x.frame) (a:=env) (b:=L) hf,List.mem_cons]
  exact Iff.rfl
 have out:∀b o,s0.heap.get? b=some o→b∉aG outer→b∉aG (env::outer):=fun b o hb hn hm=>by
  rcases (jZ b).mp hm with q |q
  ·rw[q]at hb
   exact absurd (Nat.lt_of_lt_of_le (Heap.lt_size hb) ab) (Nat.lt_irrefl _)
  ·exact hn q
 have rH:∀b o u,s2.heap.get? b=some o→B.get? b=some u→h'.get? b=some o:=fun b o u hb hu=>by
  have e1:=k1 b u hu
  rw[hb]at e1
  cases e1
  exact k2 b _ hu
 have jL:∀b o,s0.heap.get? b=some o→b∈aG outer→∃sl,h'.get? b=some {o with slots:=sl} :=fun b o hb hm=>by
  obtain⟨_,o',cj,nf⟩:=fu.mem hm
  rw[hb]at cj
  cases cj
  obtain⟨Av,e1⟩:=u0.slot b o hb (fz b hm) hm (by simp)
  have n1:=u0.free b o hb (fz b hm) (by simp)
  obtain⟨iR,e2⟩:=u1.slot b _ e1 n1 ((jZ b).mpr (.inr hm)) (by simp)
  obtain⟨Au,e3⟩:=up b _ e2 nf
  exact⟨Au,e3⟩
 refine⟨fun b o hb hn wQ _=> ?_,fun b o hb hn hm _=>jL b o hb hm,fun b o hb hn hx=> ?_,fun b o hb _=> ?_,fun b xs hb=>u1.dX b xs (u0.dX b xs hb),fun b o u hb=>u1.dN b o u (u0.dN b o u hb),fun b ps hb=> ?_⟩
 ·have e1:=u0.keep b o hb hn wQ (by simp)
  have n1:=u0.free b o hb hn (by simp)
  have gw:=out b o hb wQ
  have e2:=u1.keep b o e1 n1 gw (by simp)
  obtain⟨u,hu⟩:=bf b o e1 gw
  exact rH b o u e2 hu
 ·obtain⟨o1,e1⟩:=u0.there b o hb (by simp)
  have n1:=u0.free b o hb hn (by simp)
  exact u1.free b o1 e1 n1 (by simp)
 ·by_cases hm:b∈aG outer
  ·obtain⟨sl,q⟩:=jL b o hb hm
   exact⟨_,q⟩
  ·obtain⟨o1,e1⟩:=u0.there b o hb (by simp)
   obtain⟨u,hu⟩:=bf b o1 e1 (out b o hb hm)
   exact⟨u,k2 b u hu⟩
 ·obtain⟨m1,q1⟩:=u0.dB b ps hb
  obtain⟨m2,q2⟩:=u1.dB b _ q1
  exact⟨m1++m2,by rw[q2,Array.append_assoc]⟩
end
theorem Bl {P:Program}{w:World}{K:PySem.W.Frag}{mg:Str→Option Value}{base:Heap}{N:List Str}{qual:Str}{scope:Scope}{f:Addr}{cd:Value}{A:Around}{outer:List Env}{s:Shared}{H:Hp}{E:XK} :
  Passes (bq P w) (aV (bq P w) P w K mg base N qual scope f cd A outer s H E) E:=by
 intro pins σ H1 s1 ev s2 I h
 obtain⟨e,C,H',rfl,F,hE⟩:=h
 obtain⟨B,a0,fl,bf,dR⟩:=F.tw
 refine wpAny_leaves_onW (L:=s.heap.objs.size) I.ok.frames rfl fl fun h' jk up=> ?_
 refine⟨e,C,H',rfl,⟨F.os.trans I.os,F.bare,Jj (base:=base) (L:=s.heap.objs.size) I.base F.un rfl (Nat.le_refl _) I.ok.cE I.ok.eU bf fl.1 jk.1 up,YF F.ah dR fl.1 jk.1,B,a0,jk,fun b o hb hn=> ?_,dR⟩,hE⟩
 obtain⟨o1,e1⟩:=I.base.there b o hb (by simp[aV])
 refine bf b o1 e1 fun hm=> ?_
 have cU:b∈(envOfC qual scope s.heap.objs.size f cd::outer).filterMap (·.frame):=hm
 rw[List.filterMap_cons_some (f:=fun(x:Env)=>x.frame) (a:=envOfC qual scope s.heap.objs.size f cd) (b:=s.heap.objs.size) rfl]at cU
 rcases List.mem_cons.mp cU with q |q
 ·rw[q]at hb
  exact absurd (Heap.lt_size hb) (Nat.lt_irrefl _)
 ·exact hn q
theorem FC {K:PySem.W.Frag}{h:Heap}{C:Addr}{mG:List Value}{newId:String}(X:K.In h) (q:PySem.W.excIn K C mG newId=true):
  ∃bm N nm qn bs hdct sn sub ab col dd k0 k1 k2 k3 k5 mN,h.get? C=some (excClassObj nm qn C N bs bm hdct sn sub ab col dd k0 k1 k2 k3 k5 newId)∧h.Ns N mN∧mN "__init__" =none∧OwnTail h mG bm:=by
 unfold PySem.W.excIn at q
 split at q
 ·rename_i dd cd sl lk
  split at q
  ·rename_i c2 bm j0 j1 j2 j3 nn j5 em es
   rw[Bool.and_eq_true,Bool.and_eq_true,Bool.and_eq_true,Bool.and_eq_true,Bool.and_eq_true]at q
   obtain⟨⟨⟨⟨⟨q1,q2⟩,q3⟩,q4⟩,q5⟩,q6⟩:=q
   have z1:=beq_iff_eq.mp q1
   have z2:=beq_iff_eq.mp q2
   have z6:=beq_iff_eq.mp q6
   subst z1 z2
   have ob:=X _ _ lk
   have z3:cd.hasDel=false:=by revert q3;cases cd.hasDel<;>simp
   have zs:sl= #[j0,j1,j2,j3,some (.builtin nn),j5]:=by
    apply Array.toList_inj.mp
    rw[es]
   refine⟨bm,cd.ns,cd.name,cd.qualname,cd.bases,cd.hasDict,cd.slotNames,cd.subclasses,cd.abstract,cd.collection,dd,j0,j1,j2,j3,j5,h.nsMap cd.ns,?_,.of_isNs (PySem.W.isNs_of_in X q5),PySem.W.nsMap_none_of_in X q5 z6,PySem.W.tail_of_in X q4⟩
   rw[ob,zs]
   obtain⟨a1,a2,a3,a4,a5,a6,a7,a8,a9,a10,a11⟩:=cd
   cases em
   cases z3
   rfl
  ·cases q
 ·cases q
def zS (C:Addr) (E:XK) (ta:TA):TS:=fun _ σ H=>ta σ H fun vs H1=>vs.length≤sizeLine∧∀e,E (.ref e) (some C) H1
theorem Wt {P:Program}{w:World}{K:PySem.W.Frag}{mg:Str→Option Value}{base:Heap}{N:List Str}{qual:Str}{scope:Scope}{f:Addr}{cd:Value}{A:Around}{outer:List Env}{s s1:Shared}{H H1:Hp}{E:XK}
  {pins:List (Addr×Obj)}{σ:St}{h':Heap}{e C:Addr}{vs:List Value} (I:Inv (aV (bq P w) P w K mg base N qual scope f cd A outer s H E) pins σ H1 s1) (mk:Heap.MadeExcOf s1.heap h' e (.ref C) vs) (hE:E (.ref e) (some C) H1):
  (aV (bq P w) P w K mg base N qual scope f cd A outer s H E).xe (.ref e) {s1 with heap:=h'} :=by
 have j7:∀env∈(envOfC qual scope s.heap.objs.size f cd::outer),∀b,env.frame=some b→b∈aG (envOfC qual scope s.heap.objs.size f cd::outer):=fun env he b hb=>List.mem_filterMap.mpr ⟨env,he,hb⟩
 have st:=I.stack
 refine wpAny_leaves_madeW (L:=s.heap.objs.size) (base:=PySem.W.hideAll s1.heap (aG (envOfC qual scope s.heap.objs.size f cd::outer))) (h:=s1.heap) I.ok.frames rfl (fun b o q=>PySem.W.of_hideAll _ q) (PySem.W.funFrames_hide st j7) mk fun h2 t fl tp _ up=> ?_
 have bf:∀b o,s1.heap.get? b=some o→b∉aG (envOfC qual scope s.heap.objs.size f cd::outer)→∃u,(PySem.W.hideAll s1.heap (aG (envOfC qual scope s.heap.objs.size f cd::outer))).get? b=some u:=fun b o hb hn=> ⟨o,PySem.W.hideAll_get _ hb hn⟩
 have dR:∀b o,H1 b=some o→∃u,(PySem.W.hideAll s1.heap (aG (envOfC qual scope s.heap.objs.size f cd::outer))).get? b=some u:=fun b o hb=>by
  have hl:=I.ah.lt hb
  have hx:∃u,s1.heap.get? b=some u:=by
   have ok:=I.ah b o hb
   cases o with
   |lst xs=>obtain⟨_,_,_,_,q⟩:=ok;exact⟨_,q⟩
   |tup xs=>obtain⟨_,_,_,⟨ob,q,_⟩,_⟩:=ok;exact⟨_,q⟩
   |par xs=>obtain⟨_,_,_,ob,q,_⟩:=ok;exact⟨_,q⟩
   |dK kvs=>obtain⟨_,_,_,_,ob,_,_,q,_⟩:=ok;exact⟨_,q⟩
   |dT kvs=>obtain⟨_,_,_,_,ob,_,_,q,_⟩:=ok;exact⟨_,q⟩
   |set S n=>obtain⟨ob,_,_,_,q,_⟩:=ok;exact⟨_,q⟩
   |ins C dx fs=>obtain⟨_,_,_,q,_⟩:=ok;exact⟨_,q⟩
   |own y=>exact ok
   |xd fs=>obtain⟨_,⟨_,_,_,q,_⟩,_⟩:=ok;exact⟨_,q⟩
   |ej lo hi=>obtain⟨_,_,_,q⟩:=ok;exact⟨_,q⟩
   |bC ob u=>exact⟨_,ok.1⟩
   |bh ps=>exact⟨_,(show s1.heap.get? b=some _ from ok)⟩
   |met f y=>exact⟨_,(show s1.heap.get? b=some _ from ok)⟩
   |ext φ=>exact ok.2.1
  obtain⟨u,hu⟩:=hx
  exact bf b u hu fun hm=>by
   have:=I.kJ b hm
   rw[this]at hb
   cases hb
 have k1:Heap.StaysIn (PySem.W.hideAll s1.heap (aG (envOfC qual scope s.heap.objs.size f cd::outer))) h':=fun b o q=>mk.keeps b o (PySem.W.of_hideAll _ q)
 refine⟨e,C,H1,rfl,⟨I.os,I.bare,Jj (s1:=s1) (s2:= {s1 with heap:=h'}) (base:=base) (L:=s.heap.objs.size) I.base (Un.kept mk.keeps) rfl (Nat.le_refl _) I.ok.cE I.ok.eU bf k1 fl.1 up,YF (I.ah.kept mk.keeps) dR k1 fl.1,_,_,fl,fun b o hb hn=> ?_,dR⟩,hE⟩
 obtain⟨o1,e1⟩:=I.base.there b o hb (by simp[aV])
 refine bf b o1 e1 fun hm=> ?_
 have cU:b∈(envOfC qual scope s.heap.objs.size f cd::outer).filterMap (·.frame):=hm
 rw[List.filterMap_cons_some (f:=fun(x:Env)=>x.frame) (a:=envOfC qual scope s.heap.objs.size f cd) (b:=s.heap.objs.size) rfl]at cU
 rcases List.mem_cons.mp cU with q |q
 ·rw[q]at hb
  exact absurd (Heap.lt_size hb) (Nat.lt_irrefl _)
 ·exact hn q
theorem Yu {P:Program}{w:World}{K:PySem.W.Frag}{mg:Str→Option Value}{base:Heap}{N:List Str}{qual:Str}{scope:Scope}{f:Addr}{cd:Value}{A:Around}{outer:List Env}{s:Shared}{H:Hp}{E:XK}{x:Str}{C:Addr}{B newId Cb:String}{mG:List Value}
  {jl:Expr}{rest:List Expr}{np bF pos:Pos}{ta:TA} (FB:ExcBaseFacts B newId Cb mG) (hmg:mg x=some (.ref C)) (hex:PySem.W.excIn K C mG newId=true) (hg:Gl (aV (bq P w) P w K mg base N qual scope f cd A outer s H E) x)
  (ha:PA (aV (bq P w) P w K mg base N qual scope f cd A outer s H E) (jl::rest) ta)
  (he:starEach (jl::rest) (envOfC qual scope s.heap.objs.size f cd)=(false,eval jl (envOfC qual scope s.heap.objs.size f cd))::starEach rest (envOfC qual scope s.heap.objs.size f cd):=by rfl)
  (cf:(backTo bF (starEach rest (envOfC qual scope s.heap.objs.size f cd))).any (·.1)=false:=by rfl) (hd:(x==("__debug__" :Str))=false:=by decide):
  PS (aV (bq P w) P w K mg base N qual scope f cd A outer s H E) (.Raise (some (.Call (.Name x np) (jl::rest) [] bF)) none pos) (zS C E ta):=by
 intro pins s1 σ H1 D I h
 obtain⟨bm,Nn,nm,qn,bs,hdct,sn,sub,ab,col,dd,k0,k1,k2,k3,k5,mN,hC,hN,CT,T⟩:=FC I.mod.i4 hex
 refine wpAny_Raise_call_subT (C:=C) (nm:=nm) (q:=qn) (N:=Nn) (bs:=bs) (bm:=bm) (hdct:=hdct) (sn:=sn) (sub:=sub) (ab:=ab) (col:=col) (dd:=dd) (k0:=k0) (k1:=k1) (k2:=k2) (k3:=k3) (k5:=k5)
  FB (mN:=mN) (T.hasType FB.hasBase) (I.ok.hd rfl) ?_ CT (YE I hg hmg ⟨rfl,?_⟩ hd)
 ·show(backTo bF (starEach (jl::rest) (envOfC qual scope s.heap.objs.size f cd))).any (·.1)=false
  rw[he]
  show(false||(backTo bF (starEach rest (envOfC qual scope s.heap.objs.size f cd))).any (·.1))=false
  rw[cf]
  rfl
 ·have q:=ha bF pins s1 σ H1 _ I h
  show wpAny _ _ (evalArgs (.ref C) true (backTo bF (starEach (jl::rest) (envOfC qual scope s.heap.objs.size f cd))) []) _ _ _
  have q':wpAny (model P w) (A.deeper (envOfC qual scope s.heap.objs.size f cd)) (spliced (backTo bF (starEach (jl::rest) (envOfC qual scope s.heap.objs.size f cd)))) _ _ s1:=q
  rw[he]at q' ⊢
  refine Calls.evalArgs_plain (wpAny_mono q' (fun us s2 h2=> ?_) fun _ _ y=>y)
  obtain⟨vs,H2,I2,r,hz,hE⟩:=h2
  refine⟨rfl,by rw[←r.length];exact hz,I2.bk _ _ hC,hN.keeps I2.bk,T.keeps I2.bk,fun h' e mk=> ?_⟩
  exact Wt I2 mk (hE e)
section
variable {X:Cx}
def Ab (ta tb:TE):TE:=fun σ H Q=>ta σ H fun v H1=> ∃x,v=.str x∧(Str.empty++x).length≤sizeLine∧tb σ H1 fun u H2=> ∃n:Int,u=.int n∧n.natAbs.log2<1920∧(Str.empty++x++(Str.ofString (toString n))).length≤sizeLine∧∀z,Q (.str z) H2
theorem GW {a b:Expr}{ta tb:TE}{p pos:Pos}(ha:PE X a ta) (hb:PE X b tb):PE X (.JoinedStr [a,.FormattedValue b (-1) none p] pos) (Ab ta tb):=by
 intro pins s σ H Q I h
 refine JoinedStr_many (joinParts_cons (wpAny_mono (ha pins s σ H _ I h) (fun u s1 h1=> ?_) fun _ _ y=>y))
 obtain⟨v,H1,I1,r1,x,rfl,hz,h2⟩:=h1
 obtain⟨t,rfl⟩:=r1
 refine⟨hz,joinParts_cons (FormattedValue_plain (wpAny_mono (hb pins s1 σ H1 _ I1 h2) (fun u s2 h3=> ?_) fun _ _ y=>y))⟩
 obtain⟨v,H2,I2,r2,n,rfl,hn,bU,q⟩:=h3
 obtain⟨t2,rfl⟩:=r2
 refine formatField_int_small hn ⟨bU,?_⟩
 refine joinParts_nil ?_ bU
 exact⟨.str _,H2,(I2.tok _).tok _,⟨_,rfl⟩,q _⟩
end
section
variable {P:Program}{w:World}{K:PySem.W.Frag}{mg:Str→Option Value}{base:Heap}
theorem aK.lj {x qual:Str}{st:Stmt}{f:Addr}{fd:FuncData}{N ps:List Str}{k:Nat}{sp:Sp}(F:aK K x qual st f fd) (S:bI N ps (au st)) (len:∀vs H Q E,sp vs H Q E→vs.length=ps.length)
    (hb:∀(ao:Value) (A:Around) (outer:List Env) (s:Shared) (H:Hp) (vs:List V) (Q:VK) (E:XK),bo k (A.deeper (envOfC qual (au st) s.heap.objs.size f ao))→sp vs H Q E→
      ∃t,cW (aV (bq P w) P w K mg base N qual (au st) f ao A outer s H E) (bu st) t∧t {nx:=fun _ H'=>Q .aa H',rt:=Q} (start N vs) H):az P w K mg base (bq P w) (k+1) f fd ps sp:=by
  obtain⟨oc,od,kV,doc,pm,an,ao,ct,dq,rfl,lk,bP⟩:=F.ex
  exact tW lk bP S len fun A outer s H vs Q E hr cw=>hb ao A outer s H vs Q E hr cw
def cJ (P:Program) (w:World) (K:PySem.W.Frag) (mg:Str→Option Value) (base:Heap) (k:Nat) (x:Str) (ps:List Str) (sp:Sp):Prop:=
 ∃f fd,az P w K mg base (bq P w) k f fd ps sp∧mg x=some (.ref f)∧PySem.W.keepIn K (.ref f)=true∧Binds K fd ps []
theorem YW {N:List Str}{qual:Str}{scope:Scope}{f:Addr}{cd:Value}{A:Around}{outer:List Env}{s:Shared}{H:Hp}{E:XK}{k:Nat}{x:Str}{ps:List Str}{sp:Sp}{e:Expr}{es:List Expr}{t:TA}{p pos:Pos}
  (d:cJ P w K mg base k x ps sp) (hr:bo k (A.deeper (envOfC qual scope s.heap.objs.size f cd))) (ha:PA (aV (bq P w) P w K mg base N qual scope f cd A outer s H E) (e::es) t) (hg:Gl (aV (bq P w) P w K mg base N qual scope f cd A outer s H E) x:=by rfl)
  (gu:(x==("__debug__" :Str))=false:=by decide)
  (he:starEach (e::es) (envOfC qual scope s.heap.objs.size f cd)=(false,eval e (envOfC qual scope s.heap.objs.size f cd))::starEach es (envOfC qual scope s.heap.objs.size f cd):=by rfl)
  (cf:(backTo pos (starEach es (envOfC qual scope s.heap.objs.size f cd))).any (·.1)=false:=by rfl):
  PE (aV (bq P w) P w K mg base N qual scope f cd A outer s H E) (.Call (.Name x p) (e::es) [] pos) (pO sp [] E t):=by
 obtain⟨g,fd,F,hm,hk,hb⟩:=d
 exact YX F hr hg hm hk hb .nil Bl ha gu he cf
end
end L2
namespace L2
open PySem PySem.Spec PyProof.Rows PySem.Builtin PySem.Builtin.ObjectAttr PySem.Builtin.Getset_descriptor
def iy (e C:Addr):HO:=.ext fun h=> ∃o,h.get? e=some o∧o.cls=.ref C
structure jy (K:PySem.W.Frag) (C:Addr):Prop where
 ga:PySem.W.findIn K (.ref C) "__getattribute__" =some (some (.builtin "BaseException.__getattribute__"))
 hook:PySem.W.findIn K (.ref C) "__getattr__" =some none
 cl:PySem.W.findIn K (.ref C) "__class__" =some (some (.builtin "object.__class__"))
 ob:PySem.W.mroIn K C (.type "object")=some true
 bx:PySem.W.mroIn K C (.type "BaseException")=some true
 cls:(PySem.W.clsIn K C).isSome=true
section
variable {prog:Program}{w:World}{A:Around}{E:Value→Shared→Prop}{s:Shared}{K:PySem.W.Frag}{e C:Addr}{o:Obj}{R:Result→Shared→Prop}
theorem Ja {M:Model}{h:Heap}(hx:h.get? e=some o) (hc:o.cls=.ref C):PySem.W.Looks M h (typeOf (.ref e)) (.ref C):=hc▸(PySem.W.Looks.ld hx).andThen .now
theorem Gy {tp:Value}(X:K.In s.heap) (hx:s.heap.get? e=some o) (hc:o.cls=.ref C) (Z:jy K C) (h:R (.ok (.ret (.ref C))) s):
  codeAny (model prog w) A (.call (.builtin "getset_descriptor.__get__") ⟨[.builtin "object.__class__",.ref e,tp],[]⟩) R s:=by
 obtain⟨h0,g0,d0,t0,o0⟩:=s
 have LT:=Ja (M:=model prog w) hx hc
 have LM:=PySem.W.looks_mroIn (M:=model prog w) X Z.ob
 refine codeAny_call_builtin PySem.W.KF.slot_gs.plain PySem.W.KF.entry_gs (PySem.W.KF.slot_gs.check _ _ _ _ _ _ _ _ PySem.W.KF.type_class (PySem.W.KF.args_gs _ _ _) ?_)
 unfold Builtin.«getset_descriptor.__get__» descrGet
 rw[PySem.W.dga_obj]
 refine wpAny_bind (wpAny_pure ?_)
 unfold descrGetter descrCheckInstance descrNameAndClass isInstance
 simp only[PySem.W.KF.owner_class]
 repeat lk
 refine⟨Code.quiet_builtin _ (by decide+kernel),codeAny_builtin PySem.W.KF.entry_class ?_⟩
 unfold Builtin.«object.__class__» shownTypeOf
 repeat lk
 exact h
theorem UC {tk:Tok}{Q:PySem.Fin→Shared→Prop}(X:K.In s.heap) (hx:s.heap.get? e=some o) (hc:o.cls=.ref C) (Z:jy K C) (hq:Q (.done (.ret (.ref C))) s):
  wpAny (model prog w) A (Builtin.«object.__getattribute__» ⟨[.ref e,.str "__class__" tk],[]⟩) Q E s:=by
 obtain⟨h0,g0,d0,t0,o0⟩:=s
 have LT:=Ja (M:=model prog w) hx hc
 have LC:=PySem.W.looks_findIn (M:=model prog w) X Z.cl
 have IP:(⟨h0,g0,d0,t0,o0⟩:Shared).TypeIs (.builtin "object.__class__") "getset_descriptor" :=F.typeOf_object_class
 have f5:=F.typeOf_object_class
 have f6:=F.slot_gs_get.lookup
 have f7:=F.slot_gs_set.lookup
 repeat (any_goals (first |assumption |with_reducible refine LT.at ?_ |with_reducible refine LC.at ?_ |wp_step))
 refine Gy (s:=⟨h0,g0,d0,t0,o0⟩) X hx hc Z ?_
 exact wpAny_pure hq
theorem Gx {tk:Tok}(X:K.In s.heap) (hx:s.heap.get? e=some o) (hc:o.cls=.ref C) (Z:jy K C) (hq:R (.ok (.ret (.ref C))) s):
  codeAny (model prog w) A (.call (.builtin "BaseException.__getattribute__") ⟨[.ref e,.str "__class__" tk],[]⟩) R s:=by
 refine codeAny_call_builtin F.attr_ValueError.ga.plain F.entry_bexc_ga ?_
 obtain⟨h0,g0,d0,t0,o0⟩:=s
 have LT:=Ja (M:=model prog w) hx hc
 have LB:=PySem.W.looks_mroIn (M:=model prog w) X Z.bx
 have hk:builtinKind "BaseException.__getattribute__" =some .slot:=by decide+kernel
 have cw:splitId "BaseException.__getattribute__" =some ("BaseException", "__getattribute__"):=by decide+kernel
 have ha:=F.args_bexc_ga (.ref e) (.str "__class__" tk)
 simp only[checkBuiltinCall,hk,cw]
 have LI:PySem.W.Looks (model prog w) h0 (isInstance (.ref e) (.type "BaseException")) true:=LT.andThen LB
 refine wpAny_bind (LI.at ?_)
 repeat (first |exact UC (s:=⟨h0,g0,d0,t0,o0⟩) X hx hc Z hq |assumption |wp_step)
theorem Gw {Q:Option Value→Shared→Prop}(X:K.In s.heap) (hx:s.heap.get? e=some o) (hc:o.cls=.ref C) (Z:jy K C) (hq:Q (some (.ref C)) {s with toks:=s.toks+1}):
  wpAny (model prog w) A (getAttr? (.ref e) "__class__") Q E s:=by
 obtain⟨h0,g0,d0,t0,o0⟩:=s
 have LT:=Ja (M:=model prog w) hx hc
 have L1:=PySem.W.looks_findIn (M:=model prog w) X Z.ga
 have L2:=PySem.W.looks_findIn (M:=model prog w) X Z.hook
 have f3:=F.attr_ValueError.ga.bind (.ref e)
 have gq:(Value.builtin "BaseException.__getattribute__" ==Value.builtin "object.__getattribute__")=false:=by decide+kernel
 have wB:(onTheHeap (Value.ref C)&&Value.builtin "BaseException.__getattribute__" ==Value.builtin "object.__getattribute__")=false:=by rw[gq];rfl
 unfold getAttr? getAttrBy? getAttrBy
 refine wpAny_bind (wpAny_mkText (wpAny_bind (wpAny_attempt (wpAny_holding (wpAny_bind (LT.at (wpAny_bind (L1.at ?_))))))))
 repeat (any_goals (first |assumption |with_reducible refine L2.at ?_ |wp_step))
 refine Gx (s:=⟨h0,g0,d0,t0+1,o0⟩) X hx hc Z ?_
 repeat (any_goals (first |assumption |wp_step))
theorem GB (Z:jy K C):PySem.W.KitX K (.ref e) (.ref C) (fun h=> ∃o,h.get? e=some o∧o.cls=.ref C) where
 ty:=fun M h _ ⟨o,hx,hc⟩=>Ja hx hc
 it:=fun M h X _=>by
  obtain⟨cd,bP⟩:=Option.isSome_iff_exists.mp Z.cls
  unfold PySem.W.clsIn at bP
  split at bP
  ·rename_i lk
   intro A2 Q2 E2 s2 k q
   unfold isType loadHead
   exact wpAny_bind (wpAny_loadPart (k _ _ (X _ _ lk)) (wpAny_pure q))
  ·cases bP
 ne:=fun h tp dd its n sl X wD=>by
  obtain⟨cd,bP⟩:=Option.isSome_iff_exists.mp Z.cls
  refine Bool.eq_false_iff.mpr fun q=> ?_
  have z:C=tp:=Value.ref.inj (beq_iff_eq.mp q)
  rw[←z]at wD
  unfold PySem.W.clsIn at bP
  split at bP
  ·rename_i lk
   have y:=(X _ _ lk).symm.trans wD
   cases y
  ·cases bP
 ca:=fun X ⟨o,hx,hc⟩ k=>Gw X hx hc Z k
end
section
variable {X:Cx}
theorem Zm:cX X (.builtin "isinstance") (fun xs H Q=> ∃e C y c b,xs=[.ref e,y]∧H e=some (iy e C)∧jy X.K C∧(∀u,RelV y u→u=c)∧PySem.W.kitOne X.K (.ref C) c=some b∧Q (.bl b) H):=by
 rintro pins s σ H vs us Q I r ⟨e,C,y,c,b,rfl,he,Z,hy,hk,q⟩
 cases r with
 |cons r1 r2=>
  cases r2 with
  |cons r3 r4=>
   cases r4
   rw[hy _ r3]
   rw[show _=Value.ref e from r1]
   obtain⟨p,_,_⟩:=(show aU X.prog X.w H s.heap e (iy e C) from I.ah e _ he)
   exact PySem.W.kia_one (GB Z) I.bc p hk (fun z=>nomatch z) fun tk=> ⟨.bl b,H,I.tok _,rfl,q⟩
end
end L2
namespace L2
open PySem PySem.Spec PyProof.Rows
abbrev Cx.eE (X:Cx) (e:Value):Cx:= {X with A:=X.A.mark (some e),calm:=false,xe:=fun _ _=>False}
section
variable {X:Cx}{pins:List (Addr×Obj)}{σ:St}{H H':Hp}{s s':Shared}
theorem Inv.eE (I:Inv X pins σ H s) (e:Value):Inv (X.eE e) pins σ H s:=
 ⟨⟨I.ok.mod,I.ok.kind,I.ok.glob,I.ok.blt,I.ok.above,I.ok.inj,I.ok.has,I.ok.iF,fun h=>Bool.noConfusion h,I.ok.frames,I.ok.jG,I.ok.ki,I.ok.bs,I.ok.fU,I.ok.i0,I.ok.jm,I.ok.cE,I.ok.eU⟩,I.os,I.bare,I.base,I.loc,I.cell,I.free,I.dP,I.pin,I.ah,I.len⟩
theorem Inv.zq {e:Value}(I:Inv (X.eE e) pins σ H s) (hd:X.calm=true→X.A.handled=none):Inv X pins σ H s:=
 ⟨⟨I.ok.mod,I.ok.kind,I.ok.glob,I.ok.blt,I.ok.above,I.ok.inj,I.ok.has,I.ok.iF,hd,I.ok.frames,I.ok.jG,I.ok.ki,I.ok.bs,I.ok.fU,I.ok.i0,I.ok.jm,I.ok.cE,I.ok.eU⟩,I.os,I.bare,I.base,I.loc,I.cell,I.free,I.dP,I.pin,I.ah,I.len⟩
theorem Inv.ym {e C:Addr}{B h':Heap}{o:Obj}(I:Inv X pins σ H s) (un:Un (aG X.stack) [] H H' s.heap s'.heap) (os:s'.os=s.os) (bare:AllBare s'.gens) (ah:bg X.prog X.w H' s'.heap)
  (bf:∀b o,s.heap.get? b=some o→b∉aG X.stack→∃u,B.get? b=some u) (dR:∀b o,H' b=some o→∃u,B.get? b=some u) (be:B.get? e=none) (k1:B.StaysIn s'.heap) (k2:B.StaysIn h') (up:s'.heap.UpToSlots h')
  (he:h'.get? e=some o) (hc:o.cls=.ref C) (hd:∃vs,o.data=.fields vs):Inv X pins σ (upd H' e (iy e C)) {s' with heap:=h'}∧H' e=none:=by
 have n0:H' e=none:=by
  cases q:H' e with
  |none=>rfl
  |some u=>
   obtain⟨u',hu⟩:=dR e u q
   rw[be]at hu
   cases hu
 have jL:∀b o,s.heap.get? b=some o→b∈aG X.stack→∃sl,h'.get? b=some {o with slots:=sl} :=fun b o hb hm=>by
  obtain⟨_,o',cj,nf⟩:=I.stack.mem hm
  rw[hb]at cj
  cases cj
  obtain⟨Av,e1⟩:=un.slot b o hb (I.kJ b hm) hm (by simp)
  obtain⟨iR,e2⟩:=up b _ e1 nf
  exact⟨iR,e2⟩
 have Bw:∀b u,s.heap.get? b=some u→b≠e:=fun b u hb z=>by
  rw[z]at hb
  by_cases hm:e∈aG X.stack
  ·obtain⟨_,o',cj,nf⟩:=I.stack.mem hm
   rw[hb]at cj
   cases cj
   obtain⟨sl,q⟩:=jL e u hb hm
   rw[he]at q
   cases q
   obtain⟨vs,hv⟩:=hd
   exact nf vs hv
  ·obtain⟨u',hu⟩:=bf e u hb hm
   rw[be]at hu
   cases hu
 have rH:∀b o u,s'.heap.get? b=some o→B.get? b=some u→h'.get? b=some o:=fun b o u hb hu=>by
  have e1:=k1 b u hu
  rw[hb]at e1
  cases e1
  exact k2 b _ hu
 refine⟨I.yn (s':= {s' with heap:=h'}) (ch:=[]) os ⟨fun b u hb hn hf _=> ?_,fun b u hb hn hm _=>jL b u hb hm,fun b u hb hn _=> ?_,fun b u hb _=> ?_,fun b xs hb=> ?_,fun b u v hb=> ?_,fun b ps hb=> ?_⟩ ?_ bare (fun b hb=>absurd hb (by simp)),n0⟩
 ·have e1:=un.keep b u hb hn hf (by simp)
  obtain⟨u',hu⟩:=bf b u hb hf
  exact rH b u u' e1 hu
 ·rw[Ze (Bw b u hb)]
  exact un.free b u hb hn (by simp)
 ·by_cases hm:b∈aG X.stack
  ·obtain⟨sl,q⟩:=jL b u hb hm
   exact⟨_,q⟩
  ·obtain⟨u',hu⟩:=bf b u hb hm
   exact⟨u',k2 b u' hu⟩
 ·have q:=un.dX b xs hb
  rw[Ze (Zf q n0)]
  exact q
 ·have q:=un.dN b u v hb
  rw[Ze (Zf q n0)]
  exact q
 ·obtain⟨m,q⟩:=un.dB b ps hb
  exact⟨m,by rw[Ze (Zf q n0)];exact q⟩
 ·intro b u hb
  by_cases fS:b=e
  ·subst fS
   rw[Zc]at hb
   cases hb
   refine⟨⟨o,he,hc⟩,⟨o,he⟩,fun h1 h2 p k=> ?_⟩
   obtain⟨o1,q1,q2⟩:=p
   exact⟨o1,k _ q1,q2⟩
  ·rw[Ze fS]at hb
   have x:=YF ah dR k1 k2 b u hb
   refine x.bj (fun c w' fQ q=>q) (fun c q=> ?_) fun c xs q=> ?_
   ·rw[Ze (Zf q n0)];exact q
   ·rw[Ze (Zf q n0)];exact q
end
def zM (X:Cx) (ic ie:Nat) (cS:Addr) (k:Nat) (ts:TS):TS:=fun D σ H=> ∃f fd sp,σ[ic]? =some (some (.ref f))∧(∀s,bg X.prog X.w H s→PySem.W.FnAt f s)∧az X.prog X.w X.K X.mg X.base (bq X.prog X.w) k f fd [] sp∧(∀s,BindsTo s fd ⟨[],[]⟩ [])∧
 sp [] H (fun _ _=>False) fun ev c H'=> ∃e C,ev=.ref e∧c=some C∧PySem.W.exmOne X.K (.ref C) (.ref cS)=some true∧(H' e=none→ts {nx:=fun aj H2=>D.nx (aj.set ie none) H2,rt:=fun _ _=>False} (σ.set ie (some (.ref e))) (upd H' e (iy e C)))
theorem WL {X:Cx}{ic ie k:Nat}{c n S:Str}{cS:Addr}{b0:Stmt}{uL:List Stmt}{ts:TS}{p1 p2 p3 p4 p5 p6:Pos}(IM:X.calm=true) (i9:X.stack=X.env::X.outer) (eG:X.env.frame=some X.env.locals) (hN:X.N.Nodup) (Dd:X.N[ic]? =some c) (Cm:mJ X.env.scope c)
  (oM:X.N[ie]? =some n) (j4:X.env.scope.names.lookup n=some .local) (hS:X.mg S=some (.ref cS)) (Dh:Gl X S) (hr:bo k X.A) (Cy:∀e,cW (X.eE (.ref e)) (b0::uL) ts)
  (Dq:(c==("__debug__" :Str))=false:=by decide) (Dp:(c==("__classdict__" :Str))=false:=by decide) (Dr:(S==("__debug__" :Str))=false:=by decide)
  (rY:swapsWith (.Call (.Name c p1) [] [] p2) none p3.line X.env=pure false:=by rfl):
  PS X (.Try [.Expr (.Call (.Name c p1) [] [] p2) p3] [.ExceptHandler (some (.Name S p4)) (some n) (b0::uL) p5] [] [] p6) (zM X ic ie cS k ts):=by
 intro pins s σ H D I h
 obtain⟨f,fd,sp,gp,fj,F,hb,cw⟩:=h
 refine wpAny_Try_except ?_
 refine wpAny_execs_cons (wpAny_Expr_any ?_ I.quiet rY)
 refine wpAny_Call_Name_kw ?_
 have nm:=Jn (X:=X.eO (fun _ _=>False)) (i:=ic) (x:=c) (pos:=p1) Dd Cm Dq Dp pins s σ H (fun v H2=>v=.ref f∧H2=H) (I.eO _) ⟨_,gp,rfl,rfl⟩
 refine wpAny_mono nm (fun u s1 h1=> ?_) (fun _ _ z=>z.elim)
 obtain⟨v,H1,I1,r1,rfl,rfl⟩:=h1
 have I1:=I1.fY
 obtain rfl:u=Value.ref f:=r1
 refine PySem.W.callWith_F0 (fj _ I1.ah) ?_
 refine wpAny_call (codeAny_mono (F.run X.A X.stack s1 H1 ⟨[],[]⟩ [] [] _ _ hr I1.xV (hb s1) .nil cw) fun r s2 hq=> ?_)
 cases r with
 |ok fl=>
  cases fl with
  |ret u=>obtain⟨_,_,_,_,_,_,_,z⟩:=hq;exact z.elim
  |next=>exact hq.elim
  |brk=>exact hq.elim
  |cont=>exact hq.elim
 |error ev=>
  obtain⟨e,C,H2,rfl,FL,e',C',q1,q2,hx,hk⟩:=hq
  cases q1
  cases q2
  obtain⟨B,a0,fl,bf,dR⟩:=FL.tw
  rw[i9]at fl
  show wpAny (model X.prog X.w) X.A (noteFrame (.ref e) X.env) _ X.xe s2
  have tu:X.A.frames=some (X.env::X.outer):=by rw[←i9];exact I.ok.frames
  refine wpAny_looks_onW (L:=X.env.locals) tu eG fl fun h4 held uw=> ?_
  refine wpAny_landsW held fun h5 tx uv=> ?_
  have cG:∃o vs,h5.get? e=some o∧o.cls=.ref C∧o.data=.fields vs:=by
   obtain⟨oe,vs,g1,g2,g3,_⟩:=tx.first
   exact⟨oe,vs,g1,g2,g3⟩
  obtain⟨o5,Ia,xH,xG,Eh⟩:=cG
  have c5:=I1.ym (h':=h5) FL.un FL.os FL.bare FL.ah bf dR fl.2.1 fl.1 tx.1 (uw.trans uv) xH xG ⟨_,Eh⟩
  have I5:=c5.1.eE (.ref e)
  refine wpAny_handleBy_cons (codeAny_handlers_test ?_) (by intro q;cases q)
  refine YE (X:=X.eE (.ref e)) I5 Dh hS ?_ Dr
  have LX:=PySem.W.exm_one (M:=model X.prog X.w) (c:=.ref cS) (e:=e) I5.bc (Ja xH xG) hx
  refine LX.at ?_
  refine codeAny_handlers_suite_as ?_
  refine lands_againW (s:= {s2 with heap:=h5}) tx fun h6 xK zp=> ?_
  obtain⟨o6,HZ,Eg,Ef,Ee,_⟩:=xK.first
  obtain⟨I6,n6⟩:=I1.ym (h':=h6) FL.un FL.os FL.bare FL.ah bf dR fl.2.1 fl.1 xK.1 ((uw.trans uv).trans zp) Eg Ef ⟨_,Ee⟩
  have I6:=I6.eE (.ref e)
  have Cs:=hk n6
  refine ZV (X:=X.eE (.ref e)) (i:=ie) I6 hN oM (.inl j4) (v:=.ref e) (u:=.ref e) rfl (fun s7 I7=> ?_) (.inr j4)
  refine wpAny_mono (Cy e pins s7 _ _ _ I7 Cs) (fun En s8 h8=> ?_) fun _ _ z=>z.elim
  cases En with
  |ret u=>obtain⟨_,_,_,_,_,z⟩:=h8;exact z.elim
  |brk=>obtain⟨_,_,_,z⟩:=h8;exact z.elim
  |cont=>obtain⟨_,_,_,z⟩:=h8;exact z.elim
  |next=>
   obtain⟨mW,H8,I8,q8⟩:=h8
   have I8:=I8.zq (fun z=>I.ok.hd z)
   obtain⟨m8,wR,C7⟩:=I8.loc
   have sN:(X.env.scope.kind==.class||(X.env.scope.kind==.module&&X.env.locals !=X.env.globals))=false:=by rw[I8.ok.kind];rfl
   refine wpAny_nameGoes_keeps j4 wR sN fun h9 v9 CV ja=> ?_
   have st:=ZV (M:=model X.prog X.w) (A:=X.A) (E:=fun _ _=>False) (X:=X) (i:=ie) I8 hN oM (.inl j4) (v:=.aa) (u:=.none) rfl (Q:=fun _ _=>True) (fun _ _=>trivial) (.inr j4)
   refine⟨mW.set ie none,H8,?_,q8⟩
   have ar:ie<mW.length:=by rw[I8.len];exact(List.getElem?_eq_some_iff.mp oM).1
   obtain⟨oL,_,_,hoL,_⟩:=id wR
   have eW:=I8.eW
   refine⟨I8.ok,I8.os,I8.bare,⟨fun b o eb nb hb hx=> ?_,fun b o eb nb hb hx=> ?_,I8.base.free,fun b o eb hx=> ?_,I8.base.dX,I8.base.dN,I8.base.dB⟩,⟨_,CV,fun j y v' e1 e2 e3=> ?_⟩,fun y cc ec=> ?_,I8.free,I8.dP,fun p hp=> ?_,fun b ob eb=> ?_,by simpa using I8.len⟩
   ·exact(ja.2 b (Nat.ne_of_lt (Nat.lt_of_lt_of_le (Heap.lt_size eb) I8.ok.above))).trans (I8.base.keep b o eb nb hb hx)
   ·obtain⟨sl,q⟩:=I8.base.slot b o eb nb hb hx
    exact⟨sl,(ja.2 b (Nat.ne_of_lt (Nat.lt_of_lt_of_le (Heap.lt_size eb) I8.ok.above))).trans q⟩
   ·obtain⟨o',q⟩:=I8.base.there b o eb hx
    exact⟨o',(ja.2 b (Nat.ne_of_lt (Nat.lt_of_lt_of_le (Heap.lt_size eb) I8.ok.above))).trans q⟩
   ·by_cases hj:j=ie
    ·subst hj
     rw[List.getElem?_set_self ar]at e2
     cases e2
    ·rw[List.getElem?_set_ne (Ne.symm hj)]at e2
     obtain⟨u',r',q⟩:=C7 j y v' e1 e2 e3
     refine⟨u',r',?_⟩
     rcases q with ⟨kk,q⟩ |⟨kk,c',ec,z⟩
     ·refine .inl ⟨kk,?_⟩
      have ne:y≠n:=fun z=>hj (Jr hN e1 (z▸oM))
      simp[ne,q]
     ·exact .inr ⟨kk,c',ec,z.sameBut ja (eW y c' ec)⟩
   ·obtain⟨w',z⟩:=I8.cell y cc ec
    exact⟨w',z.sameBut ja (eW y cc ec)⟩
   ·obtain⟨e1,n1,ne1,BE,d1⟩:=I8.pin p hp
    exact⟨(ja.2 p.1 ne1).trans e1,n1,ne1,BE,d1⟩
   ·refine(I8.ah b ob eb).bj (fun cc w' fQ q=> (ja.2 cc ?_).trans q) (fun _ q=>q) fun _ _ q=>q
    rintro rfl
    rcases fQ with rfl |fQ
    ·rw[I8.free]at eb;cases eb
    ·rw[I8.free]at fQ;cases fQ
def eI (c:Addr) (q:Str):HO:=.ext fun h=>h.CodeRec (.ref c) q
def i3 (f:Addr) (q:Str) (params:Arguments) (body:Expr) (scope:Scope) (cl:List (Str×Addr)) (pm:Value) (c:Addr) (ct:Value):HO:=.ext fun h=>h.get? f=some (PySem.W.kla_obj "<lambda>" q params body scope cl pm c ct)
def fB (H:Hp) (f:Addr) (q:Str) (params:Arguments) (body:Expr) (scope:Scope) (cl:List (Str×Addr)):Prop:=∃pm c ct,H f=some (i3 f q params body scope cl pm c ct)∧H c=some (eI c q)
theorem fB.same {H H':Hp}{f:Addr}{q:Str}{params:Arguments}{body:Expr}{scope:Scope}{cl:List (Str×Addr)}(x:fB H f q params body scope cl) (s:ae H H'):fB H' f q params body scope cl:=by
 obtain⟨pm,c,ct,h1,h2⟩:=x
 exact⟨pm,c,ct,s _ _ h1,s _ _ h2⟩
def Hu (H:Hp) (q:Str) (ps:Array Value):Prop:=TriplesOk ps.toList∧∀pos cv,codeAmong pos ps.toList=some cv→∃c,cv=.ref c∧H c=some (eI c q)
def TabAt (H:Hp) (P:Addr) (q:Str):Prop:=∃ps,H P=some (.bh ps)∧Hu H q ps
theorem Y3 {h h':Heap}{c:Addr}{q:Str}(x:h.CodeRec (.ref c) q) (k:∀o,h.get? c=some o→h'.get? c=some o):h'.CodeRec (.ref c) q:=by
 obtain⟨c2,oc,vs,tq,e,g1,g2,g3⟩:=x
 cases e
 exact⟨c,oc,vs,tq,rfl,k _ g1,g2,g3⟩
theorem Gu {P:Program}{w:World}{H:Hp}{h:Heap}{c:Addr}{q:Str}(x:h.CodeRec (.ref c) q):aU P w H h c (eI c q):=by
 obtain⟨c2,oc,vs,tq,e,g1,g2,g3⟩:=id x
 cases e
 exact⟨x,⟨_,g1⟩,fun h1 h2 p k=>Y3 p k⟩
theorem Ub {P:Program}{w:World}{H:Hp}{h:Heap}{f:Addr}{q:Str}{params:Arguments}{body:Expr}{scope:Scope}{cl:List (Str×Addr)}{pm:Value}{c:Addr}{ct:Value}(x:h.get? f=some (PySem.W.kla_obj "<lambda>" q params body scope cl pm c ct)):
  aU P w H h f (i3 f q params body scope cl pm c ct):=⟨x,⟨_,x⟩,fun h1 h2 p k=>k _ p⟩
theorem JB {pos p2:Pos}{c cv:Value} :∀(l:List Value),TriplesOk l→codeAmong p2 (l++[rawInt pos.line,rawInt pos.col,c])=some cv→codeAmong p2 l=some cv∨cv=c
 | [],_,h=>by
  have h':(if (pos.line:Int)==(p2.line:Int)&&(pos.col:Int)==(p2.col:Int) then some c else codeAmong p2 [])=some cv:=h
  split at h'
  ·exact .inr (Option.some.inj h').symm
  ·cases h'
 | .int a t:: .int b u::x::r,ht,h=>by
  have h':(if a==p2.line&&b==p2.col then some x else codeAmong p2 (r++[rawInt pos.line,rawInt pos.col,c]))=some cv:=h
  show(if a==p2.line&&b==p2.col then some x else codeAmong p2 r)=some cv∨cv=c
  split at h'
  ·rename_i hq
   rw[if_pos hq]
   exact .inl h'
  ·rename_i hq
   rw[if_neg hq]
   exact JB r ht h'
theorem YT {pos:Pos}{c:Value} :∀(l:List Value),TriplesOk l→TriplesOk (l++[rawInt pos.line,rawInt pos.col,c])
 | [],_=>trivial
 | .int _ _:: .int _ _::_::r,h=>YT r h
structure yW (X:Cx) (c P:Addr):Prop where
 code:X.env.code=.ref c
 hd:PySem.W.CodeHd X.base c P
 bm:∃bm ob,X.mg "__builtins__" =some (.ref bm)∧bm≠builtinsNs∧X.base.get? bm=some ob∧ob.cls=.type "module" ∧ob.dict=some builtinsNs∧ob.data=.plain
def z4 (X:Cx) (P:Addr) (params:Arguments) (body:Expr) (scope:Scope):TE:=fun σ H Q=>TabAt H P (X.env.qual++ "<lambda>")∧∀f H',ak P H H'→H f=none→TabAt H' P (X.env.qual++ "<lambda>")→fB H' f (X.env.qual++ "<lambda>") params body scope (bG scope X.env)→Q (.ref f) H'
theorem J7 {X:Cx}{c P:Addr}{params:Arguments}{body:Expr}{scope:Scope}{pos:Pos}(L:yW X c P) (sJ:defaultsOf params X.env=([],[])) (eG:∀y∈scope.names,y.2=.free→X.env.kindOf y.1=some .cell∨X.env.kindOf y.1=some .free):
  PE X (.Lambda params body scope pos) (z4 X P params body scope):=by
 intro pins s σ H Q I h
 obtain⟨⟨ps,hP,hT,hC⟩,q⟩:=h
 have oP:s.heap.get? P=some (PySem.W.tabObj ps):=I.ah P _ hP
 have fk:=Z5 (scope:=scope) (env:=X.env) fun y hy e=>I.ok.has _ (eG y hy e)
 have oU:s.heap.Ns mainGlobals X.mg:=I.mod.glob.keeps I.bk
 obtain⟨bm,ob,b1,b2,b3,b4,b5,b6⟩:=L.bm
 have Di:mainGlobals≠P:=fun z=>by
  obtain⟨o,es,ep,e,d,_⟩:=oU
  rw[z,oP]at e
  cases e
  cases d
 have jh:bm≠P:=fun z=>by
  have e:=I.bk _ _ b3
  rw[z,oP]at e
  cases e
  cases b4
 have DC:bm≠mainGlobals:=fun z=>by
  obtain⟨o,es,ep,e,d,_⟩:=oU
  have e2:=I.bk _ _ b3
  rw[z,e]at e2
  cases e2
  rw[d]at b6
  cases b6
 have BA:s.heap.BuiltinsAt X.mg P:=⟨bm,ob,b1,b2,DC,jh,I.bk _ _ b3,b4,b5,b6⟩
 refine PySem.W.kla_eval sJ ?_
 cases hf:codeAmong pos ps.toList with
 |some cv=>
  obtain⟨c',rfl,aQ⟩:=hC pos cv hf
  refine PySem.W.kla_makeFunctionHit fk I.ok.glob oU L.code (L.hd.keeps I.bk) oP hT hf BA fun jq h' tk hk eC=> ?_
  have nf:H h'.objs.size=none:=I.ah.fresh eC
  have s1:ae H (upd H h'.objs.size (i3 h'.objs.size (X.env.qual++ "<lambda>") params body scope (bG scope X.env) ((X.mg "__name__").getD .none) c' jq)):=fun b o hb=>by rw[Ze (Zf hb nf)];exact hb
  refine⟨.ref h'.objs.size,_,I.laid (t':=tk) (a:=h'.objs.size) (fun b u e=>Heap.get?_push_of_some _ (hk b u e)) eC (Ub (Heap.get?_push_size _ rfl)),rfl,?_⟩
  exact q _ _ (fun b o hb _=>s1 b o hb) nf ⟨ps,s1 _ _ hP,hT,fun p2 tP z=>by obtain⟨c2,e2,h2⟩:=hC p2 tP z;exact⟨c2,e2,s1 _ _ h2⟩⟩ ⟨_,c',jq,Zc,s1 _ _ aQ⟩
 |none=>
  refine PySem.W.kla_makeFunction fk I.ok.glob oU L.code (L.hd.keeps I.bk) oP hT hf Di BA fun c' jq h' tk hx oN ar CJ rW=> ?_
  have BR:∀b o,s.heap.get? b=some o→b<c':=fun b o e=>Nat.lt_of_lt_of_le (Heap.lt_size e) oN
  have Ir:∀b o,H b=some o→b<c':=fun b o e=>Nat.lt_of_lt_of_le (I.ah.lt e) oN
  have nc:H c'=none:=I.ah.fresh oN
  have nf:H h'.objs.size=none:=I.ah.fresh (Nat.le_trans oN (Nat.le_of_lt ar))
  have Bj:P≠c':=Zf hP nc
  have vJ:P≠h'.objs.size:=Zf hP nf
  have cnf:c'≠h'.objs.size:=Nat.ne_of_lt ar
  generalize xh:h'.objs.size=f at nf vJ cnf
  generalize r6:ps++ #[rawInt pos.line,rawInt pos.col,Value.ref c']=iW at rW
  generalize sk:i3 f (X.env.qual++ "<lambda>") params body scope (bG scope X.env) ((X.mg "__name__").getD .none) c' jq=lo
  have keep:∀b o,b≠P→s.heap.get? b=some o→(h'.push (PySem.W.kla_obj "<lambda>" (X.env.qual++ "<lambda>") params body scope (bG scope X.env) ((X.mg "__name__").getD .none) c' jq)).get? b=some o:=fun b o hb e=>Heap.get?_push_of_some _ (hx b o hb e)
  have cH:∀b o,H b=some o→b≠P→upd (upd (upd H P (.bh iW)) c' (eI c' (X.env.qual++ "<lambda>"))) f lo b=some o:=fun b o hb bB=>by
   rw[Ze (Zf hb nf),Ze (Zf hb nc),Ze bB]
   exact hb
  have tU:upd (upd (upd H P (.bh iW)) c' (eI c' (X.env.qual++ "<lambda>"))) f lo P=some (.bh iW):=by rw[Ze vJ,Ze Bj,Zc]
  have atC:upd (upd (upd H P (.bh iW)) c' (eI c' (X.env.qual++ "<lambda>"))) f lo c'=some (eI c' (X.env.qual++ "<lambda>")):=by rw[Ze cnf,Zc]
  have yt:upd (upd (upd H P (.bh iW)) c' (eI c' (X.env.qual++ "<lambda>"))) f lo f=some lo:=Zc
  have J:Inv X pins σ (upd (upd (upd H P (.bh iW)) c' (eI c' (X.env.qual++ "<lambda>"))) f lo) {s with heap:=h'.push (PySem.W.kla_obj "<lambda>" (X.env.qual++ "<lambda>") params body scope (bG scope X.env) ((X.mg "__name__").getD .none) c' jq),toks:=tk} :=by
   refine I.un (t':=tk) ⟨fun b o e n _ _=>keep b o (fun z=>by rw[z,hP]at n;cases n) e,fun b o e n _ _=> ⟨o.slots,keep b o (fun z=>by rw[z,hP]at n;cases n) e⟩,fun b o e n _=> ?_,fun b o e _=> ?_,fun b xs e=>cH b _ e (fun z=>by rw[z,hP]at e;cases e),fun b o u e=>cH b _ e (fun z=>by rw[z,hP]at e;cases e),fun b qs e=> ?_⟩ ?_
   ·have hl:=BR b o e
    rw[Ze (by rw[←xh];exact Nat.ne_of_lt (Nat.lt_trans hl ar)),Ze (Nat.ne_of_lt hl),Ze (fun z=>by rw[z,hP]at n;cases n)]
    exact n
   ·by_cases hb:b=P
    ·rw[hb];exact⟨_,Heap.get?_push_of_some _ rW⟩
    ·exact⟨o,keep b o hb e⟩
   ·by_cases hb:b=P
    ·rw[hb,hP]at e
     cases e
     exact⟨_,by rw[hb,tU,r6]⟩
    ·exact⟨#[],by rw[cH b _ e hb];simp⟩
   ·intro b o hb
    by_cases h1:b=f
    ·rw[h1,yt]at hb
     cases hb
     rw[h1,←sk]
     refine Ub ?_
     rw[←xh]
     exact Heap.get?_push_size _ rfl
    ·by_cases h2:b=c'
     ·rw[h2,atC]at hb
      cases hb
      rw[h2]
      exact Gu (Y3 CJ fun o e=>Heap.get?_push_of_some _ e)
     ·by_cases h3:b=P
      ·rw[h3,tU]at hb
       cases hb
       rw[h3]
       exact Heap.get?_push_of_some _ rW
      ·have gw:H b=some o:=by rw[Ze h1,Ze h2,Ze h3]at hb;exact hb
       refine(I.ah b o gw).bj (fun z u hz e=>keep z u ?_ e) (fun z e=> ?_) fun z xs e=> ?_
       ·rcases hz with hz |hz
        ·rw[hz];exact h3
        ·intro bU;rw[bU,hP]at hz;cases hz
       ·exact cH z _ e fun bU=>by rw[bU,hP]at e;cases e
       ·exact cH z _ e fun bU=>by rw[bU,hP]at e;cases e
  refine⟨.ref f,_,J,rfl,?_⟩
  refine q f _ (fun b o hb bB=>cH b o hb bB) nf ⟨iW,tU,?_,fun p2 tP z=> ?_⟩ ⟨_,c',jq,by rw[yt,←sk],atC⟩
  ·rw[←r6,Array.toList_append]
   exact YT _ hT
  ·rw[←r6,Array.toList_append]at z
   rcases JB _ hT z with z |z
   ·obtain⟨c2,e2,h2⟩:=hC p2 tP z
    exact⟨c2,e2,cH _ _ h2 fun bU=>by rw[bU,hP]at h2;cases h2⟩
   ·exact⟨c',z,atC⟩
theorem qQ {X:Cx}{E:XK}(Ck:∀e s',wpAny (model X.prog X.w) X.A (leaving X.env e) (fun _ dZ=>bq X.prog X.w X.outer X.gH X.bw E e dZ) (fun e' dZ=>bq X.prog X.w X.outer X.gH X.bw E e' dZ) s'→X.xe e s')
  (i9:X.stack=X.env::X.outer) (eG:X.env.frame=some X.env.locals) (hex:X.ex=[]):Passes (bq X.prog X.w) X E:=by
 intro pins σ H1 s1 ev s2 I h
 obtain⟨e,C,H',rfl,F,hE⟩:=h
 obtain⟨B,a0,fl,bf,dR⟩:=F.tw
 have un:=F.un
 rw[i9]at fl bf un
 have ib:Un (aG X.outer) [] X.gH H1 X.bw.heap s1.heap:=by have:=I.base;rw[hex]at this;exact this
 have tu:X.A.frames=some (X.env::X.outer):=by rw[←i9];exact I.ok.frames
 refine Ck _ _ (wpAny_leaves_onW (L:=X.env.locals) tu eG fl fun h' jk up=> ?_)
 refine⟨e,C,H',rfl,⟨F.os.trans I.os,F.bare,Jj (base:=X.base) (L:=X.env.locals) ib un eG I.ok.above I.ok.cE I.ok.eU bf fl.1 jk.1 up,YF F.ah dR fl.1 jk.1,B,a0,jk,fun b o hb hn=> ?_,dR⟩,hE⟩
 obtain⟨o1,e1⟩:=ib.there b o hb (by simp)
 refine bf b o1 e1 fun hm=> ?_
 have cU:b∈(X.env::X.outer).filterMap (·.frame):=hm
 rw[List.filterMap_cons_some (f:=fun(x:Env)=>x.frame) (a:=X.env) (b:=X.env.locals) eG]at cU
 rcases List.mem_cons.mp cU with q |q
 ·rw[q]at hb
  exact absurd (Nat.lt_of_lt_of_le (Heap.lt_size hb) I.ok.above) (Nat.lt_irrefl _)
 ·exact hn q
def gB (P:Program) (w:World) (K:PySem.W.Frag) (mg:Str→Option Value) (base:Heap) (N:List Str) (q:Str) (scope:Scope) (f:Addr) (cd:Value) (cl:List (Str×Addr)) (A:Around) (outer:List Env) (s:Shared) (H:Hp) (E:XK):Cx where
 prog:=P
 w:=w
 K:=K
 mg:=mg
 base:=base
 A:=A.deeper (PySem.W.envX q scope s.heap.objs.size f cd cl)
 N:=N
 bw:=s
 gH:=H
 env:=PySem.W.envX q scope s.heap.objs.size f cd cl
 outer:=outer
 stack:=PySem.W.envX q scope s.heap.objs.size f cd cl::outer
 ex:=[]
 calm:=true
 fn:=fun _=>false
 pn:=[]
 xe:=fun e s'=>wpAny (model P w) (A.deeper (PySem.W.envX q scope s.heap.objs.size f cd cl)) (leaving (PySem.W.envX q scope s.heap.objs.size f cd cl) e) (fun _ dZ=>bq P w outer H s E e dZ) (fun e' dZ=>bq P w outer H s E e' dZ) s'
structure Kb (base:Heap) (scope:Scope) (cl:List (Str×Addr)) (x y:Str) (vx vy:V):Prop where
 kx:scope.names.lookup x=some .free
 ky:scope.names.lookup y=some .free
 only:∀z,scope.names.lookup z=some .cell∨scope.names.lookup z=some .free→z=x∨z=y
 ne:x≠y
 cx:∃c u,cl.lookup x=some c∧base.IsCell c (some u)∧RelV vx u
 cy:∃c u,cl.lookup y=some c∧base.IsCell c (some u)∧RelV vy u
 mem:∀z c,cl.lookup z=some c→z=x∨z=y
 inj:∀c,cl.lookup x=some c→cl.lookup y=some c→False
theorem Y2 {h b1 b2:Heap} :∀{l:List Env},h.FunFrames b1 l→(∀b∈aG l,b2.get? b=none)→h.FunFrames b2 l
 | [],_,_=>trivial
 |env::r,⟨hk,⟨L,o,hf,_,ho,hd⟩,hr⟩,hn=> ⟨hk,⟨L,o,hf,hn L (List.mem_filterMap.mpr ⟨env,.head _,hf⟩),ho,hd⟩,Y2 hr fun b hb=>hn b (by
  obtain⟨e,he,q⟩:=List.mem_filterMap.mp hb
  exact List.mem_filterMap.mpr ⟨e,.tail _ he,q⟩)⟩
theorem Inv.rebase {X:Cx}{pins:List (Addr×Obj)}{σ:St}{H:Hp}{s:Shared}(I:Inv X pins σ H s):
  ∃bA,X.base.StaysIn bA∧mT X.prog X.w X.K X.mg bA X.A X.stack s H∧∀b o,s.heap.get? b=some o→H b=none→b∉aG X.stack→bA.get? b=some o:=by
 have bf:∀b o,s.heap.get? b=some o→H b=none→b∉aG X.stack→(PySem.W.hideAll (eT s.heap H) (aG X.stack)).get? b=some o:=fun b o e n hf=>PySem.W.hideAll_get _ (Wx e n) hf
 have st:X.base.StaysIn (PySem.W.hideAll (eT s.heap H) (aG X.stack)):=fun b o e=>bf b o (I.bs b o e).1 (I.bs b o e).2 fun hm=>by
  have:=(I.stack.mem hm).1
  rw[e]at this
  cases this
 refine⟨_,st,⟨I.ok.frames,⟨I.mod.i4.keeps st,I.mod.glob.keeps st,?_,I.mod.nolimit.keeps st⟩,fun b o e=>W9 (PySem.W.of_hideAll _ e),?_,Y2 I.stack fun b hb=>PySem.W.hideAll_none _ hb,I.kJ,I.ah,I.bare⟩,bf⟩
 ·obtain⟨mb,h1,h2⟩:=I.mod.blt
  exact⟨mb,h1.keeps st,h2⟩
 ·rw[PySem.W.hideAll_size,JR]
  exact Nat.le_refl _
def Ag (wi:TI) (ts:Nat) (aR:List Nat) (g:TG) (tt:TT) (ti:St→TC):TE:=fun σ H Q=>wi σ H fun J H1=>fK g tt (ti σ) J [] (gC ts aR σ) H1 fun ys _ H2=> ∀p,H2 p=none→Q (.ref p) (upd H2 p (.lst ys))
theorem UY {X:Cx}{elt tg iter:Expr}{ifs:List Expr}{rest:List Comprehension}{scope:Scope}{pos:Pos}{wi:TI}{g:TG}{tt:TT}{ti:St→TC}(N':List Str) (ts:Nat) (aR:List Nat) (hi:PI X tg iter wi) (pg:∀C s H fp,PG (aJ X N' scope C s H fp) tg g) (pt:∀C s H fp,ju (aJ X N' scope C s H fp) ifs tt)
  (pi:∀pins σ C s H fp D,Inv X pins σ H s→(∀b∈fp,bE X pins H b)→ko (aJ X N' scope C s H fp) D (inner elt (⟨tg,iter,ifs,0⟩::rest) scope pos 0 (.ref D) (aJ X N' scope C s H fp).env) (ti σ))
  (ok:mE X.env.scope scope X.N N' ts aR=true:=by rfl) (hc:X.calm=true:=by rfl) (h2:∀g',(Comprehension.mk tg iter ifs 0::rest)[0+1]? =some g'→g'.is_async=0:=by(intro g' h;cases h<;>rfl))
  (hs:∀x,foldedSetIterable iter X.env x=pure x:=by intro _;rfl):
  PE X (.ListComp elt (⟨tg,iter,ifs,0⟩::rest) scope pos) (Ag wi ts aR g tt ti):=by
 intro pins s σ H Q I h
 have S:=Jv ok
 rw[eval_ListComp]
 refine wpAny_comprehension_free (use:=none) rfl hs (Z5 fun y hy e=>I.ok.has _ (S.free y hy e)) S.kind S.names (aq (hi pins s σ H _ I h) fun v s1 h1=>aq h1 fun i5 s2 ke=> ?_)
 obtain⟨it,fp,tn,J,H2,e,I2,T,bS,f2,q2⟩:=ke
 subst e
 refine YS (RR:=fun acc C=>compPost (model X.prog X.w) X.A X.xe none _ acc C) S hc I2 T bS f2 h2 (fun C=>pg C _ _ _) (fun C=>pt C _ _ _) (fun C D=>pi pins σ C _ _ _ D I2 f2) q2 ?_
 intro C D s' aj H' ys fl hC hD gy J' n a q
 obtain⟨m,hn,_⟩:=J'.loc
 exact⟨m,hn,fun h' sb=> ⟨.ref D,_,Jy I2 f2 hC hD gy J' n a sb,rfl,q D n⟩⟩
def EM:Const→Option V
 | .int n=>some (.int n)
 | .bool b=>some (.bl b)
 | .str x=>some (.str x)
 | .none=>some .aa
 |_=>none
def kO:Expr→Option V
 | .Constant c _ _=>EM c
 | .UnaryOp .USub (.Constant (.int n) _ _) _=>some (.int (-n))
 | .BinOp (.Constant (.int a) _ _) .Pow (.Constant (.int b) _ _) _=>if 0≤b∧b≤1000000∧a.natAbs<2^64 then some (.int (a^b.toNat)) else none
 |_=>none
def kN:List Expr→Option (List V)
 | []=>some []
 |e::r=>match kO e,kN r with
  |some v,some vs=>some (v::vs)
  |_,_=>none
inductive Lit where
 |sc (v:V)
 |tup (xs:List V)
 |lst (xs:List V)
 |bD
def dz (H:Hp) (v:V):Lit→Prop
 | .sc u=>v=u
 | .tup xs=> ∃a:Addr,v=.ref a∧H a=some (.tup xs)
 | .lst xs=> ∃a:Addr,v=.ref a∧H a=some (.lst xs)
 | .bD=> ∃a:Addr,v=.ref a∧H a=some (.dK [])
theorem dz.same {H H':Hp}{v:V} :∀{l:Lit},dz H v l→ae H H'→dz H' v l
 | .sc _,h,_=>h
 | .tup _,⟨a,e,h⟩,s=> ⟨a,e,s _ _ h⟩
 | .lst _,⟨a,e,h⟩,s=> ⟨a,e,s _ _ h⟩
 | .bD,⟨a,e,h⟩,s=> ⟨a,e,s _ _ h⟩
def litOf:Expr→Option Lit
 | .Tuple es _ _=>match kN es with
  |some xs=>if xs.length≤1000 then some (.tup xs) else none
  |none=>none
 | .List es _=>match kN es with
  |some xs=>if xs.length≤1000 then some (.lst xs) else none
  |none=>none
 | .Dict [] [] _=>some .bD
 |e=> (kO e).map .sc
def litsOf:List Expr→Option (List Lit)
 | []=>some []
 |e::r=>match litOf e,litsOf r with
  |some v,some vs=>some (v::vs)
  |_,_=>none
section
variable {X:Cx}
theorem yA {e:Expr}{v:V}(h:kO e=some v):PE X e (tC v)∧(∀es,starEach (e::es) X.env=(false,eval e X.env)::starEach es X.env)∧∀a:Addr,v≠.ref a:=by
 unfold kO at h
 split at h
 ·rename_i c j p
  cases c with
  |int n=>cases h;exact⟨Zh,fun _=>rfl,fun a z=>by cases z⟩
  |bool b=>cases h;exact⟨yz,fun _=>rfl,fun a z=>by cases z⟩
  |str x=>cases h;exact⟨Yw,fun _=>rfl,fun a z=>by cases z⟩
  |none=>cases h;exact⟨ZX,fun _=>rfl,fun a z=>by cases z⟩
  |_=>cases h
 ·cases h
  refine⟨fun pins s σ H Q I q=>Gm Fw Zh pins s σ H Q I ⟨_,rfl,q⟩,fun _=>rfl,fun a z=>by cases z⟩
 ·split at h
  ·rename_i hc
   cases h
   refine⟨fun pins s σ H Q I q=>Zj U0 Zh Zh pins s σ H Q I ⟨_,_,rfl,rfl,hc,q⟩,fun _=>rfl,fun a z=>by cases z⟩
  ·cases h
 ·cases h
theorem WO:∀{es:List Expr}{vs:List V},kN es=some vs→PA X es (fun _ H Q=>Q vs H)
 | [],vs,h=>by cases h;exact Zb
 |e::r,vs,h=>by
  unfold kN at h
  split at h
  ·rename_i v ws h1 h2
   cases h
   obtain⟨p1,p2,_⟩:=yA (X:=X) h1
   exact fun pos pins s σ H Q I q=>Za p1 (WO h2) (p2 r) pos pins s σ H Q I q
  ·cases h
theorem F8 {e:Expr}{l:Lit}(h:litOf e=some l):PE X e (fun _ H Q=> ∀v H',ae H H'→dz H' v l→(∀a:Addr,v=.ref a→H a=none)→Q v H')∧∀es,starEach (e::es) X.env=(false,eval e X.env)::starEach es X.env:=by
 unfold litOf at h
 split at h
 ·split at h
  ·rename_i xs hx
   split at h
   ·rename_i hl
    cases h
    refine⟨fun pins s σ H Q I q=>Zz (WO hx) pins s σ H Q I ⟨Nat.le_of_lt (qe hl),fun p hp=>q _ _ (fun b o hb=>by rw[Ze (Zf hb hp)];exact hb) ⟨p,rfl,Zc⟩ fun a z=>by cases z;exact hp⟩,fun _=>rfl⟩
   ·cases h
  ·cases h
 ·split at h
  ·rename_i xs hx
   split at h
   ·rename_i hl
    cases h
    refine⟨fun pins s σ H Q I q=>Zl (WO hx) pins s σ H Q I ⟨Nat.le_of_lt (qe hl),fun p hp=>q _ _ (fun b o hb=>by rw[Ze (Zf hb hp)];exact hb) ⟨p,rfl,Zc⟩ fun a z=>by cases z;exact hp⟩,fun _=>rfl⟩
   ·cases h
  ·cases h
 ·cases h
  exact⟨fun pins s σ H Q I q=>Wn pins s σ H Q I fun p hp=>q _ _ (fun b o hb=>by rw[Ze (Zf hb hp)];exact hb) ⟨p,rfl,Zc⟩ fun a z=>by cases z;exact hp,fun _=>rfl⟩
 ·rename_i x0 h1 h2 h3
  cases hs:kO e with
  |none=>rw[hs]at h;cases h
  |some v=>
   rw[hs]at h
   cases h
   obtain⟨p1,p2,p3⟩:=yA (X:=X) hs
   exact⟨fun pins s σ H Q I q=>p1 pins s σ H Q I (q v H (ae.refl H) rfl fun a z=>absurd z (p3 a)),p2⟩
theorem YC:∀{es:List Expr}{ls:List Lit},litsOf es=some ls→PA X es (fun _ H Q=> ∀vs H',ae H H'→Paired (dz H') vs ls→(∀a,V.ref a∈vs→H a=none)→Q vs H')
 | [],ls,h=>by cases h;exact fun pos pins s σ H Q I q=>Zb pos pins s σ H Q I (q [] H (ae.refl H) .nil fun a z=>nomatch z)
 |e::r,ls,h=>by
  unfold litsOf at h
  split at h
  ·rename_i v ws h1 h2
   cases h
   obtain⟨p1,p2⟩:=F8 (X:=X) h1
   exact fun pos pins s σ H Q I q=>Za p1 (YC h2) (p2 r) pos pins s σ H Q I fun v1 H1 s1 l1 n1 vs H2 s2 pr n2=>q (v1::vs) H2 (s1.trans s2) (.cons (l1.same s2) pr) fun a z=>by
    rcases List.mem_cons.mp z with z |z
    ·exact n1 a z.symm
    ·exact s1.free (n2 a z)
  ·cases h
end
theorem JJ (n l1 l2:Nat) (h1:l1<n) (h2:l2<n):ZipApart (n+4) (n+2) (n+3) n (n+1) l1 l2:=by
 constructor<;>intro z<;>refine absurd (show @Eq Nat _ _ from z) ?_<;>omega
end L2
namespace L2
open PySem PySem.Spec PyProof.Rows SeqAt
def rM (items:Array Value) (x:Value) (i:Nat) (_:Option PySem.Fin×Unit):Sem (ForInStep (Option PySem.Fin×Unit)):=
 match items[i]? with
 |some y=> (do
  let b ←eqBool y x
  if b=true then (do let v ←retInt (i:Int);pure (ForInStep.done (some v,()))) else pure (ForInStep.yield (none,())))
 |_=>pure (ForInStep.yield (none,()))
theorem Ww {prog:Program}{w:World}{A:Around}{E:Value→Shared→Prop}{s:Shared}{items:Array Value}{x:Value}{e:Value→Bool}{j:Nat}{Q:Option PySem.Fin×Unit→Shared→Prop}(hj:j<items.size) (hit:e items[j]=true) (fN:∀m (hm:m<items.size),m<j→e items[m]=false)
  (he:∀y,y∈items→EqAt A s y x (e y)) (h:Q (some (.done (.ret (.int j s.toks))),()) {s with toks:=s.toks+1}):
  ∀k i,i+k=items.size→i≤j→wpAny (model prog w) A (forIn (List.range' i k) ((none:Option PySem.Fin),()) (rM items x)) Q E s
 |0,i,hk,hi=>by omega
 |k+1,i,hk,hi=>by
  have ar:i<items.size:=by omega
  rw[List.range'_succ,List.forIn_cons]
  refine wpAny_bind ?_
  unfold rM
  rw[Array.getElem?_eq_getElem ar]
  refine wpAny_bind (he _ (Array.getElem_mem ar) prog w _ _ ?_)
  by_cases sv:i=j
  ·subst sv
   rw[hit,if_pos rfl]
   refine wpAny_bind ?_
   wp_walk
   exact h
  ·rw[fN i ar (by omega),if_neg Bool.false_ne_true]
   refine wpAny_pure ?_
   exact Ww hj hit fN he h k (i+1) (by omega) (by omega)
theorem JC (l:Addr) (items:Array Value) (n:Nat) (dd:Option Addr) (sl:Array (Option Value)) (x:Value) (e:Value→Bool) (j:Nat) (hj:j<items.size) (hit:e items[j]=true) (fN:∀m (hm:m<items.size),m<j→e items[m]=false):
  Meets (Builtin.«tuple.index» ⟨[.ref l,x],[]⟩)
   (fun A R s=>s.heap.get? l=some {cls:=.type "tuple",dict:=dd,data:=.seq items n,slots:=sl}∧(∀y,y∈items→EqAt A.in1 s y x (e y))∧R (.ok (.ret (.int j s.toks))) {s with toks:=s.toks+1}):=
 .of_wp fun prog w A R s h=>by
  obtain⟨hp,g,d,tk,os⟩:=s;obtain⟨hl,he,h⟩:=h
  wp_walk using AutoSeq1.wpAny_loadPart' hl
  show wpAny (model prog w) A.in1 (forIn (m:=Sem) [:min items.size items.size] ((none:Option PySem.Fin),()) (rM items x)) _ _ _
  rw[Std.Legacy.Range.forIn_eq_forIn_range']
  refine Ww hj hit fN he ?_ _ _ (by simp[Std.Legacy.Range.size]) (Nat.zero_le _)
  exact wpAny_pure ⟨_,rfl,h⟩
def AV (K:PySem.W.Frag):V→List V→Hp→VK→Prop:=fun v vs H Q=> ∃(a:Addr) (xs:List V) (x:V) (j:Nat),v=.ref a∧vs=[x]∧ai K H a xs∧eV x=true∧xs.all eV=true∧(∃y,xs[j]? =some y∧cF y x=true)∧(∀m y,m<j→xs[m]? =some y→cF y x=false)∧Q (.int (j:Int)) H
theorem Ux {X:Cx} :yT X "tuple.index" (AV X.K):=by
 intro pins s σ H v vs u us Q I rv AR h
 obtain⟨a,xs,x,j,rfl,rfl,hq,fx,fs,⟨y,hy,ey⟩,fN,q⟩:=h
 cases rv
 obtain⟨ux,rfl,rx⟩:=vals1 AR
 obtain⟨its,r,pl,hz⟩:=I.tuple hq
 obtain⟨o,ho,hc,n,hd⟩:=id pl
 obtain⟨cls,dd,dt,sl⟩:=o
 replace hc:cls=.type "tuple" :=hc
 replace hd:dt=.seq its.toArray n:=hd
 subst hc hd
 obtain⟨uy,Cq,Il⟩:=r.get hy
 have lS:j<its.length:=(List.getElem?_eq_some_iff.mp Cq).1
 have mH:∀k (hk:k<its.length),∃z,xs[k]? =some z∧RelV z its[k]:=fun k hk=>by
  have j6:k<xs.length:=by rw[r.length];exact hk
  obtain⟨w,hw,fc⟩:=r.get (List.getElem?_eq_getElem j6)
  rw[List.getElem?_eq_getElem hk]at hw
  cases hw
  exact⟨_,List.getElem?_eq_getElem j6,fc⟩
 have eqs:∀(A:Around) (k:Nat) (hk:k<its.length) z,xs[k]? =some z→EqAt A s its[k] ux (cF z x):=fun A k hk z hG=>by
  obtain⟨z',bU,rz⟩:=mH k hk
  rw[hG]at bU
  cases bU
  exact yG rz rx (List.all_eq_true.mp fs z (List.mem_of_getElem? hG)) fx
 have vd:∀k l' (hk:k<its.length) (hl:l'<its.length) zk zl,xs[k]? =some zk→xs[l']? =some zl→its[k]=its[l']→cF zk x=cF zl x:=fun k l' hk hl zk zl h1 h2 he=>by
  obtain⟨z1,e1,r1⟩:=mH k hk
  obtain⟨z2,e2,r2⟩:=mH l' hl
  rw[h1]at e1;rw[h2]at e2
  cases e1;cases e2
  rw[he]at r1
  have f1:=List.all_eq_true.mp fs zk (List.mem_of_getElem? h1)
  have f2:=List.all_eq_true.mp fs zl (List.mem_of_getElem? h2)
  have:zk=zl:=by
   generalize its[l']=val at r1 r2
   cases zk<;>cases zl<;>first
    |rfl
    |(exact absurd f1 Bool.false_ne_true)
    |(exact absurd f2 Bool.false_ne_true)
    |(cases r1;cases r2;rfl)
    |(cases r1;cases r2;done)
    |(obtain⟨_,rfl⟩:=r1;obtain⟨_,e⟩:=r2;cases e;rfl)
    |(obtain⟨_,rfl⟩:=r1;obtain⟨_,e⟩:=r2;cases e;done)
    |(obtain⟨_,rfl⟩:=r1;cases r2;done)
    |(cases r1;obtain⟨_,e⟩:=r2;cases e;done)
  rw[this]
 classical
 refine call_meets F.slot_tuple_index ⟨_,ho,rfl⟩ F.entry_tuple_index (F.args_tuple_index_2 _ _)
  (JC a its.toArray n dd sl ux (fun val=>decide (∃(k:Nat) (z:V),its[k]? =some val∧xs[k]? =some z∧cF z x=true)) j (by simpa using lS) ?_ ?_) ⟨ho,fun val Co=> ?_,?_⟩
 ·refine decide_eq_true ⟨j,y,?_,hy,ey⟩
  simp[lS]
 ·intro m hm C0
  refine decide_eq_false ?_
  rintro⟨k,z,hk,hG,ez⟩
  have cU:m<its.length:=by simpa using hm
  obtain⟨zm,wz,_⟩:=mH m cU
  have cD:=(List.getElem?_eq_some_iff.mp hk)
  obtain⟨il,lR⟩:=cD
  have e2:=vd k m il cU z zm hG wz (by rw[lR];simp)
  rw[ez,fN m zm C0 wz]at e2
  cases e2
 ·have Cn:val∈its:=by simpa using Co
  obtain⟨k,il,lR⟩:=List.getElem_of_mem Cn
  obtain⟨z,hG,rz⟩:=mH k il
  have ee:=eqs X.A.in1 k il z hG
  rw[lR]at ee
  have:decide (∃(k:Nat) (z:V),its[k]? =some val∧xs[k]? =some z∧cF z x=true)=cF z x:=by
   cases hb:cF z x with
   |true=>exact decide_eq_true ⟨k,z,by rw[List.getElem?_eq_getElem il,lR],hG,hb⟩
   |false=>
    refine decide_eq_false ?_
    rintro⟨k2,z2,h1,h2,h3⟩
    obtain⟨gr,ka⟩:=List.getElem?_eq_some_iff.mp h1
    have:=vd k2 k gr il z2 z h2 hG (by rw[ka,lR])
    rw[h3,hb]at this
    cases this
  rw[this]
  exact ee
 ·exact⟨.int (j:Int),H,I.tok _,⟨_,rfl⟩,q⟩
theorem Z6 {α β:Type}{F:α→β→Prop} :∀{g8:List α}{g7:List β}{i:Nat}{x:α},Paired F g8 g7→g8[i]? =some x→∃y,g7[i]? =some y∧F x y
 |_,_,_,_,.nil,h=>by simp at h
 |_,_,0,_,.cons r _,h=>by simp at h;subst h;exact⟨_,rfl,r⟩
 |_,_,i+1,_,.cons _ t,h=>by
  obtain⟨y,e,q⟩:=Z6 t (i:=i) (by simpa using h)
  exact⟨y,by simpa using e,q⟩
section
variable {X:Cx}
theorem Wh {a b:String} :cX X (.builtin "isinstance") (fun xs H Q=> ∃(x:V) (t:Addr) (T:Value) (r:Bool),xs=[x,.ref t]∧ai X.K H t [.ty a,.ty b]∧((∃i,x=.int i∧T=.type "int")∨∃l ys,x=.ref l∧H l=some (.lst ys)∧T=.type "list")∧
  PySem.W.kitAny X.K T [.type a,.type b]=some r∧Q (.bl r) H):=by
 intro pins s σ H xs us Q I rv h
 obtain⟨x,t,T,r,rfl,hq,hx,hk,q⟩:=h
 obtain⟨u,v,rfl,ru,rv⟩:=vals2 rv
 cases rv
 obtain⟨its,rt,pl,hz⟩:=I.tuple hq
 cases rt with
 |cons r1 r2=>
  cases r2 with
  |cons r3 r4=>
   cases r4
   cases r1
   cases r3
   obtain⟨o,ho,hc,n,hd⟩:=id pl
   obtain⟨cls,dd,dt,sl⟩:=o
   replace hc:cls=.type "tuple" :=hc
   replace hd:dt=.seq [Value.type a,Value.type b].toArray n:=hd
   subst hc hd
   rcases hx with ⟨i,rfl,rfl⟩ |⟨l,ys,rfl,hl,rfl⟩
   ·obtain⟨tk,rfl⟩:=ru
    exact PySem.W.kia_tup PySem.W.kitx_int I.bc True.intro ho hk (fun z=>nomatch z) fun tk=> ⟨.bl r,H,I.tok _,rfl,q⟩
   ·cases ru
    obtain⟨_,_,n,_,h1⟩:=(show aU X.prog X.w H s.heap l (.lst ys) from I.ah l _ hl)
    exact PySem.W.kia_tup PySem.W.kitx_list I.bc ⟨_,h1,rfl⟩ ho hk (fun z=>nomatch z) fun tk=> ⟨.bl r,H,I.tok _,rfl,q⟩
def um (K:PySem.W.Frag) (H:Hp) (x y:V):Prop:=(∃i:Int,x=.int i∧y=.int i)∨∃(a b:Addr) (ns:List Int),x=.ref a∧y=.ref b∧af K H a (ns.map V.int)∧af K H b (ns.map V.int)
theorem FF {s:Shared}{ns:List Int}{us vs:List Value}(A:Around) (r1:Vals (ns.map V.int) us) (r2:Vals (ns.map V.int) vs):∀j (h1:j<us.toArray.size) (h2:j<vs.toArray.size),EqAt A s us.toArray[j] vs.toArray[j] true:=fun j h1 h2=>by
 have l1:=r1.length
 have hj:j<ns.length:=by simp at h1 l1;omega
 have e:(ns.map V.int)[j]? =some (V.int ns[j]):=by simp[hj]
 obtain⟨u,hu,ru⟩:=r1.get e
 obtain⟨v,hv,rv⟩:=r2.get e
 obtain⟨t1,rfl⟩:=ru
 obtain⟨t2,rfl⟩:=rv
 have e1:us.toArray[j]=Value.int ns[j] t1:=by simpa using (List.getElem?_eq_some_iff.mp hu).2
 have e2:vs.toArray[j]=Value.int ns[j] t2:=by simpa using (List.getElem?_eq_some_iff.mp hv).2
 rw[e1,e2]
 have z:=EqAt.int_int (A:=A) (s:=s) ns[j] t1 ns[j] t2
 simpa using z
theorem FO {pins:List (Addr×Obj)}{σ:St}{H:Hp}{s:Shared}{x y:V}{u v:Value}(A:Around) (hu:A.units<cLine) (I:Inv X pins σ H s) (h:um X.K H x y) (ru:RelV x u) (rv:RelV y v):EqAt A s u v true:=by
 rcases h with ⟨i,rfl,rfl⟩ |⟨a,b,ns,rfl,rfl,ha,hb⟩
 ·obtain⟨t1,rfl⟩:=ru
  obtain⟨t2,rfl⟩:=rv
  have z:=EqAt.int_int (A:=A) (s:=s) i t1 i t2
  simpa using z
 ·cases ru
  cases rv
  by_cases fT:a=b
  ·subst fT
   exact EqAt.same _
  ·obtain⟨us,r1,p1,_⟩:=I.list ha
   obtain⟨vs,r2,p2,_⟩:=I.list hb
   have eC:us.toArray.size=vs.toArray.size:=by have:=r1.length;have:=r2.length;simp at *;omega
   have z:=RcAt.lists (e:=fun _=>true) p1.isList p2.isList eC hu (FF A.in1 r1 r2)
   have e:(List.range us.toArray.size).all (fun _=>true)=true:=by simp
   rw[e]at z
   exact EqAt.of_refs fT z
def A0 (K:PySem.W.Frag) (r:Bool):R2:=fun x y H Q=> ∃(a b:Addr) (xs ys:List V),x=.ref a∧y=.ref b∧af K H a xs∧af K H b ys∧Paired (um K H) xs ys∧Q (.bl r) H
theorem FJ {pins:List (Addr×Obj)}{σ:St}{H:Hp}{s:Shared}{xs ys:List V}{us vs:List Value}(A:Around) (hu:A.units<cLine) (I:Inv X pins σ H s) (pr:Paired (um X.K H) xs ys) (r1:Vals xs us) (r2:Vals ys vs):∀j (h1:j<us.toArray.size) (h2:j<vs.toArray.size),EqAt A s us.toArray[j] vs.toArray[j] true:=fun j h1 h2=>by
 have l1:=r1.length
 have hj:j<xs.length:=by simp at h1;omega
 obtain⟨y,hy,e⟩:=Z6 pr (List.getElem?_eq_getElem hj)
 obtain⟨u,lJ,ru⟩:=r1.get (List.getElem?_eq_getElem hj)
 obtain⟨v,lI,rv⟩:=r2.get hy
 have e1:us.toArray[j]=u:=by simpa using (List.getElem?_eq_some_iff.mp lJ).2
 have e2:vs.toArray[j]=v:=by simpa using (List.getElem?_eq_some_iff.mp lI).2
 rw[e1,e2]
 exact FO A hu I e ru rv
theorem WQ (hu:X.A.units+1<cLine):aO X (compareOp .NotEq) (A0 X.K false):=by
 intro pins s σ H x y u v Q I rx ry h
 obtain⟨a,b,xs,ys,rfl,rfl,ha,hb,pr,q⟩:=h
 cases rx
 cases ry
 obtain⟨us,r1,p1,_⟩:=I.list ha
 obtain⟨vs,r2,p2,_⟩:=I.list hb
 have eC:us.toArray.size=vs.toArray.size:=by have:=r1.length;have:=r2.length;have:=Paired.length pr;simp at *;omega
 refine RcNeAt.lists (e:=fun _=>true) p1.isList p2.isList eC (Nat.lt_of_succ_lt hu) (FJ X.A.in1 hu I pr r1 r2) _ _ _ _ ?_
 have e:(List.range us.toArray.size).all (fun _=>true)=true:=by simp
 rw[e]
 exact⟨.bl false,H,I,rfl,q⟩
theorem Yb {ns:List Int}{us:List Value}(r:Vals (ns.map V.int) us) (j:Nat) (h:j<us.length):∃t,us[j]=.int (ns.getD j 0) t:=by
 have hl:=r.length
 rw[List.length_map]at hl
 have hj:j<ns.length:=by omega
 obtain⟨u,hu,t,ru⟩:=r.get (i:=j) (x:=.int ns[j]) (by rw[List.getElem?_map,List.getElem?_eq_getElem hj];rfl)
 rw[List.getElem?_eq_getElem h]at hu
 cases hu
 exact⟨t,by rw[ru];simp[hj]⟩
theorem F7 (hu:X.A.units<cLine):aO X (compareOp .Eq) (fun x y H Q=> ∃(a b:Addr) (ns ms:List Int),x=.ref a∧y=.ref b∧af X.K H a (ns.map V.int)∧af X.K H b (ms.map V.int)∧Q (.bl (decide (ns=ms))) H):=by
 intro pins s σ H x y u v Q I rx ry h
 obtain⟨a,b,ns,ms,rfl,rfl,ha,hb,q⟩:=h
 cases rx
 cases ry
 obtain⟨us,r1,p1,_⟩:=I.list ha
 obtain⟨vs,r2,p2,_⟩:=I.list hb
 have l1:=r1.length
 have l2:=r2.length
 rw[List.length_map]at l1 l2
 by_cases hl:ns.length=ms.length
 ·refine eq_listAt (e:=fun j=>ns.getD j 0==ms.getD j 0) p1.isList p2.isList (by simp;omega) hu (fun j h1 h2=> ?_) ?_
  ·obtain⟨t1,e1⟩:=Yb r1 j (by simpa using h1)
   obtain⟨t2,e2⟩:=Yb r2 j (by simpa using h2)
   rw[show us.toArray[j]=us[j]'(by simpa using h1) by simp,show vs.toArray[j]=vs[j]'(by simpa using h2) by simp,e1,e2]
   exact SeqAt.EqAt.int_int _ _ _ _
  ·have e:(List.range us.toArray.size).all (fun j=>ns.getD j 0==ms.getD j 0)=decide (ns=ms):=by
    rw[Bool.eq_iff_iff,List.all_eq_true,decide_eq_true_eq]
    constructor
    ·intro h
     refine List.ext_getElem hl fun i h1 h2=> ?_
     have:=h i (by rw[List.mem_range,List.size_toArray];omega)
     simpa[h1,h2] using this
    ·rintro rfl j _
     simp
   rw[e]
   exact⟨.bl _,H,I,rfl,q⟩
 ·refine eq_list_lengthsAt p1.isList p2.isList (by simp;omega) hu ?_
  rw[decide_eq_false (fun z=>hl (by rw[z]))]at q
  exact⟨.bl false,H,I,rfl,q⟩
end
end L2
namespace L2
open PySem PySem.Spec PyProof.Rows
structure One (base:Heap) (scope:Scope) (cl:List (Str×Addr)) (x:Str) (vx:V):Prop where
 kx:scope.names.lookup x=some .free
 only:∀z,scope.names.lookup z=some .cell∨scope.names.lookup z=some .free→z=x
 cx:∃c u,cl.lookup x=some c∧base.IsCell c (some u)∧RelV vx u
 mem:∀z c,cl.lookup z=some c→z=x
structure Src (prog:Program) (w:World) (i l:Addr) (n:Nat) (f:Nat→Value) (S:Nat→Heap→Prop):Prop where
 here:∀k h,S k h→∃o,h.get? i=some o
 bj:∀k h h',S k h→(∀c,c=i∨c=l→∀o,h.get? c=some o→h'.get? c=some o)→S k h'
 item:∀(A:Around) k (s:Shared) (Q:Value→Shared→Prop) (E:Value→Shared→Prop),k<n→S k s.heap→(∀h',S (k+1) h'→Heap.SameBut i s.heap h'→Q (f k) {s with heap:=h'})→wpAny (model prog w) A (Builtin.SmallTypes.nextOf (.ref i)) Q E s
 stop:∀(A:Around) (s:Shared) (Q:Value→Shared→Prop) (E:Value→Shared→Prop),A.handled=none→S n s.heap→(∀h' e,Heap.ExtBut i s.heap h'→(∃o,h'.get? e=some o∧o.cls=.type "StopIteration")→E (.ref e) {s with heap:=h'})→wpAny (model prog w) A (Builtin.SmallTypes.nextOf (.ref i)) Q E s
theorem YA (prog:Program) (w:World) {i l:Addr}(its:Array Value) (bB:l≠i):Src prog w i l its.size (fun k=>its.getD k .none) (fun k h=>IsTupIter h i l k∧IsTup h l its) where
 here:=fun k h ⟨⟨o,ho,_⟩,_⟩=> ⟨o,ho⟩
 bj:=fun k h h' ⟨⟨o,ho,r⟩,⟨u,hu,r'⟩⟩ st=> ⟨⟨o,st i (.inl rfl) o ho,r⟩,⟨u,st l (.inr rfl) u hu,r'⟩⟩
 item:=fun A k s Q E hk ⟨hi,ht⟩ q=>by
  obtain⟨oi,gi,ci,di⟩:=id hi
  obtain⟨ot,gt,ct,nt,dt⟩:=id ht
  have hx:its[k]? =some (its.getD k .none):=by simp[hk]
  unfold Builtin.SmallTypes.nextOf
  refine wpAny_bind (wpAny_callSpecial?_slot (name:=Str.ofString "__next__") hi.typeIs slot_tupleiter_next (wpAny_call_entry slot_tupleiter_next hi.typeIs entry_tupleiter_next ?_ (args_tupleiter_next _)))
  refine(show wpAny _ _ (field (.ref i) 0 >>=_) _ _ s from wpAny_bind (wpAny_field gi di (x:=.ref l) rfl ?_))
  refine(show wpAny _ _ (if (Value.ref l==Value.none)=true then _ else _) _ _ s from ?_)
  rw[if_neg (by exact Bool.false_ne_true)]
  refine(show wpAny _ _ (field (.ref i) 1 >>=_) _ _ s from wpAny_bind (wpAny_field gi di (x:=.int k 0) rfl ?_))
  refine(show wpAny _ _ (seqItems? (.ref l) >>=_) _ _ s from wpAny_bind (wpAny_seqItems gt dt ?_))
  simp only[Int.toNat_natCast,hx]
  refine wpAny_bind (wpAny_setField gi di (by simp) (wpAny_pure ⟨_,rfl,wpAny_pure (q _ ⟨⟨_,Heap.get?_update_self _ gi (Obj.isFreed_of_fields (Obj.data_mapFields di _)),(Obj.cls_mapFields ..).trans ci,?_⟩,?_⟩ (Heap.SameBut.update ..))⟩))
  ·rw[Obj.data_mapFields di];simp[rawInt]
  ·exact⟨ot,(Heap.SameBut.update ..).extBut _ _ bB gt,ct,nt,dt⟩
 stop:=fun A s Q E hh ⟨hi,ht⟩ q=>by
  obtain⟨oi,gi,ci,di⟩:=id hi
  obtain⟨ot,gt,ct,nt,dt⟩:=id ht
  have hx:its[its.size]? =none:=by simp
  unfold Builtin.SmallTypes.nextOf
  refine wpAny_bind (wpAny_callSpecial?_slot (name:=Str.ofString "__next__") hi.typeIs slot_tupleiter_next (wpAny_call_entry slot_tupleiter_next hi.typeIs entry_tupleiter_next ?_ (args_tupleiter_next _)))
  refine(show wpAny _ _ (field (.ref i) 0 >>=_) _ _ s from wpAny_bind (wpAny_field gi di (x:=.ref l) rfl ?_))
  refine(show wpAny _ _ (if (Value.ref l==Value.none)=true then _ else _) _ _ s from ?_)
  rw[if_neg (by exact Bool.false_ne_true)]
  refine(show wpAny _ _ (field (.ref i) 1 >>=_) _ _ s from wpAny_bind (wpAny_field gi di (x:=.int its.size 0) rfl ?_))
  refine(show wpAny _ _ (seqItems? (.ref l) >>=_) _ _ s from wpAny_bind (wpAny_seqItems gt dt ?_))
  simp only[Int.toNat_natCast,hx]
  refine wpAny_bind (wpAny_rule (wpAny_bind (wpAny_setField gi di (by simp) ?_)))
  refine(show wpAny _ _ (newExc (.type "StopIteration") [] >>=_) _ _ _ from wpAny_bind ?_)
  simp only[newExc,newTuple]
  refine wpAny_bind (wpAny_newObj_type ?_ (by size_fits))
  refine wpAny_bind (m:=firstArgMember _ _) (wpAny_of_eq (a:=Value.none) (by first |rfl |(simp only[firstArgMember];rfl)) ?_)
  refine wpAny_newObj_type ?_ (by size_fits)
  simp only[raiseNew]
  refine wpAny_bind (wpAny_handled ?_)
  first |rw[show A.in1.handled=none from hh] |rw[hh]
  refine wpAny_bind (wpAny_pure (wpAny_throw ?_))
  exact q _ _ (((Heap.SameBut.update ..).extBut.push _).push _) ⟨_,Heap.get?_push_size _ rfl,rfl⟩
section
variable {prog:Program}{w:World}{A:Around}{E:Value→Shared→Prop}{s:Shared}{z TI TO i1 i2 l1 l2:Addr}{n k:Nat}{f g:Nat→Value}{S1 S2:Nat→Heap→Prop}
theorem Hh {a b:Value}{Q:Value→Shared→Prop}(U1:Src prog w i1 l1 n f S1) (U2:Src prog w i2 l2 n g S2) (D:ZipApart z TI TO i1 i2 l1 l2) (hk:k<n) (hz:IsZip s.heap z TI TO .none) (hI:IsPair s.heap TI (.ref i1) (.ref i2)) (hO:IsPair s.heap TO a b) (h1:S1 k s.heap) (h2:S2 k s.heap)
    (q:∀h',IsZip h' z TI TO (rawInt s.heap.objs.size)→IsPair h' TO (f k) (g k)→S1 (k+1) h'→S2 (k+1) h'→IsPair h' s.heap.objs.size (f k) (g k)→h'.objs.size=s.heap.objs.size+1→
      (∀c o,c≠z→c≠TO→c≠i1→c≠i2→s.heap.get? c=some o→h'.get? c=some o)→Q (.ref s.heap.objs.size) {s with heap:=h'}):
    wpAny (model prog w) A (Builtin.«zip.__next__» ⟨[.ref z],[]⟩) (fun fin s'=> ∃v,fin=.done (.ret v)∧Q v s') E s:=by
  refine(show wpAny _ _ (field (.ref z) 2 >>=_) _ _ _ from wpAny_bind (wpAny_field hz rfl (x:=.bool false) rfl ?_))
  refine(show wpAny _ _ (field (.ref z) 3 >>=_) _ _ _ from wpAny_bind (wpAny_field hz rfl (x:=.ref TI) rfl (wpAny_bind (wpAny_seqItems hI rfl ?_))))
  refine(show wpAny _ _ (Builtin.SmallTypes.ownedTupleIsFree (.ref z) >>=_) _ _ _ from wpAny_bind ?_)
  unfold Builtin.SmallTypes.ownedTupleIsFree
  refine wpAny_bind (wpAny_field hz rfl (x:=.none) rfl (wpAny_pure ?_))
  simp only[if_true]
  refine wpAny_bind (wpAny_rule (wpAny_bind (wpAny_field hz rfl (x:=.ref TO) rfl (wpAny_bind (wpAny_setField_rec hz (by simp) fun m1 iM e1=> ?_)))))
  replace iM:IsZip m1 z TI TO .ellipsis:=iM
  have b1:=e1.extBut
  refine wpAny_bind ?_
  simp only[List.zipIdx_cons,List.zipIdx_nil,List.forIn_cons,List.forIn_nil]
  refine wpAny_bind (wpAny_bind (wpAny_onRaise ?_))
  have cN:S1 k m1:=U1.bj _ _ _ h1 fun c hc o ho=>by rcases hc with rfl |rfl<;>first |exact b1 _ _ D.i1z ho |exact b1 _ _ D.l1z ho
  refine(show wpAny _ _ (Builtin.SmallTypes.nextOf (.ref i1) >>=_) _ _ _ from wpAny_bind (U1.item _ k _ _ _ hk cN fun m2 bS e2=>wpAny_pure ?_))
  have b2:=e2.extBut
  have o2:IsPair m2 TO a b:=b2 _ _ D.TOi1 (b1 _ _ D.TOz hO)
  refine wpAny_bind (wpAny_seqItems o2 rfl (wpAny_bind (wpAny_updateSeq_pair o2 fun m3 o3 e3=> ?_)))
  replace o3:IsPair m3 TO (f k) b:=o3
  have b3:=e3.extBut
  refine wpAny_bind (wpAny_letGo (wpAny_pure (wpAny_bind (wpAny_bind (wpAny_onRaise ?_)))))
  have w3:S2 k m3:=U2.bj _ _ _ h2 fun c hc o ho=>by
    rcases hc with rfl |rfl
    · exact b3 _ _ D.TOi2.symm (b2 _ _ D.i12.symm (b1 _ _ D.i2z ho))
    · exact b3 _ _ D.l2TO (b2 _ _ D.l2i1 (b1 _ _ D.l2z ho))
  refine(show wpAny _ _ (Builtin.SmallTypes.nextOf (.ref i2) >>=_) _ _ _ from wpAny_bind (U2.item _ k _ _ _ hk w3 fun m4 w4 e4=>wpAny_pure ?_))
  have b4:=e4.extBut
  have o4:IsPair m4 TO (f k) b:=b4 _ _ D.TOi2 o3
  refine wpAny_bind (wpAny_seqItems o4 rfl (wpAny_bind (wpAny_updateSeq_pair o4 fun m5 o5 e5=> ?_)))
  replace o5:IsPair m5 TO (f k) (g k):=o5
  have b5:=e5.extBut
  refine wpAny_bind (wpAny_letGo (wpAny_pure (wpAny_pure (wpAny_bind (wpAny_seqItems o5 rfl (wpAny_bind (wpAny_newTuple ?_)))))))
  have sz:m5.objs.size=s.heap.objs.size:=by rw[e5.1,e4.1,e3.1,e2.1,e1.1]
  have z5:IsZip m5 z TI TO .ellipsis:=b5 _ _ D.TOz.symm (b4 _ _ D.i2z.symm (b3 _ _ D.TOz.symm (b2 _ _ D.i1z.symm iM)))
  have kp:∀c o,c≠z→c≠TO→c≠i1→c≠i2→s.heap.get? c=some o→m5.get? c=some o:=fun c o c1 c2 c3 c4 e=>b5 _ _ c2 (b4 _ _ c4 (b3 _ _ c2 (b2 _ _ c3 (b1 _ _ c1 e))))
  have dh:S1 (k+1) m5:=U1.bj _ _ _ bS fun c hc o ho=>by
    rcases hc with rfl |rfl
    · exact b5 _ _ D.TOi1.symm (b4 _ _ D.i12 (b3 _ _ D.TOi1.symm ho))
    · exact b5 _ _ D.l1TO (b4 _ _ D.l1i2 (b3 _ _ D.l1TO ho))
  have w5:S2 (k+1) m5:=U2.bj _ _ _ w4 fun c hc o ho=>by rcases hc with rfl |rfl<;>first |exact b5 _ _ D.TOi2.symm ho |exact b5 _ _ D.l2TO ho
  have uu:z<m5.objs.size:=Heap.lt_size z5
  refine(show wpAny _ _ (Builtin.SmallTypes.ownedTupleHandOut (.ref z) (.ref m5.objs.size) >>=_) _ _ _ from wpAny_bind ?_)
  unfold Builtin.SmallTypes.ownedTupleHandOut
  have z6:IsZip (m5.push {cls:=.type "tuple",data:=.seq #[f k,g k]}) z TI TO .ellipsis:=Heap.get?_push_of_some _ z5
  refine wpAny_bind (wpAny_setField_rec z6 (by simp) fun m7 z7 e7=> ?_)
  replace z7:IsZip m7 z TI TO (rawInt m5.objs.size):=z7
  refine wpAny_setField_rec z7 (by simp) fun m8 z8 e8=> ?_
  replace z8:IsZip m8 z TI TO (rawInt m5.objs.size):=z8
  have up:∀c o,c≠z→m5.get? c=some o→m8.get? c=some o:=fun c o c1 e=>e8.extBut _ _ c1 (e7.extBut _ _ c1 (Heap.get?_push_of_some _ e))
  have t8:IsPair m8 m5.objs.size (f k) (g k):=e8.extBut _ _ (Nat.ne_of_gt uu) (e7.extBut _ _ (Nat.ne_of_gt uu) (Heap.get?_push_size _ rfl))
  have s8:m8.objs.size=m5.objs.size+1:=by rw[e8.1,e7.1,Heap.size_push]
  rw[sz]at z8 t8 s8
  refine wpAny_pure ⟨_,rfl,?_⟩
  show Q (.ref m5.objs.size) _
  rw[sz]
  refine q m8 z8 (up _ _ D.TOz o5) (U1.bj _ _ _ dh fun c hc o ho=> ?_) (U2.bj _ _ _ w5 fun c hc o ho=> ?_) t8 s8 fun c o c1 c2 c3 c4 e=>up c o c1 (kp c o c1 c2 c3 c4 e)
  · rcases hc with rfl |rfl<;>first |exact up _ _ D.i1z ho |exact up _ _ D.l1z ho
  · rcases hc with rfl |rfl<;>first |exact up _ _ D.i2z ho |exact up _ _ D.l2z ho
theorem Fx {a b:Value}{Q:PySem.Fin→Shared→Prop}(hh:A.handled=none) (U1:Src prog w i1 l1 n f S1) (D:ZipApart z TI TO i1 i2 l1 l2) (hz:IsZip s.heap z TI TO .none) (hI:IsPair s.heap TI (.ref i1) (.ref i2)) (hO:IsPair s.heap TO a b) (h1:S1 n s.heap)
  (q:∀h' e,(∀c o,c≠z→c≠TO→c≠i1→c≠i2→s.heap.get? c=some o→h'.get? c=some o)→(∃o,h'.get? e=some o∧o.cls=.type "StopIteration")→E (.ref e) {s with heap:=h'}):
  wpAny (model prog w) A (Builtin.«zip.__next__» ⟨[.ref z],[]⟩) Q E s:=by
 refine(show wpAny _ _ (field (.ref z) 2 >>=_) _ _ _ from wpAny_bind (wpAny_field hz rfl (x:=.bool false) rfl ?_))
 refine(show wpAny _ _ (field (.ref z) 3 >>=_) _ _ _ from wpAny_bind (wpAny_field hz rfl (x:=.ref TI) rfl (wpAny_bind (wpAny_seqItems hI rfl ?_))))
 refine(show wpAny _ _ (Builtin.SmallTypes.ownedTupleIsFree (.ref z) >>=_) _ _ _ from wpAny_bind ?_)
 unfold Builtin.SmallTypes.ownedTupleIsFree
 refine wpAny_bind (wpAny_field hz rfl (x:=.none) rfl (wpAny_pure ?_))
 simp only[if_true]
 refine wpAny_bind (wpAny_rule (wpAny_bind (wpAny_field hz rfl (x:=.ref TO) rfl (wpAny_bind (wpAny_setField_rec hz (by simp) fun m1 iM e1=> ?_)))))
 replace iM:IsZip m1 z TI TO .ellipsis:=iM
 have b1:=e1.extBut
 refine wpAny_bind ?_
 simp only[List.zipIdx_cons,List.zipIdx_nil,List.forIn_cons,List.forIn_nil]
 refine wpAny_bind (wpAny_bind (wpAny_onRaise ?_))
 have cN:S1 n m1:=U1.bj _ _ _ h1 fun c hc o ho=>by rcases hc with rfl |rfl<;>first |exact b1 _ _ D.i1z ho |exact b1 _ _ D.l1z ho
 refine(show wpAny _ _ (Builtin.SmallTypes.nextOf (.ref i1) >>=_) _ _ _ from wpAny_bind (U1.stop _ _ _ _ hh cN fun m2 e e2 he=> ?_))
 obtain⟨oe,ge,ce⟩:=he
 have z2:IsZip m2 z TI TO .ellipsis:=e2 _ _ D.i1z.symm iM
 have BF:e≠z:=fun y=>by subst y;rw[z2]at ge;cases ge;simp at ce
 refine wpAny_setField_rec z2 (by simp) fun m3 _ e3=>q m3 e (fun c o c1 _ c3 _ x=>e3.extBut _ _ c1 (e2 _ _ c3 (b1 _ _ c1 x))) ⟨oe,e3.extBut _ _ BF ge,ce⟩
end
section
variable {prog:Program}{w:World}{A:Around}{z TI TO i1 i2 l1 l2:Addr}{n:Nat}{f g:Nat→Value}{S1 S2:Nat→Heap→Prop}
theorem Wj (hh:A.handled=none) (U1:Src prog w i1 l1 n f S1) (U2:Src prog w i2 l2 n g S2) (D:ZipApart z TI TO i1 i2 l1 l2):
  WalksT prog w A z [z,TI,TO,i1,i2,l1,l2] [z,TO,i1,i2] n (fun k vals=>vals= #[f k,g k])
   (fun k h=>IsZip h z TI TO .none∧IsPair h TI (.ref i1) (.ref i2)∧(∃a b,IsPair h TO a b)∧S1 k h∧S2 k h)
   (fun k T h=>IsZip h z TI TO (rawInt T)∧IsPair h TI (.ref i1) (.ref i2)∧(∃a b,IsPair h TO a b)∧S1 (k+1) h∧S2 (k+1) h∧T∉[z,TO,i1,i2]) where
 sub:=fun c hc=>by
  simp only[List.mem_cons,List.not_mem_nil,or_false]at hc ⊢
  rcases hc with rfl |rfl |rfl |rfl<;>simp
 frame:=fun k h h' ⟨a1,a2,⟨a,b,a3⟩,a4,a5⟩ kp=> ⟨kp z (by simp) _ a1,kp TI (by simp) _ a2,⟨a,b,kp TO (by simp) _ a3⟩,U1.bj _ _ _ a4 fun c hc o=>kp c (by rcases hc with rfl |rfl<;>simp) o,U2.bj _ _ _ a5 fun c hc o=>kp c (by rcases hc with rfl |rfl<;>simp) o⟩
 item:=fun k s Q E hk ⟨a1,a2,⟨a,b,a3⟩,a4,a5⟩ q=>by
  have ty:s.TypeIs (.ref z) "zip" :=⟨_,a1,rfl⟩
  have ne:∀{c o},s.heap.get? c=some o→s.heap.objs.size≠c:=fun e=>Nat.ne_of_gt (Heap.lt_size e)
  obtain⟨o1,g1⟩:=U1.here _ _ a4
  obtain⟨o2,g2⟩:=U2.here _ _ a5
  unfold pyNext
  refine wpAny_bind (wpAny_attempt (wpAny_callSpecial?_slot (name:=Str.ofString "__next__") ty F.slot_zip_next (wpAny_call_entry F.slot_zip_next ty F.entry_zip_next (Hh U1 U2 D hk a1 a2 a3 a4 a5 fun h' c1 c2 c3 c4 c5 c6 c7=>wpAny_pure ?_) (F.args_zip_next_1 _))))
  refine q s.heap.objs.size #[f k,g k] h' s.toks rfl (Nat.le_refl _) ⟨_,c5,rfl,_,rfl⟩ ⟨c1,c7 _ _ D.TIz D.TITO D.TIi1 D.TIi2 a2,⟨_,_,c2⟩,c3,c4,fun m=> ?_⟩ fun c o hc e=>c7 c o (fun x=>hc (by simp[x])) (fun x=>hc (by simp[x])) (fun x=>hc (by simp[x])) (fun x=>hc (by simp[x])) e
  simp only[List.mem_cons,List.not_mem_nil,or_false]at m
  rcases m with m |m |m |m
  ·exact ne a1 m
  ·exact ne a3 m
  ·exact ne g1 m
  ·exact ne g2 m
 go:=fun elts kk pos k T s Q E ⟨a1,a2,⟨a,b,a3⟩,a4,a5,_⟩ q=>wpAny_letOwnedTupleGo_zip a1 fun h' z' s'=>by
  have ex:=s'.extBut
  refine q h' ⟨z',ex _ _ D.TIz a2,⟨a,b,ex _ _ D.TOz a3⟩,U1.bj _ _ _ a4 fun c hc o ho=> ?_,U2.bj _ _ _ a5 fun c hc o ho=> ?_⟩ fun c o hc e=>ex _ _ (fun x=>hc (by simp[x])) e
  ·rcases hc with rfl |rfl<;>first |exact ex _ _ D.i1z ho |exact ex _ _ D.l1z ho
  ·rcases hc with rfl |rfl<;>first |exact ex _ _ D.i2z ho |exact ex _ _ D.l2z ho
 apart:=fun k T h ⟨_,_,_,_,_,t⟩=>t
 done:=fun s Q E ⟨a1,a2,⟨a,b,a3⟩,a4,a5⟩ q=>by
  have ty:s.TypeIs (.ref z) "zip" :=⟨_,a1,rfl⟩
  unfold pyNext
  refine wpAny_bind (wpAny_attempt (wpAny_callSpecial?_slot (name:=Str.ofString "__next__") ty F.slot_zip_next (wpAny_call_entry F.slot_zip_next ty F.entry_zip_next (Fx hh U1 D a1 a2 a3 a4 fun h' e kp he=> ?_) (F.args_zip_next_1 _))))
  obtain⟨o,ho,hc⟩:=he
  refine wpAny_bind (wpAny_isInstance (T:= "StopIteration") (b:=true) ⟨o,ho,hc⟩ isSubtype_stop (wpAny_pure (q _ s.toks fun c o hc e=> ?_)))
  exact kp c o (fun x=>hc (by simp[x])) (fun x=>hc (by simp[x])) (fun x=>hc (by simp[x])) (fun x=>hc (by simp[x])) e
 self:=fun k s Q E st q=>wpAny_pyIter_zip st.1 q
end
abbrev nh (h:Heap) (l1:Addr):Heap:=h.push {cls:=.type "tuple_iterator",data:=.fields #[.ref l1,.int 0 0]}
abbrev ng (h:Heap) (l1 l2:Addr):Heap:=(nh h l1).push {cls:=.type "tuple_iterator",data:=.fields #[.ref l2,.int 0 0]}
abbrev mZ (h:Heap) (l1 l2:Addr):Heap:=(ng h l1 l2).push {cls:=.type "tuple",data:=.seq #[.ref h.objs.size,.ref (nh h l1).objs.size]}
abbrev mY (h:Heap) (l1 l2:Addr):Heap:=(mZ h l1 l2).push {cls:=.type "tuple",data:=.seq #[.none,.none]}
abbrev jB (h:Heap) (l1 l2:Addr):Heap:=(mY h l1 l2).push {cls:=.type "zip",data:=.fields #[.none,.bool false,.bool false,.ref (ng h l1 l2).objs.size,.ref (mZ h l1 l2).objs.size]}
theorem WY {h:Heap}{l:Addr}{xs:Array Value}(t:IsTup h l xs) (o:Obj):IsTup (h.push o) l xs:=let ⟨u,hu,r⟩:=t;⟨u,Heap.get?_push_of_some _ hu,r⟩
theorem Fy (l1 l2:Addr) (xs ys:Array Value):Meets (Builtin.«zip.__new__» ⟨[.type "zip",.ref l1,.ref l2],[]⟩) (fun _ R s=>IsTup s.heap l1 xs∧IsTup s.heap l2 ys∧R (.ok (.ret (.ref (mY s.heap l1 l2).objs.size))) {s with heap:=jB s.heap l1 l2}):=
 .of_wp fun prog w A R s h=>by
  obtain⟨hp,gg,d,tk,os⟩:=s
  obtain⟨t1,t2,h⟩:=h
  have Cw:=sub_zip
  have T1:IsTup (Shared.heap ⟨hp,gg,d,tk,os⟩) l1 xs:=t1
  have T2:IsTup (Shared.heap ⟨hp.push {cls:=.type "tuple_iterator",data:=.fields #[.ref l1,.int 0 0]},gg,d,tk,os⟩) l2 ys:=WY t2 _
  wp_walk using iter_tuple T1,iter_tuple T2
  exact⟨_,rfl,h⟩
theorem Fz {prog:Program}{w:World}{A:Around}{E:Value→Shared→Prop}{s:Shared}{l1 l2:Addr}{xs ys:Array Value}{Q:Value→Shared→Prop}(t1:IsTup s.heap l1 xs) (t2:IsTup s.heap l2 ys)
    (q:∀h',IsZip h' (s.heap.objs.size+4) (s.heap.objs.size+2) (s.heap.objs.size+3) .none→IsPair h' (s.heap.objs.size+2) (.ref s.heap.objs.size) (.ref (s.heap.objs.size+1))→IsPair h' (s.heap.objs.size+3) .none .none→
      IsTupIter h' s.heap.objs.size l1 0→IsTupIter h' (s.heap.objs.size+1) l2 0→(∀c o,s.heap.get? c=some o→h'.get? c=some o)→Q (.ref (s.heap.objs.size+4)) {s with heap:=h'}):
    wpAny (model prog w) A (call (.type "zip") [.ref l1,.ref l2]) Q E s:=by
  refine callType_new F.called_zip (by decide) (F.typeCall_zip_2 _ _) (F.newCall_zip_2 _ _) (fun obj=>F.args_object_init_3 obj _ _) F.entry_zip_new (Fy l1 l2 xs ys) ⟨t1,t2,?_⟩
  have y1:(nh s.heap l1).objs.size=s.heap.objs.size+1:=Heap.size_push ..
  have y2:(ng s.heap l1 l2).objs.size=s.heap.objs.size+2:=by rw[Heap.size_push,y1]
  have y3:(mZ s.heap l1 l2).objs.size=s.heap.objs.size+3:=by rw[Heap.size_push,y2]
  have y4:(mY s.heap l1 l2).objs.size=s.heap.objs.size+4:=by rw[Heap.size_push,y3]
  have p:∀{h:Heap}{c:Addr}{o u:Obj},h.get? c=some o→(h.push u).get? c=some o:=fun e=>Heap.get?_push_of_some _ e
  have x5:(jB s.heap l1 l2).get? (mY s.heap l1 l2).objs.size=some _:=Heap.get?_push_size _ rfl
  have x4:(jB s.heap l1 l2).get? (mZ s.heap l1 l2).objs.size=some _:=p (Heap.get?_push_size _ rfl)
  have x3:(jB s.heap l1 l2).get? (ng s.heap l1 l2).objs.size=some _:=p (p (Heap.get?_push_size _ rfl))
  have x2:(jB s.heap l1 l2).get? (nh s.heap l1).objs.size=some _:=p (p (p (Heap.get?_push_size _ rfl)))
  have x1:(jB s.heap l1 l2).get? s.heap.objs.size=some _:=p (p (p (p (Heap.get?_push_size _ rfl))))
  show _∧_
  rw[y2,y3,y4]at x5
  rw[y1,y2]at x3
  rw[y3]at x4
  rw[y1]at x2
  rw[y4]
  exact⟨⟨_,x5,rfl⟩,q _ x5 x3 x4 ⟨_,x1,rfl,rfl⟩ ⟨_,x2,rfl,rfl⟩ fun c o x=>p (p (p (p (p x))))⟩
def ue (K:PySem.W.Frag) (l1 l2:Addr):It:=
 ⟨fun i H=> ∃xs ys x y,ai K H l1 xs∧ai K H l2 ys∧xs.length=ys.length∧xs[i]? =some x∧ys[i]? =some y,
  fun i H v H'=> ∃(T:Addr) (x y:V),v=.ref T∧H T=none∧H'=upd H T (.par [x,y])∧∀xs ys,ai K H l1 xs→ai K H l2 ys→xs[i]? =some x∧ys[i]? =some y,
  fun i H=> ∃xs ys,ai K H l1 xs∧ai K H l2 ys∧xs.length=i∧ys.length=i⟩
theorem Ug {P:Program}{w:World}{K:PySem.W.Frag}{elts:List Expr}{kk:Nat}{pos:Pos}(z TI TO i1 i2 l1 l2:Addr) (D:ZipApart z TI TO i1 i2 l1 l2):
  Turn P w K (.Tuple elts kk pos) (ue K l1 l2) [z,TI,TO,i1,i2] z (fun i h=>IsZip h z TI TO .none∧IsPair h TI (.ref i1) (.ref i2)∧(∃a b,IsPair h TO a b)∧IsTupIter h i1 l1 i∧IsTupIter h i2 l2 i) where
 mem:=by simp
 obj:=fun i h st b hb=>by
  obtain⟨a1,a2,⟨u,v,a3⟩,⟨o4,h4,_,d4⟩,⟨o5,h5,_,d5⟩⟩:=st
  simp only[List.mem_cons,List.not_mem_nil,or_false]at hb
  rcases hb with rfl |rfl |rfl |rfl |rfl
  ·exact⟨_,a1,fun v z=>by cases z⟩
  ·exact⟨_,a2,fun v z=>by cases z⟩
  ·exact⟨_,a3,fun v z=>by cases z⟩
  ·exact⟨_,h4,fun v z=>by rw[d4]at z;cases z⟩
  ·exact⟨_,h5,fun v z=>by rw[d5]at z;cases z⟩
 keep:=fun i h h' st k=>by
  obtain⟨a1,a2,⟨u,v,a3⟩,a4,a5⟩:=st
  exact⟨k z (by simp) _ a1,k TI (by simp) _ a2,⟨u,v,k TO (by simp) _ a3⟩,(let ⟨o,ho,r⟩:=a4;⟨o,k i1 (by simp) o ho,r⟩),let ⟨o,ho,r⟩:=a5;⟨o,k i2 (by simp) o ho,r⟩⟩
 item:=by
  intro X hP hw hK hc i pins s σ H E I hf st hg
  subst hP hw hK
  obtain⟨xs,ys,x,y,du,cA,j4,hx,hy⟩:=hg
  obtain⟨cT,fM,eA,lG⟩:=I.tuple du
  obtain⟨dr,dn,bZ,bU⟩:=I.tuple cA
  obtain⟨u,hu,ru⟩:=fM.get hx
  obtain⟨v,hv,rv⟩:=dn.get hy
  have rZ:dr.toArray.size=cT.toArray.size:=by
   have e1:=fM.length
   have e2:=dn.length
   simp only[List.size_toArray]
   omega
  have lT:i<cT.toArray.size:=by
   have e1:=(List.getElem?_eq_some_iff.mp hu).1
   simp only[List.size_toArray]
   omega
  have U2:=YA X.prog X.w dr.toArray D.l2i2
  rw[rZ]at U2
  have W:=Wj (A:=X.A) (I.ok.hd hc) (YA X.prog X.w cT.toArray D.l1i1) U2 D
  obtain⟨a1,a2,a3,a4,a5⟩:=st
  refine W.item i s _ _ lT ⟨a1,a2,a3,⟨a4,eA⟩,⟨a5,bZ⟩⟩ fun T vals h' tk hP eH l9 hV hk=> ⟨_,rfl,W.go elts kk pos i T _ _ _ hV fun dM dC ip=> ?_⟩
  have gq:cT.toArray.getD i .none=u:=by simp[List.getD_eq_getElem?_getD,hu]
  have rR:dr.toArray.getD i .none=v:=by simp[List.getD_eq_getElem?_getD,hv]
  rw[gq,rR]at hP
  subst hP
  have iw:H T=none:=I.ah.fresh eH
  have both:∀b o,b∉[z,TO,i1,i2]→s.heap.get? b=some o→dM.get? b=some o:=fun b o hb q=>ip b o hb (hk b o hb q)
  have sub:∀b,b∉[z,TI,TO,i1,i2]→b∉[z,TO,i1,i2]:=fun b hb hm=>hb (by
   simp only[List.mem_cons,List.not_mem_nil,or_false]at hm ⊢
   rcases hm with h |h |h |h
   ·exact .inl h
   ·exact .inr (.inr (.inl h))
   ·exact .inr (.inr (.inr (.inl h)))
   ·exact .inr (.inr (.inr (.inr h))))
  have kd:T∉[z,TO,i1,i2]:=W.apart _ _ _ hV
  have ma:dM.IsTuple T #[u,v]:=l9.at fun o q=>ip T o kd q
  have neT:∀b o,s.heap.get? b=some o→b≠T:=fun b o q=>Nat.ne_of_lt (Nat.lt_of_lt_of_le (Heap.lt_size q) eH)
  have cR:∀b o,H b=some o→b≠T:=fun b o q=>Zf q iw
  have bR:∀b o,H b=some o→b∉[z,TI,TO,i1,i2]:=fun b o q hm=>by
   have:=(hf b hm).1
   rw[this]at q;cases q
  refine⟨.ref T,upd H T (.par [x,y]),?_,rfl,⟨T,x,y,rfl,iw,rfl,fun as bs ha hb=>by rw[I.nu ha du,I.nu hb cA];exact⟨hx,hy⟩⟩,⟨dC.1,dC.2.1,dC.2.2.1,dC.2.2.2.1.1,dC.2.2.2.2.1⟩,fun b hb=> ?_⟩
  ·refine(show Inv X pins σ (upd H T (.par [x,y])) {s with heap:=dM,toks:=tk} from ?_)
   refine I.call (g':=s.gens) (d':=s.drawn) (t':=tk) (h':=dM) (ch:=[z,TI,TO,i1,i2]) ⟨fun b o q _ _ hx=>both b o (sub b hx) q,fun b o q _ _ hx=> ⟨o.slots,both b o (sub b hx) q⟩,fun b o q n hx=>by rw[Ze (neT b o q)];exact n,fun b o q hx=> ⟨o,both b o (sub b hx) q⟩,
    fun b ys q=>by rw[Ze (cR b _ q)];exact q,fun b o u q=>by rw[Ze (cR b _ q)];exact q,fun b ps q=> ⟨#[],by rw[Ze (cR b _ q),q];simp⟩⟩ (fun b o q=> ?_) I.bare fun b hb=> ?_
   ·by_cases hb:b=T
    ·subst hb
     rw[Zc]at q
     cases q
     exact⟨by show 2≤sizeLine;decide,[u,v],.cons ru (.cons rv .nil),ma⟩
    ·rw[Ze hb]at q
     refine(I.ah b o q).bj (fun c ob aQ q'=>both c ob ?_ q') (fun c q'=>by rw[Ze (cR c _ q')];exact q') fun c ys q'=>by rw[Ze (cR c _ q')];exact q'
     rcases aQ with z' |z'
     ·rw[z'];exact sub _ (bR b o q)
     ·exact sub _ (bR c _ z')
   ·obtain⟨f0,f1,f2,f3,f4,f5⟩:=hf b hb
    exact⟨f3,f1,f4,f5⟩
  ·have bB:b≠T:=by
    obtain⟨f0,_⟩:=hf b hb
    have:∃o,s.heap.get? b=some o:=by
     obtain⟨u',v',tV⟩:=a3
     obtain⟨o4,h4,_⟩:=a4
     obtain⟨o5,h5,_⟩:=a5
     simp only[List.mem_cons,List.not_mem_nil,or_false]at hb
     rcases hb with rfl |rfl |rfl |rfl |rfl
     ·exact⟨_,a1⟩
     ·exact⟨_,a2⟩
     ·exact⟨_,tV⟩
     ·exact⟨_,h4⟩
     ·exact⟨_,h5⟩
    obtain⟨o,ho⟩:=this
    exact neT b o ho
   rw[Ze bB]
   exact(hf b hb).1
 done:=by
  intro X hP hw hK hc i pins s σ H E I hf st hg
  subst hP hw hK
  obtain⟨xs,ys,du,cA,hx,hy⟩:=hg
  obtain⟨cT,fM,eA,lG⟩:=I.tuple du
  obtain⟨dr,dn,bZ,bU⟩:=I.tuple cA
  have e1:=fM.length
  have e2:=dn.length
  have rZ:dr.toArray.size=cT.toArray.size:=by simp only[List.size_toArray];omega
  have U2:=YA X.prog X.w dr.toArray D.l2i2
  rw[rZ]at U2
  have W:=Wj (A:=X.A) (I.ok.hd hc) (YA X.prog X.w cT.toArray D.l1i1) U2 D
  have hn:i=cT.toArray.size:=by simp only[List.size_toArray];omega
  obtain⟨a1,a2,a3,a4,a5⟩:=st
  rw[hn]at a4 a5
  have sub:∀b,b∉[z,TI,TO,i1,i2]→b∉[z,TO,i1,i2]:=fun b hb hm=>hb (by
   simp only[List.mem_cons,List.not_mem_nil,or_false]at hm ⊢
   rcases hm with h |h |h |h
   ·exact .inl h
   ·exact .inr (.inr (.inl h))
   ·exact .inr (.inr (.inr (.inl h)))
   ·exact .inr (.inr (.inr (.inr h))))
  refine W.done s _ _ ⟨a1,a2,a3,⟨a4,eA⟩,⟨a5,bZ⟩⟩ fun h' tk hk=> ⟨rfl,?_⟩
  have bR:∀b o,H b=some o→b∉[z,TI,TO,i1,i2]:=fun b o q hm=>by
   have:=(hf b hm).1
   rw[this]at q;cases q
  refine I.call (g':=s.gens) (d':=s.drawn) (t':=tk) (h':=h') (ch:=[z,TI,TO,i1,i2]) ⟨fun b o q _ _ hx=>hk b o (sub b hx) q,fun b o q _ _ hx=> ⟨o.slots,hk b o (sub b hx) q⟩,fun b o q n hx=>n,fun b o q hx=> ⟨o,hk b o (sub b hx) q⟩,fun b ys q=>q,fun b o u q=>q,fun b ps q=> ⟨#[],by rw[q];simp⟩⟩ (fun b o q=> ?_) I.bare fun b hb=> ?_
  ·refine(I.ah b o q).bj (fun c ob aQ q'=>hk c ob ?_ q') (fun _ q'=>q') fun _ _ q'=>q'
   rcases aQ with z' |z'
   ·rw[z'];exact sub _ (bR b o q)
   ·exact sub _ (bR c _ z')
  ·obtain⟨f0,f1,f2,f3,f4,f5⟩:=hf b hb
   exact⟨f3,f1,f4,f5⟩
 self:=fun A i s Q E st h=>wpAny_pyIter_zip st.1 h
section
variable {X:Cx}{elts:List Expr}{kk:Nat}{tp:Pos}
def Cc (K:PySem.W.Frag) (ta:TA):TI:=fun σ H R=>ta σ H fun vs H1=> ∃l1 l2,vs=[.ref l1,.ref l2]∧(∃xs ys,ai K H1 l1 xs∧ai K H1 l2 ys)∧R (ue K l1 l2) H1
theorem J5 {a b:Expr}{ta:TA}{p pos:Pos}(hg:Gl X "zip") (hm:X.mg "zip" =none) (ha:PA X [a,b] ta) (hs:starEach [a,b] X.env=[(false,eval a X.env),(false,eval b X.env)]:=by rfl) (jX:starEach [b] X.env=[(false,eval b X.env)]:=by rfl):
  PI X (.Tuple elts kk tp) (.Call (.Name "zip" p) [a,b] [] pos) (Cc X.K ta):=by
 intro pins s σ H R I h
 refine Call_ (YO I hg hm PyProof.Rows.Boot.«zip» (PyProof.Rows.callWith_type1 (aq (ha pos pins s σ H _ I h) fun us s1 ⟨vs,H1,I1,r1,q1⟩=> ?_) (by rw[hs,jX]) (by rw[jX];rfl)))
 obtain⟨l1,l2,e,⟨xs,ys,du,cA⟩,q⟩:=q1
 subst e
 obtain⟨u,v,rfl,ru,rv⟩:=vals2 r1
 cases ru
 cases rv
 obtain⟨cT,fM,eA,lG⟩:=I1.tuple du
 obtain⟨dr,dn,bZ,bU⟩:=I1.tuple cA
 have t1:l1<s1.heap.objs.size:=by obtain⟨o,ho,_⟩:=id eA;exact Heap.lt_size ho
 have t2:l2<s1.heap.objs.size:=by obtain⟨o,ho,_⟩:=id bZ;exact Heap.lt_size ho
 have D:=JJ s1.heap.objs.size l1 l2 t1 t2
 refine Fz eA bZ fun h' b1 b2 b3 b4 b5 hk=>wpAny_pyIter_zip b1 ?_
 have I2:Inv X pins σ H1 {s1 with heap:=h'} :=I1.kept (t':=s1.toks) hk
 refine⟨s1.heap.objs.size+4,[s1.heap.objs.size+4,s1.heap.objs.size+2,s1.heap.objs.size+3,s1.heap.objs.size,s1.heap.objs.size+1],_,_,H1,rfl,I2,
  Ug _ _ _ _ _ l1 l2 D,⟨b1,b2,⟨_,_,b3⟩,b4,b5⟩,fun b hb=> ?_,q⟩
 have iu:s1.heap.objs.size≤b:=by
  simp only[List.mem_cons,List.not_mem_nil,or_false]at hb
  rcases hb with z |z |z |z |z<;>rw[z]<;>first |exact Nat.le_refl _ |exact Nat.le_add_right _ _
 exact I1.jj iu (I1.ah.fresh iu)
end
theorem Y9 {K:PySem.W.Frag}{l1 l2:Addr}{xs zs:List V}{g:TG}{tt:TT}{ti:TC}{ys:List V}{σ:St}{H:Hp}{Q:List V→St→Hp→Prop}(hlen:xs.length=zs.length) (Pv:Nat→List V→St→Hp→Prop) (h0:Pv 0 ys σ H)
  (hl:∀i ys σ H,i≤xs.length→Pv i ys σ H→ai K H l1 xs∧ai K H l2 zs)
  (hs:∀i x y T ys σ H,xs[i]? =some x→zs[i]? =some y→H T=none→Pv i ys σ H→g (.ref T) σ (upd H T (.par [x,y])) fun aN H2=>tt aN H2 fun b H3=>if b=true then ti ys aN H3 (Pv (i+1)) else Pv (i+1) ys aN H3)
  (hd:∀ys σ H,Pv xs.length ys σ H→Q ys σ H):fK g tt ti (ue K l1 l2) ys σ H Q:=by
 refine⟨fun i m ys σ H=>m=xs.length - i∧i≤xs.length∧Pv i ys σ H,⟨xs.length,by simp,Nat.zero_le _,h0⟩,?_⟩
 rintro i m ys σ H ⟨rfl,hi,p⟩
 obtain⟨q1,q2⟩:=hl i ys σ H hi p
 by_cases ar:i<xs.length
 ·refine .inr ⟨⟨xs,zs,xs[i],zs[i]'(by omega),q1,q2,hlen,by simp[ar],by simp[hlen▸ar]⟩,Pv (i+1),fun bK aj H' p'=> ⟨xs.length - (i+1),by omega,rfl,ar,p'⟩,fun x H' y=> ?_⟩
  obtain⟨T,a,b,e1,e2,e3,e4⟩:=y
  subst e1 e3
  obtain⟨f1,f2⟩:=e4 xs zs q1 q2
  exact hs i a b T ys σ H f1 f2 e2 p
 ·have e:i=xs.length:=by omega
  subst e
  exact .inl ⟨⟨xs,zs,q1,q2,rfl,hlen.symm⟩,hd ys σ H p⟩
end L2
namespace L2
open PySem PySem.Spec PyProof.Rows SeqAt
structure Cells (base:Heap) (scope:Scope) (cl:List (Str×Addr)) (N:List Str) (vs:List V):Prop where
 len:vs.length=N.length
 only:∀z,scope.names.lookup z=some .cell∨scope.names.lookup z=some .free→z∈N
 at_:∀(i:Nat) x v,N[i]? =some x→vs[i]? =some v→scope.names.lookup x=some .free∧∃c u,cl.lookup x=some c∧base.IsCell c (some u)∧RelV v u
 mem:∀z c,cl.lookup z=some c→z∈N
 inj:∀x y c,cl.lookup x=some c→cl.lookup y=some c→x=y
theorem Ua {P:Program}{w:World}{K:PySem.W.Frag}{mg:Str→Option Value}{base:Heap}{f:Addr}{q:Str}{params:Arguments}{body:Expr}{scope:Scope}{cl:List (Str×Addr)}{pm:Value}{c:Addr}{ct:Value}{k:Nat}{N:List Str}{ws:List V}{sp:Sp}
    (T:Cells base scope cl N ws) (hk:scope.kind=.function) (Dv:scope.isCoroutine=false) (Dg:scope.isGenerator=false) (iq:∀z∈scope.names,z.2≠.cell)
    (cw:∀vs H Q E,sp vs H Q E→vs=[]∧H f=some (i3 f q params body scope cl pm c ct)∧H c=some (eI c q))
    (hb:∀(A:Around) (outer:List Env) (s:Shared) (H:Hp) (Q:VK) (E:XK),bo k (A.deeper (PySem.W.envX q scope s.heap.objs.size f (.ref c) cl))→sp [] H Q E→
      ∃t,PE (gB P w K mg base N q scope f (.ref c) cl A outer s H E) body t∧t (ws.map some) H Q):
    az P w K mg base (bq P w) (k+1) f (PySem.W.kla_fn "<lambda>" q params body scope cl pm (.ref c) ct) [] sp:=by
  refine⟨fun vs H Q E h=>by rw[(cw vs H Q E h).1];rfl,fun A outer s H args us vs Q E hr e0 lZ rv h=> ?_⟩
  obtain⟨rfl,hf,hc⟩:=cw _ _ _ _ h
  have of:s.heap.get? f=some (PySem.W.kla_obj "<lambda>" q params body scope cl pm c ct):=(e0.ah f _ hf).1
  have oc:s.heap.CodeRec (.ref c) q:=(e0.ah c _ hc).1
  have lim:s.heap.NoLimit:=e0.mod.nolimit.keeps fun b o e=> (e0.bs b o e).1
  refine PySem.W.kla_callFunE hr.depth of rfl Dv Dg rfl oc (lZ _ _ _ _ ?_)
  refine wpAny_newFunctionEnv iq (fun z hz=>by cases rv;exact absurd hz (by simp)) (fun h1 lO CD=> ?_) hk
  have k1:∀b o,s.heap.get? b=some o→h1.get? b=some o:=fun b o e=>CD.extBut b o (Nat.ne_of_lt (Heap.lt_size e)) (Heap.get?_push_of_some _ e)
  refine⟨lim.keeps k1,?_⟩
  show codeAny _ A (.expr body (PySem.W.envX q scope s.heap.objs.size f (.ref c) cl)) _ _
  obtain⟨t,ht,hq⟩:=hb A outer s H Q E (hr.deeper _) h
  have tQ:∀{a:Addr}{v:Option Value},base.IsCell a v→h1.IsCell a v∧H a=none:=fun {a v} ⟨o,ho,hd⟩=> ⟨⟨o,k1 _ _ (e0.bs _ _ ho).1,hd⟩,(e0.bs _ _ ho).2⟩
  have yr:∀z,z∈N→∃c u,cl.lookup z=some c∧base.IsCell c (some u):=fun z hz=>by
    obtain⟨i,hi,e⟩:=List.getElem_of_mem hz
    have j8:i<ws.length:=by rw[T.len];exact hi
    obtain⟨_,c,u,h1,h2,_⟩:=T.at_ i z ws[i] (by rw[←e];exact List.getElem?_eq_getElem hi) (List.getElem?_eq_getElem j8)
    exact⟨c,u,h1,h2⟩
  have cells:∀z a,cl.lookup z=some a→∃v,base.IsCell a v:=fun z a hz=>by
    obtain⟨c,u,h1,h2⟩:=yr z (T.mem z a hz)
    rw[hz]at h1;cases h1;exact⟨_,h2⟩
  have I:Inv (gB P w K mg base N q scope f (.ref c) cl A outer s H E) [] (ws.map some) H {s with heap:=h1,toks:=s.toks+(([]:List Str).zip us).length} :=by
    refine⟨⟨e0.mod,hk,rfl,rfl,Nat.le_refl _,fun a b cc h2 h3=> ?_,fun a ha=> ?_,fun a cc hn=>Bool.noConfusion hn,fun _=>hr.hd,Around.frames_deeper e0.frames,.inr ⟨rfl,rfl⟩,fun b z=>absurd (show b∈([]:List Addr) from z) (by simp),e0.bs,e0.fU,fun b _ _ z=>absurd (show b∈([]:List Addr) from z) (by simp),fun b z=>absurd (show b∈([]:List Addr) from z) (by simp),e0.cE,e0.eU⟩,
      rfl,e0.bare,Un.kept k1,⟨_,lO,fun i z v h2 h3 h4=> ?_⟩,fun z a hz=> ?_,e0.ah.fresh (Nat.le_refl _),fun z a hz=> ?_,fun p hp=>absurd (show p∈([]:List (Addr×Obj)) from hp) (by simp),e0.ah.kept k1,(by rw[List.length_map];exact T.len)⟩
    · have h2:cl.lookup a=some cc:=h2
      have h3:cl.lookup b=some cc:=h3
      exact T.inj _ _ _ h2 h3
    · obtain⟨c,_,h1,_⟩:=yr a (T.only a ha)
      exact⟨c,h1⟩
    · have td:(ws.map some)[i]? =some (some v):=h3
      rw[List.getElem?_map]at td
      obtain⟨v',e',EE⟩:=Option.map_eq_some_iff.mp td
      cases EE
      obtain⟨kx,c,u,h5,h6,h7⟩:=T.at_ i z v h2 e'
      exact⟨u,h7,.inr ⟨.inr kx,c,h5,(tQ h6).1⟩⟩
    · obtain⟨v,b⟩:=cells z a hz
      exact⟨v,(tQ b).1⟩
    · obtain⟨v,b⟩:=cells z a hz
      exact(tQ b).2
  refine PySem.W.kla_codeExpr (wpAny_mono (ht [] _ _ H _ I hq) (fun u s' hs=> ?_) fun e s' hs=>hs)
  obtain⟨v,H',J,r,z⟩:=hs
  exact⟨v,H',J.os,J.bare,J.base,J.ah,r,z⟩
end L2
namespace L2
open PySem PySem.Spec PyProof.Rows
end L2
namespace PyProof.Rows.gD
open PySem
structure Ord (r:Keyed→Keyed→Bool):Prop where
 Ka:∀x y,r x y=true→r y x=false
 Io:∀x y z,r y x=false→r z y=false→r z x=false
section
variable {prog:Program}{w:World}{A:Around}{E:Value→Shared→Prop}{s:Shared}{κ:SortKind}{km:Array Keyed}{r:Keyed→Keyed→Bool}
def bp (r:Keyed→Keyed→Bool) (left:Bool) (key x:Keyed):Bool:=if left=true then r x key else !r key x
end
abbrev Pw (r:Keyed→Keyed→Bool) (l:List Keyed):Prop:=l.Pairwise fun x y=>r y x=false
structure JW (r:Keyed→Keyed→Bool) (a b out:Array Keyed) (ia ib:Nat):Prop where
 perm:(out.toList++(a.toList.drop ia++b.toList.drop ib)).Perm (a.toList++b.toList)
 Ar:Pw r out.toList
 Fe:∀x∈out.toList,∀y∈a.toList.drop ia++b.toList.drop ib,r y x=false
structure Kd (r:Keyed→Keyed→Bool) (a b:Array Keyed):Prop where
 o:Ord r
 sa:Pw r a.toList
 sb:Pw r b.toList
structure JH (r:Keyed→Keyed→Bool) (a b out:Array Keyed) (na nb:Nat):Prop where
 la:na≤a.size
 lb:nb≤b.size
 perm:((a.toList.take na++b.toList.take nb)++out.toList.reverse).Perm (a.toList++b.toList)
 Ar:Pw r out.toList.reverse
 Fe:∀y∈a.toList.take na++b.toList.take nb,∀x∈out.toList,r x y=false
structure CB (km:Array Keyed) (κ:SortKind) (lo:Nat) (st cg:SortSt):Prop where
 kind:kindOf cg=κ
 pend:pendingOf cg=pendingOf st
 fail:failedOf cg=failedOf st
 perm:(arrOf cg).Perm km
 pre:∀k,k<lo→(arrOf cg)[k]? =(arrOf st)[k]?
def seg (L:List Keyed) (s n:Nat):List Keyed:=(L.drop s).take n
def Runs (r:Keyed→Keyed→Bool) (L:List Keyed):List (Nat×Nat×Nat)→Nat→Nat→Prop
 | [],p,q=>p=q
 |x::rest,p,q=>x.1=p∧1≤x.2.1∧Pw r (seg L x.1 x.2.1)∧Runs r L rest (p+x.2.1) q
section
variable {prog:Program}{w:World}{A:Around}{E:Value→Shared→Prop}{s:Shared}{κ:SortKind}{km:Array Keyed}{r:Keyed→Keyed→Bool}
structure RS (km:Array Keyed) (κ:SortKind) (r:Keyed→Keyed→Bool) (st:SortSt) (lo:Nat):Prop where
 kind:kindOf st=κ
 perm:(arrOf st).Perm km
 fail:failedOf st=none
 runs:Runs r (arrOf st).toList (pendingOf st).toList 0 lo
 le:lo≤km.size
end
end PyProof.Rows.gD
namespace PyProof.Rows.gD
open PySem PySem.W
end PyProof.Rows.gD
namespace L2
open PySem PySem.Spec PyProof.Rows PyProof.Rows.gD
def js (H:Hp) (v:V) (k:List Int):Prop:=∃t:Addr,v=.ref t∧H t=some (.tup (k.map V.int))
abbrev I4:=Int×Int×Int×Int
end L2
namespace PyProof.Rows.gD
open PySem
end PyProof.Rows.gD
namespace L2
open PySem PySem.Spec PyProof.Rows PyProof.Rows.gD
end L2
namespace L2
open PySem PySem.Spec PyProof.Rows
def uf (K:PySem.W.Frag) (l1 l2:Addr):It:=
 ⟨fun i H=> ∃xs ys x y,af K H l1 xs∧af K H l2 ys∧xs[i]? =some x∧ys[i]? =some y,
  fun i H v H'=> ∃(T:Addr) (x y:V),v=.ref T∧H T=none∧H'=upd H T (.par [x,y])∧∀xs ys,af K H l1 xs→af K H l2 ys→xs[i]? =some x∧ys[i]? =some y,
  fun i H=> ∃xs ys,af K H l1 xs∧af K H l2 ys∧min xs.length ys.length=i⟩
theorem Uh {P:Program}{w:World}{K:PySem.W.Frag}{elts:List Expr}{kk:Nat}{pos:Pos}(z TI TO i1 i2 l1 l2:Addr) (D:ZipApart z TI TO i1 i2 l1 l2):
  Turn P w K (.Tuple elts kk pos) (uf K l1 l2) [z,TI,TO,i1,i2] z (fun i h=>IsZip h z TI TO .none∧IsPair h TI (.ref i1) (.ref i2)∧(∃a b,IsPair h TO a b)∧h.IsListIter i1 l1 i∧h.IsListIter i2 l2 i) where
 mem:=by simp
 obj:=fun i h st b hb=>by
  obtain⟨a1,a2,⟨u,v,a3⟩,⟨o4,h4,_,d4⟩,⟨o5,h5,_,d5⟩⟩:=st
  simp only[List.mem_cons,List.not_mem_nil,or_false]at hb
  rcases hb with rfl |rfl |rfl |rfl |rfl
  ·exact⟨_,a1,fun v z=>by cases z⟩
  ·exact⟨_,a2,fun v z=>by cases z⟩
  ·exact⟨_,a3,fun v z=>by cases z⟩
  ·exact⟨_,h4,fun v z=>by rw[d4]at z;cases z⟩
  ·exact⟨_,h5,fun v z=>by rw[d5]at z;cases z⟩
 keep:=fun i h h' st k=>by
  obtain⟨a1,a2,⟨u,v,a3⟩,a4,a5⟩:=st
  exact⟨k z (by simp) _ a1,k TI (by simp) _ a2,⟨u,v,k TO (by simp) _ a3⟩,a4.at fun o q=>k i1 (by simp) o q,a5.at fun o q=>k i2 (by simp) o q⟩
 item:=by
  intro X hP hw hK hc i pins s σ H E I hf st hg
  subst hP hw hK
  obtain⟨xs,ys,x,y,du,cA,hx,hy⟩:=hg
  obtain⟨cT,fM,eA,lG⟩:=I.list du
  obtain⟨dr,dn,bZ,bU⟩:=I.list cA
  obtain⟨u,hu,ru⟩:=fM.get hx
  obtain⟨v,hv,rv⟩:=dn.get hy
  have lT:i<min cT.toArray.size dr.toArray.size:=by
   have e1:=(List.getElem?_eq_some_iff.mp hu).1
   have e2:=(List.getElem?_eq_some_iff.mp hv).1
   simp only[List.size_toArray]
   omega
  have W:=WalksT.zip2 (prog:=X.prog) (w:=X.w) (A:=X.A) (I.ok.hd hc) z TI TO i1 i2 l1 l2 D cT.toArray dr.toArray
  obtain⟨a1,a2,a3,a4,a5⟩:=st
  refine W.item i s _ _ lT ⟨a1,a2,a3,a4,a5,eA.isList,bZ.isList⟩ fun T vals h' tk hP eH l9 hV hk=> ⟨_,rfl,W.go elts kk pos i T _ _ _ hV fun dM dC ip=> ?_⟩
  obtain⟨x2,y2,gq,rR,rfl⟩:=hP
  have lH:cT[i]? =some x2:=by simpa using gq
  have wA:dr[i]? =some y2:=by simpa using rR
  rw[hu]at lH
  rw[hv]at wA
  cases lH
  cases wA
  have iw:H T=none:=I.ah.fresh eH
  have both:∀b o,b∉[z,TO,i1,i2]→s.heap.get? b=some o→dM.get? b=some o:=fun b o hb q=>ip b o hb (hk b o hb q)
  have sub:∀b,b∉[z,TI,TO,i1,i2]→b∉[z,TO,i1,i2]:=fun b hb hm=>hb (by
   simp only[List.mem_cons,List.not_mem_nil,or_false]at hm ⊢
   rcases hm with h |h |h |h
   ·exact .inl h
   ·exact .inr (.inr (.inl h))
   ·exact .inr (.inr (.inr (.inl h)))
   ·exact .inr (.inr (.inr (.inr h))))
  have kd:T∉[z,TO,i1,i2]:=W.apart _ _ _ hV
  have ma:dM.IsTuple T #[u,v]:=l9.at fun o q=>ip T o kd q
  have neT:∀b o,s.heap.get? b=some o→b≠T:=fun b o q=>Nat.ne_of_lt (Nat.lt_of_lt_of_le (Heap.lt_size q) eH)
  have cR:∀b o,H b=some o→b≠T:=fun b o q=>Zf q iw
  have bR:∀b o,H b=some o→b∉[z,TI,TO,i1,i2]:=fun b o q hm=>by
   have:=(hf b hm).1
   rw[this]at q;cases q
  refine⟨.ref T,upd H T (.par [x,y]),?_,rfl,⟨T,x,y,rfl,iw,rfl,fun as bs ha hb=>by rw[I.rE ha du,I.rE hb cA];exact⟨hx,hy⟩⟩,⟨dC.1,dC.2.1,dC.2.2.1,dC.2.2.2.1,dC.2.2.2.2.1⟩,fun b hb=> ?_⟩
  ·refine(show Inv X pins σ (upd H T (.par [x,y])) {s with heap:=dM,toks:=tk} from ?_)
   refine I.call (g':=s.gens) (d':=s.drawn) (t':=tk) (h':=dM) (ch:=[z,TI,TO,i1,i2]) ⟨fun b o q _ _ hx=>both b o (sub b hx) q,fun b o q _ _ hx=> ⟨o.slots,both b o (sub b hx) q⟩,fun b o q n hx=>by rw[Ze (neT b o q)];exact n,fun b o q hx=> ⟨o,both b o (sub b hx) q⟩,
    fun b ys q=>by rw[Ze (cR b _ q)];exact q,fun b o u q=>by rw[Ze (cR b _ q)];exact q,fun b ps q=> ⟨#[],by rw[Ze (cR b _ q),q];simp⟩⟩ (fun b o q=> ?_) I.bare fun b hb=> ?_
   ·by_cases hb:b=T
    ·subst hb
     rw[Zc]at q
     cases q
     exact⟨by show 2≤sizeLine;decide,[u,v],.cons ru (.cons rv .nil),ma⟩
    ·rw[Ze hb]at q
     refine(I.ah b o q).bj (fun c ob aQ q'=>both c ob ?_ q') (fun c q'=>by rw[Ze (cR c _ q')];exact q') fun c ys q'=>by rw[Ze (cR c _ q')];exact q'
     rcases aQ with z' |z'
     ·rw[z'];exact sub _ (bR b o q)
     ·exact sub _ (bR c _ z')
   ·obtain⟨f0,f1,f2,f3,f4,f5⟩:=hf b hb
    exact⟨f3,f1,f4,f5⟩
  ·have bB:b≠T:=by
    obtain⟨f0,_⟩:=hf b hb
    have:∃o,s.heap.get? b=some o:=by
     obtain⟨u',v',tV⟩:=a3
     obtain⟨o4,h4,_⟩:=a4
     obtain⟨o5,h5,_⟩:=a5
     simp only[List.mem_cons,List.not_mem_nil,or_false]at hb
     rcases hb with rfl |rfl |rfl |rfl |rfl
     ·exact⟨_,a1⟩
     ·exact⟨_,a2⟩
     ·exact⟨_,tV⟩
     ·exact⟨_,h4⟩
     ·exact⟨_,h5⟩
    obtain⟨o,ho⟩:=this
    exact neT b o ho
   rw[Ze bB]
   exact(hf b hb).1
 done:=by
  intro X hP hw hK hc i pins s σ H E I hf st hg
  subst hP hw hK
  obtain⟨xs,ys,du,cA,hx⟩:=hg
  obtain⟨cT,fM,eA,lG⟩:=I.list du
  obtain⟨dr,dn,bZ,bU⟩:=I.list cA
  have e1:=fM.length
  have e2:=dn.length
  have W:=WalksT.zip2 (prog:=X.prog) (w:=X.w) (A:=X.A) (I.ok.hd hc) z TI TO i1 i2 l1 l2 D cT.toArray dr.toArray
  have hn:i=min cT.toArray.size dr.toArray.size:=by simp only[List.size_toArray];omega
  obtain⟨a1,a2,a3,a4,a5⟩:=st
  rw[hn]at a4 a5
  have sub:∀b,b∉[z,TI,TO,i1,i2]→b∉[z,TO,i1,i2]:=fun b hb hm=>hb (by
   simp only[List.mem_cons,List.not_mem_nil,or_false]at hm ⊢
   rcases hm with h |h |h |h
   ·exact .inl h
   ·exact .inr (.inr (.inl h))
   ·exact .inr (.inr (.inr (.inl h)))
   ·exact .inr (.inr (.inr (.inr h))))
  refine W.done s _ _ ⟨a1,a2,a3,a4,a5,eA.isList,bZ.isList⟩ fun h' tk hk=> ⟨rfl,?_⟩
  have bR:∀b o,H b=some o→b∉[z,TI,TO,i1,i2]:=fun b o q hm=>by
   have:=(hf b hm).1
   rw[this]at q;cases q
  refine I.call (g':=s.gens) (d':=s.drawn) (t':=tk) (h':=h') (ch:=[z,TI,TO,i1,i2]) ⟨fun b o q _ _ hx=>hk b o (sub b hx) q,fun b o q _ _ hx=> ⟨o.slots,hk b o (sub b hx) q⟩,fun b o q n hx=>n,fun b o q hx=> ⟨o,hk b o (sub b hx) q⟩,fun b ys q=>q,fun b o u q=>q,fun b ps q=> ⟨#[],by rw[q];simp⟩⟩ (fun b o q=> ?_) I.bare fun b hb=> ?_
  ·refine(I.ah b o q).bj (fun c ob aQ q'=>hk c ob ?_ q') (fun _ q'=>q') fun _ _ q'=>q'
   rcases aQ with z' |z'
   ·rw[z'];exact sub _ (bR b o q)
   ·exact sub _ (bR c _ z')
  ·obtain⟨f0,f1,f2,f3,f4,f5⟩:=hf b hb
   exact⟨f3,f1,f4,f5⟩
 self:=fun A i s Q E st h=>wpAny_pyIter_zip st.1 h
section
variable {X:Cx}{elts:List Expr}{kk:Nat}{tp:Pos}
def Cd (K:PySem.W.Frag) (ta:TA):TI:=fun σ H R=>ta σ H fun vs H1=> ∃l1 l2,vs=[.ref l1,.ref l2]∧(∃xs ys,af K H1 l1 xs∧af K H1 l2 ys)∧R (uf K l1 l2) H1
theorem GZ {a b:Expr}{ta:TA}{p pos:Pos}(hg:Gl X "zip") (hm:X.mg "zip" =none) (ha:PA X [a,b] ta) (hs:starEach [a,b] X.env=[(false,eval a X.env),(false,eval b X.env)]:=by rfl) (jX:starEach [b] X.env=[(false,eval b X.env)]:=by rfl):
  PI X (.Tuple elts kk tp) (.Call (.Name "zip" p) [a,b] [] pos) (Cd X.K ta):=by
 intro pins s σ H R I h
 refine Call_ (YO I hg hm PyProof.Rows.Boot.«zip» (PyProof.Rows.callWith_type1 (aq (ha pos pins s σ H _ I h) fun us s1 ⟨vs,H1,I1,r1,q1⟩=> ?_) (by rw[hs,jX]) (by rw[jX];rfl)))
 obtain⟨l1,l2,e,⟨xs,ys,du,cA⟩,q⟩:=q1
 subst e
 obtain⟨u,v,rfl,ru,rv⟩:=vals2 r1
 cases ru
 cases rv
 obtain⟨cT,fM,eA,lG⟩:=I1.list du
 obtain⟨dr,dn,bZ,bU⟩:=I1.list cA
 have t1:l1<s1.heap.objs.size:=by obtain⟨o,ho,_⟩:=eA.isList;exact Heap.lt_size ho
 have t2:l2<s1.heap.objs.size:=by obtain⟨o,ho,_⟩:=bZ.isList;exact Heap.lt_size ho
 have D:=JJ s1.heap.objs.size l1 l2 t1 t2
 refine call_zip_2 eA.isList bZ.isList fun h' b1 b2 b3 b4 b5 b6 hk=>wpAny_pyIter_zip b1 ?_
 have I2:Inv X pins σ H1 {s1 with heap:=h'} :=I1.kept (t':=s1.toks) hk
 refine⟨s1.heap.objs.size+4,[s1.heap.objs.size+4,s1.heap.objs.size+2,s1.heap.objs.size+3,s1.heap.objs.size,s1.heap.objs.size+1],_,_,H1,rfl,I2,
  Uh _ _ _ _ _ l1 l2 D,⟨b1,b2,⟨_,_,b3⟩,b4,b5⟩,fun b hb=> ?_,q⟩
 have iu:s1.heap.objs.size≤b:=by
  simp only[List.mem_cons,List.not_mem_nil,or_false]at hb
  rcases hb with z |z |z |z |z<;>rw[z]<;>first |exact Nat.le_refl _ |exact Nat.le_add_right _ _
 exact I1.jj iu (I1.ah.fresh iu)
end
theorem Uv {K:PySem.W.Frag}{l1 l2:Addr}{xs zs:List V}{g:TG}{tt:TT}{ti:TC}{ys:List V}{σ:St}{H:Hp}{Q:List V→St→Hp→Prop}(Pv:Nat→List V→St→Hp→Prop) (h0:Pv 0 ys σ H)
  (hl:∀i ys σ H,i≤min xs.length zs.length→Pv i ys σ H→af K H l1 xs∧af K H l2 zs)
  (hs:∀i x y T ys σ H,xs[i]? =some x→zs[i]? =some y→H T=none→Pv i ys σ H→g (.ref T) σ (upd H T (.par [x,y])) fun aN H2=>tt aN H2 fun b H3=>if b=true then ti ys aN H3 (Pv (i+1)) else Pv (i+1) ys aN H3)
  (hd:∀ys σ H,Pv (min xs.length zs.length) ys σ H→Q ys σ H):fK g tt ti (uf K l1 l2) ys σ H Q:=by
 refine⟨fun i m ys σ H=>m=min xs.length zs.length - i∧i≤min xs.length zs.length∧Pv i ys σ H,⟨min xs.length zs.length,by simp,Nat.zero_le _,h0⟩,?_⟩
 rintro i m ys σ H ⟨rfl,hi,p⟩
 obtain⟨q1,q2⟩:=hl i ys σ H hi p
 by_cases ar:i<min xs.length zs.length
 ·have h1:i<xs.length:=by omega
  have h2:i<zs.length:=by omega
  refine .inr ⟨⟨xs,zs,xs[i],zs[i],q1,q2,by simp[h1],by simp[h2]⟩,Pv (i+1),fun bK aj H' p'=> ⟨min xs.length zs.length - (i+1),by omega,rfl,ar,p'⟩,fun x H' y=> ?_⟩
  obtain⟨T,a,b,e1,e2,e3,e4⟩:=y
  subst e1 e3
  obtain⟨f1,f2⟩:=e4 xs zs q1 q2
  exact hs i a b T ys σ H f1 f2 e2 p
 ·have e:i=min xs.length zs.length:=by omega
  subst e
  exact .inl ⟨⟨xs,zs,q1,q2,rfl⟩,hd ys σ H p⟩
mutual
inductive Sh (H:Hp):V→PyData→Prop
 |aa:Sh H .aa .none
 |bl (b:Bool):Sh H (.bl b) (.bool b)
 |int (i:Int):Sh H (.int i) (.int i)
 |str (x:Str):Sh H (.str x) (.str x)
 |tup {a:Addr}{xs:List V}{ds:List PyData} :H a=some (.tup xs)→fv H xs ds→Sh H (.ref a) (.tuple ds)
 |lst {a:Addr}{xs:List V}{ds:List PyData} :H a=some (.lst xs)→fv H xs ds→Sh H (.ref a) (.list ds)
 |bD {a:Addr} :H a=some (.dK [])→Sh H (.ref a) (.dict [])
inductive fv (H:Hp):List V→List PyData→Prop
 |nil:fv H [] []
 |cons {v:V}{vs:List V}{d:PyData}{ds:List PyData} :Sh H v d→fv H vs ds→fv H (v::vs) (d::ds)
end
section
variable {X:Cx}{pins:List (Addr×Obj)}{σ:St}{H:Hp}{s:Shared}
mutual
theorem Wl (I:Inv X pins σ H s):∀{v:V}{d:PyData}{u:Value},Sh H v d→RelV v u→∃as,Reads s.heap u d as∧((∃a,v=.ref a∧H a=some (.dK []))→sysModules∉as)
 |_,_,u,.aa,r=>by
  have e:u=.none:=r
  subst e
  exact⟨[],.none,fun _ h=>nomatch h⟩
 |_,_,u,.bl b,r=>by
  have e:u=.bool b:=r
  subst e
  exact⟨[],.bool b,fun _ h=>nomatch h⟩
 |_,_,u,.int i,r=>by
  obtain⟨t,rfl⟩:=r
  exact⟨[],.int i t,fun _ h=>nomatch h⟩
 |_,_,u,.str x,r=>by
  obtain⟨t,rfl⟩:=r
  exact⟨[],.str x t,fun _ h=>nomatch h⟩
 |_,_,u,.tup (a:=a) h rs,r=>by
  have e:u=.ref a:=r
  subst e
  obtain⟨its,rv,⟨o,ho,hc,n,hd⟩,_⟩:=I.tuple (ai.of h)
  obtain⟨as,q⟩:=qI I rs rv
  exact⟨as,.tuple ho hc hd (by simpa using q),fun⟨b,e,hb⟩=>by cases e;rw[h]at hb;cases hb⟩
 |_,_,u,.lst (a:=a) h rs,r=>by
  have e:u=.ref a:=r
  subst e
  obtain⟨_,its,n,rv,ho⟩:=(show aU X.prog X.w H s.heap a (.lst _) from I.ah a _ h)
  obtain⟨as,q⟩:=qI I rs rv
  exact⟨a::as,.list ho rfl rfl (by simpa using q),fun⟨b,e,hb⟩=>by cases e;rw[h]at hb;cases hb⟩
 |_,_,u,.bD (a:=a) h,r=>by
  have e:u=.ref a:=r
  subst e
  obtain⟨_,hs,vs,kv,hm⟩:=(show aU X.prog X.w H s.heap a (.dK []) from I.ah a _ h)
  cases kv
  obtain⟨o,es,ep,ho,hc,hd,hk,hp,hn⟩:=hm
  have hz:es.toList=[]:=by
   have:=hp.length
   simp at this
   simpa using this
  refine⟨a::[]++[],.dict (kvs:=[]) ho hc.1 hd (by rw[hz];exact .nil) (by rw[hz];exact .nil),fun _ hm=> ?_⟩
  simp only[List.append_nil,List.mem_singleton]at hm
  rw[hm]at hs
  simp at hs
theorem qI (I:Inv X pins σ H s):∀{vs:List V}{ds:List PyData}{us:List Value},fv H vs ds→Vals vs us→∃as,ReadsAll s.heap us ds as
 |_,_,_,.nil,.nil=> ⟨[],.nil⟩
 |_,_,_,.cons h t,.cons r rs=>by
  obtain⟨as,q,_⟩:=Wl I h r
  obtain⟨bs,qs⟩:=qI I t rs
  exact⟨as++bs,.cons q qs⟩
end
end
section
variable {X:Cx}
theorem Jx (hu:X.A.units+64<cLine) (hg:X.A.guards=some []):cX X (.builtin "repr") (fun xs H Q=> ∃(x:V) (d:PyData),xs=[x]∧Sh H x d∧d.showable=true∧d.shown.length≤sizeLine∧d.depth≤60∧(d.hasDict=true→∃a,x=.ref a∧H a=some (.dK []))∧Q (.str d.shown) H):=by
 intro pins s σ H xs us Q I rv h
 obtain⟨x,d,rfl,rd,hs,hz,hd,hh,q⟩:=h
 obtain⟨u,rfl,ru⟩:=vals1 rv
 obtain⟨as,r,hn⟩:=Wl I rd ru
 have fin:∀h' u' tk,(∀b o,s.heap.get? b=some o→h'.get? b=some o)→EP X pins σ Q (.str d.shown u') {s with heap:=h',toks:=tk} :=fun h' u' tk hk=> ⟨.str d.shown,H,I.kept hk,⟨_,rfl⟩,q⟩
 cases rd with
 |aa=>
  have e:u=.none:=ru
  subst e
  exact P.repr_of_none (fin _ _ _ fun _ _ e=>e)
 |bl b=>
  have e:u=.bool b:=ru
  subst e
  have:=fin s.heap s.toks (s.toks+1) fun _ _ e=>e
  simp only[PyData.shown]at this
  exact P.repr_of_bool this
 |int i=>
  obtain⟨t,rfl⟩:=ru
  have:=fin s.heap s.toks (s.toks+1) fun _ _ e=>e
  simp only[PyData.shown]at this
  exact P.repr_of_int (by simpa[PyData.showable] using hs) this
 |str x=>
  obtain⟨t,rfl⟩:=ru
  have:=fin s.heap s.toks (s.toks+1) fun _ _ e=>e
  simp only[PyData.shown]at this hz
  exact P.repr_of_str this hz
 |tup h rs=>
  cases ru
  exact repr_of_reads' r hs (fun z=>hn (hh z)) hg (by omega) (fun _ _ e=>e) fin hz
 |lst h rs=>
  cases ru
  exact repr_of_reads' r hs (fun z=>hn (hh z)) hg (by omega) (fun _ _ e=>e) fin hz
 |bD h=>
  cases ru
  exact repr_of_reads' r hs (fun z=>hn (hh z)) hg (by omega) (fun _ _ e=>e) fin hz
end
end L2
namespace L2
open PySem PySem.Spec PyProof.Rows
end L2
namespace L2
open PySem PySem.Spec PyProof.Rows SeqAt
section
variable {X:Cx}
def jU:V→Bool
 | .aa=>true
 | .int _=>true
 |_=>false
theorem Gg {A:Around}{s:Shared}{x y:V}{u v:Value}(hx:jU x=true) (hy:jU y=true) (ru:RelV x u) (rv:RelV y v):EqAt A s u v (decide (x=y)):=by
 cases x with
 |aa=>
  cases ru
  cases y with
  |aa=>cases rv;exact EqAt.same _
  |int j=>obtain⟨t,rfl⟩:=rv;exact EqAt.none_int j t
  |_=>cases hy
 |int i=>
  obtain⟨t,rfl⟩:=ru
  cases y with
  |aa=>cases rv;exact EqAt.int_none i t
  |int j=>
   obtain⟨t',rfl⟩:=rv
   rw[Wg]
   exact EqAt.int_int i t j t'
  |_=>cases hy
 |_=>cases hx
theorem FY {A:Around}{s:Shared}{xs ys:List V}{us vs:List Value}(hx:xs.all jU=true) (hy:ys.all jU=true) (r1:Vals xs us) (r2:Vals ys vs):
  ∀j (h1:j<us.toArray.size) (h2:j<vs.toArray.size),EqAt A s us.toArray[j] vs.toArray[j] (decide (xs.getD j .aa=ys.getD j .aa)):=fun j h1 h2=>by
 have l1:=r1.length
 have l2:=r2.length
 have k1:j<xs.length:=by simp at h1;omega
 have k2:j<ys.length:=by simp at h2;omega
 obtain⟨u,hu,ru⟩:=r1.get (List.getElem?_eq_getElem k1)
 obtain⟨v,hv,rv⟩:=r2.get (List.getElem?_eq_getElem k2)
 have e1:us.toArray[j]=u:=by simpa using (List.getElem?_eq_some_iff.mp hu).2
 have e2:vs.toArray[j]=v:=by simpa using (List.getElem?_eq_some_iff.mp hv).2
 rw[e1,e2,List.getD_eq_getElem?_getD,List.getD_eq_getElem?_getD,List.getElem?_eq_getElem k1,List.getElem?_eq_getElem k2]
 exact Gg (List.all_eq_true.mp hx _ (List.getElem_mem k1)) (List.all_eq_true.mp hy _ (List.getElem_mem k2)) ru rv
theorem Gh {xs ys:List V}{us vs:List Value}(r1:Vals xs us) (r2:Vals ys vs):((List.range (min us.toArray.size vs.toArray.size)).all (fun j=>decide (xs.getD j .aa=ys.getD j .aa))&&us.toArray.size==vs.toArray.size)=decide (xs=ys):=by
 have l1:=r1.length
 have l2:=r2.length
 rw[Bool.eq_iff_iff,Bool.and_eq_true,List.all_eq_true,decide_eq_true_eq,beq_iff_eq,List.size_toArray,List.size_toArray]
 constructor
 ·rintro⟨h,hl⟩
  refine List.ext_getElem (by omega) fun i h1 h2=> ?_
  have:=h i (by rw[List.mem_range];omega)
  simpa[h1,h2] using this
 ·rintro rfl
  exact⟨fun j _=>by simp,by omega⟩
def AU (K:PySem.W.Frag) (r:Bool):R2:=fun x y H Q=> ∃(a b:Addr) (xs ys:List V),x=.ref a∧y=.ref b∧H a=some (.tup xs)∧H b=some (.tup ys)∧xs.all jU=true∧ys.all jU=true∧Q (.bl (xor r (decide (xs=ys)))) H
theorem GS (hu:X.A.units<cLine):aO X (compareOp .Eq) (AU X.K false):=by
 intro pins s σ H x y u v Q I rx ry h
 obtain⟨a,b,xs,ys,rfl,rfl,ha,hb,hx,hy,q⟩:=h
 cases rx
 cases ry
 obtain⟨us,r1,p1,_⟩:=I.tuple (ai.of ha)
 obtain⟨vs,r2,p2,_⟩:=I.tuple (ai.of hb)
 refine eq_tupleAt p1 p2 hu (FY hx hy r1 r2) ?_
 rw[Gh r1 r2]
 exact⟨.bl _,H,I,rfl,by rw[Bool.false_xor]at q;exact q⟩
end
end L2
namespace U
open PySem L2 PyProof.Rows
def dg (K:PySem.W.Frag) (H:Hp) (a:Addr) (ns:List Int):Prop:=(∃o,H a=some (.bC o (.lst (ns.map V.int))))∨∃(o:Obj) (its:Array Value) (n:Nat),K.lookup a=some o∧o.cls=.type "list" ∧o.dict=none∧o.data=.seq its n∧its.size≤sizeLine∧Vals (ns.map V.int) its.toList
theorem dg.sq {K:PySem.W.Frag}{H:Hp}{a:Addr}{ns:List Int}(h:dg K H a ns):af K H a (ns.map V.int):=by
 rcases h with ⟨o,h⟩ |h
 ·exact .inl (.inr ⟨o,h⟩)
 ·exact .inr h
theorem dg.same {K:PySem.W.Frag}{H H':Hp}{a:Addr}{ns:List Int}(h:dg K H a ns) (s:ae H H'):dg K H' a ns:=by
 rcases h with ⟨o,h⟩ |h
 ·exact .inl ⟨o,s _ _ h⟩
 ·exact .inr h
theorem dg.x {K:PySem.W.Frag}{H H':Hp}{a p:Addr}{ns:List Int}{o:HO}(h:dg K H a ns) (s:ak p H H') (hp:H p=some o) (hn:∀ob u,o≠.bC ob u):dg K H' a ns:=by
 rcases h with ⟨ob,h⟩ |h
 ·exact .inl ⟨ob,s _ _ h fun z=>by rw[z,hp]at h;cases h;exact hn _ _ rfl⟩
 ·exact .inr h
end U
namespace U
open PySem L2 PyProof.Rows PySem.Spec
def mV (mg:Str→Option Value) (h:Heap):Prop:=∃bm ob,mg "__builtins__" =some (.ref bm)∧bm≠builtinsNs∧h.get? bm=some ob∧ob.cls=.type "module" ∧ob.dict=some builtinsNs∧ob.data=.plain
theorem WV {P:Program}{w:World}{K:PySem.W.Frag}{mg mb:Str→Option Value}{k:Nat}{fa a:Addr}{Pts:List Addr}{fd:FuncData}{x:Str}{sp:Sp}{aA:Shared}{vs:List Value}{ns:List Int}
  (KX:K.In aA.heap) (lO:aA.heap.Ns mainGlobals mg) (hb:aA.heap.Ns builtinsNs mb) (gv:∀x:Str,x≠ "__name__" →mb x=bootBuiltins x) (C6:aA.heap.NoLimit) (hg:aA.gens= #[])
  (ha:aA.heap.get? a=some {cls:=.type "list",data:=.seq vs.toArray}) (hi:IntsAre vs ns) (hl:ns.length≤sizeLine) (hr:bo k callerA)
  (eH:∀Pt∈Pts,aA.heap.get? Pt=some (PySem.W.tabObj #[])) (DY:∀Pt∈Pts,∃c,PySem.W.CodeHd aA.heap c Pt) (DO:∀Pt∈Pts,K.lookup Pt=none) (sQ:mV mg aA.heap)
  (F:∀base:Heap,K.In base→base.Ns mainGlobals mg→mV mg base→az P w K mg base aE k fa fd [x] sp) (DA:∀(s:Shared) (u:Value),BindsTo s fd ⟨[u],[]⟩ [(x,u)])
  (cw:∀H:Hp,dg K H a ns→(∀Pt∈Pts,H Pt=some (.bh #[]))→sp [.ref a] H (fun v _=>v=.bl true) fun _ _ _=>False):
  codeAny (model P w) callerA (.call (.ref fa) ⟨[.ref a],[]⟩) (fun r s'=>r=.ok (.ret (.bool true))∧OldK aA.heap s'.heap∧s'.os=aA.os∧AllBare s'.gens) aA:=by
 have rv:=JK hi
 have BW:=hi.length
 have me:∀{Pt:Addr},Pt∈Pts→aA.heap.get? Pt=some {cls:=.none,data:=.fields #[]} :=fun h=>eH _ h
 have xp:a∉Pts:=fun z=>by have h:=me z;rw[ha]at h;cases h
 have core:∀H:Hp,(∀b,b∉Pts→H b=none∨∃o xs,H b=some (.bC o (.lst xs)))→dg K H a ns→(∀Pt∈Pts,H Pt=some (.bh #[]))→bg P w H aA.heap→(∀b,H b≠none→b=a∨b∈Pts)→(H a≠none→K.lookup a=none)→
   codeAny (model P w) callerA (.call (.ref fa) ⟨[.ref a],[]⟩) (fun r s'=>r=.ok (.ret (.bool true))∧OldK aA.heap s'.heap∧s'.os=aA.os∧AllBare s'.gens) aA:=by
  intro H hO hS hP ah hA hK
  have tT:∀{b:Addr}{o:Obj},aA.heap.get? b=some o→H b=none→(eT aA.heap H).get? b=some o:=fun e n=>Wx e n
  have cb:∀{b:Addr}{o:Obj},aA.heap.get? b=some o→(∀vs n,o.data≠.seq vs n)→(∀ps,o.data≠.fields ps)→H b=none:=fun {b o} e d1 d2=>by
   cases q:H b with
   |none=>rfl
   |some u=>
    rcases hA b (by rw[q];simp) with e' |e'
    ·subst e'
     rw[ha]at e;cases e
     exact absurd rfl (d1 _ _)
    ·rw[me e']at e;cases e
     exact absurd rfl (d2 _)
  have oq:∀{b:Addr}{m:Str→Option Value},aA.heap.Ns b m→(eT aA.heap H).Ns b m:=fun {b m} ⟨o,es,ep,e,d,r⟩=> ⟨o,es,ep,tT e (cb e (fun _ _ z=>by rw[d]at z;cases z) fun _ z=>by rw[d]at z;cases z),d,r⟩
  have xr:K.In (eT aA.heap H):=fun b o e=>tT (KX b o e) (by
   cases q:H b with
   |none=>rfl
   |some u=>
    rcases hA b (by rw[q];simp) with e' |e'
    ·subst e'
     rw[hK (by rw[q];simp)]at e;cases e
    ·rw[DO _ e']at e;cases e)
  have hM:Mod K mg (eT aA.heap H):=⟨xr,oq lO,⟨mb,oq hb,gv⟩,let ⟨mc,h1,h2⟩:=C6;⟨mc,oq h1,h2⟩⟩
  have Dz:mV mg (eT aA.heap H):=let ⟨bm,ob,b1,b2,b3,b4,b5,b6⟩:=sQ;⟨bm,ob,b1,b2,tT b3 (cb b3 (fun _ _ z=>by rw[b6]at z;cases z) fun _ z=>by rw[b6]at z;cases z),b4,b5,b6⟩
  have e0:mT P w K mg (eT aA.heap H) callerA [] aA H:=⟨rfl,hM,fun b o e=>W9 e,Nat.le_of_eq (JR _ _),trivial,fun b hb=>absurd (show b∈([]:List Addr) from hb) (by simp),ah,.of_eq hg⟩
  refine codeAny_mono ((F _ xr (oq lO) Dz).run callerA [] aA H ⟨[.ref a],[]⟩ [.ref a] [.ref a] _ _ hr e0 (DA aA (.ref a)) (.cons rfl .nil) (cw H hS hP)) fun r s' h=> ?_
  cases r with
  |error e=>exact False.elim h
  |ok fl=>
   cases fl with
   |next=>exact False.elim h
   |brk=>exact False.elim h
   |cont=>exact False.elim h
   |ret u=>
    obtain⟨v,H',os,bare,un,wN,r',q⟩:=h
    have q':v=.bl true:=q
    subst q'
    obtain rfl:u=Value.bool true:=r'
    have old:∀b o,aA.heap.get? b=some o→asItWas aA.heap s'.heap b o:=fun b o e=>by
     cases q:H b with
     |none=>exact .inl (un.keep b o e q (by intro z;exact absurd (show b∈([]:List Addr) from z) (by simp)) (by simp))
     |some u=>
      by_cases jh:b∈Pts
      ·obtain⟨more,z⟩:=un.dB b _ (hP b jh)
       have e2:s'.heap.get? b=some {cls:=.none,data:=.fields (#[]++more)} :=wN b _ z
       rw[me jh]at e
       cases e
       obtain⟨c,hC⟩:=DY b jh
       exact .inr (.inl ⟨(hC.tab (eH b jh)).isCodeTable,rfl, #[],more,rfl,e2⟩)
      ·rcases hO b jh with z |⟨ob,xs,z⟩
       ·rw[q]at z;cases z
       ·have z2:=un.dN b ob _ z
        obtain⟨e1,_⟩:=ah b _ z
        obtain⟨e2,_⟩:=wN b _ z2
        rw[e]at e1;cases e1
        exact .inl e2
    exact⟨rfl,⟨old,fun b o e=>un.there b o e (by simp)⟩,os,bare⟩
 cases hk:K.lookup a with
 |some o=>
  have e:=KX a o hk
  rw[ha]at e
  cases e
  refine core (fun b=>if b∈Pts then some (.bh #[]) else none) (fun b n=> .inl (if_neg n)) (.inr ⟨_,vs.toArray,_,hk,rfl,rfl,rfl,by rw[List.size_toArray,BW];exact hl,by simpa using rv⟩) (fun Pt h=>if_pos h) (fun b u z=> ?_) (fun b z=> ?_) fun z=>absurd (if_neg xp) z
  ·by_cases hb:b∈Pts
   ·have z':=(if_pos hb).symm.trans z
    cases z'
    exact me hb
   ·have z':=(if_neg hb).symm.trans z
    cases z'
  ·by_cases hb:b∈Pts
   ·exact .inr hb
   ·exact absurd (if_neg hb) z
 |none=>
  refine core (fun b=>if b∈Pts then some (.bh #[]) else if b=a then some (.bC {cls:=.type "list",data:=.seq vs.toArray} (.lst (ns.map V.int))) else none) (fun b n=> ?_) (.inl ⟨{cls:=.type "list",data:=.seq vs.toArray},(if_neg xp).trans (if_pos rfl)⟩) (fun Pt h=>if_pos h) (fun b u z=> ?_) (fun b z=> ?_) fun _=>hk
  ·by_cases hb:b=a
   ·exact .inr ⟨_,_,(if_neg n).trans (if_pos hb)⟩
   ·exact .inl ((if_neg n).trans (if_neg hb))
  ·by_cases hP:b∈Pts
   ·have z':=(if_pos hP).symm.trans z
    cases z'
    exact me hP
   ·by_cases hb:b=a
    ·have z':=((if_neg hP).trans (if_pos hb)).symm.trans z
     cases z'
     subst hb
     exact⟨ha,by rw[List.length_map];exact hl,vs,_,rv,ha⟩
    ·have z':=((if_neg hP).trans (if_neg hb)).symm.trans z
     cases z'
  ·by_cases hP:b∈Pts
   ·exact .inr hP
   ·by_cases hb:b=a
    ·exact .inl hb
    ·exact absurd ((if_neg hP).trans (if_neg hb)) z
theorem zf {l:PySem.W.OpenLaw}{n k:Nat}{q:Program}{loose:List Str}{XP:(Str→Option Value)→Heap→Prop}{YP:World→Heap→Prop}{d:DefRec}{K:Params→PySem.W.Frag}{sp:PySem.W.Frag→Sp}{x:Str}{Pts:List Addr}
    (hn:l.most=some n) (CW:n≤sizeLine) (sI:d.params.defaults=[]) (hr:bo k callerA)
    (hY:∀(w:World) (h:Heap),YP w h→(K w.params).In h) (DF:∀(w:World) (h:Heap),YP w h→∀Pt∈Pts,h.get? Pt=some (PySem.W.tabObj #[]))
    (hC:∀(w:World) (h:Heap),(K w.params).In h→∀Pt∈Pts,∃c,PySem.W.CodeHd h c Pt) (DP:∀w:World,∀Pt∈Pts,(K w.params).lookup Pt=none)
    (F:∀(w:World) (mg:Str→Option Value) (fa:Addr) (h:Heap),(K w.params).In h→h.Ns mainGlobals mg→mg d.name=some (.ref fa)→
      ∃fd:FuncData,(∀(s:Shared) (u:Value),BindsTo s fd ⟨[u],[]⟩ [(x,u)])∧
       ∀base:Heap,(K w.params).In base→base.Ns mainGlobals mg→mV mg base→az l.prog w (K w.params) mg base aE k fa fd [x] (sp (K w.params)))
    (cw:∀(K:PySem.W.Frag) (H:Hp) (a:Addr) (ns:List Int),ns.length≤n→dg K H a ns→(∀Pt∈Pts,H Pt=some (.bh #[]))→sp K [.ref a] H (fun v _=>v=.bl true) fun _ _ _=>False):
    PySem.W.WalkO q loose XP YP l.row.toRowW d [] (fun f vs=>PySem.call f vs):=by
  refine za.Ff hn sI fun w bw aA mg mb fa o pm cd doc a vs ns G Y ho hd bP hmg se hints hlen hg=> ?_
  have KX:=hY w _ Y
  obtain⟨fd,hb,hF⟩:=F w mg fa _ KX G.T.g hmg
  exact WV KX G.T.g G.T.b G.T.builtins G.T.nolimit hg se hints (Nat.le_trans hlen CW) hr (DF w _ Y) (hC w _ KX) (DP w) G.T.bmain hF hb (fun H hS hP=>cw (K w.params) H a ns hlen hS hP)
def bJ (K:PySem.W.Frag) (x:Str) (st:Stmt):Prop:=∃f fd,PySem.W.nsIn K mainGlobals x=some (some (.ref f))∧aK K x x st f fd
theorem cm {K:PySem.W.Frag}{x:Str}{st:Stmt}{f:Addr}{oc:Value}{od an:Option Addr}{dq:Array (Option Value)}{kV doc pm ao ct:Value}(e1:PySem.W.nsIn K mainGlobals x=some (some (.ref f)))
  (e2:K.lookup f=some ⟨oc,od,.func (PySem.W.fnOf x x (dQ st) (bu st) (au st) .none kV doc pm an ao ct),dq⟩) (e3:PySem.W.codeIn K ao x=true) (e4:PySem.W.keepIn K (.ref f)=true):bJ K x st:=⟨f,_,e1,FP e2 e3 e4⟩
section
variable {P:Program}{w:World}{K:PySem.W.Frag}{mg:Str→Option Value}{base:Heap}
abbrev kA (x:Str) (st:Stmt) (ps:List Str):Prop:=∀(kV doc pm:Value) (an:Option Addr) (ao ct:Value) (us:List Value),us.length=ps.length→bindArgs (PySem.W.fnOf x x (dQ st) (bu st) (au st) .none kV doc pm an ao ct) ⟨us,[]⟩=pure (ps.zip us)
theorem bJ.to {h:Heap}{x:Str}{st:Stmt}{ps:List Str}{k:Nat}{sp:Sp}(d:bJ K x st) (KX:K.In h) (G:h.Ns mainGlobals mg) (hb:kA x st ps) (ok:∀f fd,aK K x x st f fd→az P w K mg base aE k f fd ps sp):Def P w K mg base k x ps sp:=by
 obtain⟨f,fd,e,F⟩:=d
 exact⟨f,fd,ok f fd F,PySem.W.mg_of KX G e,F.kp,F.binds hb⟩
theorem bJ.kG {h:Heap}{x:Str}{st:Stmt}{ps:List Str}{k:Nat}{sp:Sp}(d:bJ K x st) (KX:K.In h) (G:h.Ns mainGlobals mg) (hb:kA x st ps) (ok:∀f fd,aK K x x st f fd→az P w K mg base (bq P w) k f fd ps sp):cJ P w K mg base k x ps sp:=by
 obtain⟨f,fd,e,F⟩:=d
 exact⟨f,fd,ok f fd F,PySem.W.mg_of KX G e,F.kp,F.binds hb⟩
def ou (K:PySem.W.Frag) (x:Str):Bool:=match PySem.W.nsIn K mainGlobals x with |some none=>true |_=>false
theorem Ut {h:Heap}{x:Str}(KX:K.In h) (G:h.Ns mainGlobals mg) (e:ou K x=true):mg x=none:=by
 unfold ou at e
 split at e
 ·rename_i q
  exact PySem.W.mg_none_of KX G q
 ·cases e
end
end U
namespace HS
open PySem PySem.SetTable
abbrev Hw (l:List Nat):Prop:=l.Pairwise (· < ·)
abbrev tb (m:Nat):SetTable:= {mask:=m,place:= #[],dummies:= #[],finger:=0,led:=false,moves:=0,plain:=false}
def Fi (m:Nat) (p:Probe):Probe:=(tb m).advance p
def it (m:Nat) (p:Probe):Nat→Probe
 |0=>p
 |k+1=>Fi m (it m p k)
abbrev fr (m i pt:Nat):Probe:= {j:=i,more:=runEnd m i - i,i,perturb:=pt,dummy:=none}
abbrev st (m:Nat) (h:Int):Probe:=fr m (bits h%(m+1)) (bits h)
def lp (m:Nat) (x:Nat×Nat):Nat×Nat:=leap m x.1 x.2
def wc (m:Nat) (x:Nat×Nat):Nat→Nat×Nat
 |0=>x
 |k+1=>lp m (wc m x k)
def nx (m i:Nat):Nat:=(i*5+1)%(m+1)
def yV (m:Nat) (Br:Nat→Prop) (p:Probe) (j:Nat):Prop:=∃n,(it m p n).j=j∧∀k<n,Br (it m p k).j
structure T0 (t:SetTable) (es:Array (Int×Value)):Prop where
 sz:t.place.size=es.size
 Im:Hw t.place.toList
 IY:t.dummies= #[]
 le:∀j∈t.place.toList,j<t.mask+1
 ld:∀z∈t.place.toList.zip es.toList,yV t.mask (·∈t.place.toList) (st t.mask z.2.1) z.1
def Hv (m n:Nat):Prop:=(m=7∧n≤4)∨(m=31∧n≤18)∨(m=127∧n≤76)∨(m=511∧n≤306)
structure Ke (m:Nat) (hs:List Int) (owner:Array (Option Nat)):Prop where
 sz:owner.size=m+1
 lt:∀(j k:Nat),owner[j]? =some (some k)→k<hs.length
 at_:∀(k:Nat) (h:Int),hs[k]? =some h→∃j:Nat,owner[j]? =some (some k)∧yV m (fun x=> ∃k,owner[x]? =some (some k)) (st m h) j
 inj:∀(j j' k:Nat),owner[j]? =some (some k)→owner[j']? =some (some k)→j=j'
def live (m:Nat) (owner:Array (Option Nat)):List (Nat×Nat):=(List.range (m+1)).filterMap fun j=> (owner.getD j none).map (j, ·)
section
variable {prog:Program}{w:World}{K:Type} [DecidableEq K]
structure HK (knd:HeapKind prog w K):Prop where
 IZ:∀{A:Around}{E:Value→Shared→Prop}{s:Shared}{k:K}{a:Addr}{Q:Bool→Shared→Prop},knd.is s.heap k a→(∀b,Q b s)→wpAny (model prog w) A (hashByValue 8 (.ref a)) Q E s
 notCls:∀{A:Around}{E:Value→Shared→Prop}{s:Shared}{k:K}{a:Addr}{Q:Bool→Shared→Prop},knd.is s.heap k a→Q false s→wpAny (model prog w) A (ofAClassStatement 8 (.ref a)) Q E s
 IC:∀{h h':Heap}{k:K}{a d:Addr}{o:Obj}{es ep t},knd.is h k a→h.get? d=some o→o.data=.set es ep t→Heap.SameBut d h h'→knd.is h' k a
variable {knd:HeapKind prog w K}{A:Around}{E:Value→Shared→Prop}{s:Shared}
def y8 (knd:HeapKind prog w K) (h:Heap) (k:K) (e:Int×Value):Prop:=∃a,e.2=.ref a∧knd.is h k a∧e.1=knd.hash k
end
section
variable {prog:Program}{w:World}{K:Type} [DecidableEq K] {knd:HeapKind prog w K}{A:Around}{E:Value→Shared→Prop}{s:Shared}
structure Kc (knd:HeapKind prog w K) (h:Heap) (S:Addr) (ks:List K) (o:Obj) (es:Array (Int×Value)) (ep:Nat) (t:SetTable):Prop where
 ho:h.get? S=some o
 ex:o.ExactSet
 hd:o.data=.set es ep t
 T:T0 t es
 room:Hv t.mask es.size
 el:∀e∈es.toList,∃k∈ks,y8 knd h k e
 all:∀k∈ks,∃e∈es.toList,y8 knd h k e
 sz:es.size=ks.length
end
end HS
namespace HS
open PySem PySem.SetTable PySem.Spec
section
variable {K:Type} [DecidableEq K]
def met (val:Nat→K):Nat→List K
 |0=> []
 |n+1=>if val n∈met val n then met val n else met val n++[val n]
variable {prog:Program}{w:World}{kk:KeyKind prog w K}{A:Around}{E:Value→Shared→Prop}{s:Shared}{R:Result→Shared→Prop}{I:Addr}{fp wr:List Addr}{G:Array GenState→Array GenState→Prop}{n:Nat}{P:Nat→Value→Prop}{St:Nat→Shared→Prop}
end
end HS
namespace L2
open PySem PySem.Spec PyProof.Rows
end L2
namespace L2
open PySem PySem.Spec PyProof.Rows SeqAt
section
variable {X:Cx}
theorem FI {pins:List (Addr×Obj)}{σ:St}{H:Hp}{s:Shared}{x y:V}{u v:Value}{k:List Int}(A:Around) (hu:A.units<cLine) (I:Inv X pins σ H s) (hx:js H x k) (hy:js H y k) (ru:RelV x u) (rv:RelV y v):EqAt A s u v true:=by
 obtain⟨a,rfl,ha⟩:=hx
 obtain⟨b,rfl,hb⟩:=hy
 cases ru
 cases rv
 by_cases fT:a=b
 ·subst fT
  exact EqAt.same _
 ·obtain⟨us,r1,p1,_⟩:=I.tuple (ai.of ha)
  obtain⟨vs,r2,p2,_⟩:=I.tuple (ai.of hb)
  have z:=RcAt.tuples (A:=A) (s:=s) (e:=fun j=>k.getD j 0==k.getD j 0) p1 p2 hu (fun j h1 h2=>by
   obtain⟨t1,e1⟩:=Yb r1 j (by simpa using h1)
   obtain⟨t2,e2⟩:=Yb r2 j (by simpa using h2)
   rw[show us.toArray[j]=us[j]'(by simpa using h1) by simp,show vs.toArray[j]=vs[j]'(by simpa using h2) by simp,e1,e2]
   exact EqAt.int_int _ _ _ _)
  have l1:=r1.length
  have l2:=r2.length
  have e:((List.range (min us.toArray.size vs.toArray.size)).all (fun j=>k.getD j 0==k.getD j 0)&&us.toArray.size==vs.toArray.size)=true:=by
   simp
   omega
  rw[e]at z
  exact EqAt.of_refs fT z
def AY (K:PySem.W.Frag) (r:Bool):R2:=fun x y H Q=> ∃(a b:Addr) (xs ys:List V) (ks:List (List Int)),x=.ref a∧y=.ref b∧af K H a xs∧af K H b ys∧Paired (js H) xs ks∧Paired (js H) ys ks∧Q (.bl r) H
theorem Fu {pins:List (Addr×Obj)}{σ:St}{H:Hp}{s:Shared}{xs ys:List V}{ks:List (List Int)}{us vs:List Value}(A:Around) (hu:A.units<cLine) (I:Inv X pins σ H s) (p1:Paired (js H) xs ks) (p2:Paired (js H) ys ks) (r1:Vals xs us) (r2:Vals ys vs):∀j (h1:j<us.toArray.size) (h2:j<vs.toArray.size),EqAt A s us.toArray[j] vs.toArray[j] true:=fun j h1 h2=>by
 have l1:=r1.length
 have l2:=r2.length
 have k1:j<xs.length:=by simp at h1;omega
 have k2:j<ys.length:=by simp at h2;omega
 obtain⟨k,hk,e⟩:=Z6 p1 (List.getElem?_eq_getElem k1)
 obtain⟨k',cD,e'⟩:=Z6 p2 (List.getElem?_eq_getElem k2)
 rw[hk]at cD
 cases cD
 obtain⟨u,lJ,ru⟩:=r1.get (List.getElem?_eq_getElem k1)
 obtain⟨v,lI,rv⟩:=r2.get (List.getElem?_eq_getElem k2)
 have e1:us.toArray[j]=u:=by simpa using (List.getElem?_eq_some_iff.mp lJ).2
 have e2:vs.toArray[j]=v:=by simpa using (List.getElem?_eq_some_iff.mp lI).2
 rw[e1,e2]
 exact FI A hu I e e' ru rv
theorem GV (hu:X.A.units+1<cLine):aO X (compareOp .NotEq) (AY X.K false):=by
 intro pins s σ H x y u v Q I rx ry h
 obtain⟨a,b,xs,ys,ks,rfl,rfl,ha,hb,p1,p2,q⟩:=h
 cases rx
 cases ry
 obtain⟨us,r1,l1,_⟩:=I.list ha
 obtain⟨vs,r2,l2,_⟩:=I.list hb
 have eC:us.toArray.size=vs.toArray.size:=by have:=r1.length;have:=r2.length;have:=Paired.length p1;have:=Paired.length p2;simp at *;omega
 refine RcNeAt.lists (e:=fun _=>true) l1.isList l2.isList eC (Nat.lt_of_succ_lt hu) (Fu X.A.in1 hu I p1 p2 r1 r2) _ _ _ _ ?_
 have e:(List.range us.toArray.size).all (fun _=>true)=true:=by simp
 rw[e]
 exact⟨.bl false,H,I,rfl,q⟩
end
end L2
namespace L2
open PySem PySem.Spec PyProof.Rows
end L2
namespace L2
open PySem PySem.Spec PyProof.Rows SeqAt
section
variable {X:Cx}
theorem YL {a b:String} :cX X (.builtin "isinstance") (fun xs H Q=> ∃(x:V) (t:Addr) (T:Value) (r:Bool),xs=[x,.ref t]∧ai X.K H t [.ty a,.ty b]∧((∃i,x=.int i∧T=.type "int")∨(∃k,x=.bl k∧T=.type "bool")∨(x=.aa∧T=.type "NoneType")∨(∃l ys,x=.ref l∧H l=some (.lst ys)∧T=.type "list")∨∃l ys,x=.ref l∧H l=some (.tup ys)∧T=.type "tuple")∧
  PySem.W.kitAny X.K T [.type a,.type b]=some r∧Q (.bl r) H):=by
 intro pins s σ H xs us Q I rv h
 obtain⟨x,t,T,r,rfl,hq,hx,hk,q⟩:=h
 obtain⟨u,v,rfl,ru,rv⟩:=vals2 rv
 cases rv
 obtain⟨its,rt,pl,hz⟩:=I.tuple hq
 cases rt with
 |cons r1 r2=>
  cases r2 with
  |cons r3 r4=>
   cases r4
   cases r1
   cases r3
   obtain⟨o,ho,hc,n,hd⟩:=id pl
   obtain⟨cls,dd,dt,sl⟩:=o
   replace hc:cls=.type "tuple" :=hc
   replace hd:dt=.seq [Value.type a,Value.type b].toArray n:=hd
   subst hc hd
   rcases hx with ⟨i,rfl,rfl⟩ |⟨k,rfl,rfl⟩ |⟨rfl,rfl⟩ |⟨l,ys,rfl,hl,rfl⟩ |⟨l,ys,rfl,hl,rfl⟩
   ·obtain⟨tk,rfl⟩:=ru
    exact PySem.W.kia_tup PySem.W.kitx_int I.bc True.intro ho hk (fun z=>nomatch z) fun tk=> ⟨.bl r,H,I.tok _,rfl,q⟩
   ·cases ru
    exact PySem.W.kia_tup PySem.W.kitx_bool I.bc True.intro ho hk (fun z=>nomatch z) fun tk=> ⟨.bl r,H,I.tok _,rfl,q⟩
   ·cases ru
    exact PySem.W.kia_tup PySem.W.kitx_none I.bc True.intro ho hk (fun z=>nomatch z) fun tk=> ⟨.bl r,H,I.tok _,rfl,q⟩
   ·cases ru
    obtain⟨_,_,n,_,h1⟩:=(show aU X.prog X.w H s.heap l (.lst ys) from I.ah l _ hl)
    exact PySem.W.kia_tup PySem.W.kitx_list I.bc ⟨_,h1,rfl⟩ ho hk (fun z=>nomatch z) fun tk=> ⟨.bl r,H,I.tok _,rfl,q⟩
   ·cases ru
    obtain⟨_,_,_,p,_⟩:=(show aU X.prog X.w H s.heap l (.tup ys) from I.ah l _ hl)
    obtain⟨o,h1,h2,_⟩:=p
    exact PySem.W.kia_tup PySem.W.kitx_tuple I.bc ⟨o,h1,h2⟩ ho hk (fun z=>nomatch z) fun tk=> ⟨.bl r,H,I.tok _,rfl,q⟩
end
end L2
namespace L2
open PySem PySem.Spec PyProof.Rows
end L2
namespace U
open PySem L2 PyProof.Rows
def top (i:Nat):Stmt:=PySem.Challenge.pw_unlikesteps_k02_points_there_and_back.main.body.getD i (.Pass ⟨0,0,0,0⟩)
structure Gs (mg:Str→Option Value):Prop where
 isinstance:mg "isinstance" =none
 int:mg "int" =none
 bool:mg "bool" =none
 tuple:mg "tuple" =none
 list:mg "list" =none
 len:mg "len" =none
 all:mg "all" =none
 set:mg "set" =none
 range:mg "range" =none
 max:mg "max" =none
 min:mg "min" =none
 enumerate:mg "enumerate" =none
 zip:mg "zip" =none
 repr:mg "repr" =none
 longest:∃t,mg "LONGEST_SIDE" =some (.int 12 t)
section
variable {P:Program}{w:World}{K:PySem.W.Frag}{mg:Str→Option Value}{base:Heap}
abbrev qm:Stmt:=top 19
def pR (K:PySem.W.Frag):Sp:=fun vs H Q _=> ∃x,vs=[x]∧bN K H x∧Q (.bl (whole x)) H
theorem AJ:bI ["thing"] ["thing"] (au qm):=⟨rfl,rfl,rfl,by decide+kernel,rfl,by decide+kernel,by decide+kernel⟩
theorem U6 {f:Addr}{fd:FuncData}(F:aK K "is_whole" "is_whole" qm f fd) (G:Gs mg):az P w K mg base aE 1 f fd ["thing"] (pR K):=by
 refine F.ok AJ (fun vs H Q E h=> ?_) (fun ao A outer s H vs Q E hr h=> ?_)
 ·obtain⟨x,rfl,_⟩:=h
  rfl
 ·obtain⟨x,rfl,⟨T,t⟩,q⟩:=h
  refine⟨_,Zk (ZB (Yf (Zg (Zn (c:= "int")) rfl G.isinstance boot_isinstance (Za (pv 0) (Za (Zv (v:=.ty "int") rfl G.int boot_int rfl) Zb)))
   (Ye (F9 (Zg (Zn (c:= "bool")) rfl G.isinstance boot_isinstance (Za (pv 0) (Za (Zv (v:=.ty "bool") rfl G.bool boot_bool rfl) Zb))))))),?_⟩
  refine⟨x,rfl,x,_,_,rfl,t,Hi t,_,rfl,?_⟩
  rw[Wu]at q
  cases e:rL x with
  |false=>rw[e]at q;exact ay q
  |true=>rw[e]at q;exact aH ⟨x,rfl,x,_,_,rfl,t,GA t,_,rfl,q⟩
abbrev ql:Stmt:=top 20
def jH (K:PySem.W.Frag):Sp:=fun vs H Q _=> ∃x a b,vs=[x,.int a,.int b]∧bN K H x∧Q (.bl (av x a b)) H
theorem AI:bI ["thing", "least", "most"] ["thing", "least", "most"] (au ql):=⟨rfl,rfl,rfl,by decide+kernel,rfl,by decide+kernel,by decide+kernel⟩
theorem Uo {f:Addr}{fd:FuncData}(F:aK K "is_whole_within" "is_whole_within" ql f fd) (D1:Def P w K mg base 1 "is_whole" ["thing"] (pR K)):az P w K mg base aE 2 f fd ["thing", "least", "most"] (jH K):=by
 refine F.ok AI (fun vs H Q E h=> ?_) (fun ao A outer s H vs Q E hr h=> ?_)
 ·obtain⟨x,a,b,rfl,_⟩:=h
  rfl
 ·obtain⟨x,a,b,rfl,t,q⟩:=h
  refine⟨_,Zk (ZB (Yf (Zi D1 hr (Za (pv 0) Zb)) (Ye (UZ yy yy (pv 1) (pv 0) (pv 2))))),?_⟩
  refine⟨x,rfl,x,rfl,t,_,rfl,?_⟩
  cases x with
  |int i=>
   refine aH ⟨_,rfl,_,rfl,_,_,rfl,rfl,_,rfl,?_⟩
   have e:av (.int i) a b=(decide (a≤i)&&decide (i≤b)):=rfl
   rw[e]at q
   cases e1:decide (a≤i) with
   |false=>rw[e1]at q;exact ay q
   |true=>rw[e1]at q;exact aH ⟨_,rfl,_,_,rfl,rfl,q⟩
  |_=>exact ay q
abbrev qo:Stmt:=top 21
def jI (K:PySem.W.Frag):Sp:=fun vs H Q _=> ∃x n,vs=[x,.int n]∧bN K H x∧Q (.bl (match aC H x with |some xs=>decide ((xs.length:Int)=n) |none=>false)) H
theorem AK:bI ["thing", "many"] ["thing", "many"] (au qo):=⟨rfl,rfl,rfl,by decide+kernel,rfl,by decide+kernel,by decide+kernel⟩
theorem U7 {f:Addr}{fd:FuncData}(F:aK K "is_tuple_of" "is_tuple_of" qo f fd) (G:Gs mg):az P w K mg base aE 1 f fd ["thing", "many"] (jI K):=by
 refine F.ok AK (fun vs H Q E h=> ?_) (fun ao A outer s H vs Q E hr h=> ?_)
 ·obtain⟨x,n,rfl,_⟩:=h
  rfl
 ·obtain⟨x,n,rfl,⟨T,t⟩,q⟩:=h
  refine⟨_,Zk (ZB (Yf (Zg (Zn (c:= "tuple")) rfl G.isinstance boot_isinstance (Za (pv 0) (Za (Zv (v:=.ty "tuple") rfl G.tuple boot_tuple rfl) Zb)))
   (Ye (Yh Jq (Zg Zq rfl G.len boot_len (Za (pv 0) Zb)) (pv 1) (bz _))))),?_⟩
  refine⟨x,rfl,x,_,_,rfl,t,Uz t,_,rfl,?_⟩
  cases e:aC H x with
  |none=>rw[e]at q;exact ay q
  |some xs=>
   rw[e]at q
   obtain⟨a,rfl,ha⟩:=Zx e
   refine aH ⟨_,rfl,a,xs,rfl,.inr (ai.of ha),_,rfl,rfl,?_⟩
   have z:decide (V.int (xs.length:Int)=V.int n)=decide ((xs.length:Int)=n):=by simp
   rw[z]
   exact q
abbrev qE:Stmt:=top 22
def i7:Option (List V)→Bool
 |some [a,b]=>av a 1 12&&av b 1 12
 |_=>false
def cC (K:PySem.W.Frag) (H:Hp) (x:V):Prop:=bN K H x∧∀xs,aC H x=some xs→∀y∈xs,bN K H y
def nN (K:PySem.W.Frag):Sp:=fun vs H Q _=> ∃x,vs=[x]∧cC K H x∧∀H',ae H H'→Q (.bl (i7 (aC H x))) H'
theorem AM:bI ["thing"] ["thing"] (au qE):=⟨rfl,rfl,rfl,by decide+kernel,rfl,by decide+kernel,by decide+kernel⟩
theorem GG {f:Addr}{fd:FuncData}(F:aK K "is_board" "is_board" qE f fd) (G:Gs mg) (D1:Def P w K mg base 1 "is_tuple_of" ["thing", "many"] (jI K)) (D2:Def P w K mg base 2 "is_whole_within" ["thing", "least", "most"] (jH K)):
  az P w K mg base aE 3 f fd ["thing"] (nN K):=by
 obtain⟨tk,hL⟩:=G.longest
 refine F.ok AM (fun vs H Q E h=> ?_) (fun ao A outer s H vs Q E hr h=> ?_)
 ·obtain⟨x,rfl,_⟩:=h
  rfl
 ·obtain⟨x,rfl,⟨t,hi⟩,q⟩:=h
  refine⟨_,Zk (ZB (Yf (Zi D1 (hr.mono (by decide)) (Za (pv 0) (Za Zh Zb)))
   (Ye (Zg Z0 rfl G.all boot_all (Za (ZY ["side"] 1 [] (WN (pv 0)) (fun C s H fp=>pb 0) (fun C s H fp=>Z3)
    (fun C s H fp D=>ZE rfl (Zi D2 (hr.mono (by decide)) (Za (pv 0) (Za Zh (Za (ZH (v:=.int 12) rfl hL ⟨_,rfl⟩) Zb)))))) Zb))))),?_⟩
  refine⟨x,rfl,x,2,rfl,t,_,rfl,?_⟩
  cases e:aC H x with
  |none=>rw[e]at q;exact ay (q H (ae.refl H))
  |some xs=>
   rw[e]at q
   obtain⟨a,rfl,ha⟩:=Zx e
   show if decide ((xs.length:Int)=2)=true then _ else _
   by_cases h2:xs.length=2
   ·rw[decide_eq_true (show(xs.length:Int)=2 by omega)]
    refine aH ⟨_,rfl,a,rfl,⟨xs,ai.of ha⟩,?_⟩
    refine Js (xs:=xs) (fun i ys σ H2=>ys=(xs.take i).map (fun y=>V.bl (av y 1 12))∧H2=H∧∃v,σ=[v]) ⟨rfl,rfl,none,rfl⟩ (fun i ys σ H2 _ ⟨_,e2,_⟩=>by rw[e2];exact ai.of ha) ?_ ?_
    ·rintro i y ys σ H2 hy ⟨rfl,rfl,v,rfl⟩
     have my:y∈xs:=List.mem_of_getElem? hy
     refine⟨y,rfl,y,1,12,rfl,hi xs e y my,?_,?_⟩
     ·rw[List.length_map,sizeLine_eq,List.length_take];omega
     ·refine⟨?_,rfl,_,rfl⟩
      rw[List.take_add_one,hy,List.map_append]
      rfl
    ·rintro ys σ H2 ⟨rfl,rfl,v,rfl⟩ p hp
     rw[List.take_length]
     refine⟨p,xs.map (fun y=>av y 1 12),rfl,?_,?_⟩
     ·rw[List.map_map];exact af.of Zc
     ·have e3:i7 (some xs)=(xs.map (fun y=>av y 1 12)).all id:=by
       match xs,h2 with
       | [a,b],_=>simp[i7]
      rw[←e3]
      exact q _ fun b o hb=>by rw[Ze (Zf hb hp)];exact hb
   ·rw[decide_eq_false (show ¬(xs.length:Int)=2 by omega)]
    have e3:i7 (some xs)=false:=by
     match xs,h2 with
     | [],_=>rfl
     | [a],_=>rfl
     | [a,b],h=>exact absurd rfl h
     |a::b::c::r,_=>rfl
    rw[e3]at q
    exact ay (q H (ae.refl H))
end
section
theorem Yx (val:Nat→Int):∀n,((PyProof.Rows.firstMet val n).length=n↔((List.range n).map val).Nodup)
 |0=>by simp[PyProof.Rows.firstMet_zero]
 |n+1=>by
  have ih:=Yx val n
  have le:=PyProof.Rows.firstMet_length_le val n
  rw[PyProof.Rows.firstMet_succ,PyProof.Rows.step_length,PyProof.Rows.firstMet_any,List.range_succ,List.map_append]
  have e:(((List.range n).map val).any (· ==val n))=true↔val n∈(List.range n).map val:=by
   rw[List.any_eq_true]
   constructor
   ·rintro⟨x,hx,q⟩
    have:x=val n:=by simpa using q
    rw[←this];exact hx
   ·intro h;exact⟨_,h,by simp⟩
  have nd:((List.range n).map val++List.map val [n]).Nodup↔((List.range n).map val).Nodup∧¬val n∈(List.range n).map val:=by
   rw[List.nodup_append]
   constructor
   ·rintro⟨h1,_,h3⟩
    exact⟨h1,fun m=>h3 _ m (val n) (by simp) rfl⟩
   ·rintro⟨h1,h2⟩
    refine⟨h1,by simp,fun a ha b hb q=>h2 ?_⟩
    have gw:b=val n:=by simpa using hb
    rw[←gw,←q];exact ha
  rw[nd,←ih]
  by_cases m:val n∈(List.range n).map val
  ·rw[if_pos (e.mpr m)]
   constructor
   ·intro h;omega
   ·rintro⟨_,h⟩;exact absurd m h
  ·rw[if_neg (fun z=>m (e.mp z))]
   constructor
   ·intro h;exact⟨by omega,m⟩
   ·rintro⟨h,_⟩;omega
theorem WJ (ns:List Int):jM ns=ns.length↔ns.Nodup:=by
 unfold jM
 rw[Yx]
 have e:(List.range ns.length).map (fun i=>ns.getD i 0)=ns:=by
  refine List.ext_getElem (by simp) fun i h1 h2=> ?_
  rw[List.getElem_map,List.getElem_range,List.getD_eq_getElem?_getD,List.getElem?_eq_getElem h2,Option.getD_some]
 rw[e]
def rowsOf (xs:List V):List V:=xs.filter fun x=> !decide (x=.aa)
def fi (wd hg:Int):Option (List V)→Bool
 |some xs=>decide ((xs.length:Int)=wd)&&((rowsOf xs).all fun r=>av r 0 (hg - 1))&&decide (rowsOf xs).Nodup
 |none=>false
def cY (H:Hp) (x:V) (wd hg:Int):Prop:=aC H x=some [.int wd,.int hg]∧1≤wd∧wd≤12∧1≤hg∧hg≤12
theorem cY.same {H H':Hp}{x:V}{wd hg:Int}(b:cY H x wd hg) (s:ae H H'):cY H' x wd hg:=⟨s.aC b.1,b.2⟩
theorem cY.is {H:Hp}{x:V}{wd hg:Int}(b:cY H x wd hg):i7 (aC H x)=true:=by
 obtain⟨h,h1,h2,h3,h4⟩:=b
 rw[h]
 show(decide (1≤wd)&&decide (wd≤12)&&(decide (1≤hg)&&decide (hg≤12)))=true
 simp[h1,h2,h3,h4]
theorem cY.pl {K:PySem.W.Frag}{H:Hp}{x:V}{wd hg:Int}(b:cY H x wd hg):cC K H x:=by
 obtain⟨a,rfl,ha⟩:=Zx b.1
 refine⟨⟨_,.tup ha⟩,fun xs e y hy=> ?_⟩
 rw[b.1]at e
 cases e
 rcases List.mem_cons.mp hy with z |hy
 ·rw[z];exact⟨_,.int wd⟩
 ·rw[List.mem_singleton.mp hy];exact⟨_,.int hg⟩
theorem Wv {xs:List V}{lo hi:Int}(h:(xs.all fun r=>av r lo hi)=true):∃ns:List Int,xs=ns.map V.int:=by
 induction xs with
 |nil=>exact⟨[],rfl⟩
 |cons x xs ih=>
  rw[List.all_cons,Bool.and_eq_true]at h
  obtain⟨ns,e⟩:=ih h.2
  cases x with
  |int i=>exact⟨i::ns,by rw[e];rfl⟩
  |_=>cases h.1
theorem JO (ns:List Int):(ns.map V.int).Nodup↔ns.Nodup:=by
 induction ns with
 |nil=>simp
 |cons n ns ih=>rw[List.map_cons,List.nodup_cons,List.nodup_cons,ih];simp
end
section
variable {P:Program}{w:World}{K:PySem.W.Frag}{mg:Str→Option Value}{base:Heap}
abbrev nS:Stmt:=top 23
def kL (K:PySem.W.Frag):Sp:=fun vs H Q _=> ∃x wd hg,vs=[x]∧cY H x wd hg∧∀H',ae H H'→Q .aa H'
theorem va:bI ["board"] ["board"] (au nS):=⟨rfl,rfl,rfl,by decide+kernel,rfl,by decide+kernel,by decide+kernel⟩
theorem J8 {f:Addr}{fd:FuncData}(F:aK K "need_board" "need_board" nS f fd) (D1:Def P w K mg base 3 "is_board" ["thing"] (nN K)):az P w K mg base aE 4 f fd ["board"] (kL K):=by
 refine F.ok va (fun vs H Q E h=> ?_) (fun ao A outer s H vs Q E hr h=> ?_)
 ·obtain⟨x,wd,hg,rfl,_⟩:=h
  rfl
 ·obtain⟨x,wd,hg,rfl,b,q⟩:=h
  refine⟨_,Zk (ZM (ZS (ZL (Zi D1 hr (Za (pv 0) Zb)))) Zr Zu),?_⟩
  refine⟨x,rfl,x,rfl,b.pl,fun H' sm=> ⟨_,rfl,?_⟩⟩
  rw[b.is]
  exact ay (q H' sm)
abbrev nT:Stmt:=top 24
def nJ (K:PySem.W.Frag):Sp:=fun vs H Q _=> ∃x y wd hg,vs=[x,y]∧cY H x wd hg∧cC K H y∧∀H',ae H H'→Q (.bl (fi wd hg (aC H y))) H'
theorem kP:bI ["board", "thing", "wide", "high", "rows"] ["board", "thing"] (au nT):=⟨rfl,rfl,rfl,by decide+kernel,rfl,by decide+kernel,by decide+kernel⟩
theorem F2 {f:Addr}{fd:FuncData}(F:aK K "is_lay" "is_lay" nT f fd) (G:Gs mg) (D1:Def P w K mg base 4 "need_board" ["board"] (kL K)) (D2:Def P w K mg base 1 "is_tuple_of" ["thing", "many"] (jI K))
  (D3:Def P w K mg base 2 "is_whole_within" ["thing", "least", "most"] (jH K)):az P w K mg base aE 5 f fd ["board", "thing"] (nJ K):=by
 refine F.ok kP (fun vs H Q E h=> ?_) (fun ao A outer s H vs Q E hr h=> ?_)
 ·obtain⟨x,y,wd,hg,rfl,_⟩:=h
  rfl
 ·obtain⟨x,y,wd,hg,rfl,b,⟨ty,hy⟩,q⟩:=h
  refine⟨_,Zd (ZO (Zi D1 hr (Za (pv 0) Zb)))
   (Zd (Yv (pv 0) (Yc rfl (Zt (ZF (i:=2) kP.nd rfl (Or.inl rfl)) (Zt (ZF (i:=3) kP.nd rfl (Or.inr rfl)) ZW))))
   (Zd (ZM (ZS (ZL (Zi D2 (hr.mono (by decide)) (Za (pv 1) (Za (pv 2) Zb))))) (Zk (ZB yz)) Zu)
   (Zd (J3 ["row"] 1 [] (i:=4) kP.nd rfl (Or.inl rfl) (WN (pv 1)) (fun C s H fp=>pb 0) (fun C s H fp=>YV (Y6 (YB (pv 0)))) (fun C s H fp D=>ZE rfl (pv 0)))
   (Zk (ZB (Yf (Zg Z0 rfl G.all boot_all (Za (ZY ["row", "high"] 1 [3] (Yo (pv 4)) (fun C s H fp=>pb 0) (fun C s H fp=>Z3)
     (fun C s H fp D=>ZE rfl (Zi D3 (hr.mono (by decide)) (Za (pv 0) (Za Zh (Za (Zj Jo (pv 1) Zh) Zb)))))) Zb))
    (Ye (Yh Jq (Zg JI rfl G.len boot_len (Za (ZR JF rfl G.set boot_set (Za (pv 4) Zb)) Zb)) (Zg Zq rfl G.len boot_len (Za (pv 4) Zb)) (bz _))))))))),?_⟩
  refine⟨x,rfl,x,wd,hg,rfl,b,fun H1 s1=> ?_⟩
  have b1:=b.same s1
  obtain⟨a,rfl,ha⟩:=Zx b1.1
  refine⟨_,rfl,a,_,rfl,ai.of ha,rfl,_,_,rfl,_,_,rfl,rfl,?_⟩
  refine⟨y,rfl,_,rfl,y,wd,rfl,s1.iY ty,_,rfl,?_⟩
  cases e:aC H y with
  |none=>
   have e1:aC H1 y=none:=by
    obtain⟨T,t⟩:=ty
    cases t with
    |tup e2=>rw[Zo e2]at e;cases e
    |lst e2=>rw[Zp,s1 _ _ e2];rfl
    |bC e2=>rw[Zp,s1 _ _ e2];rfl
    |dK e2=>rw[Zp,s1 _ _ e2];rfl
    |dT e2=>rw[Zp,s1 _ _ e2];rfl
    |_=>rfl
   rw[e1]
   rw[e]at q
   exact aH (q H1 s1)
  |some xs=>
   have e1:=s1.aC e
   rw[e1]
   rw[e]at q
   obtain⟨l,rfl,hl⟩:=Zx e1
   by_cases hw:(xs.length:Int)=wd
   ·refine(show if (!decide ((xs.length:Int)=wd))=true then _ else _ from ?_)
    rw[decide_eq_true hw]
    refine ay ?_
    have ID:=b.2.2.1
    have hlen:xs.length≤12:=by omega
    refine⟨_,rfl,l,rfl,⟨xs,ai.of hl⟩,?_⟩
    refine Js (xs:=xs) (fun i ys σ H2=>ys=rowsOf (xs.take i)∧H2=H1∧∃v,σ=[v]) ⟨rfl,rfl,none,rfl⟩ (fun i ys σ H2 _ ⟨_,e2,_⟩=>by rw[e2];exact ai.of hl) ?_ ?_
    ·rintro i r ys σ H2 dH ⟨rfl,rfl,v,rfl⟩
     have et:rowsOf (xs.take (i+1))=rowsOf (xs.take i)++(if (!decide (r=V.aa))=true then [r] else []):=by
      unfold rowsOf
      rw[List.take_add_one,dH,List.filter_append]
      cases hh:(!decide (r=V.aa)) with
      |true=>simp[hh]
      |false=>simp[hh]
     refine⟨r,rfl,_,rfl,?_⟩
     cases hh:(!decide (r=V.aa)) with
     |true=>
      rw[hh]at et
      refine aH ?_
      refine⟨r,rfl,?_,?_⟩
      ·have:=List.length_filter_le (fun x=> !decide (x=V.aa)) (xs.take i)
       unfold rowsOf
       rw[sizeLine_eq]
       rw[List.length_take]at this
       omega
      ·exact⟨by rw[et,if_pos rfl],rfl,_,rfl⟩
     |false=>
      rw[hh]at et
      exact ay ⟨by rw[et,if_neg Bool.false_ne_true,List.append_nil],rfl,_,rfl⟩
    ·rintro ys σ H2 ⟨rfl,rfl,v,rfl⟩ p hp
     rw[List.take_length]
     have IE:(rowsOf xs).length≤12:=Nat.le_trans (List.length_filter_le _ _) hlen
     have s2:ae H2 (upd H2 p (.lst (rowsOf xs))):=fun b o hb=>by rw[Ze (Zf hb hp)];exact hb
     refine⟨_,rfl,p,rfl,⟨rowsOf xs,af.of Zc⟩,?_⟩
     generalize xC:upd H2 p (HO.lst (rowsOf xs))=H3 at s2
     have jc:H3 p=some (.lst (rowsOf xs)):=by rw[←xC];exact Zc
     refine Yk (xs:=rowsOf xs) (fun i ys σ H4=>ys=((rowsOf xs).take i).map (fun r=>V.bl (av r 0 (hg - 1)))∧H4=H3∧∃v,σ=[v,some (.int hg)]) ⟨rfl,rfl,none,rfl⟩ (fun i ys σ H4 _ ⟨_,e2,_⟩=>by rw[e2];exact af.of jc) ?_ ?_
     ·rintro i r ys σ H4 dH ⟨rfl,rfl,v,rfl⟩
      have mr:r∈xs:=(List.mem_filter.mp (List.mem_of_getElem? dH)).1
      refine⟨r,rfl,_,rfl,_,_,rfl,rfl,r,0,hg - 1,rfl,(s1.trans s2).iY (hy xs e r mr),?_,?_⟩
      ·rw[List.length_map,sizeLine_eq,List.length_take];omega
      ·refine⟨?_,rfl,_,rfl⟩
       rw[List.take_add_one,dH,List.map_append]
       rfl
     ·rintro ys σ H4 ⟨rfl,rfl,v,rfl⟩ p' r9
      rw[List.take_length]
      have s3:∀o,ae H4 (upd H4 p' o):=fun o b u hb=>by rw[Ze (Zf hb r9)];exact hb
      refine⟨p',(rowsOf xs).map (fun r=>av r 0 (hg - 1)),rfl,?_,?_⟩
      ·rw[List.map_map];exact af.of Zc
      ·have EA:((rowsOf xs).map (fun r=>av r 0 (hg - 1))).all id=(rowsOf xs).all fun r=>av r 0 (hg - 1):=by rw[List.all_map];rfl
       rw[EA]
       have Ez:fi wd hg (some xs)=(((rowsOf xs).all fun r=>av r 0 (hg - 1))&&decide (rowsOf xs).Nodup):=by
        show(decide ((xs.length:Int)=wd)&&_&&_)=_
        rw[decide_eq_true hw,Bool.true_and]
       rw[Ez]at q
       refine⟨_,rfl,?_⟩
       cases l6:((rowsOf xs).all fun r=>av r 0 (hg - 1)) with
       |false=>
        rw[l6]at q
        exact ay (q _ (s1.trans (s2.trans (s3 _))))
       |true=>
        rw[l6,Bool.true_and]at q
        obtain⟨ns,en⟩:=Wv l6
        have cf:(upd H4 p' (.lst (((rowsOf xs).map (fun r=>V.bl (av r 0 (hg - 1))))))) p=some (.lst (rowsOf xs)):=s3 _ _ _ jc
        refine aH ?_
        have IG:ns.length=(rowsOf xs).length:=by rw[en,List.length_map]
        refine⟨_,rfl,p,ns,rfl,by rw[←en];exact af.of cf,by omega,fun q2 S cA=> ⟨q2,S,jM ns,rfl,Zc,_,rfl,p,rowsOf xs,rfl,.inl (af.of ?_),rfl,?_⟩⟩
        ·rw[Ze (Zf cf cA)];exact cf
        ·have ed:decide (V.int (jM ns:Int)=V.int ((rowsOf xs).length:Int))=decide (rowsOf xs).Nodup:=by
          rw[decide_eq_decide]
          rw[en,JO,←WJ,List.length_map]
          constructor
          ·intro h;injection h with h;omega
          ·intro h;rw[h]
         rw[ed]
         exact q _ (s1.trans (s2.trans ((s3 _).trans fun b o hb=>by rw[Ze (Zf hb cA)];exact hb)))
   ·refine(show if (!decide ((xs.length:Int)=wd))=true then _ else _ from ?_)
    rw[decide_eq_false hw]
    have e3:fi wd hg (some xs)=false:=by
     show(decide ((xs.length:Int)=wd)&&_&&_)=false
     rw[decide_eq_false hw,Bool.false_and,Bool.false_and]
    rw[e3]at q
    exact aH (q H1 s1)
abbrev qD:Stmt:=top 30
def qd (K:PySem.W.Frag):Sp:=fun vs H Q _=> ∃(a:Addr) (ns:List Int) (k:Nat),vs=[.ref a,.int k]∧af K H a (ns.map V.int)∧∀n:Int,Q (.int n) H
theorem AL:bI ["_law_script", "_law_k"] ["_law_script", "_law_k"] (au qD):=⟨rfl,rfl,rfl,by decide+kernel,rfl,by decide+kernel,by decide+kernel⟩
theorem GO {f:Addr}{fd:FuncData}(F:aK K "_law_cell_at" "_law_cell_at" qD f fd) (G:Gs mg):az P w K mg base aE 1 f fd ["_law_script", "_law_k"] (qd K):=by
 refine F.ok AL (fun vs H Q E h=> ?_) (fun ao A outer s H vs Q E hr h=> ?_)
 ·obtain⟨a,ns,k,rfl,_⟩:=h
  rfl
 ·obtain⟨a,ns,k,rfl,hs,q⟩:=h
  refine⟨_,Zd (ZM (ZA Gk (pv 1) (Zg Zq rfl G.len boot_len (Za (pv 0) Zb)) (bz _)) (Zk (ZB (ZG ZC (pv 0) (pv 1) (fun _ _=>rfl)))) Zu) (Zk (ZB Zh)),?_⟩
  refine⟨_,rfl,_,rfl,a,ns.map V.int,rfl,.inl hs,_,_,rfl,rfl,_,rfl,?_⟩
  by_cases hk:k<ns.length
  ·rw[decide_eq_true (by rw[List.length_map];omega)]
   refine aH ⟨_,rfl,_,rfl,a,ns.map V.int,k,V.int ns[k],rfl,rfl,hs,ZK ?_,q _⟩
   rw[List.getElem?_map,List.getElem?_eq_getElem hk]
   rfl
  ·rw[decide_eq_false (by rw[List.length_map];omega)]
   exact ay (q 0)
def aY (H:Hp) (p:Addr):Prop:=∃u v:Int,H p=some (.lst [.int u,.int v])∧0≤u∧0≤v∧v<2147483647
abbrev qq:Stmt:=top 31
def pS (K:PySem.W.Frag):Sp:=fun vs H Q _=> ∃(a:Addr) (ns:List Int) (k:Nat),vs=[.ref a,.int k]∧af K H a (ns.map V.int)∧∀p H',H p=none→ae H H'→aY H' p→Q (.ref p) H'
theorem uW:bI ["_law_script", "_law_k", "_law_cell"] ["_law_script", "_law_k"] (au qq):=⟨rfl,rfl,rfl,by decide+kernel,rfl,by decide+kernel,by decide+kernel⟩
theorem U8 {f:Addr}{fd:FuncData}(F:aK K "_law_state" "_law_state" qq f fd) (G:Gs mg) (D1:Def P w K mg base 1 "_law_cell_at" ["_law_script", "_law_k"] (qd K)):az P w K mg base aE 2 f fd ["_law_script", "_law_k"] (pS K):=by
 refine F.ok uW (fun vs H Q E h=> ?_) (fun ao A outer s H vs Q E hr h=> ?_)
 ·obtain⟨a,ns,k,rfl,_⟩:=h
  rfl
 ·obtain⟨a,ns,k,rfl,hs,q⟩:=h
  refine⟨_,Zd (Zs (i:=2) uW.nd rfl (Or.inl rfl) (Zi D1 hr (Za (pv 0) (Za (pv 1) Zb))))
   (Zk (ZB (Zl (Za (Zg (JT rfl) rfl G.max boot_max (Za Zh (Za (Zj Jo (pv 2) (Zj U0 Zh Zh)) Zb))) (Za (Zj ZU (pv 2) Zh) Zb))))),?_⟩
  refine⟨_,rfl,_,rfl,a,ns,k,rfl,hs,fun n=> ?_⟩
  refine⟨_,rfl,_,_,rfl,rfl,⟨by decide,by decide,by decide⟩,_,_,rfl,rfl,_,_,rfl,?_⟩
  refine⟨_,rfl,_,_,rfl,rfl,(by show(0:Int)<2147483647;decide),(by show 2≤sizeLine;decide),fun p hp=>q p _ hp (fun b o hb=>by rw[Ze (Zf hb hp)];exact hb) ?_⟩
  refine⟨_,_,Zc,?_,Int.emod_nonneg _ (by decide),Int.emod_lt_of_pos _ (by decide)⟩
  split<;>omega
abbrev qp:Stmt:=top 32
def gP:Sp:=fun vs H Q _=> ∃(p:Addr) (m:Int),vs=[.ref p,.int m]∧aY H p∧0<m∧m<1000∧∀r o,0≤r→r<m→aY (upd H p o) p→Q (.int r) (upd H p o)
theorem nO:bI ["_law_state_here", "_law_many", "_law_found", "_law_stirred"] ["_law_state_here", "_law_many"] (au qp):=⟨rfl,rfl,rfl,by decide+kernel,rfl,by decide+kernel,by decide+kernel⟩
theorem iG {x y:V} :eJ [x,y] 0=some x:=rfl
theorem cH {x y:V} :eJ [x,y] 1=some y:=rfl
theorem GQ {f:Addr}{fd:FuncData}(F:aK K "_law_take" "_law_take" qp f fd):az P w K mg base aE 1 f fd ["_law_state_here", "_law_many"] gP:=by
 refine F.ok nO (fun vs H Q E h=> ?_) (fun ao A outer s H vs Q E hr h=> ?_)
 ·obtain⟨p,m,rfl,_⟩:=h
  rfl
 ·obtain⟨p,m,rfl,⟨u,v,hp,hu,hv,Cp⟩,hm,fO,q⟩:=h
  refine⟨_,Zd (ZM (ZA yx (ZG ZC (pv 0) Zh (fun _ _=>rfl)) Zh (bz _))
    (Zd (Zs (i:=2) nO.nd rfl (Or.inl rfl) (Zj ZU (ZG ZC (pv 0) Zh (fun _ _=>rfl)) (pv 1)))
    (Zd (Yv (Zj W8 (ZG ZC (pv 0) Zh (fun _ _=>rfl)) (pv 1)) (J6 (pv 0) Zh YU)) (Zk (ZB (pv 2))))) Zu)
   (Zd (Yv (Zj ZU (Zj Z2 (Zj Jp (ZG ZC (pv 0) Zh (fun _ _=>rfl)) Zh) Zh) Zh) (J6 (pv 0) Zh YU))
   (Zd (Zs (i:=3) nO.nd rfl (Or.inl rfl) (Zj ZU (Zj Z2 (Zj Z2 (Zj Jp (ZG ZC (pv 0) Zh (fun _ _=>rfl)) (ZG ZC (pv 0) Zh (fun _ _=>rfl))) (Zj Jp Zh (ZG ZC (pv 0) Zh (fun _ _=>rfl)))) Zh) Zh))
   (Zd (Zs (i:=3) nO.nd rfl (Or.inl rfl) (Zj ZU (Zj Z2 (Zj Jp (pv 3) (pv 3)) (Zj Jp Zh (pv 3))) Zh))
   (Zk (ZB (Zj ZU (Zj W8 (pv 3) Zh) (pv 1))))))),?_⟩
  have s0:=af.of (K:=K) hp
  refine⟨_,rfl,p,_,_,_,rfl,rfl,s0,iG,_,_,rfl,rfl,_,rfl,?_⟩
  by_cases h0:0<u
  ·rw[decide_eq_true h0]
   refine aH ?_
   refine⟨_,rfl,p,_,_,_,rfl,rfl,s0,iG,_,rfl,_,_,rfl,rfl,hm,?_⟩
   refine⟨_,rfl,p,_,_,_,rfl,rfl,s0,iG,_,rfl,_,_,rfl,rfl,⟨hm,by omega⟩,?_⟩
   refine⟨_,rfl,p,_,0,0,rfl,rfl,hp,rfl,?_⟩
   refine⟨_,rfl,q _ _ (Int.emod_nonneg _ (by omega)) (Int.emod_lt_of_pos _ hm) ?_⟩
   exact⟨u/m,v,Zc,Int.ediv_nonneg hu (by omega),hv,Cp⟩
  ·rw[decide_eq_false h0]
   refine ay ?_
   refine⟨_,rfl,p,_,_,_,rfl,rfl,s0,cH,_,_,rfl,rfl,.inr ⟨by decide,by decide⟩,_,_,rfl,rfl,_,_,rfl,rfl,(by show(0:Int)<2147483647;decide),?_⟩
   refine⟨_,rfl,p,_,1,1,rfl,rfl,hp,rfl,?_⟩
   have b1:0≤((v*48271+29)%2147483647):=Int.emod_nonneg _ (by decide)
   have b2:((v*48271+29)%2147483647)<2147483647:=Int.emod_lt_of_pos _ (by decide)
   have s1:af K (upd H p (.lst (([V.int u,V.int v]:List V).set 1 (V.int ((v*48271+29)%2147483647))))) p [.int u,.int ((v*48271+29)%2147483647)]:=af.of Zc
   have lo:∀{t:Int},0≤t→ -(2^64)<t:=fun h=>Int.lt_of_lt_of_le (by decide) h
   have hi:∀{t:Int},t<2147483647→t<2^64:=fun h=>Int.lt_trans h (by decide)
   refine⟨_,rfl,p,_,_,_,rfl,rfl,s1,cH,_,rfl,p,_,_,_,rfl,rfl,s1,cH,_,_,rfl,rfl,.inl ⟨lo b1,hi b2⟩,?_⟩
   refine⟨_,rfl,p,_,_,_,rfl,rfl,s1,cH,_,_,rfl,rfl,.inl ⟨by decide,by decide⟩,_,_,rfl,rfl,_,_,rfl,rfl,_,_,rfl,rfl,(by show(0:Int)<2147483629;decide),?_⟩
   have c1:0≤((((v*48271+29)%2147483647)*((v*48271+29)%2147483647)+39373*((v*48271+29)%2147483647)+7)%2147483629):=Int.emod_nonneg _ (by decide)
   have c2:((((v*48271+29)%2147483647)*((v*48271+29)%2147483647)+39373*((v*48271+29)%2147483647)+7)%2147483629)<2147483647:=Int.lt_trans (Int.emod_lt_of_pos _ (by decide)) (by decide)
   refine⟨_,rfl,_,rfl,_,_,rfl,rfl,.inl ⟨lo c1,hi c2⟩,_,rfl,_,_,rfl,rfl,.inl ⟨by decide,by decide⟩,_,_,rfl,rfl,_,_,rfl,rfl,(by show(0:Int)<2147483587;decide),?_⟩
   refine⟨_,rfl,_,_,rfl,rfl,⟨by decide,by decide⟩,_,rfl,_,_,rfl,rfl,hm,?_⟩
   refine q _ _ (Int.emod_nonneg _ (by omega)) (Int.emod_lt_of_pos _ hm) ?_
   exact⟨u,_,Zc,hu,b1,b2⟩
abbrev qC:Stmt:=top 34
def qc:Sp:=fun vs H Q _=> ∃(p:Addr) (m:Int),vs=[.ref p,.int m]∧aY H p∧0<m∧m<1000∧
 ∀(b:Addr) (H':Hp) (wd hg:Int),1≤wd→wd≤m→1≤hg→hg≤m→ak p H H'→aY H' p→H' b=some (.tup [.int wd,.int hg])→b≠p→Q (.ref b) H'
theorem ve:bI ["_law_state_here", "_law_upto", "_law_way", "_law_wide", "_law_high"] ["_law_state_here", "_law_upto"] (au qC):=⟨rfl,rfl,rfl,by decide+kernel,rfl,by decide+kernel,by decide+kernel⟩
theorem GH {f:Addr}{fd:FuncData}(F:aK K "_law_board" "_law_board" qC f fd) (D1:Def P w K mg base 1 "_law_take" ["_law_state_here", "_law_many"] gP):az P w K mg base aE 2 f fd ["_law_state_here", "_law_upto"] qc:=by
 refine F.ok ve (fun vs H Q E h=> ?_) (fun ao A outer s H vs Q E hr h=> ?_)
 ·obtain⟨p,m,rfl,_⟩:=h
  rfl
 ·obtain⟨p,m,rfl,st,hm,fO,q⟩:=h
  refine⟨_,Zd (Jf (i:=2) (j:=3) (k:=4) rfl ve.nd rfl rfl rfl rfl rfl rfl
    (Za (Zi D1 hr (Za (pv 0) (Za Zh Zb))) (Za (Zj Z2 Zh (Zi D1 hr (Za (pv 0) (Za (pv 1) Zb)))) (Za (Zj Z2 Zh (Zi D1 hr (Za (pv 0) (Za (pv 1) Zb)))) Zb))))
   (Zk (ZB (UX (ZA Jq (pv 2) Zh (bz _)) (Zz (Za (pv 3) (Za (pv 3) Zb))) (Zz (Za (pv 3) (Za (pv 4) Zb)))))),?_⟩
  refine⟨_,rfl,p,3,rfl,st,by decide,by decide,fun r1 o1 h1 tf cN=> ?_⟩
  refine⟨_,rfl,_,rfl,p,m,rfl,cN,hm,fO,fun r2 o2 h2 ke bS=> ⟨_,_,rfl,rfl,?_⟩⟩
  refine⟨_,rfl,_,rfl,p,m,rfl,bS,hm,fO,fun r3 o3 h3 td cq=> ⟨_,_,rfl,rfl,_,_,_,rfl,?_⟩⟩
  have sx:ak p H (upd (upd (upd H p o1) p o2) p o3):=(ak.upd.trans ak.upd).trans ak.upd
  have fin:∀wd hg:Int,1≤wd→wd≤m→1≤hg→hg≤m→∀b,upd (upd (upd H p o1) p o2) p o3 b=none→Q (.ref b) (upd (upd (upd (upd H p o1) p o2) p o3) b (.tup [.int wd,.int hg])):=fun wd hg a1 a2 a3 a4 b hb=>by
   obtain⟨u,v,e,x1,x2,x3⟩:=cq
   have wK:p≠b:=Zf e hb
   exact q b _ wd hg a1 a2 a3 a4 (fun c o hc hn=>by rw[Ze (Zf (sx c o hc hn) hb)];exact sx c o hc hn) ⟨u,v,by rw[Ze wK];exact e,x1,x2,x3⟩ Zc wK.symm
  refine⟨_,rfl,rfl,_,rfl,?_⟩
  refine rJ (fun _=> ?_) (fun _=> ?_)
  ·exact⟨_,rfl,_,rfl,(by show 2≤sizeLine;decide),fun b hb=>fin (1+r2) (1+r2) (by omega) (by omega) (by omega) (by omega) b hb⟩
  ·exact⟨_,rfl,_,rfl,(by show 2≤sizeLine;decide),fun b hb=>fin (1+r2) (1+r3) (by omega) (by omega) (by omega) (by omega) b hb⟩
structure dW (wd hg:Int) (xs:List V):Prop where
 len:(xs.length:Int)=wd
 row:∀r∈rowsOf xs,av r 0 (hg - 1)=true
 nd:(rowsOf xs).Nodup
theorem dW.is {wd hg:Int}{xs:List V}(h:dW wd hg xs):fi wd hg (some xs)=true:=by
 show(decide ((xs.length:Int)=wd)&&((rowsOf xs).all fun r=>av r 0 (hg - 1))&&decide (rowsOf xs).Nodup)=true
 rw[decide_eq_true h.len,decide_eq_true h.nd,List.all_eq_true.mpr h.row]
 rfl
abbrev qB:Stmt:=top 36
def qb (K:PySem.W.Frag):Sp:=fun vs H Q _=> ∃(p b:Addr) (wd hg:Int),vs=[.ref p,.ref b]∧aY H p∧cY H (.ref b) wd hg∧
 ∀(l:Addr) (H':Hp) (xs:List V),ak p H H'→aY H' p→H' l=some (.tup xs)→l≠p→dW wd hg xs→Q (.ref l) H'
theorem nP:bI ["_law_state_here", "_law_board_here", "_law_way", "_law_left", "_law_found", "_law_line", "_law_share", "_law_spot"] ["_law_state_here", "_law_board_here"] (au qB):=⟨rfl,rfl,rfl,by decide+kernel,rfl,by decide+kernel,by decide+kernel⟩
theorem Eo {v:Int}(h:0≤v) (h':v<5):∃c:Int,eJ ([V.int 4,.int 4,.int 3,.int 1,.int 0]:List V) v=some (.int c):=by
 have:v=0∨v=1∨v=2∨v=3∨v=4:=by omega
 rcases this with rfl |rfl |rfl |rfl |rfl<;>exact⟨_,rfl⟩
theorem yw {n:Nat}{i:Int}(h:0≤i) (h':i<n):seqIndex? i n=some i.toNat:=by
 have e:fg n i=some i.toNat:=by unfold fg;rw[if_pos h,if_pos h']
 exact(Wd e).1
theorem Yg (xs:List V) (y:V):rowsOf (xs++[y])=rowsOf xs++(if (!decide (y=V.aa))=true then [y] else []):=by
 unfold rowsOf
 rw[List.filter_append]
 cases hh:(!decide (y=V.aa))<;>simp[hh]
theorem Jm:∀(l:List V) (k:Nat) (h:k<l.length),(l[k]::l.eraseIdx k).Perm l
 |x::l,0,_=> .refl _
 |x::l,k+1,h=>by
  have h':k<l.length:=by simpa using h
  show(l[k]::x::l.eraseIdx k).Perm (x::l)
  exact(List.Perm.swap x l[k] _).trans (List.Perm.cons x (Jm l k h'))
theorem U9 {f:Addr}{fd:FuncData}(F:aK K "_law_lay" "_law_lay" qB f fd) (G:Gs mg) (D1:Def P w K mg base 1 "_law_take" ["_law_state_here", "_law_many"] gP):az P w K mg base aE 2 f fd ["_law_state_here", "_law_board_here"] (qb K):=by
 refine F.ok nP (fun vs H Q E h=> ?_) (fun ao A outer s H vs Q E hr h=> ?_)
 ·obtain⟨p,b,wd,hg,rfl,_⟩:=h
  rfl
 ·obtain⟨p,b,wd,hg,rfl,st,bd,q⟩:=h
  refine⟨_,Zd (Jf (i:=2) (j:=3) (k:=4) rfl nP.nd rfl rfl rfl rfl rfl rfl
    (Za (Zi D1 hr (Za (pv 0) (Za Zh Zb))) (Za (ZR JG rfl G.list boot_list (Za (ZR WE rfl G.range boot_range (Za (ZG Yq (pv 1) Zh (fun _ _=>rfl)) Zb)) Zb)) (Za (Zl Zb) Zb))))
   (Zd (Y7 PassesOwn.never rfl (Z9 rfl G.range (Za (ZG Yq (pv 1) Zh (fun _ _=>rfl)) Zb)) (ZF (i:=5) nP.nd rfl (Or.inl rfl))
    (Zd (J4 (i:=6) (j:=7) rfl nP.nd rfl rfl (by decide) rfl rfl (Za (Zi D1 hr (Za (pv 0) (Za Zh Zb))) (Za (Zi D1 hr (Za (pv 0) (Za Zh Zb))) Zb)) rfl)
    (Zk (ZM (PW.pt (Yj (ZA (U4 hr.pF) (pv 3) (Zl Zb) (bz _)) (Z7 (ZA Gj (pv 6) (ZG ZC (Zl (Za Zh (Za Zh (Za Zh (Za Zh (Za Zh Zb)))))) (pv 2) (fun _ _=>rfl)) (bz _)))))
     (Zk (ZO (YY PySem.F.plainAttrs_list PySem.F.slot_list_append PySem.F.type_list_append Ya (pv 4) (Za ZX Zb))))
     (Zk (ZO (YY PySem.F.plainAttrs_list PySem.F.slot_list_append PySem.F.type_list_append Ya (pv 4)
      (Za (YY PySem.F.plainAttrs_list PySem.F.slot_list_pop PySem.F.type_list_pop Wr (pv 3) (Za (Zj ZU (pv 7) (Zg Zq rfl G.len boot_len (Za (pv 3) Zb))) Zb)) Zb))))))))
   (Zk (ZB (ZR Yi rfl G.tuple boot_tuple (Za (pv 4) Zb))))),?_⟩
  obtain⟨a,e,hb⟩:=Zx bd.1
  cases e
  obtain⟨_,w1,w2,g1,g2⟩:=id bd
  obtain⟨u0,v0,e0,_⟩:=id st
  have jg:b≠p:=Y0 hb e0 (by intro z;cases z)
  refine⟨_,rfl,p,5,rfl,st,by decide,by decide,fun way o1 h1 tf cN=> ?_⟩
  have x1:ak p H (upd H p o1):=ak.upd
  have bM:=x1 _ _ hb jg
  refine⟨_,rfl,b,_,_,_,rfl,rfl,ai.of bM,cH,hg,rfl,fun q1 du=> ⟨q1,hg,rfl,Zc,by omega,by omega,fun L hL=> ⟨Nat.zero_le _,fun M hM=> ⟨_,_,_,rfl,?_⟩⟩⟩⟩
  generalize xD:upd (upd (upd (upd H p o1) q1 (.ej 0 hg)) L (.lst (L2.upTo hg.toNat))) M (.lst [])=H0
  have sA:ae (upd H p o1) (upd (upd H p o1) q1 (.ej 0 hg)):=fun c o hc=>by rw[Ze (Zf hc du)];exact hc
  have sB:ae (upd (upd H p o1) q1 (.ej 0 hg)) (upd (upd (upd H p o1) q1 (.ej 0 hg)) L (.lst (L2.upTo hg.toNat))):=fun c o hc=>by rw[Ze (Zf hc hL)];exact hc
  have sC:ae (upd (upd (upd H p o1) q1 (.ej 0 hg)) L (.lst (L2.upTo hg.toNat))) H0:=fun c o hc=>by rw[←xD,Ze (Zf hc hM)];exact hc
  have s0:ae (upd H p o1) H0:=sA.trans (sB.trans sC)
  have DJ:H0 M=some (.lst []):=by rw[←xD];exact Zc
  have DM:H0 L=some (.lst (L2.upTo hg.toNat)):=sC _ _ Zc
  obtain⟨u1,v1,e1,y1,y2,y3⟩:=id cN
  have Aq:aY H0 p:=⟨u1,v1,s0 _ _ e1,y1,y2,y3⟩
  have tN:=s0 _ _ e1
  have sW:L≠M:=Zf (by exact Zc) hM
  have wL:p≠L:=Zf (sA _ _ e1) hL
  have r8:p≠M:=Zf (sB _ _ (sA _ _ e1)) hM
  have DE:H0 b=some (.tup [.int wd,.int hg]):=s0 _ _ bM
  have xt:∀H2,(∀c o,H0 c=some o→c≠p→c≠L→c≠M→H2 c=some o)→ak p H H2:=fun H2 k c o hc hn=>by
   have c1:=x1 c o hc hn
   exact k c o (s0 _ _ c1) hn (Zf (sA _ _ c1) hL) (Zf (sB _ _ (sA _ _ c1)) hM)
  refine⟨_,rfl,b,_,_,_,rfl,rfl,ai.of DE,iG,wd,rfl,by omega,by omega,?_⟩
  refine YG (n:=wd.toNat) (fun i σ H2=> ∃(ls fs:List V) (x5 x6 x7:Option V),σ=[some (.ref p),some (.ref b),some (.int way),some (.ref L),some (.ref M),x5,x6,x7]∧
    (∀c o,H0 c=some o→c≠p→c≠L→c≠M→H2 c=some o)∧aY H2 p∧H2 L=some (.lst ls)∧H2 M=some (.lst fs)∧fs.length=i∧(∀r∈rowsOf fs++ls,av r 0 (hg - 1)=true)∧(rowsOf fs++ls).Nodup)
   ⟨L2.upTo hg.toNat,[],none,none,none,rfl,fun c o hc _ _ _=>hc,Aq,DM,DJ,rfl,?_,?_⟩ ?_ ?_
  ·intro r dH
   have jY:r∈L2.upTo hg.toNat:=dH
   unfold L2.upTo at jY
   obtain⟨j,hj,rfl⟩:=List.mem_map.mp jY
   have:=List.mem_range.mp hj
   show(decide ((0:Int)≤(j:Int))&&decide ((j:Int)≤hg - 1))=true
   rw[decide_eq_true (by omega),decide_eq_true (by omega)]
   rfl
  ·show(L2.upTo hg.toNat).Nodup
   unfold L2.upTo
   have e:((List.range hg.toNat).map fun(i:Nat)=>V.int (i:Int))=(((List.range hg.toNat).map fun(i:Nat)=> (i:Int))).map V.int:=by rw[List.map_map];rfl
   rw[e,JO]
   exact List.Pairwise.map _ (fun x y h z=>h (by omega)) List.nodup_range
  ·rintro i σ H2 hi ⟨ls,fs,x5,x6,x7,rfl,k2,bS,gr,fO,sy,jb,eE⟩
   refine⟨_,rfl,p,4,rfl,bS,by decide,by decide,fun sh o3 _ _ cq=> ?_⟩
   refine⟨_,rfl,p,12,rfl,cq,by decide,by decide,fun sp o4 CH jX kK=> ⟨_,_,rfl,?_⟩⟩
   generalize DR:upd (upd H2 p o3) p o4=H4 at kK
   have x4:ak p H2 H4:=by rw[←DR];exact ak.upd.trans ak.upd
   have oK:=x4 _ _ gr wL.symm
   have wV:=x4 _ _ fO r8.symm
   have k4:∀c o,H0 c=some o→c≠p→c≠L→c≠M→H4 c=some o:=fun c o hc a1 a2 a3=>x4 c o (k2 c o hc a1 a2 a3) a1
   have hlen:fs.length<sizeLine:=by rw[sizeLine_eq];omega
   refine⟨_,rfl,Nat.zero_le _,fun q2 cA=> ⟨L,q2,ls,rfl,rfl,?_,af.of Zc,_,rfl,?_⟩⟩
   ·exact af.of (by rw[Ze (Zf oK cA)];exact oK)
   have sD:ae H4 (upd H4 q2 (.lst [])):=fun c o hc=>by rw[Ze (Zf hc cA)];exact hc
   generalize IS:upd H4 q2 (HO.lst [])=H5 at sD
   obtain⟨u4,v4,e4,z1,z2,z3⟩:=id kK
   have keep:∀H6,ae H4 H6→(∀c o,H0 c=some o→c≠p→c≠L→c≠M→H6 c=some o)∧aY H6 p:=fun H6 s6=> ⟨fun c o hc a1 a2 a3=>s6 _ _ (k4 c o hc a1 a2 a3),u4,v4,s6 _ _ e4,z1,z2,z3⟩
   have yv:∀H6,ae H4 H6→uI K "list" vt (gN 4) (iP (tC .aa) jE) [some (.ref p),some (.ref b),some (.int way),some (.ref L),some (.ref M),some (.int (0+(i:Int))),some (.int sh),some (.int sp)] H6 (fun _ H7=> ∃(ls fs:List V) (x5 x6 x7:Option V),([some (.ref p),some (.ref b),some (.int way),some (.ref L),some (.ref M),some (.int (0+(i:Int))),some (.int sh),some (.int sp)]:L2.St)=[some (.ref p),some (.ref b),some (.int way),some (.ref L),some (.ref M),x5,x6,x7]∧
     (∀c o,H0 c=some o→c≠p→c≠L→c≠M→H7 c=some o)∧aY H7 p∧H7 L=some (.lst ls)∧H7 M=some (.lst fs)∧fs.length=i+1∧(∀r∈rowsOf fs++ls,av r 0 (hg - 1)=true)∧(rowsOf fs++ls).Nodup):=fun H6 s6=>by
    obtain⟨k6,t6⟩:=keep H6 s6
    have lP:=s6 _ _ wV
    have dI:=s6 _ _ oK
    refine⟨_,rfl,.inl ⟨rfl,_,af.of lP⟩,M,fs,.aa,rfl,rfl,lP,hlen,ls,fs++[.aa],_,_,_,rfl,fun c o hc a1 a2 a3=>by rw[Ze a3];exact k6 c o hc a1 a2 a3,?_,by rw[Ze sW];exact dI,Zc,by rw[List.length_append,sy];rfl,?_,?_⟩
    ·obtain⟨u,v,e,r⟩:=t6
     exact⟨u,v,by rw[Ze r8];exact e,r⟩
    ·rw[Yg];simpa using jb
    ·rw[Yg];simpa using eE
   cases xi:ls.isEmpty with
   |true=>exact aH (aH (yv H5 sD))
   |false=>
    refine ay ?_
    have bB:ls≠[]:=fun z=>by rw[z]at xi;cases xi
    have wJ:0<ls.length:=List.length_pos_iff.mpr bB
    refine⟨_,rfl,(by show 5≤sizeLine;decide),fun q3 CL=> ?_⟩
    obtain⟨c5,Dy⟩:=Eo h1 tf
    have sE:ae H5 (upd H5 q3 (.lst [.int 4,.int 4,.int 3,.int 1,.int 0])):=fun c o hc=>by rw[Ze (Zf hc CL)];exact hc
    refine⟨_,rfl,q3,_,_,_,rfl,rfl,af.of Zc,Dy,_,_,rfl,rfl,_,rfl,?_⟩
    generalize IQ:upd H5 q3 (HO.lst [V.int 4,.int 4,.int 3,.int 1,.int 0])=H6 at sE
    have s6:=sD.trans sE
    refine rJ (fun _=>yv H6 s6) (fun _=> ?_)
    obtain⟨k6,t6⟩:=keep H6 s6
    have lP:=s6 _ _ wV
    have dI:=s6 _ _ oK
    have m1:0≤sp%(ls.length:Int):=Int.emod_nonneg _ (by omega)
    have m2:sp%(ls.length:Int)<ls.length:=Int.emod_lt_of_pos _ (by omega)
    have m3:(sp%(ls.length:Int)).toNat<ls.length:=by omega
    have m4:sp%(ls.length:Int)<2^63:=by
     by_cases hh:sp< (ls.length:Int)
     ·rw[Int.emod_eq_of_lt CH hh];omega
     ·omega
    refine⟨_,rfl,.inl ⟨rfl,_,af.of lP⟩,_,rfl,.inl ⟨rfl,_,af.of dI⟩,_,rfl,_,rfl,L,ls,rfl,.inl (af.of dI),_,_,rfl,rfl,(by show(0:Int)< (ls.length:Int);omega),L,ls,_,_,_,rfl,rfl,dI,by omega,m4,yw m1 m2,List.getElem?_eq_getElem m3,?_⟩
    generalize hk:(sp%(ls.length:Int)).toNat=k at m3
    have C1:upd H6 L (.lst (ls.eraseIdx k)) M=some (.lst fs):=by rw[Ze sW.symm];exact lP
    have my:ls[k]∈ls:=List.getElem_mem m3
    have wy:av ls[k] 0 (hg - 1)=true:=jb _ (List.mem_append_right _ my)
    have ny:(!decide (ls[k]=V.aa))=true:=by
     cases e:ls[k] with
     |aa=>rw[e]at wy;cases wy
     |_=>rfl
    have pm:(rowsOf fs++[ls[k]]++ls.eraseIdx k).Perm (rowsOf fs++ls):=by
     rw[List.append_assoc]
     exact List.Perm.append_left _ (Jm ls k m3)
    refine⟨M,fs,_,rfl,rfl,C1,hlen,ls.eraseIdx k,fs++[ls[k]],_,_,_,rfl,fun c o hc a1 a2 a3=>by rw[Ze a3,Ze a2];exact k6 c o hc a1 a2 a3,?_,by rw[Ze sW,Zc],Zc,by rw[List.length_append,sy];rfl,?_,?_⟩
    ·obtain⟨u,v,e,r⟩:=t6
     exact⟨u,v,by rw[Ze r8,Ze wL];exact e,r⟩
    ·rw[Yg,if_pos ny]
     intro r dH
     exact jb r (pm.mem_iff.mp dH)
    ·rw[Yg,if_pos ny]
     exact pm.nodup_iff.mpr eE
  ·rintro σ H2 ⟨ls,fs,x5,x6,x7,rfl,k2,bS,gr,fO,sy,jb,eE⟩
   refine⟨_,rfl,M,fs,rfl,.inl ⟨af.of fO,fun l hl=> ?_⟩⟩
   obtain⟨u,v,e,r⟩:=id bS
   have cf:p≠l:=Zf e hl
   refine q l _ fs (fun c o hc hn=> ?_) ⟨u,v,by rw[Ze cf];exact e,r⟩ Zc cf.symm ⟨by omega,fun r dH=>jb r (List.mem_append_left _ dH),(List.nodup_append.mp eE).1⟩
   have:=xt H2 k2 c o hc hn
   rw[Ze (Zf this hl)]
   exact this
end
section
def n9:V→Option Int
 | .int r=>some r
 |_=>none
def rowAt (xs:List V) (i:Nat):Option Int:=xs[i]?.bind n9
def yO (xs:List V):Prop:=∀x∈xs,x=.aa∨∃i,x=.int i
theorem dW.ok {wd hg:Int}{xs:List V}(h:dW wd hg xs):yO xs:=fun x hx=>by
 by_cases e:x=.aa
 ·exact .inl e
 ·have m:x∈rowsOf xs:=List.mem_filter.mpr ⟨hx,by simp[e]⟩
  have q:=h.row x m
  cases x with
  |int i=>exact .inr ⟨i,rfl⟩
  |_=>cases q
end
section
variable {P:Program}{w:World}{K:PySem.W.Frag}{mg:Str→Option Value}{base:Heap}
theorem Paired.at {α β:Type}{F:α→β→Prop} :∀{g8:List α}{g7:List β}{i:Nat}{a:α},Paired F g8 g7→g8[i]? =some a→∃b,g7[i]? =some b∧F a b
 |_,_,_,_,.nil,e=>by simp at e
 |_,_,0,_,.cons r _,e=>by simp at e;subst e;exact⟨_,rfl,r⟩
 |_,_,i+1,a,.cons _ t,e=>by
  obtain⟨u,h1,h2⟩:=Paired.at (i:=i) (a:=a) t (by simpa using e)
  exact⟨u,by simpa using h1,h2⟩
end
section
def A7 (K:PySem.W.Frag):R2:=fun x y H Q=> ∃a b ys,x=.ref a∧y=.ref b∧ai K H a []∧ai K H b ys∧Q (.ref b) H
def kU (K:PySem.W.Frag):R2:=fun x y H Q=>A7 K x y H Q∨vq K x y H Q
theorem Yp {X:Cx} :aO X (binaryOp .Add) (kU X.K):=U5.or GR
def bY (xs:List V):List (Int×Int):=(List.range xs.length).filterMap fun l=> (rowAt xs l).map fun r=> ((l:Int),r)
def aM (H:Hp) (v:V) (q:Int×Int):Prop:=∃t:Addr,v=.ref t∧H t=some (.tup [.int q.1,.int q.2])
theorem aM.same {H H':Hp}{v:V}{q:Int×Int}(h:aM H v q) (s:ae H H'):aM H' v q:=by
 obtain⟨t,e,h1⟩:=h
 exact⟨t,e,s _ _ h1⟩
end
section
variable {P:Program}{w:World}{K:PySem.W.Frag}{mg:Str→Option Value}{base:Heap}
abbrev nR:Stmt:=top 25
def jv (H:Hp) (x y:V) (wd hg:Int) (xs:List V):Prop:=cY H x wd hg∧aC H y=some xs∧dW wd hg xs
theorem jv.same {H H':Hp}{x y:V}{wd hg:Int}{xs:List V}(h:jv H x y wd hg xs) (s:ae H H'):jv H' x y wd hg xs:=⟨h.1.same s,s.aC h.2.1,h.2.2⟩
theorem jv.pl {H:Hp}{x y:V}{wd hg:Int}{xs:List V}(h:jv H x y wd hg xs):cC K H y:=by
 obtain⟨a,rfl,ha⟩:=Zx h.2.1
 refine⟨⟨_,.tup ha⟩,fun zs e z hz=> ?_⟩
 rw[h.2.1]at e
 cases e
 rcases h.2.2.ok z hz with rfl |⟨i,rfl⟩
 ·exact⟨_,.aa⟩
 ·exact⟨_,.int i⟩
def pV:Sp:=fun vs H Q _=> ∃x y wd hg xs,vs=[x,y]∧jv H x y wd hg xs∧∀H',ae H H'→Q .aa H'
theorem uZ:bI ["board", "lay"] ["board", "lay"] (au nR):=⟨rfl,rfl,rfl,by decide+kernel,rfl,by decide+kernel,by decide+kernel⟩
theorem WS {f:Addr}{fd:FuncData}(F:aK K "need_lay" "need_lay" nR f fd) (D1:Def P w K mg base 5 "is_lay" ["board", "thing"] (nJ K)):az P w K mg base aE 6 f fd ["board", "lay"] pV:=by
 refine F.ok uZ (fun vs H Q E h=> ?_) (fun ao A outer s H vs Q E hr h=> ?_)
 ·obtain⟨x,y,wd,hg,xs,rfl,_⟩:=h
  rfl
 ·obtain⟨x,y,wd,hg,xs,rfl,l,q⟩:=h
  refine⟨_,Zk (ZM (ZS (ZL (Zi D1 hr (Za (pv 0) (Za (pv 1) Zb))))) Zr Zu),?_⟩
  refine⟨x,rfl,y,rfl,x,y,wd,hg,rfl,l.1,l.pl,fun H' sm=> ⟨_,rfl,?_⟩⟩
  rw[l.2.1,l.2.2.is]
  exact ay (q H' sm)
def nH:Sp:=fun vs H Q _=> ∃x y wd hg xs,vs=[x,y]∧jv H x y wd hg xs∧∀(l:Addr) (H':Hp) (ps:List V),ae H H'→H l=none→H' l=some (.lst ps)→Paired (aM H') ps (bY xs)→Q (.ref l) H'
end
section
def jS (xs:List V) (n:Nat):List (Int×Int):=(List.range n).filterMap fun l=> (rowAt xs l).map fun r=> ((l:Int),r)
theorem Yl (xs:List V) (n:Nat):jS xs (n+1)=jS xs n++((rowAt xs n).map fun r=> ((n:Int),r)).toList:=by
 unfold jS
 rw[List.range_succ,List.filterMap_append]
 cases h:rowAt xs n<;>simp[h]
end
section
variable {P:Program}{w:World}{K:PySem.W.Frag}{mg:Str→Option Value}{base:Heap}
abbrev nQ:Stmt:=top 26
theorem uX:bI ["board", "lay"] ["board", "lay"] (au nQ):=⟨rfl,rfl,rfl,by decide+kernel,rfl,by decide+kernel,by decide+kernel⟩
theorem Us {f:Addr}{fd:FuncData}(F:aK K "points" "points" nQ f fd) (G:Gs mg) (D1:Def P w K mg base 6 "need_lay" ["board", "lay"] pV):az P w K mg base aE 7 f fd ["board", "lay"] nH:=by
 refine F.ok uX (fun vs H Q E h=> ?_) (fun ao A outer s H vs Q E hr h=> ?_)
 ·obtain⟨x,y,wd,hg,xs,rfl,_⟩:=h
  rfl
 ·obtain⟨x,y,wd,hg,xs,rfl,l,q⟩:=h
  refine⟨_,Zd (ZO (Zi D1 hr (Za (pv 0) (Za (pv 1) Zb))))
   (Zk (ZB (ZY ["line", "row"] 2 [] (GY rfl G.enumerate (Za (pv 1) Zb))
    (fun C s H fp=>show PG (aJ _ _ _ C s H fp) _ (kg K 2 (fo (de 0) (fo (de 1) kh))) from Yc rfl (Zt (pb 0) (Zt (pb 1) ZW)))
    (fun C s H fp=>YV (Y6 (YB (pv 1)))) (fun C s H fp D=>ZE rfl (Zz (Za (pv 0) (Za (pv 1) Zb))))))),?_⟩
  refine⟨x,rfl,y,rfl,x,y,wd,hg,xs,rfl,l,fun H1 s1=> ?_⟩
  obtain⟨a,rfl,ha⟩:=Zx (l.same s1).2.1
  have hlen:xs.length≤12:=by
   have h1:=l.2.2.len
   have h2:=l.1.2.2.1
   omega
  refine⟨_,rfl,a,rfl,⟨xs,ai.of ha⟩,?_⟩
  refine Uw (xs:=xs) (fun i ys σ H2=> ∃v0 v1,σ=[v0,v1]∧ae H1 H2∧Paired (aM H2) ys (jS xs i)∧ys.length≤i) ⟨_,_,rfl,ae.refl _,.nil,Nat.zero_le _⟩ (fun i ys σ H2 _ ⟨_,_,_,s2,_⟩=>ai.of (s2 _ _ ha)) ?_ ?_
  ·rintro i v T ys σ H2 hv hT ⟨v0,v1,rfl,s2,iX,gr⟩
   have hi:i<xs.length:=(List.getElem?_eq_some_iff.mp hv).1
   have sT:ae H2 (upd H2 T (.par [.int (i:Int),v])):=fun c o hc=>by rw[Ze (Zf hc hT)];exact hc
   have er:rowAt xs i=n9 v:=by unfold rowAt;rw[hv];rfl
   refine⟨T,_,rfl,ai.lu Zc,rfl,_,_,rfl,_,_,rfl,rfl,?_⟩
   refine⟨_,rfl,_,rfl,?_⟩
   generalize xC:upd H2 T (HO.par [V.int (i:Int),v])=H3 at sT
   rcases l.2.2.ok v (List.mem_of_getElem? hv) with rfl |⟨r,rfl⟩
   ·refine ay ⟨_,_,rfl,s2.trans sT,?_,by omega⟩
    rw[Yl,er]
    exact(by simpa[n9] using Paired.aX iX fun v q' hq=>hq.same sT)
   ·refine aH ?_
    refine⟨_,rfl,_,rfl,(by show 2≤sizeLine;decide),fun t ht=> ⟨by rw[sizeLine_eq];omega,?_⟩⟩
    have s4:ae H3 (upd H3 t (.tup [.int (i:Int),.int r])):=fun c o hc=>by rw[Ze (Zf hc ht)];exact hc
    refine⟨_,_,rfl,s2.trans (sT.trans s4),?_,by rw[List.length_append];simp;omega⟩
    rw[Yl,er]
    exact Paired.snoc (Paired.aX iX fun v q' hq=>hq.same (sT.trans s4)) ⟨t,rfl,Zc⟩
  ·rintro ys σ H2 ⟨v0,v1,rfl,s2,iX,gr⟩ p hp
   have s4:ae H2 (upd H2 p (.lst ys)):=fun c o hc=>by rw[Ze (Zf hc hp)];exact hc
   exact q p _ ys (s1.trans (s2.trans s4)) ((s1.trans s2).free hp) Zc (Paired.aX iX fun v q' hq=>hq.same s4)
end
end U
namespace U
open PySem L2 PyProof.Rows PyProof.Rows.gD
section
theorem G7 (xs:List V):(bY xs).length≤xs.length:=by
 unfold bY
 have:=List.length_filterMap_le (fun l:Nat=> (rowAt xs l).map fun r=> ((l:Int),r)) (List.range xs.length)
 rw[List.length_range]at this
 exact this
end
end U
namespace U
open PySem L2 PyProof.Rows
section
abbrev kl:List Value:=[.type "ValueError",.type "Exception",.type "BaseException",.type "object"]
structure uk (K:PySem.W.Frag) (mg:Str→Option Value) (cB cL:Addr):Prop where
 mB:mg "NoBoard" =some (.ref cB)
 xB:PySem.W.excIn K cB kl "ValueError.__new__" =true
 mL:mg "NoLay" =some (.ref cL)
 xL:PySem.W.excIn K cL kl "ValueError.__new__" =true
def eK (K:PySem.W.Frag) (H:Hp) (x:V):Prop:=cC K H x∧i7 (aC H x)=false
def HY (K:PySem.W.Frag) (cB cL:Addr) (H:Hp) (x y:V) (C:Addr):Prop:=
 (C=cB∧eK K H x)∨(C=cL∧∃wd hg,cY H x wd hg∧cC K H y∧fi wd hg (aC H y)=false)
theorem Jd {K:PySem.W.Frag}{H H1:Hp}{y:V}(ty:bN K H y) (s1:ae H H1) (e:aC H y=none):aC H1 y=none:=by
 obtain⟨T,t⟩:=ty
 cases t with
 |tup e2=>rw[Zo e2]at e;cases e
 |lst e2=>rw[Zp,s1 _ _ e2];rfl
 |bC e2=>rw[Zp,s1 _ _ e2];rfl
 |dK e2=>rw[Zp,s1 _ _ e2];rfl
 |dT e2=>rw[Zp,s1 _ _ e2];rfl
 |_=>rfl
theorem Z1 {K:PySem.W.Frag}{H H1:Hp}{y:V}(ty:bN K H y) (s1:ae H H1):aC H1 y=aC H y:=by
 cases e:aC H y with
 |none=>exact Jd ty s1 e
 |some xs=>exact s1.aC e
theorem cC.same {K:PySem.W.Frag}{H H1:Hp}{y:V}(p:cC K H y) (s1:ae H H1):cC K H1 y:=by
 refine⟨s1.iY p.1,fun xs e z hz=>s1.iY (p.2 xs ?_ z hz)⟩
 rw[←Z1 p.1 s1];exact e
theorem eK.same {K:PySem.W.Frag}{H H1:Hp}{x:V}(b:eK K H x) (s1:ae H H1):eK K H1 x:=⟨b.1.same s1,by rw[Z1 b.1.1 s1];exact b.2⟩
end
section
variable {P:Program}{w:World}{K:PySem.W.Frag}{mg:Str→Option Value}{base:Heap}{cB cL:Addr}
def nI (K:PySem.W.Frag) (cB:Addr):Sp:=fun vs H _ E=> ∃x,vs=[x]∧eK K H x∧∀e H',ae H H'→E (.ref e) (some cB) H'
theorem JE {f:Addr}{fd:FuncData}(F:aK K "need_board" "need_board" nS f fd) (G:Gs mg) (X:uk K mg cB cL) (D1:Def P w K mg base 3 "is_board" ["thing"] (nN K)):az P w K mg base (bq P w) 4 f fd ["board"] (nI K cB):=by
 obtain⟨tk,hL⟩:=G.longest
 refine F.lj va (fun vs H Q E h=> ?_) (fun ao A outer s H vs Q E hr h=> ?_)
 ·obtain⟨x,rfl,_⟩:=h
  rfl
 ·obtain⟨x,rfl,b,q⟩:=h
  refine⟨_,Zk (ZM (ZS (ZL (Zi D1 hr (Za (pv 0) Zb)))) (Zk (Yu PySem.F.excBase_ValueError X.mB X.xB rfl (Za (GW Yw (ZH (v:=.int 12) rfl hL ⟨_,rfl⟩)) Zb))) Zu),?_⟩
  refine⟨x,rfl,x,rfl,b.1,fun H' sm=> ⟨_,rfl,?_⟩⟩
  rw[b.2]
  exact aH ⟨_,rfl,by decide,12,rfl,by decide,by decide,fun z=> ⟨by show 1≤sizeLine;decide,fun e=>q e H' sm⟩⟩
def pX (K:PySem.W.Frag) (cB:Addr):Sp:=fun vs H _ E=> ∃x y,vs=[x,y]∧eK K H x∧∀e H',ae H H'→E (.ref e) (some cB) H'
theorem GP {f:Addr}{fd:FuncData}(F:aK K "is_lay" "is_lay" nT f fd) (D1:cJ P w K mg base 4 "need_board" ["board"] (nI K cB)):az P w K mg base (bq P w) 5 f fd ["board", "thing"] (pX K cB):=by
 refine F.lj kP (fun vs H Q E h=> ?_) (fun ao A outer s H vs Q E hr h=> ?_)
 ·obtain⟨x,y,rfl,_⟩:=h
  rfl
 ·obtain⟨x,y,rfl,b,q⟩:=h
  refine⟨_,Zd (ZO (YW D1 hr (Za (pv 0) Zb))) Zr,?_⟩
  exact⟨x,rfl,x,rfl,b,q⟩
def gO (K:PySem.W.Frag) (cB cL:Addr):Sp:=fun vs H _ E=> ∃x y C,vs=[x,y]∧HY K cB cL H x y C∧∀e H',ae H H'→E (.ref e) (some C) H'
theorem Wq {f:Addr}{fd:FuncData}(F:aK K "need_lay" "need_lay" nR f fd) (X:uk K mg cB cL) (D1:cJ P w K mg base 5 "is_lay" ["board", "thing"] (pX K cB)) (D2:Def P w K mg base 5 "is_lay" ["board", "thing"] (nJ K)):
  az P w K mg base (bq P w) 6 f fd ["board", "lay"] (gO K cB cL):=by
 refine F.lj uZ (fun vs H Q E h=> ?_) (fun ao A outer s H vs Q E hr h=> ?_)
 ·obtain⟨x,y,C,rfl,_⟩:=h
  rfl
 ·obtain⟨x,y,C,rfl,b,q⟩:=h
  rcases b with ⟨rfl,b⟩ |⟨rfl,wd,hg,b1,b2,b3⟩
  ·refine⟨_,Zk (ZM (ZS (ZL (YW D1 hr (Za (pv 0) (Za (pv 1) Zb))))) Zr Zu),?_⟩
   exact⟨x,rfl,y,rfl,x,y,rfl,b,q⟩
  ·refine⟨_,Zk (ZM (ZS (ZL (Zi D2 hr (Za (pv 0) (Za (pv 1) Zb))))) (Zk (Yu PySem.F.excBase_ValueError X.mL X.xL rfl (Za Yw Zb))) Zu),?_⟩
   refine⟨x,rfl,y,rfl,x,y,wd,hg,rfl,b1,b2,fun H' sm=> ⟨_,rfl,?_⟩⟩
   rw[b3]
   exact aH ⟨by show 1≤sizeLine;decide,fun e=>q e H' sm⟩
theorem WR {f:Addr}{fd:FuncData}(F:aK K "points" "points" nQ f fd) (D1:cJ P w K mg base 6 "need_lay" ["board", "lay"] (gO K cB cL)):az P w K mg base (bq P w) 7 f fd ["board", "lay"] (gO K cB cL):=by
 refine F.lj uX (fun vs H Q E h=> ?_) (fun ao A outer s H vs Q E hr h=> ?_)
 ·obtain⟨x,y,C,rfl,_⟩:=h
  rfl
 ·obtain⟨x,y,C,rfl,b,q⟩:=h
  refine⟨_,Zd (ZO (YW D1 hr (Za (pv 0) (Za (pv 1) Zb)))) Zr,?_⟩
  exact⟨x,rfl,y,rfl,x,y,C,rfl,b,q⟩
end
section
def vS:List Str:=["NoBoard", "NoLay", "NoNumber", "NoPoints", "NoPoint", "NoPaper", "NoUnlike", "NoPrime", "NoRoot", "NoTurn", "TooFew", "TooMany", "NoText", "NoLine", "NoDeed"]
structure gE (K:PySem.W.Frag) (mg:Str→Option Value) (cS C:Addr) (iC:Nat):Prop where
 z:jy K C
 ms:mg "StepError" =some (.ref cS)
 xs:PySem.W.exmOne K (.ref C) (.ref cS)=some true
 m:∀i,i<15→∃c,mg (vS.getD i "")=some (.ref c)∧PySem.W.kitOne K (.ref C) (.ref c)=some (decide (i=iC))
 mv:mg "ValueError" =none
 xv:PySem.W.kitOne K (.ref C) (.type "ValueError")=some true
end
section
variable {P:Program}{w:World}{K:PySem.W.Frag}{mg:Str→Option Value}{base:Heap}
abbrev qr:Stmt:=top 33
def jJ (P:Program) (w:World) (K:PySem.W.Frag) (mg:Str→Option Value) (base:Heap) (cS:Addr) (k:Nat):Sp:=fun vs H Q _=> ∃f fd sp C iC,vs=[.ref f]∧(iC=0∨iC=1∨iC=3)∧gE K mg cS C iC∧(∀s,bg P w H s→PySem.W.FnAt f s)∧az P w K mg base (bq P w) k f fd [] sp∧
 (∀s,BindsTo s fd ⟨[],[]⟩ [])∧(∀Q' E',(∀e H',ae H H'→E' (.ref e) (some C) H')→sp [] H Q' E')∧∀l H',ae H H'→H l=none→H' l=some (.lst [.int (iC:Int)])→Q (.ref l) H'
theorem f9:bI ["_law_call", "_law_error", "e", "_law_marks"] ["_law_call"] (au qr):=⟨rfl,rfl,rfl,by decide+kernel,rfl,by decide+kernel,by decide+kernel⟩
def ba (iC n:Nat):List V:=(List.range n).map fun i=>V.bl (decide (i=iC))
theorem ag {H:Hp}{p:Addr}{o:HO}(h:H p=none):ae H (upd H p o):=fun b u hb=>by rw[Ze (Zf hb h)];exact hb
theorem F6 {k:Nat}{f:Addr}{fd:FuncData}{cS:Addr}(F:aK K "_law_refused" "_law_refused" qr f fd) (G:Gs mg):az P w K mg base aE (k+1) f fd ["_law_call"] (jJ P w K mg base cS k):=by
 refine F.ok f9 (fun vs H Q E h=> ?_) (fun ao A outer s H vs Q E hr h=> ?_)
 ·obtain⟨f,fd,sp,C,iC,rfl,_⟩:=h
  rfl
 ·obtain⟨f,fd,sp,C,iC,rfl,hi,M,fj,Fl,lZ,cw,q⟩:=h
  obtain⟨c0,m0,k0⟩:=M.m 0 (by decide)
  obtain⟨c1,m1,k1⟩:=M.m 1 (by decide)
  obtain⟨c2,m2,k2⟩:=M.m 2 (by decide)
  obtain⟨c3,m3,k3⟩:=M.m 3 (by decide)
  obtain⟨c4,m4,k4⟩:=M.m 4 (by decide)
  obtain⟨c5,m5,k5⟩:=M.m 5 (by decide)
  obtain⟨c6,m6,k6⟩:=M.m 6 (by decide)
  obtain⟨c7,m7,k7⟩:=M.m 7 (by decide)
  obtain⟨c8,m8,k8⟩:=M.m 8 (by decide)
  obtain⟨c9,m9,k9⟩:=M.m 9 (by decide)
  obtain⟨c10,BQ,B8⟩:=M.m 10 (by decide)
  obtain⟨c11,BP,B7⟩:=M.m 11 (by decide)
  obtain⟨c12,BO,B6⟩:=M.m 12 (by decide)
  obtain⟨c13,BN,B5⟩:=M.m 13 (by decide)
  obtain⟨c14,BM,B4⟩:=M.m 14 (by decide)
  refine⟨_,Zd (Zs (i:=1) f9.nd rfl (Or.inl rfl) ZX)
   (Zd (WL (ic:=0) (ie:=2) rfl rfl rfl f9.nd rfl (Or.inl rfl) rfl rfl M.ms rfl hr (fun e=>Zk (Zs (i:=1) f9.nd rfl (Or.inl rfl) (pv 2))))
   (Zd (Zs (i:=3) f9.nd rfl (Or.inr rfl) (Zl (Za (Zg Zm rfl G.isinstance boot_isinstance (Za (pv 1) (Za (ZH (v:=.ref c0) rfl m0 rfl) Zb))) (Za (Zg Zm rfl G.isinstance boot_isinstance (Za (pv 1) (Za (ZH (v:=.ref c1) rfl m1 rfl) Zb))) (Za (Zg Zm rfl G.isinstance boot_isinstance (Za (pv 1) (Za (ZH (v:=.ref c2) rfl m2 rfl) Zb))) Zb)))))
   (Zd (Zs (i:=3) f9.nd rfl (Or.inr rfl) (Zj Zy (pv 3) (Zl (Za (Zg Zm rfl G.isinstance boot_isinstance (Za (pv 1) (Za (ZH (v:=.ref c3) rfl m3 rfl) Zb))) (Za (Zg Zm rfl G.isinstance boot_isinstance (Za (pv 1) (Za (ZH (v:=.ref c4) rfl m4 rfl) Zb))) (Za (Zg Zm rfl G.isinstance boot_isinstance (Za (pv 1) (Za (ZH (v:=.ref c5) rfl m5 rfl) Zb))) Zb))))))
   (Zd (Zs (i:=3) f9.nd rfl (Or.inr rfl) (Zj Zy (pv 3) (Zl (Za (Zg Zm rfl G.isinstance boot_isinstance (Za (pv 1) (Za (ZH (v:=.ref c6) rfl m6 rfl) Zb))) (Za (Zg Zm rfl G.isinstance boot_isinstance (Za (pv 1) (Za (ZH (v:=.ref c7) rfl m7 rfl) Zb))) (Za (Zg Zm rfl G.isinstance boot_isinstance (Za (pv 1) (Za (ZH (v:=.ref c8) rfl m8 rfl) Zb))) Zb))))))
   (Zd (Zs (i:=3) f9.nd rfl (Or.inr rfl) (Zj Zy (pv 3) (Zl (Za (Zg Zm rfl G.isinstance boot_isinstance (Za (pv 1) (Za (ZH (v:=.ref c9) rfl m9 rfl) Zb))) (Za (Zg Zm rfl G.isinstance boot_isinstance (Za (pv 1) (Za (ZH (v:=.ref c10) rfl BQ rfl) Zb))) (Za (Zg Zm rfl G.isinstance boot_isinstance (Za (pv 1) (Za (ZH (v:=.ref c11) rfl BP rfl) Zb))) Zb))))))
   (Zd (Zs (i:=3) f9.nd rfl (Or.inr rfl) (Zj Zy (pv 3) (Zl (Za (Zg Zm rfl G.isinstance boot_isinstance (Za (pv 1) (Za (ZH (v:=.ref c12) rfl BO rfl) Zb))) (Za (Zg Zm rfl G.isinstance boot_isinstance (Za (pv 1) (Za (ZH (v:=.ref c13) rfl BN rfl) Zb))) (Za (Zg Zm rfl G.isinstance boot_isinstance (Za (pv 1) (Za (ZH (v:=.ref c14) rfl BM rfl) Zb))) Zb))))))
   (Zd (ZM (ZS (ZL (Zg Zm rfl G.isinstance boot_isinstance (Za (pv 1) (Za (Zv (v:=.ty "ValueError") rfl M.mv PyProof.Rows.Boot.«ValueError» rfl) Zb))))) (Zk (ZB ZX)) Zu)
   (Zk (ZB (ZY ["_law_k", "_law_marks"] 1 [3] (Z9 rfl G.range (Za Zh Zb)) (fun C s H fp=>pb 0)
    (fun C s H fp=>YV (ZL (ZG (show kq (aJ _ _ _ C s H fp) (vp K) from ZC) (pv 1) (pv 0) (fun _ _=>rfl)))) (fun C s H fp D=>ZE rfl (pv 0)))))))))))),?_⟩
  refine⟨f,fd,sp,rfl,fj,Fl,lZ,cw _ _ fun e H1 s1=> ⟨e,C,rfl,rfl,M.xs,fun kc=> ⟨_,rfl,?_⟩⟩⟩
  have s2:ae H1 (upd H1 e (iy e C)):=ag kc
  have he:upd H1 e (iy e C) e=some (iy e C):=Zc
  generalize upd H1 e (iy e C)=H2 at s2 he
  refine⟨_,rfl,e,C,_,_,_,rfl,he,M.z,fun _ h=>h,k0,_,rfl,e,C,_,_,_,rfl,he,M.z,fun _ h=>h,k1,_,rfl,e,C,_,_,_,rfl,he,M.z,fun _ h=>h,k2,(by show 3≤sizeLine;decide),fun l1 je=> ?_⟩
  have sa:ae H2 (upd H2 l1 (.lst (ba iC 3))):=ag je
  have ha:upd H2 l1 (.lst (ba iC 3)) l1=some (.lst (ba iC 3)):=Zc
  show _
  generalize DS:upd H2 l1 (HO.lst (ba iC 3))=Ha at sa ha
  rw[show upd H2 l1 (HO.lst [V.bl (decide (0=iC)),V.bl (decide (1=iC)),V.bl (decide (2=iC))])=Ha from DS]
  have oQ:=sa _ _ he
  refine⟨_,rfl,_,rfl,e,C,_,_,_,rfl,oQ,M.z,fun _ h=>h,k3,_,rfl,e,C,_,_,_,rfl,oQ,M.z,fun _ h=>h,k4,_,rfl,e,C,_,_,_,rfl,oQ,M.z,fun _ h=>h,k5,(by show 3≤sizeLine;decide),fun m0 wY=> ⟨l1,m0,ba iC 3,_,rfl,rfl,ag wY _ _ ha,Zc,(by show 3+3≤sizeLine;decide),fun p0 wM=> ?_⟩⟩
  have qA:ae Ha (upd Ha m0 (.lst [V.bl (decide (3=iC)),V.bl (decide (4=iC)),V.bl (decide (5=iC))])):=ag wY
  generalize upd Ha m0 (HO.lst [V.bl (decide (3=iC)),V.bl (decide (4=iC)),V.bl (decide (5=iC))])=mO at qA wM
  have qw:ae mO (upd mO p0 (.lst (ba iC 6))):=ag wM
  have xy:upd mO p0 (.lst (ba iC 6)) p0=some (.lst (ba iC 6)):=Zc
  generalize DW:upd mO p0 (HO.lst (ba iC 6))=pj at qw xy
  rw[show upd mO p0 (HO.lst (ba iC 3++[V.bl (decide (3=iC)),V.bl (decide (4=iC)),V.bl (decide (5=iC))]))=pj from DW]
  have kc:=qw _ _ (qA _ _ oQ)
  refine⟨_,rfl,_,rfl,e,C,_,_,_,rfl,kc,M.z,fun _ h=>h,k6,_,rfl,e,C,_,_,_,rfl,kc,M.z,fun _ h=>h,k7,_,rfl,e,C,_,_,_,rfl,kc,M.z,fun _ h=>h,k8,(by show 3≤sizeLine;decide),fun m1 wX=> ⟨p0,m1,ba iC 6,_,rfl,rfl,ag wX _ _ xy,Zc,(by show 6+3≤sizeLine;decide),fun p1 oI=> ?_⟩⟩
  have qz:ae pj (upd pj m1 (.lst [V.bl (decide (6=iC)),V.bl (decide (7=iC)),V.bl (decide (8=iC))])):=ag wX
  generalize upd pj m1 (HO.lst [V.bl (decide (6=iC)),V.bl (decide (7=iC)),V.bl (decide (8=iC))])=kz at qz oI
  have qv:ae kz (upd kz p1 (.lst (ba iC 9))):=ag oI
  have xx:upd kz p1 (.lst (ba iC 9)) p1=some (.lst (ba iC 9)):=Zc
  generalize DV:upd kz p1 (HO.lst (ba iC 9))=ph at qv xx
  rw[show upd kz p1 (HO.lst (ba iC 6++[V.bl (decide (6=iC)),V.bl (decide (7=iC)),V.bl (decide (8=iC))]))=ph from DV]
  have oR:=qv _ _ (qz _ _ kc)
  refine⟨_,rfl,_,rfl,e,C,_,_,_,rfl,oR,M.z,fun _ h=>h,k9,_,rfl,e,C,_,_,_,rfl,oR,M.z,fun _ h=>h,B8,_,rfl,e,C,_,_,_,rfl,oR,M.z,fun _ h=>h,B7,(by show 3≤sizeLine;decide),fun m2 fO=> ⟨p1,m2,ba iC 9,_,rfl,rfl,ag fO _ _ xx,Zc,(by show 9+3≤sizeLine;decide),fun p2 hJ=> ?_⟩⟩
  have qy:ae ph (upd ph m2 (.lst [V.bl (decide (9=iC)),V.bl (decide (10=iC)),V.bl (decide (11=iC))])):=ag fO
  generalize upd ph m2 (HO.lst [V.bl (decide (9=iC)),V.bl (decide (10=iC)),V.bl (decide (11=iC))])=ku at qy hJ
  have qu:ae ku (upd ku p2 (.lst (ba iC 12))):=ag hJ
  have xw:upd ku p2 (.lst (ba iC 12)) p2=some (.lst (ba iC 12)):=Zc
  generalize DU:upd ku p2 (HO.lst (ba iC 12))=pf at qu xw
  rw[show upd ku p2 (HO.lst (ba iC 9++[V.bl (decide (9=iC)),V.bl (decide (10=iC)),V.bl (decide (11=iC))]))=pf from DU]
  have ka:=qu _ _ (qy _ _ oR)
  refine⟨_,rfl,_,rfl,e,C,_,_,_,rfl,ka,M.z,fun _ h=>h,B6,_,rfl,e,C,_,_,_,rfl,ka,M.z,fun _ h=>h,B5,_,rfl,e,C,_,_,_,rfl,ka,M.z,fun _ h=>h,B4,(by show 3≤sizeLine;decide),fun m3 wW=> ⟨p2,m3,ba iC 12,_,rfl,rfl,ag wW _ _ xw,Zc,(by show 12+3≤sizeLine;decide),fun p3 jc=> ?_⟩⟩
  have qx:ae pf (upd pf m3 (.lst [V.bl (decide (12=iC)),V.bl (decide (13=iC)),V.bl (decide (14=iC))])):=ag wW
  generalize upd pf m3 (HO.lst [V.bl (decide (12=iC)),V.bl (decide (13=iC)),V.bl (decide (14=iC))])=jx at qx jc
  have qt:ae jx (upd jx p3 (.lst (ba iC 15))):=ag jc
  have xu:upd jx p3 (.lst (ba iC 15)) p3=some (.lst (ba iC 15)):=Zc
  generalize DT:upd jx p3 (HO.lst (ba iC 15))=yY at qt xu
  rw[show upd jx p3 (HO.lst (ba iC 12++[V.bl (decide (12=iC)),V.bl (decide (13=iC)),V.bl (decide (14=iC))]))=yY from DT]
  have Dn:=qt _ _ (qx _ _ ka)
  refine⟨_,rfl,e,C,_,_,_,rfl,Dn,M.z,fun _ h=>h,M.xv,_,rfl,?_⟩
  refine ay ?_
  refine⟨15,rfl,by decide,by decide,?_⟩
  refine Jt (n:=15) (fun i ys σ H4=>ys=((List.range i).filter fun k=>decide (k=iC)).map (fun k:Nat=>V.int (k:Int))∧H4=yY∧∃v,σ=[v,some (.ref p3)]) ⟨rfl,rfl,none,rfl⟩ ?_ ?_
  ·rintro i ys σ H4 Df ⟨rfl,rfl,v,rfl⟩
   have hm:eJ (ba iC 15) (0+(i:Int))=some (V.bl (decide (i=iC))):=by
    rw[Int.zero_add]
    refine ZK ?_
    unfold ba
    rw[List.getElem?_map,List.getElem?_range Df]
    rfl
   refine⟨_,rfl,_,rfl,p3,_,_,_,rfl,rfl,af.of xu,hm,_,rfl,?_⟩
   have er:((List.range (i+1)).filter fun k=>decide (k=iC))=((List.range i).filter fun k=>decide (k=iC))++(if decide (i=iC)=true then [i] else []):=by
    rw[List.range_succ,List.filter_append]
    cases hd:decide (i=iC)<;>simp_all
   cases hd:decide (i=iC) with
   |true=>
    rw[hd]at er
    refine aH ⟨_,rfl,?_,?_,rfl,_,rfl⟩
    ·rw[List.length_map,sizeLine_eq]
     have:=List.length_filter_le (fun k=>decide (k=iC)) (List.range i)
     rw[List.length_range]at this
     omega
    ·rw[er,if_pos rfl,List.map_append,Int.zero_add]
     rfl
   |false=>
    rw[hd]at er
    exact ay ⟨by rw[er,if_neg Bool.false_ne_true,List.append_nil],rfl,_,rfl⟩
  ·rintro ys σ H4 ⟨rfl,rfl,v,rfl⟩ p hp
   have ef:((List.range 15).filter fun k=>decide (k=iC)).map (fun k:Nat=>V.int (k:Int))=[V.int (iC:Int)]:=by
    rcases hi with rfl |rfl |rfl<;>rfl
   rw[ef]
   have dE:=s1.trans (s2.trans (sa.trans (qA.trans (qw.trans (qz.trans (qv.trans (qy.trans (qu.trans (qx.trans qt)))))))))
   exact q p _ (dE.trans (ag hp)) (dE.free hp) Zc
end
section
theorem aY.same {H H':Hp}{p:Addr}(h:aY H p) (s:ae H H'):aY H' p:=by
 obtain⟨u,v,e,r⟩:=h
 exact⟨u,v,s _ _ e,r⟩
def gQ:V→Bool
 | .int _=>true
 | .bl _=>true
 | .str _=>true
 | .aa=>true
 |_=>false
theorem W6 {K:PySem.W.Frag}{H:Hp} :∀{v:V},gQ v=true→bN K H v
 | .int i,_=> ⟨_,.int i⟩
 | .bl b,_=> ⟨_,.bl b⟩
 | .str x,_=> ⟨_,.str x⟩
 | .aa,_=> ⟨_,.aa⟩
def gj:Lit→Bool
 | .sc v=>gQ v
 | .tup xs=>xs.all gQ
 |_=>true
def rD:Lit→Option (List V)
 | .tup xs=>some xs
 |_=>none
theorem Jh {H:Hp}{v:V} :∀{l:Lit},gj l=true→dz H v l→aC H v=rD l
 | .sc u,hp,h=>by
  have h':v=u:=h
  subst h'
  cases v with
  |ref a=>cases hp
  |_=>rfl
 | .tup xs,_,⟨a,e,h⟩=>by rw[e,Zo h];rfl
 | .lst xs,_,⟨a,e,h⟩=>by rw[e,Zp,h];rfl
 | .bD,_,⟨a,e,h⟩=>by rw[e,Zp,h];rfl
theorem Wb {K:PySem.W.Frag}{H:Hp}{v:V} :∀{l:Lit},gj l=true→dz H v l→cC K H v
 | .sc u,hp,h=>by
  have h':v=u:=h
  subst h'
  refine⟨W6 hp,fun xs e y hy=> ?_⟩
  rw[Jh (l:=.sc v) hp rfl]at e
  cases e
 | .tup xs,hp,⟨a,e,h⟩=>by
  subst e
  refine⟨⟨_,.tup h⟩,fun ys e y hy=> ?_⟩
  rw[Zo h]at e
  cases e
  exact W6 (List.all_eq_true.mp hp y hy)
 | .lst xs,hp,⟨a,e,h⟩=>by
  subst e
  refine⟨⟨_,.lst h⟩,fun ys e y hy=> ?_⟩
  rw[Zp,h]at e
  cases e
 | .bD,hp,⟨a,e,h⟩=>by
  subst e
  refine⟨⟨_,.dK h⟩,fun ys e y hy=> ?_⟩
  rw[Zp,h]at e
  cases e
theorem Paired.app {α β:Type}{F:α→β→Prop} :∀{a c:List α}{b d:List β},Paired F a b→Paired F c d→Paired F (a++c) (b++d)
 |_,_,_,_,.nil,h=>h
 |_,_,_,_,.cons r t,h=> .cons r (Paired.app t h)
end
section
variable {P:Program}{w:World}{K:PySem.W.Frag}{mg:Str→Option Value}{base:Heap}
abbrev iT:Stmt:=top 35
def oy:List Lit:=[.tup [.int 0,.int 1],.tup [.int 1,.int 13],.tup [.int 13,.int 1],.tup [.int 1,.int 0],.tup [.int (-1),.int 2],.tup [.bl true,.int 2],.tup [.int 2,.bl true],.tup [.bl false,.int 1],.tup [.int 2],.tup [.int 2,.int 2,.int 2]]
def ow:List Lit:=[.lst [.int 2,.int 2],.sc .aa,.sc (.int 4),.sc (.str "2x2"),.tup [.str "2",.int 2],.tup [.int 2,.aa],.tup [.int (10^(29:Int).toNat),.int 2],.bD]
def yq (l:Lit):Bool:=gj l&& !i7 (rD l)
theorem Hs:(oy++ow).all yq=true:=by decide+kernel
def fV (p:Addr) (H:Hp) (v:V):Prop:=v≠.ref p∧∀xs,aC H v=some xs→∀y∈xs,y≠.ref p
def pU (K:PySem.W.Frag):Sp:=fun vs H Q _=> ∃p:Addr,vs=[.ref p]∧aY H p∧∀v H',ak p H H'→aY H' p→eK K H' v→fV p H' v→Q v H'
def rh:List Expr:=match bu iT with | .Assign _ (.List es _) _::_=>es |_=> []
def rg:List Expr:=match bu iT with |_:: .Return (some (.Subscript (.BinOp _ _ (.List es _) _) _ _)) _::_=>es |_=> []
def BC (a b:List Expr):List Stmt:=match bu iT with
 | [.Assign x (.List _ p1) p2,.Return (some (.Subscript (.BinOp y o (.List _ p3) p4) z p5)) p6]=> [.Assign x (.List a p1) p2,.Return (some (.Subscript (.BinOp y o (.List b p3) p4) z p5)) p6]
 |_=> []
theorem GK:bu iT=BC rh rg:=by kernel_rfl
theorem Ht:litsOf rh=some oy:=by kernel_rfl
theorem GI:litsOf rg=some ow:=by kernel_rfl
theorem uY:bI ["_law_state_here", "_law_some"] ["_law_state_here"] (au iT):=⟨rfl,rfl,rfl,by decide+kernel,rfl,by decide+kernel,by decide+kernel⟩
theorem F4 {f:Addr}{fd:FuncData}(F:aK K "_law_no_board" "_law_no_board" iT f fd) (D1:Def P w K mg base 1 "_law_take" ["_law_state_here", "_law_many"] gP):az P w K mg base aE 2 f fd ["_law_state_here"] (pU K):=by
 refine F.ok uY (fun vs H Q E h=> ?_) (fun ao A outer s H vs Q E hr h=> ?_)
 ·obtain⟨p,rfl,_⟩:=h
  rfl
 ·obtain⟨p,rfl,st,q⟩:=h
  rw[GK]
  have i1:=Ht
  have i2:=GI
  generalize rh=xS at i1
  generalize rg=Eu at i2
  refine⟨_,Zd (Zs (i:=1) uY.nd rfl (Or.inl rfl) (Zl (YC (ls:=oy) i1))) (Zk (ZB (ZG ZC (Zj Zy (pv 1) (Zl (YC (ls:=ow) i2))) (Zi D1 hr (Za (pv 0) (Za Zh Zb))) (fun _ _=>rfl)))),?_⟩
  refine fun bX H1 s1 vI n1=> ?_
  have l1:bX.length=10:=Paired.length vI
  refine⟨by rw[l1];decide,fun L1 bQ=> ?_⟩
  have s2:ae H1 (upd H1 L1 (.lst bX)):=ag bQ
  have eL:upd H1 L1 (.lst bX) L1=some (.lst bX):=Zc
  generalize upd H1 L1 (HO.lst bX)=H2 at s2 eL
  refine⟨_,rfl,fun bW H3 s3 iX n2=> ?_⟩
  have l2:bW.length=8:=Paired.length iX
  refine⟨by rw[l2];decide,fun L2 mm=> ?_⟩
  have s4:ae H3 (upd H3 L2 (.lst bW)):=ag mm
  have eM:upd H3 L2 (.lst bW) L2=some (.lst bW):=Zc
  generalize upd H3 L2 (HO.lst bW)=H4 at s4 eM
  refine⟨L1,L2,_,_,rfl,rfl,s4 _ _ (s3 _ _ eL),eM,by rw[l1,l2];decide,fun L3 ix=> ?_⟩
  have s5:ae H4 (upd H4 L3 (.lst (bX++bW))):=ag ix
  have eN:upd H4 L3 (.lst (bX++bW)) L3=some (.lst (bX++bW)):=Zc
  generalize upd H4 L3 (HO.lst (bX++bW))=H5 at s5 eN
  have dE:ae H H5:=s1.trans (s2.trans (s3.trans (s4.trans s5)))
  have pr:Paired (dz H5) (bX++bW) (oy++ow):=Paired.app (Paired.aX vI fun _ _ h=>h.same (s2.trans (s3.trans (s4.trans s5)))) (Paired.aX iX fun _ _ h=>h.same (s4.trans s5))
  have dh:=st.same dE
  refine⟨_,rfl,p,18,rfl,dh,by decide,by decide,fun r o h0 IT dY=> ?_⟩
  obtain⟨u0,v0,mC,_⟩:=id dh
  have rG:(bX++bW).length=18:=by rw[List.length_append,l1,l2]
  have nL:L3≠p:=fun z=>by
   rw[z,mC]at eN
   have y:[V.int u0,V.int v0]=bX++bW:=by injection eN with y;injection y
   rw[←y]at rG
   cases rG
  have ar:r.toNat< (bX++bW).length:=by rw[rG];omega
  have dc:=List.getElem?_eq_getElem ar
  have ck:=ZK dc
  rw[Int.toNat_of_nonneg h0]at ck
  obtain⟨l,hl,cG⟩:=Paired.at pr dc
  have hb:=List.all_eq_true.mp Hs l (List.mem_of_getElem? hl)
  unfold yq at hb
  rw[Bool.and_eq_true]at hb
  refine⟨L3,_,_,_,rfl,rfl,af.of (by rw[Ze nL];exact eN),ck,?_⟩
  have keep:∀c u,H5 c=some u→c≠p→upd H5 p o c=some u:=fun c u hc hn=>by rw[Ze hn];exact hc
  have kn:dz (upd H5 p o) (bX++bW)[r.toNat] l:=by
   cases l with
   |sc v=>exact cG
   |tup xs=>
    obtain⟨a,e,h⟩:=cG
    exact⟨a,e,keep _ _ h fun z=>by rw[z,mC]at h;cases h⟩
   |lst xs=>
    obtain⟨a,e,h⟩:=cG
    refine⟨a,e,keep _ _ h fun z=> ?_⟩
    have hm:V.ref a∈bX++bW:=by rw[←e];exact List.getElem_mem ar
    obtain⟨_,_,y,_⟩:=id st
    rcases List.mem_append.mp hm with hm |hm
    ·have:=n1 a hm
     rw[z,y]at this
     cases this
    ·have:=n2 a hm
     rw[z,(s1.trans s2) _ _ y]at this
     cases this
   |bD=>
    obtain⟨a,e,h⟩:=cG
    exact⟨a,e,keep _ _ h fun z=>by rw[z,mC]at h;cases h⟩
  have nr:fV p (upd H5 p o) (bX++bW)[r.toNat]:=by
   have oV:upd H5 p o p=some o:=Zc
   cases l with
   |sc v=>
    have e:(bX++bW)[r.toNat]=v:=kn
    rw[e]
    have hs:gQ v=true:=hb.1
    refine⟨fun z=> (by rw[z]at hs;cases hs),fun xs h y hy=> ?_⟩
    rw[Jh (l:=.sc v) hs rfl]at h
    cases h
   |tup xs=>
    obtain⟨a,e,h⟩:=cG
    have bB:a≠p:=fun z=>by rw[z,mC]at h;cases h
    rw[e]
    refine⟨fun z=>bB (by cases z;rfl),fun ys h2 y hy z=> ?_⟩
    rw[Zo (keep _ _ h bB)]at h2
    cases h2
    have hs:=List.all_eq_true.mp (show xs.all gQ=true from hb.1) y hy
    rw[z]at hs
    cases hs
   |lst xs=>
    obtain⟨a,e,h⟩:=kn
    have hm:V.ref a∈bX++bW:=by rw[←e];exact List.getElem_mem ar
    obtain⟨_,_,y,_⟩:=id st
    have bB:a≠p:=fun z=>by
     rcases List.mem_append.mp hm with hm |hm
     ·have:=n1 a hm
      rw[z,y]at this
      cases this
     ·have:=n2 a hm
      rw[z,(s1.trans s2) _ _ y]at this
      cases this
    rw[e]
    refine⟨fun z=>bB (by cases z;rfl),fun ys h2 y hy=> ?_⟩
    rw[Zp,h]at h2
    cases h2
   |bD=>
    obtain⟨a,e,h⟩:=cG
    have bB:a≠p:=fun z=>by rw[z,mC]at h;cases h
    rw[e]
    refine⟨fun z=>bB (by cases z;rfl),fun ys h2 y hy=> ?_⟩
    rw[Zp,keep _ _ h bB]at h2
    cases h2
  refine q _ _ (fun c u hc hn=>keep c u (dE _ _ hc) hn) dY ⟨Wb hb.1 kn,?_⟩ nr
  rw[Jh hb.1 kn]
  simpa using hb.2
end
section
theorem Z4 {wd hg:Int}{xs:List V}(h:(xs.length:Int)≠wd):fi wd hg (some xs)=false:=by
 show(decide ((xs.length:Int)=wd)&&_&&_)=false
 rw[decide_eq_false h,Bool.false_and,Bool.false_and]
theorem Wc {wd hg:Int}{xs:List V}{y:V}{k:Nat}(hn:y≠.aa) (hw:av y 0 (hg - 1)=false):fi wd hg (some (xs.take k++[y]++xs.drop (k+1)))=false:=by
 show(decide _&&((rowsOf (xs.take k++[y]++xs.drop (k+1))).all fun r=>av r 0 (hg - 1))&&_)=false
 have hm:y∈rowsOf (xs.take k++[y]++xs.drop (k+1)):=by
  unfold rowsOf
  refine List.mem_filter.mpr ⟨by simp,by simp[hn]⟩
 have:((rowsOf (xs.take k++[y]++xs.drop (k+1))).all fun r=>av r 0 (hg - 1))=false:=by
  rw[Bool.eq_false_iff]
  intro h
  have:=List.all_eq_true.mp h y hm
  rw[hw]at this
  cases this
 rw[this,Bool.and_false,Bool.false_and]
theorem Wk (a b:List V):rowsOf (a++b)=rowsOf a++rowsOf b:=by unfold rowsOf;rw[List.filter_append]
theorem Hk {wd hg:Int}{xs:List V}{y:V}{j k:Nat}(hj:xs[j]? =some y) (IL:j≠k) (hn:y≠.aa):fi wd hg (some (xs.take k++[y]++xs.drop (k+1)))=false:=by
 show(decide _&&_&&decide (rowsOf (xs.take k++[y]++xs.drop (k+1))).Nodup)=false
 have:¬(rowsOf (xs.take k++[y]++xs.drop (k+1))).Nodup:=by
  rw[Wk,Wk]
  have e1:rowsOf [y]=[y]:=by unfold rowsOf;simp[hn]
  rw[e1]
  intro nd
  have j7:∀l:List V,y∈l→y∈rowsOf l:=fun l hl=>List.mem_filter.mpr ⟨hl,by simp[hn]⟩
  obtain⟨n1,n2,n3⟩:=List.nodup_append.mp nd
  obtain⟨m1,m2,m3⟩:=List.nodup_append.mp n1
  by_cases ar:j<k
  ·have:y∈xs.take k:=List.mem_of_getElem? (i:=j) (by rw[List.getElem?_take,if_pos ar];exact hj)
   exact m3 y (j7 _ this) y (by simp) rfl
  ·have:y∈xs.drop (k+1):=List.mem_of_getElem? (i:=j - (k+1)) (by rw[List.getElem?_drop,show k+1+(j - (k+1))=j by omega];exact hj)
   exact n3 y (by simp) y (j7 _ this) rfl
 rw[decide_eq_false this,Bool.and_false]
def fX (K:PySem.W.Frag) (wd hg:Int) (H:Hp) (v:V):Prop:=cC K H v∧fi wd hg (aC H v)=false
theorem fX.same {K:PySem.W.Frag}{wd hg:Int}{H H':Hp}{v:V}(b:fX K wd hg H v) (s:ae H H'):fX K wd hg H' v:=⟨b.1.same s,by rw[Z1 b.1.1 s];exact b.2⟩
theorem Gq {K:PySem.W.Frag}{wd hg:Int}{H:Hp}{a:Addr}{xs:List V}(h:H a=some (.tup xs)) (hp:∀y∈xs,bN K H y) (hb:fi wd hg (some xs)=false):fX K wd hg H (.ref a):=by
 refine⟨⟨⟨_,.tup h⟩,fun ys e y hy=> ?_⟩,by rw[Zo h];exact hb⟩
 rw[Zo h]at e
 cases e
 exact hp y hy
theorem WF {K:PySem.W.Frag}{wd hg:Int}{H:Hp}{v:V}{l:Lit}(hp:gj l=true) (hn:rD l=none) (h:dz H v l):fX K wd hg H v:=⟨Wb hp h,by rw[Jh hp h,hn];rfl⟩
theorem Gn {K:PySem.W.Frag}{wd hg:Int}{H:Hp}{a:Addr}{xs:List V}(h:H a=some (.lst xs)):fX K wd hg H (.ref a):=by
 have e0:aC H (.ref a)=none:=by rw[Zp,h];rfl
 exact⟨⟨⟨_,.lst h⟩,fun ys e=>by rw[e0]at e;cases e⟩,by rw[e0];rfl⟩
def kM:V→Bool
 | .int i=>decide (i.natAbs.log2<1920)
 | .bl _=>true
 | .aa=>true
 | .str x=>x== "0" ||x== "1x1: ."
 |_=>false
def gf (H:Hp) (y:V):Prop:=kM y=true∨∃(b:Addr) (z:V),y=.ref b∧(H b=some (.tup [z])∨H b=some (.lst [z]))∧kM z=true
def iH (p:Addr) (H:Hp) (v:V):Prop:=kM v=true∨(∃(a:Addr) (xs:List V),v=.ref a∧xs.length≤1000∧(H a=some (.tup xs)∨(a≠p∧H a=some (.lst xs)))∧∀y∈xs,gf H y)∨∃a:Addr,v=.ref a∧H a=some (.dK [])
theorem gf.same {H H':Hp}{y:V}(h:gf H y) (s:ae H H'):gf H' y:=by
 rcases h with h |⟨b,z,e,h |h,hz⟩
 ·exact .inl h
 ·exact .inr ⟨b,z,e,.inl (s _ _ h),hz⟩
 ·exact .inr ⟨b,z,e,.inr (s _ _ h),hz⟩
theorem iH.same {p:Addr}{H H':Hp}{v:V}(h:iH p H v) (s:ae H H'):iH p H' v:=by
 rcases h with h |⟨a,xs,e,hl,h |⟨n,h⟩,hy⟩ |⟨a,e,h⟩
 ·exact .inl h
 ·exact .inr (.inl ⟨a,xs,e,hl,.inl (s _ _ h),fun y m=> (hy y m).same s⟩)
 ·exact .inr (.inl ⟨a,xs,e,hl,.inr ⟨n,s _ _ h⟩,fun y m=> (hy y m).same s⟩)
 ·exact .inr (.inr ⟨a,e,s _ _ h⟩)
def iI (K:PySem.W.Frag) (H:Hp) (y:V):Prop:=bN K H y∧gf H y
theorem iI.same {K:PySem.W.Frag}{H H':Hp}{y:V}(h:iI K H y) (s:ae H H'):iI K H' y:=⟨s.iY h.1,h.2.same s⟩
def aS (K:PySem.W.Frag) (p:Addr) (wd hg:Int) (H:Hp) (v:V):Prop:=fX K wd hg H v∧iH p H v
theorem aS.same {K:PySem.W.Frag}{p:Addr}{wd hg:Int}{H H':Hp}{v:V}(b:aS K p wd hg H v) (s:ae H H'):aS K p wd hg H' v:=⟨b.1.same s,b.2.same s⟩
theorem ZJ {K:PySem.W.Frag}{p:Addr}{wd hg:Int}{H:Hp}{a:Addr}{xs:List V}(h:H a=some (.tup xs)) (hp:∀y∈xs,iI K H y) (hb:fi wd hg (some xs)=false) (hl:xs.length≤1000:=by(simp only[List.length_append,List.length_cons,List.length_nil,List.length_take,List.length_drop];omega)):aS K p wd hg H (.ref a):=⟨Gq h (fun y hy=> (hp y hy).1) hb,.inr (.inl ⟨a,xs,rfl,hl,.inl h,fun y hy=> (hp y hy).2⟩)⟩
theorem YH {K:PySem.W.Frag}{p:Addr}{wd hg:Int}{H:Hp}{v:V}(hp:gj (.sc v)=true) (hs:kM v=true):aS K p wd hg H v:=⟨WF (l:=.sc v) hp rfl rfl,.inl hs⟩
theorem JA {K:PySem.W.Frag}{p:Addr}{wd hg:Int}{H:Hp}{a:Addr}(h:H a=some (.dK [])):aS K p wd hg H (.ref a):=⟨WF (l:=.bD) rfl rfl ⟨a,rfl,h⟩,.inr (.inr ⟨a,rfl,h⟩)⟩
theorem Jz {K:PySem.W.Frag}{p:Addr}{wd hg:Int}{H:Hp}{a:Addr}{xs:List V}(h:H a=some (.lst xs)) (np:a≠p) (hl:xs.length≤1000) (hp:∀y∈xs,gf H y):aS K p wd hg H (.ref a):=⟨Gn h,.inr (.inl ⟨a,xs,rfl,hl,.inr ⟨np,h⟩,hp⟩)⟩
theorem Z8 {K:PySem.W.Frag}{a b:Addr}{xs ys:List V}{H:Hp}{Q:VK}(ha:H a=some (.tup xs)) (hb:H b=some (.tup ys)) (hl:xs.length+ys.length≤1000) (q:∀(c:Addr) (H':Hp),ae H H'→H' c=some (.tup (xs++ys))→Q (.ref c) H'):kU K (.ref a) (.ref b) H Q:=by
 cases xs with
 |nil=>exact .inl ⟨a,b,ys,rfl,rfl,ai.of ha,ai.of hb,q b H (ae.refl H) hb⟩
 |cons x r=>
  refine .inr ⟨a,b,x::r,ys,rfl,rfl,ai.of ha,ai.of hb,(by simp),Nat.le_of_lt (qe hl),fun e=> ?_,fun e p hp=> ?_⟩
  ·subst e
   exact q a H (ae.refl H) (by rw[List.append_nil];exact ha)
  ·exact q p _ (ag hp) Zc
theorem FN {K:PySem.W.Frag}{a:Addr}{xs:List V}{H:Hp}{Q:VK}{k:Nat}(ha:H a=some (.tup xs)) (hk:k<xs.length) (q:∀p:Addr,H p=none→Q (.ref p) (upd H p (.tup (xs.take k)))):gX K (.ref a) none (some (k:Int)) H Q:=by
 refine⟨a,xs,rfl,ai.of ha,fun h=> ?_,fun p hp=> ?_⟩
 ·rw[HT.jP]at h
  omega
 ·have e:dw xs none (some (k:Int))=xs.take k:=by
   unfold dw
   rw[HT.nV,HT.jP,List.drop_zero,Nat.sub_zero,Nat.min_eq_left (by omega)]
  rw[e]
  exact q p hp
theorem WA {K:PySem.W.Frag}{a:Addr}{xs:List V}{H:Hp}{Q:VK}{k:Nat}(ha:H a=some (.tup xs)) (hk:0<k) (j6:k≤xs.length) (q:∀p:Addr,H p=none→Q (.ref p) (upd H p (.tup (xs.drop k)))):gX K (.ref a) (some (k:Int)) none H Q:=by
 refine⟨a,xs,rfl,ai.of ha,fun h=> ?_,fun p hp=> ?_⟩
 ·rw[HT.jP]at h
  omega
 ·have e:dw xs (some (k:Int)) none=xs.drop k:=by
   unfold dw
   rw[HT.nV,HT.jP,Nat.min_eq_left j6]
   exact List.take_of_length_le (by rw[List.length_drop];omega)
  rw[e]
  exact q p hp
theorem J2 {K:PySem.W.Frag}{a:Addr}{xs:List V}{y:V}{H:Hp}{Q:VK}{k:Nat}{σ:L2.St}{te tl th uB:TE}(ha:H a=some (.tup xs)) (hk:k<xs.length) (hl:xs.length≤100)
  (e1:∀H Q,Q (.ref a) H→te σ H Q) (e2:∀H Q,Q (.int (k:Int)) H→tl σ H Q) (e3:∀H Q,Q y H→th σ H Q) (e4:∀H Q,Q (.int ((k+1:Nat):Int)) H→uB σ H Q)
  (q:∀(c:Addr) (H':Hp),ae H H'→H' c=some (.tup (xs.take k++[y]++xs.drop (k+1)))→Q (.ref c) H'):
  fJ (kU K) (fJ (kU K) (nv (gX K) te nB (nA tl)) (pM (iP th jE))) (nv (gX K) te (nA uB) nB) σ H Q:=by
 refine e1 _ _ (e2 _ _ ⟨_,rfl,FN ha hk fun p1 oI=>e3 _ _ ⟨(by show 1≤sizeLine;decide),fun p2 hJ=> ?_⟩⟩)
 have s1:ae H (upd H p1 (.tup (xs.take k))):=ag oI
 have s2:=ag (o:=.tup [y]) hJ
 refine Z8 (s2 _ _ Zc) Zc (by rw[List.length_take];simp;omega) fun c H3 s3 hc=> ?_
 have sA:=s1.trans (s2.trans s3)
 refine e1 _ _ (e4 _ _ ⟨_,rfl,?_⟩)
 show gX K (.ref a) (some ((k+1:Nat):Int)) none H3 (fun y H2=>kU K (.ref c) y H2 Q)
 refine WA (k:=k+1) (sA _ _ ha) (by omega) (by omega) fun p4 CO=> ?_
 have s4:=ag (o:=.tup (xs.drop (k+1))) CO
 refine Z8 (s4 _ _ hc) Zc (by rw[List.length_append,List.length_take,List.length_drop];simp;omega) fun c2 H5 s5 jf=> ?_
 exact q c2 H5 (sA.trans (s4.trans s5)) jf
end
section
variable {P:Program}{w:World}{K:PySem.W.Frag}{mg:Str→Option Value}{base:Heap}
abbrev iS:Stmt:=top 37
def iZ:List Lit:=[.sc (.int (-1)),.sc (.bl true),.sc (.bl false),.sc (.str "0"),.tup [.int 0],.sc (.int (10^(29:Int).toNat)),.lst [.int 0]]
def oE:List Lit:=[.sc (.int 0),.sc (.int 0),.sc (.int 0),.sc (.int 1),.sc (.int 1),.sc (.int 2),.sc (.int 3),.sc (.int 4),.sc (.int 5),.sc (.int 6),.sc (.int 7),.sc (.int 8)]
theorem GN {K:PySem.W.Frag}{H:Hp}{v:V}{l:Lit}{hg:Int}(h2:hg≤12) (hl:l∈iZ) (h:dz H v l):v≠.aa∧av v 0 (hg - 1)=false∧iI K H v:=by
 have hp:gj l=true:=List.all_eq_true.mp (show iZ.all gj=true by decide+kernel) l hl
 refine⟨?_,?_,(Wb hp h).1,?_⟩
 ·simp only[iZ,List.mem_cons,List.not_mem_nil,or_false]at hl
  rcases hl with rfl |rfl |rfl |rfl |rfl |rfl |rfl
  ·rw[show v=_ from h];simp
  ·rw[show v=_ from h];simp
  ·rw[show v=_ from h];simp
  ·rw[show v=_ from h];simp
  ·obtain⟨a,e,_⟩:=h;rw[e];simp
  ·rw[show v=_ from h];simp
  ·obtain⟨a,e,_⟩:=h;rw[e];simp
 ·simp only[iZ,List.mem_cons,List.not_mem_nil,or_false]at hl
  rcases hl with rfl |rfl |rfl |rfl |rfl |rfl |rfl
  ·rw[show v=_ from h];rfl
  ·rw[show v=_ from h];rfl
  ·rw[show v=_ from h];rfl
  ·rw[show v=_ from h];rfl
  ·obtain⟨a,e,_⟩:=h;rw[e];rfl
  ·rw[show v=_ from h]
   show(decide ((0:Int)≤10^(29:Int).toNat)&&decide ((10:Int)^(29:Int).toNat≤hg - 1))=false
   have:¬(10:Int)^(29:Int).toNat≤hg - 1:=by
    have:(10:Int)^(29:Int).toNat=100000000000000000000000000000:=by decide
    omega
   rw[decide_eq_false this,Bool.and_false]
  ·obtain⟨a,e,_⟩:=h;rw[e];rfl
 ·simp only[iZ,List.mem_cons,List.not_mem_nil,or_false]at hl
  rcases hl with rfl |rfl |rfl |rfl |rfl |rfl |rfl
  ·rw[show v=_ from h];exact .inl (by decide)
  ·rw[show v=_ from h];exact .inl (by decide)
  ·rw[show v=_ from h];exact .inl (by decide)
  ·rw[show v=_ from h];exact .inl (by decide)
  ·obtain⟨a,e,h1⟩:=h;exact .inr ⟨a,.int 0,e,.inl h1,by decide⟩
  ·rw[show v=_ from h];exact .inl (by decide)
  ·obtain⟨a,e,h1⟩:=h;exact .inr ⟨a,.int 0,e,.inr h1,by decide⟩
theorem WW {r:Int}{vs:List V}{H:Hp}(h0:0≤r) (h1:r<12) (pr:Paired (dz H) vs oE):∃c:Nat,c≤8∧eJ vs r=some (.int (c:Int)):=by
 have key:∀(vs:List V) (ls:List Lit),Paired (dz H) vs ls→ls.all (fun l=>match l with | .sc (.int i)=>decide (0≤i∧i≤8) |_=>false)=true→∀i:Nat,i<ls.length→∃c:Nat,c≤8∧vs[i]? =some (.int (c:Int)):=by
  intro vs ls pr
  induction pr with
  |nil=>intro _ i hi;simp at hi
  |cons r t ih=>
   rename_i v l pE Iu
   intro ha i hi
   rw[List.all_cons,Bool.and_eq_true]at ha
   cases i with
   |zero=>
    cases l with
    |sc u=>
     have e:v=u:=r
     subst e
     cases v with
     |int j=>
      have hj:=of_decide_eq_true ha.1
      exact⟨j.toNat,by omega,by simp;omega⟩
     |_=>cases ha.1
    |_=>cases ha.1
   |succ i=>
    obtain⟨c,h1,h2⟩:=ih ha.2 i (by simpa using hi)
    exact⟨c,h1,by simpa using h2⟩
 obtain⟨c,h2,h3⟩:=key vs oE pr (by decide+kernel) r.toNat (by show r.toNat<12;omega)
 have:=ZK h3
 rw[Int.toNat_of_nonneg h0]at this
 exact⟨c,h2,this⟩
theorem Y1 {wd hg:Int}{xs:List V}(h:dW wd hg xs):∀x∈xs,x=.aa∨∃i:Int,x=.int i:=fun x hx=>by
 by_cases e:x=.aa
 ·exact .inl e
 ·have m:x∈rowsOf xs:=List.mem_filter.mpr ⟨hx,by simp[e]⟩
  have q':=h.row x m
  cases x with
  |int i=>exact .inr ⟨i,rfl⟩
  |_=>cases q'
theorem UJ {i:Int}(h0:0≤i) (h1:i≤12):kM (.int i)=true:=by
 have c:i=0∨i=1∨i=2∨i=3∨i=4∨i=5∨i=6∨i=7∨i=8∨i=9∨i=10∨i=11∨i=12:=by omega
 rcases c with rfl |rfl |rfl |rfl |rfl |rfl |rfl |rfl |rfl |rfl |rfl |rfl |rfl<;>decide
theorem ZD {K:PySem.W.Frag}{H:Hp}{wd hg:Int}{xs:List V}(g2:hg≤12) (h:dW wd hg xs):∀x∈xs,iI K H x:=fun x hx=>by
 rcases Y1 h x hx with rfl |⟨i,rfl⟩
 ·exact⟨⟨_,.aa⟩,.inl rfl⟩
 ·have hm:V.int i∈rowsOf xs:=List.mem_filter.mpr ⟨hx,by simp⟩
  have hw:(decide (0≤i)&&decide (i≤hg - 1))=true:=h.row _ hm
  rw[Bool.and_eq_true,decide_eq_true_eq,decide_eq_true_eq]at hw
  exact⟨⟨_,.int i⟩,.inl (UJ hw.1 (by omega))⟩
theorem Wz:∀(xs:List V) (i:Int),V.int i∈xs→(∀x∈xs,x=.aa∨∃j:Int,x=.int j)→∃j:Nat,xs[j]? =some (.int i)∧∀m y,m<j→xs[m]? =some y→cF y (.int i)=false
 | [],i,h,_=>by simp at h
 |x::r,i,h,hr=>by
  by_cases e:x=.int i
  ·exact⟨0,by rw[e];rfl,fun m y hm _=>absurd hm (Nat.not_lt_zero _)⟩
  ·have h':V.int i∈r:=by
    rcases List.mem_cons.mp h with z |z
    ·exact absurd z.symm e
    ·exact z
   obtain⟨j,hj,hn⟩:=Wz r i h' fun y hy=>hr y (List.mem_cons_of_mem _ hy)
   refine⟨j+1,by simpa using hj,fun m y hm hy=> ?_⟩
   cases m with
   |zero=>
    have:y=x:=by simpa using hy.symm
    subst this
    rcases hr y List.mem_cons_self with rfl |⟨k,rfl⟩
    ·rfl
    ·show(k==i)=false
     have:k≠i:=fun z=>e (by rw[z])
     simpa using this
   |succ m=>exact hn m y (by omega) (by simpa using hy)
def pT (K:PySem.W.Frag):Sp:=fun vs H Q _=> ∃(p b l:Addr) (wd hg:Int) (xs:List V),vs=[.ref p,.ref b,.ref l]∧aY H p∧cY H (.ref b) wd hg∧H l=some (.tup xs)∧dW wd hg xs∧∀v H',ak p H H'→aY H' p→aS K p wd hg H' v→Q v H'
def rk:List Expr:=match bu iS with |_:: .Assign _ (.Subscript (.List (_::es) _) _ _) _::_=>es |_=> []
def rj:List Expr:=match bu iS with | [_,_,_,_,_,_,_,.Return (some (.Subscript _ (.Subscript (.List es _) _ _) _)) _]=>es |_=> []
def BD (a b:List Expr):List Stmt:=match bu iS with
 | [s0,.Assign x (.Subscript (.List (y::_) p1) z p2) p3,s2,s3,s4,s5,s6,.Return (some (.Subscript u (.Subscript (.List _ q1) v q2) q3)) q4]=> [s0,.Assign x (.Subscript (.List (y::a) p1) z p2) p3,s2,s3,s4,s5,s6,.Return (some (.Subscript u (.Subscript (.List b q1) v q2) q3)) q4]
 |_=> []
theorem Hr:bu iS=BD rk rj:=by kernel_rfl
theorem Ho:litsOf rk=some iZ:=by kernel_rfl
theorem Hq:litsOf rj=some oE:=by kernel_rfl
theorem fL:bI ["_law_state_here", "_law_board_here", "_law_lay_here", "_law_way", "_law_at", "_law_to", "_law_odd", "_law_rows", "_law_twice", "_law_row", "_law_spot", "_law_some"] ["_law_state_here", "_law_board_here", "_law_lay_here"] (au iS):=⟨rfl,rfl,rfl,by decide+kernel,rfl,by decide+kernel,by decide+kernel⟩
theorem eQ {D:Ends}{σ:L2.St}{H:Hp}(h:D.nx σ H):pN D σ H:=h
theorem aF {t u:TS}{D:Ends}{σ:L2.St}{H:Hp}(h:t {D with nx:=u D} σ H):nz t u D σ H:=h
theorem bO {te:TE}{g:TG}{D:Ends}{σ:L2.St}{H:Hp}(h:te σ H fun v H1=>g v σ H1 D.nx):kH te g D σ H:=h
theorem WI {t:TA}{σ:L2.St}{H:Hp}{Q:VK}(h:t σ H fun xs H1=>xs.length≤sizeLine∧∀p,H1 p=none→Q (.ref p) (upd H1 p (.lst xs))):jF t σ H Q:=h
theorem Yz {ta:TE}{tr:TA}{σ:L2.St}{H:Hp}{Q:List V→Hp→Prop}(h:ta σ H fun x H1=>tr σ H1 fun xs H2=>Q (x::xs) H2):iP ta tr σ H Q:=h
theorem bV {i:Nat}{v:V}{σ:L2.St}{H:Hp}{Q:L2.St→Hp→Prop}(h:Q (σ.set i (some v)) H):de i v σ H Q:=h
theorem YR {K:PySem.W.Frag}{a:Addr}{xs:List V}{H:Hp}{Q:VK}{k:Nat}{σ:L2.St}{te tl:TE}(ha:H a=some (.tup xs)) (hk:0<k) (j6:k≤xs.length) (e1:∀H Q,Q (.ref a) H→te σ H Q) (e2:∀H Q,Q (.int (k:Int)) H→tl σ H Q)
  (q:∀p:Addr,H p=none→Q (.ref p) (upd H p (.tup (xs.drop k)))):nv (gX K) te (nA tl) nB σ H Q:=e1 _ _ (e2 _ _ ⟨_,rfl,show gX K (.ref a) (some (k:Int)) none H Q from WA ha hk j6 q⟩)
theorem F5 {f:Addr}{fd:FuncData}(F:aK K "_law_no_lay" "_law_no_lay" iS f fd) (G:Gs mg) (D1:Def P w K mg base 1 "_law_take" ["_law_state_here", "_law_many"] gP):az P w K mg base aE 2 f fd ["_law_state_here", "_law_board_here", "_law_lay_here"] (pT K):=by
  refine F.ok fL (fun vs H Q E h=> ?_) (fun ao A outer s H vs Q E hr h=> ?_)
  · obtain⟨p,b,l,wd,hg,xs,rfl,_⟩:=h
    rfl
  · obtain⟨p,b,l,wd,hg,xs,rfl,st,bd,hl,lay,q⟩:=h
    rw[Hr]
    have i1:=Ho
    have i2:=Hq
    generalize rk=xS at i1
    generalize rj=Eu at i2
    refine⟨_,Zd (Jf (i:=3) (j:=4) (k:=5) rfl fL.nd rfl rfl rfl rfl rfl rfl
        (Za (Zi D1 hr (Za (pv 0) (Za Zh Zb))) (Za (Zi D1 hr (Za (pv 0) (Za (ZG Yq (pv 1) Zh (fun _ _=>rfl)) Zb))) (Za (Zi D1 hr (Za (pv 0) (Za Zh Zb))) Zb))))
      (Zd (Zs (i:=6) fL.nd rfl (Or.inl rfl) (ZG ZC (Zl (Za (ZG Yq (pv 1) Zh (fun _ _=>rfl)) (YC (ls:=iZ) i1))) (Zi D1 hr (Za (pv 0) (Za Zh Zb))) (fun _ _=>rfl)))
      (Zd (J3 ["_law_row"] 1 [] (i:=7) fL.nd rfl (Or.inl rfl) (WN (pv 2)) (fun C s H fp=>pb 0) (fun C s H fp=>YV (Y6 (YB (pv 0)))) (fun C s H fp D=>ZE rfl (pv 0)))
      (Zd (Zs (i:=8) fL.nd rfl (Or.inl rfl) (Zj Yp (pv 2) (Zz (Za ZX Zb))))
      (Zd (ZM (PW.pt (Fp (ZA (U3 hr.pF) (pv 7) (Zl Zb) (bz _)) (G8 (ZA yx (Zg Zq rfl G.len boot_len (Za (pv 2) Zb)) Zh (bz _)))))
        (Zd (Zs (i:=9) fL.nd rfl (Or.inl rfl) (ZG ZC (pv 7) (Zj ZU (pv 5) (Zg Zq rfl G.len boot_len (Za (pv 7) Zb))) (fun _ _=>rfl)))
        (Zd (Zs (i:=10) fL.nd rfl (Or.inl rfl) (Zj ZU (Zj Z2 (Zj Z2 (YY PySem.F.plainAttrs_tuple PySem.F.slot_tuple_index PySem.F.type_tuple_index Ux (pv 2) (Za (pv 9) Zb)) Zh) (Zj ZU (pv 4) (Zj Jo (Zg Zq rfl G.len boot_len (Za (pv 2) Zb)) Zh))) (Zg Zq rfl G.len boot_len (Za (pv 2) Zb))))
        (Zk (Zs (i:=8) fL.nd rfl (Or.inl rfl) (Zj Yp (Zj Yp (Yd Jl (pv 2) Yn (Ym (pv 10))) (Zz (Za (pv 9) Zb))) (Yd Jl (pv 2) (Ym (Zj Z2 (pv 10) Zh)) Yn)))))) Zu)
      (Zd (Zs (i:=11) fL.nd rfl (Or.inl rfl) (Zl (Za (Zj Yp (Zj Yp (Yd Jl (pv 2) Yn (Ym (pv 4))) (Zz (Za (pv 6) Zb))) (Yd Jl (pv 2) (Ym (Zj Z2 (pv 4) Zh)) Yn))
        (Za (pv 8) (Za (Zj Yp (pv 2) (Zz (Za ZX Zb))) (Za (Yd Jl (pv 2) (Ym Zh) Yn) (Za (ZR Yt rfl G.list boot_list (Za (pv 2) Zb)) Zb)))))))
      (Zd (Zs (i:=11) fL.nd rfl (Or.inl rfl) (Zj Zy (pv 11) (Zl (Za ZX (Za Yw (Za Wn (Za (Zj Yp (pv 2) (pv 2)) Zb)))))))
      (Zk (ZB (ZG ZC (pv 11) (ZG ZC (Zl (YC (ls:=oE) i2)) (pv 3) (fun _ _=>rfl)) (fun _ _=>rfl)))))))))),?_⟩
    obtain⟨sO,w1,w2,g1,g2⟩:=id bd
    have hb:H b=some (.tup [.int wd,.int hg]):=by
      obtain⟨a,e,h⟩:=Zx sO
      cases e
      exact h
    obtain⟨u0,v0,ep,_⟩:=id st
    have jg:b≠p:=Y0 hb ep (by intro z;cases z)
    have w6:l≠p:=Y0 hl ep (by intro z;cases z)
    have hlen:=lay.len
    refine⟨_,rfl,p,12,rfl,st,by decide,by decide,fun r1 o1 a1 a2 cN=> ?_⟩
    refine⟨_,rfl,_,rfl,b,_,_,_,rfl,rfl,ai.of (by rw[Ze jg];exact hb),iG,p,wd,rfl,cN,by omega,by omega,fun r2 o2 a3 a4 bS=> ?_⟩
    obtain⟨k2,rfl⟩:=Int.eq_ofNat_of_zero_le a3
    refine⟨_,rfl,p,12,rfl,bS,by decide,by decide,fun r3 o3 a5 a6 cq=> ⟨_,_,_,rfl,?_⟩⟩
    have x3:ak p H (upd (upd (upd H p o1) p o2) p o3):=(ak.upd.trans ak.upd).trans ak.upd
    generalize upd (upd (upd H p o1) p o2) p o3=H3 at cq x3
    have ji:=x3 _ _ hb jg
    have IJ:=x3 _ _ hl w6
    refine⟨_,rfl,b,_,_,_,rfl,rfl,ai.of ji,cH,fun cQ H4 s4 lg n4=> ?_⟩
    have lo:cQ.length=7:=Paired.length lg
    refine⟨by show cQ.length+1≤sizeLine;rw[lo];decide,fun L4 dJ=> ?_⟩
    have s5:ae H4 (upd H4 L4 (.lst (V.int hg::cQ))):=ag dJ
    have e5:upd H4 L4 (.lst (V.int hg::cQ)) L4=some (.lst (V.int hg::cQ)):=Zc
    generalize upd H4 L4 (HO.lst (V.int hg::cQ))=H5 at s5 e5
    have iU:ae H3 H5:=s4.trans s5
    refine⟨_,rfl,p,8,rfl,cq.same iU,by decide,by decide,fun r4 o4 a7 a8 dY=> ?_⟩
    obtain⟨u3,v3,jn,_⟩:=id cq
    have rB:L4≠p:=fun z=>by rw[z,s4 _ _ jn]at dJ;cases dJ
    have ar:r4.toNat< (V.int hg::cQ).length:=by rw[List.length_cons,lo];omega
    have dc:=List.getElem?_eq_getElem ar
    have ck:=ZK dc
    rw[Int.toNat_of_nonneg a7]at ck
    have iN:ak p H5 (upd H5 p o4):=ak.upd
    refine⟨L4,_,_,_,rfl,rfl,af.of (by rw[Ze rB];exact e5),ck,?_⟩
    generalize CP:(V.int hg::cQ)[r4.toNat]=od at dc
    have odd:od≠.aa∧av od 0 (hg - 1)=false∧iI K (upd H5 p o4) od:=by
      cases hr:r4.toNat with
      |zero=>
       rw[hr]at dc
       have e:V.int hg=od:=by simpa using dc
       rw[←e]
       refine⟨by simp,?_,⟨_,.int hg⟩,.inl (UJ (by omega) (by omega))⟩
       show(decide (0≤hg)&&decide (hg≤hg - 1))=false
       rw[decide_eq_false (show ¬hg≤hg - 1 by omega),Bool.and_false]
      |succ k=>
       rw[hr]at dc
       have hk:cQ[k]? =some od:=by simpa using dc
       obtain⟨lt,C2,oY⟩:=Z6 lg hk
       have cG:=oY.same s5
       have kn:dz (upd H5 p o4) od lt:=by
         have rn:∀a,od=.ref a→a≠p:=fun a e z=>by
           have:=n4 a (by rw[←e];exact List.mem_of_getElem? hk)
           rw[z,jn]at this
           cases this
         cases lt with
         |sc v=>exact cG
         |tup ys=>
          obtain⟨a,e,h⟩:=cG
          exact⟨a,e,by rw[Ze (rn a e)];exact h⟩
         |lst ys=>
          obtain⟨a,e,h⟩:=cG
          exact⟨a,e,by rw[Ze (rn a e)];exact h⟩
         |bD=>
          obtain⟨a,e,h⟩:=cG
          exact⟨a,e,by rw[Ze (rn a e)];exact h⟩
       exact GN g2 (List.mem_of_getElem? C2) kn
    have x6:ak p H (upd H5 p o4):=(x3.trans iU.x).trans iN
    generalize upd H5 p o4=H6 at dY odd x6
    clear iN e5 dJ
    have dI:=x6 _ _ hl w6
    have sR:=x6 _ _ hb jg
    obtain⟨ra,qY,qZ⟩:=odd
    obtain⟨u6,v6,oV,_⟩:=id dY
    refine⟨_,rfl,l,rfl,⟨xs,ai.of dI⟩,?_⟩
    refine Js (xs:=xs) (fun i ys σ H2=>ys=rowsOf (xs.take i)∧H2=H6∧∃v,σ=[v]) ⟨rfl,rfl,none,rfl⟩ (fun i ys σ H2 _ ⟨_,e2,_⟩=>by rw[e2];exact ai.of dI) ?_ ?_
    · rintro i r ys σ H2 dH ⟨rfl,rfl,v,rfl⟩
      have et:rowsOf (xs.take (i+1))=rowsOf (xs.take i)++(if (!decide (r=V.aa))=true then [r] else []):=by
        unfold rowsOf
        rw[List.take_add_one,dH,List.filter_append]
        cases hh:(!decide (r=V.aa)) with
        |true=>simp[hh]
        |false=>simp[hh]
      refine⟨r,rfl,_,rfl,?_⟩
      cases hh:(!decide (r=V.aa)) with
      |true=>
       rw[hh]at et
       refine aH ?_
       refine⟨r,rfl,?_,?_⟩
       · have:=List.length_filter_le (fun x=> !decide (x=V.aa)) (xs.take i)
         unfold rowsOf
         rw[sizeLine_eq]
         rw[List.length_take]at this
         omega
       · exact⟨by rw[et,if_pos rfl],rfl,_,rfl⟩
      |false=>
       rw[hh]at et
       exact ay ⟨by rw[et,if_neg Bool.false_ne_true,List.append_nil],rfl,_,rfl⟩
    · rintro ys σ H2 ⟨rfl,rfl,v,rfl⟩ R7 DH
      rw[List.take_length]
      have s7:ae H2 (upd H2 R7 (.lst (rowsOf xs))):=ag DH
      have e7:upd H2 R7 (.lst (rowsOf xs)) R7=some (.lst (rowsOf xs)):=Zc
      generalize upd H2 R7 (HO.lst (rowsOf xs))=H7 at s7 e7
      refine⟨_,rfl,(by show 1≤sizeLine;decide),fun t8 rX=> ?_⟩
      have s8:ae H7 (upd H7 t8 (.tup [.aa])):=ag rX
      refine Z8 (s8 _ _ (s7 _ _ dI)) Zc (by simp;omega) fun c9 H9 s9 Dx=> ?_
      have AQ:ae H2 H9:=s7.trans (s8.trans s9)
      have Bk:∀y∈xs++[V.aa],iI K H9 y:=fun y hy=>by
        rcases List.mem_append.mp hy with m |m
        · exact ZD g2 lay y m
        · rw[List.mem_singleton.mp m];exact⟨⟨_,.aa⟩,.inl rfl⟩
      have EU:aS K p wd hg H9 (.ref c9):=ZJ Dx Bk (Z4 (by rw[List.length_append];simp;omega))
      have e9:=(s8.trans s9) _ _ e7
      refine⟨_,rfl,Nat.zero_le _,fun kC Cj=> ?_⟩
      have sz:ae H9 (upd H9 kC (.lst [])):=ag Cj
      have ez:upd H9 kC (.lst []) kC=some (.lst []):=Zc
      generalize upd H9 kC (HO.lst [])=iL at sz ez
      have bt:ae H2 iL:=AQ.trans sz
      refine⟨R7,kC,rowsOf xs,rfl,rfl,af.of (sz _ _ e9),af.of ez,_,rfl,?_⟩
      have ft:=EU.same sz
      cases hE:(rowsOf xs).isEmpty with
      |true=>
       refine ay (ay (eQ ?_))
       dsimp only
       have dv:=bt _ _ dI
       refine aF (bO (WI (Yz ?_)))
       refine J2 (K:=K) (a:=l) (xs:=xs) (y:=od) (k:=k2) dv (by omega) (by omega) (fun H Q h=> ⟨_,rfl,h⟩) (fun H Q h=> ⟨_,rfl,h⟩) (fun H Q h=> ⟨_,rfl,h⟩)
         (fun H Q h=> ⟨_,rfl,_,_,rfl,rfl,(by have e:((k2+1:Nat):Int)=(k2:Int)+1:=by omega
                                             rw[e]at h;exact h)⟩) fun c11 fW aW lY=> ?_
       have b11:aS K p wd hg fW (.ref c11):=ZJ lY (fun y hy=>by
         rcases List.mem_append.mp hy with m |m
         · rcases List.mem_append.mp m with m |m
           · exact ZD g2 lay y (List.mem_of_mem_take m)
           · rw[List.mem_singleton.mp m];exact qZ.same (bt.trans aW)
         · exact ZD g2 lay y (List.mem_of_mem_drop m)) (Wc ra qY)
       replace ft:=ft.same aW
       have ik:=aW _ _ dv
       refine⟨_,rfl,_,rfl,(by show 1≤sizeLine;decide),fun uJ lK=> ?_⟩
       have dm:=ag (o:=.tup [V.aa]) lK
       refine Z8 (dm _ _ ik) Zc (by simp;omega) fun c13 dA fb lX=> ?_
       have sA:=dm.trans fb
       have b13:aS K p wd hg dA (.ref c13):=ZJ lX (fun y hy=>by
         rcases List.mem_append.mp hy with m |m
         · exact ZD g2 lay y m
         · rw[List.mem_singleton.mp m];exact⟨⟨_,.aa⟩,.inl rfl⟩) (Z4 (by rw[List.length_append];simp;omega))
       have ij:=sA _ _ ik
       refine Yz (YR (K:=K) (a:=l) (xs:=xs) (k:=1) ij (by omega) (by omega) (fun H Q h=> ⟨_,rfl,h⟩) (fun H Q h=>h) fun c14 lW=> ?_)
       have aZ:=ag (o:=.tup (xs.drop 1)) lW
       have b14:aS K p wd hg (upd dA c14 (.tup (xs.drop 1))) (.ref c14):=ZJ Zc (fun y hy=>ZD g2 lay y (List.mem_of_mem_drop hy)) (Z4 (by rw[List.length_drop];omega))
       generalize upd dA c14 (HO.tup (xs.drop 1))=fH at aZ b14
       have ig:=aZ _ _ ij
       refine⟨_,rfl,l,xs,rfl,.inr (ai.of ig),fun c15 ir=> ?_⟩
       have cZ:=ag (o:=.lst xs) ir
       have lA:c15≠p:=fun z=>by
         have h:=aZ _ _ (sA _ _ (aW _ _ (bt _ _ oV)))
         rw[←z,ir]at h
         cases h
       have b15:aS K p wd hg (upd fH c15 (.lst xs)) (.ref c15):=Jz Zc lA (by omega) fun y hy=> (ZD (K:=K) g2 lay y hy).2
       generalize upd fH c15 (HO.lst xs)=gI at cZ b15
       refine⟨(by show 5≤sizeLine;decide),fun dU mq=> ?_⟩
       have dF:=ag (o:=.lst [V.ref c11,V.ref c9,V.ref c13,V.ref c14,V.ref c15]) mq
       have e16:upd gI dU (.lst [V.ref c11,V.ref c9,V.ref c13,V.ref c14,V.ref c15]) dU=some (.lst [V.ref c11,V.ref c9,V.ref c13,V.ref c14,V.ref c15]):=Zc
       generalize upd gI dU (HO.lst [V.ref c11,V.ref c9,V.ref c13,V.ref c14,V.ref c15])=fG at dF e16
       have lQ:=dF _ _ (cZ _ _ ig)
       refine⟨_,rfl,fun aI lU=> ?_⟩
       have cO:=ag (o:=.dK []) lU
       have b17:aS K p wd hg (upd fG aI (.dK [])) (.ref aI):=JA Zc
       generalize upd fG aI (HO.dK [])=mS at cO b17
       have hX:=cO _ _ lQ
       refine⟨_,rfl,_,rfl,Z8 hX hX (by omega) fun c18 fF eY lV=> ?_⟩
       have b18:aS K p wd hg fF (.ref c18):=ZJ lV (fun y hy=>by
         rcases List.mem_append.mp hy with m |m
         · exact ZD g2 lay y m
         · exact ZD g2 lay y m) (Z4 (by rw[List.length_append];omega))
       refine⟨(by show 4≤sizeLine;decide),fun fE mn=> ?_⟩
       have gW:=ag (o:=.lst [V.aa,V.str "1x1: .",V.ref aI,V.ref c18]) mn
       refine⟨dU,fE,_,_,rfl,rfl,gW _ _ (eY _ _ (cO _ _ e16)),Zc,(by show 5+4≤sizeLine;decide),fun dS ml=> ?_⟩
       have gU:=ag (o:=.lst ([V.ref c11,V.ref c9,V.ref c13,V.ref c14,V.ref c15]++[V.aa,V.str "1x1: .",V.ref aI,V.ref c18])) ml
       have iD:upd (upd fF fE (.lst [V.aa,V.str "1x1: .",V.ref aI,V.ref c18])) dS (.lst ([V.ref c11,V.ref c9,V.ref c13,V.ref c14,V.ref c15]++[V.aa,V.str "1x1: .",V.ref aI,V.ref c18])) dS=some (.lst ([V.ref c11,V.ref c9,V.ref c13,V.ref c14,V.ref c15]++[V.aa,V.str "1x1: .",V.ref aI,V.ref c18])):=Zc
       generalize upd (upd fF fE (.lst [V.aa,V.str "1x1: .",V.ref aI,V.ref c18])) dS (HO.lst ([V.ref c11,V.ref c9,V.ref c13,V.ref c14,V.ref c15]++[V.aa,V.str "1x1: .",V.ref aI,V.ref c18]))=y6 at gU iD
       refine⟨_,rfl,fun fh mQ gT g6 v5=> ?_⟩
       have li:fh.length=12:=Paired.length g6
       refine⟨by rw[li];decide,fun iK mj=> ?_⟩
       have gS:=ag (o:=.lst fh) mj
       obtain⟨ci,xk,l8⟩:=WW a1 a2 g6
       refine⟨_,rfl,iK,_,_,_,rfl,rfl,af.of Zc,l8,?_⟩
       have sB:=gW.trans (gU.trans (gT.trans gS))
       have mI:∀v∈[V.ref c11,V.ref c9,V.ref c13,V.ref c14,V.ref c15]++[V.aa,V.str "1x1: .",V.ref aI,V.ref c18],aS K p wd hg (upd mQ iK (.lst fh)) v:=by
         intro v hv
         have sC:=eY.trans sB
         have sD:=cO.trans sC
         have sE:=dF.trans sD
         have sF:=cZ.trans sE
         have sG:=aZ.trans sF
         simp only[List.cons_append,List.nil_append,List.mem_cons,List.not_mem_nil,or_false]at hv
         rcases hv with rfl |rfl |rfl |rfl |rfl |rfl |rfl |rfl |rfl
         · exact b11.same (sA.trans sG)
         · exact ft.same (sA.trans sG)
         · exact b13.same sG
         · exact b14.same sF
         · exact b15.same sE
         · exact YH rfl rfl
         · exact YH rfl (by decide)
         · exact b17.same sC
         · exact b18.same sB
       have hW:ci< ([V.ref c11,V.ref c9,V.ref c13,V.ref c14,V.ref c15]++[V.aa,V.str "1x1: .",V.ref aI,V.ref c18]).length:=by show ci<9;omega
       refine⟨dS,_,_,_,rfl,rfl,af.of ((gT.trans gS) _ _ iD),ZK (List.getElem?_eq_getElem hW),?_⟩
       have dE:=bt.trans (aW.trans (sA.trans (aZ.trans (cZ.trans (dF.trans (cO.trans (eY.trans sB)))))))
       exact q _ _ (x6.trans dE.x) (dY.same dE) (mI _ (List.getElem_mem hW))
      |false=>
       refine aH ?_
       refine⟨_,rfl,l,xs,rfl,.inr (ai.of (bt _ _ dI)),_,_,rfl,rfl,_,rfl,?_⟩
       refine rJ (fun h1=> ?_) (fun _=> ?_)
       · have tf:1<xs.length:=by
           have:=of_decide_eq_true h1
           omega
         have nr:0< (rowsOf xs).length:=by
           cases CK:rowsOf xs with
           |nil=>rw[CK]at hE;cases hE
           |cons a b=>simp
         have CZ:0≤r3%((rowsOf xs).length:Int)∧r3%((rowsOf xs).length:Int)< ((rowsOf xs).length:Int):=⟨Int.emod_nonneg _ (by omega),Int.emod_lt_of_pos _ (by omega)⟩
         have wZ:(r3%((rowsOf xs).length:Int)).toNat< (rowsOf xs).length:=by omega
         have sU:=ZK (List.getElem?_eq_getElem wZ)
         rw[Int.toNat_of_nonneg CZ.1]at sU
         have sg:(rowsOf xs)[(r3%((rowsOf xs).length:Int)).toNat]∈rowsOf xs:=List.getElem_mem wZ
         generalize (rowsOf xs)[(r3%((rowsOf xs).length:Int)).toNat]=row at sU sg
         have wU:row∈xs:=(List.mem_filter.mp sg).1
         have CI:row≠.aa:=by simpa using (List.mem_filter.mp sg).2
         obtain⟨ri,rfl⟩:∃ri:Int,row=.int ri:=by
           rcases Y1 lay row wU with z |z
           · exact absurd z CI
           · exact z
         obtain⟨j,hj,fN⟩:=Wz xs ri wU (Y1 lay)
         have lS:j<xs.length:=(List.getElem?_eq_some_iff.mp hj).1
         have flat:xs.all eV=true:=List.all_eq_true.mpr fun x hx=>by
           rcases Y1 lay x hx with z |⟨i,z⟩<;>rw[z]<;>rfl
         have dv:=bt _ _ dI
         refine⟨_,rfl,_,rfl,_,rfl,R7,_,rfl,.inl (af.of (sz _ _ e9)),_,_,rfl,rfl,by omega,R7,_,_,_,rfl,rfl,af.of (sz _ _ e9),sU,?_⟩
         refine⟨_,rfl,.inr (.inl ⟨rfl,.inr ⟨_,dv⟩⟩),_,rfl,l,xs,.int ri,j,rfl,rfl,ai.of dv,rfl,flat,⟨_,hj,by show(ri==ri)=true;simp⟩,fN,?_⟩
         have uP:0≤((j:Int)+1+(k2:Int)%((xs.length:Int) - 1))%(xs.length:Int)∧((j:Int)+1+(k2:Int)%((xs.length:Int) - 1))%(xs.length:Int)< (xs.length:Int):=⟨Int.emod_nonneg _ (by omega),Int.emod_lt_of_pos _ (by omega)⟩
         have As:((j:Int)+1+(k2:Int)%((xs.length:Int) - 1))%(xs.length:Int)≠(j:Int):=by
           have m1:0≤(k2:Int)%((xs.length:Int) - 1):=Int.emod_nonneg _ (by omega)
           have m2:(k2:Int)%((xs.length:Int) - 1)< (xs.length:Int) - 1:=Int.emod_lt_of_pos _ (by omega)
           generalize (k2:Int)%((xs.length:Int) - 1)=m at m1 m2
           intro hz
           by_cases ar:(j:Int)+1+m< (xs.length:Int)
           · rw[Int.emod_eq_of_lt (by omega) ar]at hz
             omega
           · have e:((j:Int)+1+m)%(xs.length:Int)=(j:Int)+1+m - (xs.length:Int):=by
               rw[←Int.sub_emod_right,Int.emod_eq_of_lt (by omega) (by omega)]
             rw[e]at hz
             omega
         refine⟨_,_,rfl,rfl,_,rfl,_,rfl,l,xs,rfl,.inr (ai.of dv),_,_,rfl,rfl,_,_,rfl,rfl,by omega,_,_,rfl,rfl,_,rfl,l,xs,rfl,.inr (ai.of dv),_,_,rfl,rfl,by omega,?_⟩
         refine bV ?_
         dsimp only
         generalize ((j:Int)+1+(k2:Int)%((xs.length:Int) - 1))%(xs.length:Int)=Ik at uP As ⊢
         obtain⟨sp,rfl⟩:=Int.eq_ofNat_of_zero_le uP.1
         have Cz:sp<xs.length:=by omega
         have CA:j≠sp:=by omega
         refine bO ?_
         refine J2 (K:=K) (a:=l) (xs:=xs) (y:=.int ri) (k:=sp) dv Cz (by omega) (fun H Q h=> ⟨_,rfl,h⟩) (fun H Q h=> ⟨_,rfl,h⟩) (fun H Q h=> ⟨_,rfl,h⟩)
           (fun H Q h=> ⟨_,rfl,_,_,rfl,rfl,(by have e:((sp+1:Nat):Int)=(sp:Int)+1:=by omega
                                               rw[e]at h;exact h)⟩) fun cz Hz Am Dt=> ?_
         refine bV ?_
         dsimp only
         have ET:aS K p wd hg Hz (.ref cz):=ZJ Dt (fun y hy=>by
           rcases List.mem_append.mp hy with m |m
           · rcases List.mem_append.mp m with m |m
             · exact ZD g2 lay y (List.mem_of_mem_take m)
             · rw[List.mem_singleton.mp m];exact ZD g2 lay _ (List.mem_of_getElem? hj)
           · exact ZD g2 lay y (List.mem_of_mem_drop m)) (Hk hj CA (by simp))
         clear ft
         have bt:=bt.trans Am
         have ft:=ET
         clear dv
         have dv:=bt _ _ dI
         refine aF (bO (WI (Yz ?_)))
         refine J2 (K:=K) (a:=l) (xs:=xs) (y:=od) (k:=k2) dv (by omega) (by omega) (fun H Q h=> ⟨_,rfl,h⟩) (fun H Q h=> ⟨_,rfl,h⟩) (fun H Q h=> ⟨_,rfl,h⟩)
           (fun H Q h=> ⟨_,rfl,_,_,rfl,rfl,(by have e:((k2+1:Nat):Int)=(k2:Int)+1:=by omega
                                               rw[e]at h;exact h)⟩) fun c11 fW aW lY=> ?_
         have b11:aS K p wd hg fW (.ref c11):=ZJ lY (fun y hy=>by
           rcases List.mem_append.mp hy with m |m
           · rcases List.mem_append.mp m with m |m
             · exact ZD g2 lay y (List.mem_of_mem_take m)
             · rw[List.mem_singleton.mp m];exact qZ.same (bt.trans aW)
           · exact ZD g2 lay y (List.mem_of_mem_drop m)) (Wc ra qY)
         replace ft:=ft.same aW
         have ik:=aW _ _ dv
         refine⟨_,rfl,_,rfl,(by show 1≤sizeLine;decide),fun uJ lK=> ?_⟩
         have dm:=ag (o:=.tup [V.aa]) lK
         refine Z8 (dm _ _ ik) Zc (by simp;omega) fun c13 dA fb lX=> ?_
         have sA:=dm.trans fb
         have b13:aS K p wd hg dA (.ref c13):=ZJ lX (fun y hy=>by
           rcases List.mem_append.mp hy with m |m
           · exact ZD g2 lay y m
           · rw[List.mem_singleton.mp m];exact⟨⟨_,.aa⟩,.inl rfl⟩) (Z4 (by rw[List.length_append];simp;omega))
         have ij:=sA _ _ ik
         refine Yz (YR (K:=K) (a:=l) (xs:=xs) (k:=1) ij (by omega) (by omega) (fun H Q h=> ⟨_,rfl,h⟩) (fun H Q h=>h) fun c14 lW=> ?_)
         have aZ:=ag (o:=.tup (xs.drop 1)) lW
         have b14:aS K p wd hg (upd dA c14 (.tup (xs.drop 1))) (.ref c14):=ZJ Zc (fun y hy=>ZD g2 lay y (List.mem_of_mem_drop hy)) (Z4 (by rw[List.length_drop];omega))
         generalize upd dA c14 (HO.tup (xs.drop 1))=fH at aZ b14
         have ig:=aZ _ _ ij
         refine⟨_,rfl,l,xs,rfl,.inr (ai.of ig),fun c15 ir=> ?_⟩
         have cZ:=ag (o:=.lst xs) ir
         have lA:c15≠p:=fun z=>by
           have h:=aZ _ _ (sA _ _ (aW _ _ (bt _ _ oV)))
           rw[←z,ir]at h
           cases h
         have b15:aS K p wd hg (upd fH c15 (.lst xs)) (.ref c15):=Jz Zc lA (by omega) fun y hy=> (ZD (K:=K) g2 lay y hy).2
         generalize upd fH c15 (HO.lst xs)=gI at cZ b15
         refine⟨(by show 5≤sizeLine;decide),fun dU mq=> ?_⟩
         have dF:=ag (o:=.lst [V.ref c11,V.ref cz,V.ref c13,V.ref c14,V.ref c15]) mq
         have e16:upd gI dU (.lst [V.ref c11,V.ref cz,V.ref c13,V.ref c14,V.ref c15]) dU=some (.lst [V.ref c11,V.ref cz,V.ref c13,V.ref c14,V.ref c15]):=Zc
         generalize upd gI dU (HO.lst [V.ref c11,V.ref cz,V.ref c13,V.ref c14,V.ref c15])=fG at dF e16
         have lQ:=dF _ _ (cZ _ _ ig)
         refine⟨_,rfl,fun aI lU=> ?_⟩
         have cO:=ag (o:=.dK []) lU
         have b17:aS K p wd hg (upd fG aI (.dK [])) (.ref aI):=JA Zc
         generalize upd fG aI (HO.dK [])=mS at cO b17
         have hX:=cO _ _ lQ
         refine⟨_,rfl,_,rfl,Z8 hX hX (by omega) fun c18 fF eY lV=> ?_⟩
         have b18:aS K p wd hg fF (.ref c18):=ZJ lV (fun y hy=>by
           rcases List.mem_append.mp hy with m |m
           · exact ZD g2 lay y m
           · exact ZD g2 lay y m) (Z4 (by rw[List.length_append];omega))
         refine⟨(by show 4≤sizeLine;decide),fun fE mn=> ?_⟩
         have gW:=ag (o:=.lst [V.aa,V.str "1x1: .",V.ref aI,V.ref c18]) mn
         refine⟨dU,fE,_,_,rfl,rfl,gW _ _ (eY _ _ (cO _ _ e16)),Zc,(by show 5+4≤sizeLine;decide),fun dS ml=> ?_⟩
         have gU:=ag (o:=.lst ([V.ref c11,V.ref cz,V.ref c13,V.ref c14,V.ref c15]++[V.aa,V.str "1x1: .",V.ref aI,V.ref c18])) ml
         have iD:upd (upd fF fE (.lst [V.aa,V.str "1x1: .",V.ref aI,V.ref c18])) dS (.lst ([V.ref c11,V.ref cz,V.ref c13,V.ref c14,V.ref c15]++[V.aa,V.str "1x1: .",V.ref aI,V.ref c18])) dS=some (.lst ([V.ref c11,V.ref cz,V.ref c13,V.ref c14,V.ref c15]++[V.aa,V.str "1x1: .",V.ref aI,V.ref c18])):=Zc
         generalize upd (upd fF fE (.lst [V.aa,V.str "1x1: .",V.ref aI,V.ref c18])) dS (HO.lst ([V.ref c11,V.ref cz,V.ref c13,V.ref c14,V.ref c15]++[V.aa,V.str "1x1: .",V.ref aI,V.ref c18]))=y6 at gU iD
         refine⟨_,rfl,fun fh mQ gT g6 v5=> ?_⟩
         have li:fh.length=12:=Paired.length g6
         refine⟨by rw[li];decide,fun iK mj=> ?_⟩
         have gS:=ag (o:=.lst fh) mj
         obtain⟨ci,xk,l8⟩:=WW a1 a2 g6
         refine⟨_,rfl,iK,_,_,_,rfl,rfl,af.of Zc,l8,?_⟩
         have sB:=gW.trans (gU.trans (gT.trans gS))
         have mI:∀v∈[V.ref c11,V.ref cz,V.ref c13,V.ref c14,V.ref c15]++[V.aa,V.str "1x1: .",V.ref aI,V.ref c18],aS K p wd hg (upd mQ iK (.lst fh)) v:=by
           intro v hv
           have sC:=eY.trans sB
           have sD:=cO.trans sC
           have sE:=dF.trans sD
           have sF:=cZ.trans sE
           have sG:=aZ.trans sF
           simp only[List.cons_append,List.nil_append,List.mem_cons,List.not_mem_nil,or_false]at hv
           rcases hv with rfl |rfl |rfl |rfl |rfl |rfl |rfl |rfl |rfl
           · exact b11.same (sA.trans sG)
           · exact ft.same (sA.trans sG)
           · exact b13.same sG
           · exact b14.same sF
           · exact b15.same sE
           · exact YH rfl rfl
           · exact YH rfl (by decide)
           · exact b17.same sC
           · exact b18.same sB
         have hW:ci< ([V.ref c11,V.ref cz,V.ref c13,V.ref c14,V.ref c15]++[V.aa,V.str "1x1: .",V.ref aI,V.ref c18]).length:=by show ci<9;omega
         refine⟨dS,_,_,_,rfl,rfl,af.of ((gT.trans gS) _ _ iD),ZK (List.getElem?_eq_getElem hW),?_⟩
         have dE:=bt.trans (aW.trans (sA.trans (aZ.trans (cZ.trans (dF.trans (cO.trans (eY.trans sB)))))))
         exact q _ _ (x6.trans dE.x) (dY.same dE) (mI _ (List.getElem_mem hW))
       · refine eQ ?_
         dsimp only
         have dv:=bt _ _ dI
         refine aF (bO (WI (Yz ?_)))
         refine J2 (K:=K) (a:=l) (xs:=xs) (y:=od) (k:=k2) dv (by omega) (by omega) (fun H Q h=> ⟨_,rfl,h⟩) (fun H Q h=> ⟨_,rfl,h⟩) (fun H Q h=> ⟨_,rfl,h⟩)
           (fun H Q h=> ⟨_,rfl,_,_,rfl,rfl,(by have e:((k2+1:Nat):Int)=(k2:Int)+1:=by omega
                                               rw[e]at h;exact h)⟩) fun c11 fW aW lY=> ?_
         have b11:aS K p wd hg fW (.ref c11):=ZJ lY (fun y hy=>by
           rcases List.mem_append.mp hy with m |m
           · rcases List.mem_append.mp m with m |m
             · exact ZD g2 lay y (List.mem_of_mem_take m)
             · rw[List.mem_singleton.mp m];exact qZ.same (bt.trans aW)
           · exact ZD g2 lay y (List.mem_of_mem_drop m)) (Wc ra qY)
         replace ft:=ft.same aW
         have ik:=aW _ _ dv
         refine⟨_,rfl,_,rfl,(by show 1≤sizeLine;decide),fun uJ lK=> ?_⟩
         have dm:=ag (o:=.tup [V.aa]) lK
         refine Z8 (dm _ _ ik) Zc (by simp;omega) fun c13 dA fb lX=> ?_
         have sA:=dm.trans fb
         have b13:aS K p wd hg dA (.ref c13):=ZJ lX (fun y hy=>by
           rcases List.mem_append.mp hy with m |m
           · exact ZD g2 lay y m
           · rw[List.mem_singleton.mp m];exact⟨⟨_,.aa⟩,.inl rfl⟩) (Z4 (by rw[List.length_append];simp;omega))
         have ij:=sA _ _ ik
         refine Yz (YR (K:=K) (a:=l) (xs:=xs) (k:=1) ij (by omega) (by omega) (fun H Q h=> ⟨_,rfl,h⟩) (fun H Q h=>h) fun c14 lW=> ?_)
         have aZ:=ag (o:=.tup (xs.drop 1)) lW
         have b14:aS K p wd hg (upd dA c14 (.tup (xs.drop 1))) (.ref c14):=ZJ Zc (fun y hy=>ZD g2 lay y (List.mem_of_mem_drop hy)) (Z4 (by rw[List.length_drop];omega))
         generalize upd dA c14 (HO.tup (xs.drop 1))=fH at aZ b14
         have ig:=aZ _ _ ij
         refine⟨_,rfl,l,xs,rfl,.inr (ai.of ig),fun c15 ir=> ?_⟩
         have cZ:=ag (o:=.lst xs) ir
         have lA:c15≠p:=fun z=>by
           have h:=aZ _ _ (sA _ _ (aW _ _ (bt _ _ oV)))
           rw[←z,ir]at h
           cases h
         have b15:aS K p wd hg (upd fH c15 (.lst xs)) (.ref c15):=Jz Zc lA (by omega) fun y hy=> (ZD (K:=K) g2 lay y hy).2
         generalize upd fH c15 (HO.lst xs)=gI at cZ b15
         refine⟨(by show 5≤sizeLine;decide),fun dU mq=> ?_⟩
         have dF:=ag (o:=.lst [V.ref c11,V.ref c9,V.ref c13,V.ref c14,V.ref c15]) mq
         have e16:upd gI dU (.lst [V.ref c11,V.ref c9,V.ref c13,V.ref c14,V.ref c15]) dU=some (.lst [V.ref c11,V.ref c9,V.ref c13,V.ref c14,V.ref c15]):=Zc
         generalize upd gI dU (HO.lst [V.ref c11,V.ref c9,V.ref c13,V.ref c14,V.ref c15])=fG at dF e16
         have lQ:=dF _ _ (cZ _ _ ig)
         refine⟨_,rfl,fun aI lU=> ?_⟩
         have cO:=ag (o:=.dK []) lU
         have b17:aS K p wd hg (upd fG aI (.dK [])) (.ref aI):=JA Zc
         generalize upd fG aI (HO.dK [])=mS at cO b17
         have hX:=cO _ _ lQ
         refine⟨_,rfl,_,rfl,Z8 hX hX (by omega) fun c18 fF eY lV=> ?_⟩
         have b18:aS K p wd hg fF (.ref c18):=ZJ lV (fun y hy=>by
           rcases List.mem_append.mp hy with m |m
           · exact ZD g2 lay y m
           · exact ZD g2 lay y m) (Z4 (by rw[List.length_append];omega))
         refine⟨(by show 4≤sizeLine;decide),fun fE mn=> ?_⟩
         have gW:=ag (o:=.lst [V.aa,V.str "1x1: .",V.ref aI,V.ref c18]) mn
         refine⟨dU,fE,_,_,rfl,rfl,gW _ _ (eY _ _ (cO _ _ e16)),Zc,(by show 5+4≤sizeLine;decide),fun dS ml=> ?_⟩
         have gU:=ag (o:=.lst ([V.ref c11,V.ref c9,V.ref c13,V.ref c14,V.ref c15]++[V.aa,V.str "1x1: .",V.ref aI,V.ref c18])) ml
         have iD:upd (upd fF fE (.lst [V.aa,V.str "1x1: .",V.ref aI,V.ref c18])) dS (.lst ([V.ref c11,V.ref c9,V.ref c13,V.ref c14,V.ref c15]++[V.aa,V.str "1x1: .",V.ref aI,V.ref c18])) dS=some (.lst ([V.ref c11,V.ref c9,V.ref c13,V.ref c14,V.ref c15]++[V.aa,V.str "1x1: .",V.ref aI,V.ref c18])):=Zc
         generalize upd (upd fF fE (.lst [V.aa,V.str "1x1: .",V.ref aI,V.ref c18])) dS (HO.lst ([V.ref c11,V.ref c9,V.ref c13,V.ref c14,V.ref c15]++[V.aa,V.str "1x1: .",V.ref aI,V.ref c18]))=y6 at gU iD
         refine⟨_,rfl,fun fh mQ gT g6 v5=> ?_⟩
         have li:fh.length=12:=Paired.length g6
         refine⟨by rw[li];decide,fun iK mj=> ?_⟩
         have gS:=ag (o:=.lst fh) mj
         obtain⟨ci,xk,l8⟩:=WW a1 a2 g6
         refine⟨_,rfl,iK,_,_,_,rfl,rfl,af.of Zc,l8,?_⟩
         have sB:=gW.trans (gU.trans (gT.trans gS))
         have mI:∀v∈[V.ref c11,V.ref c9,V.ref c13,V.ref c14,V.ref c15]++[V.aa,V.str "1x1: .",V.ref aI,V.ref c18],aS K p wd hg (upd mQ iK (.lst fh)) v:=by
           intro v hv
           have sC:=eY.trans sB
           have sD:=cO.trans sC
           have sE:=dF.trans sD
           have sF:=cZ.trans sE
           have sG:=aZ.trans sF
           simp only[List.cons_append,List.nil_append,List.mem_cons,List.not_mem_nil,or_false]at hv
           rcases hv with rfl |rfl |rfl |rfl |rfl |rfl |rfl |rfl |rfl
           · exact b11.same (sA.trans sG)
           · exact ft.same (sA.trans sG)
           · exact b13.same sG
           · exact b14.same sF
           · exact b15.same sE
           · exact YH rfl rfl
           · exact YH rfl (by decide)
           · exact b17.same sC
           · exact b18.same sB
         have hW:ci< ([V.ref c11,V.ref c9,V.ref c13,V.ref c14,V.ref c15]++[V.aa,V.str "1x1: .",V.ref aI,V.ref c18]).length:=by show ci<9;omega
         refine⟨dS,_,_,_,rfl,rfl,af.of ((gT.trans gS) _ _ iD),ZK (List.getElem?_eq_getElem hW),?_⟩
         have dE:=bt.trans (aW.trans (sA.trans (aZ.trans (cZ.trans (dF.trans (cO.trans (eY.trans sB)))))))
         exact q _ _ (x6.trans dE.x) (dY.same dE) (mI _ (List.getElem_mem hW))
abbrev jN:Stmt:=top 38
def dj (R:Hp→V→V→Prop):Sp:=fun vs H Q _=> ∃x y,vs=[x,y]∧R H x y∧∀H',ae H H'→Q (.bl true) H'
theorem qj:bI ["_law_found", "_law_due"] ["_law_found", "_law_due"] (au jN):=⟨rfl,rfl,rfl,by decide+kernel,rfl,by decide+kernel,by decide+kernel⟩
end
end U
namespace U
open PySem L2 PyProof.Rows PyProof.Rows.gD
section
variable {P:Program}{w:World}{K:PySem.W.Frag}{mg:Str→Option Value}{base:Heap}
def Rl (_:Hp) (x y:V):Prop:=(∃i:Int,x=.int i∧y=.int i)∨(∃k:Bool,x=.bl k∧y=.bl k)∨(x=.aa∧y=.aa)
def yQ (R:Hp→V→V→Prop) (H:Hp) (x y:V):Prop:=∃(a b:Addr) (xs ys:List V),x=.ref a∧y=.ref b∧H a=some (.tup xs)∧H b=some (.tup ys)∧Paired (R H) xs ys∧xs.length≤1000
def uc (R:Hp→V→V→Prop) (H:Hp) (x y:V):Prop:=∃(a b:Addr) (xs ys:List V),x=.ref a∧y=.ref b∧H a=some (.lst xs)∧H b=some (.lst ys)∧Paired (R H) xs ys∧xs.length≤1000
def fw (R:Hp→V→V→Prop) (H:Hp) (x y:V):Prop:=Rl H x y∨yQ R H x y
theorem Rl.same {H H':Hp}{x y:V}(r:Rl H x y) (_:ae H H'):Rl H' x y:=r
theorem fw.same {R:Hp→V→V→Prop}(hR:∀{H H':Hp}{x y:V},R H x y→ae H H'→R H' x y) {H H':Hp}{x y:V}(r:fw R H x y) (s:ae H H'):fw R H' x y:=by
 rcases r with r |⟨a,b,xs,ys,e1,e2,h1,h2,pr,hl⟩
 ·exact .inl r
 ·exact .inr ⟨a,b,xs,ys,e1,e2,s _ _ h1,s _ _ h2,Paired.aX pr fun _ _ q=>hR q s,hl⟩
theorem Wp {f:Addr}{fd:FuncData}(F:aK K "_law_same" "_law_same" jN f fd) (G:Gs mg) {k:Nat} :az P w K mg base aE (k+1) f fd ["_law_found", "_law_due"] (dj Rl):=by
 refine F.ok qj (fun vs H Q E h=> ?_) (fun ao A outer s H vs Q E hr h=> ?_)
 ·obtain⟨x,y,rfl,_⟩:=h
  rfl
 ·obtain⟨x,y,rfl,r,q⟩:=h
  refine⟨_,Zd (ZM (ZL (Zg (YL (a:= "tuple") (b:= "list")) rfl G.isinstance boot_isinstance (Za (pv 1) (Za (Zz (Za (Zv (v:=.ty "tuple") rfl G.tuple boot_tuple rfl) (Za (Zv (v:=.ty "list") rfl G.list boot_list rfl) Zb))) Zb)))) Zr Zu)
   (Zk (ZB (Yf (Yh Jq (Zg (Zn (c:= "bool")) rfl G.isinstance boot_isinstance (Za (pv 0) (Za (Zv (v:=.ty "bool") rfl G.bool boot_bool rfl) Zb)))
     (Zg (Zn (c:= "bool")) rfl G.isinstance boot_isinstance (Za (pv 1) (Za (Zv (v:=.ty "bool") rfl G.bool boot_bool rfl) Zb))) (bz _))
    (Ye (Yh Jq (pv 0) (pv 1) (bz _)))))),?_⟩
  refine⟨_,rfl,(by show 2≤sizeLine;decide),fun t ht=> ?_⟩
  have s1:=ag (o:=.tup [V.ty "tuple",V.ty "list"]) ht
  rcases r with ⟨i,rfl,rfl⟩ |⟨k,rfl,rfl⟩ |⟨rfl,rfl⟩
  ·refine⟨_,t,_,_,rfl,ai.of Zc,.inl ⟨i,rfl,rfl⟩,(show _=some false from rfl),_,rfl,ay ?_⟩
   refine⟨_,rfl,_,_,_,rfl,.int i,(show _=some false from rfl),_,rfl,_,_,_,rfl,.int i,(show _=some false from rfl),rfl,_,rfl,?_⟩
   refine aH ⟨_,rfl,_,rfl,rfl,?_⟩
   have e:decide (V.int i=V.int i)=true:=decide_eq_true rfl
   rw[e]
   exact q _ s1
  ·refine⟨_,t,_,_,rfl,ai.of Zc,.inr (.inl ⟨k,rfl,rfl⟩),(show _=some false from rfl),_,rfl,ay ?_⟩
   refine⟨_,rfl,_,_,_,rfl,.bl k,(show _=some true from rfl),_,rfl,_,_,_,rfl,.bl k,(show _=some true from rfl),rfl,_,rfl,?_⟩
   refine aH ⟨_,rfl,_,rfl,(by cases k<;>rfl),?_⟩
   have e:decide (V.bl k=V.bl k)=true:=decide_eq_true rfl
   rw[e]
   exact q _ s1
  ·refine⟨_,t,_,_,rfl,ai.of Zc,.inr (.inr (.inl ⟨rfl,rfl⟩)),(show _=some false from rfl),_,rfl,ay ?_⟩
   refine⟨_,rfl,_,_,_,rfl,.aa,(show _=some false from rfl),_,rfl,_,_,_,rfl,.aa,(show _=some false from rfl),rfl,_,rfl,?_⟩
   refine aH ⟨_,rfl,_,rfl,rfl,?_⟩
   have e:decide (V.aa=V.aa)=true:=decide_eq_true rfl
   rw[e]
   exact q _ s1
theorem Up {R:Hp→V→V→Prop}{k:Nat}(hR:∀{H H':Hp}{x y:V},R H x y→ae H H'→R H' x y) {f:Addr}{fd:FuncData}(F:aK K "_law_same" "_law_same" jN f fd) (G:Gs mg) (D:Def P w K mg base k "_law_same" ["_law_found", "_law_due"] (dj R)):
  az P w K mg base aE (k+1) f fd ["_law_found", "_law_due"] (dj (yQ R)):=by
 refine F.ok qj (fun vs H Q E h=> ?_) (fun ao A outer s H vs Q E hr h=> ?_)
 ·obtain⟨x,y,rfl,_⟩:=h
  rfl
 ·obtain⟨x,y,rfl,⟨a,b,xs,ys,rfl,rfl,ha,hb,pr,hl⟩,q⟩:=h
  refine⟨_,Zd (ZM (ZL (Zg (YL (a:= "tuple") (b:= "list")) rfl G.isinstance boot_isinstance (Za (pv 1) (Za (Zz (Za (Zv (v:=.ty "tuple") rfl G.tuple boot_tuple rfl) (Za (Zv (v:=.ty "list") rfl G.list boot_list rfl) Zb))) Zb))))
    (Zd (ZM (PW.pt (Yj (ZA Wo (Zg (Zn (c:= "tuple")) rfl G.isinstance boot_isinstance (Za (pv 0) (Za (Zv (v:=.ty "tuple") rfl G.tuple boot_tuple rfl) Zb))) (Zg (Zn (c:= "tuple")) rfl G.isinstance boot_isinstance (Za (pv 1) (Za (Zv (v:=.ty "tuple") rfl G.tuple boot_tuple rfl) Zb))) (bz _))
      (Z7 (ZA Wo (Zg (Zn (c:= "list")) rfl G.isinstance boot_isinstance (Za (pv 0) (Za (Zv (v:=.ty "list") rfl G.list boot_list rfl) Zb))) (Zg (Zn (c:= "list")) rfl G.isinstance boot_isinstance (Za (pv 1) (Za (Zv (v:=.ty "list") rfl G.list boot_list rfl) Zb))) (bz _))))) Zr Zu)
    (Zk (ZB (Yf (Yh Jq (Zg Zq rfl G.len boot_len (Za (pv 0) Zb)) (Zg Zq rfl G.len boot_len (Za (pv 1) Zb)) (bz _))
     (Ye (Zg Z0 rfl G.all boot_all (Za (ZY ["_law_one", "_law_other"] 2 [] (J5 rfl G.zip (Za (pv 0) (Za (pv 1) Zb)))
      (fun C s H fp=>show PG (aJ _ _ _ C s H fp) _ (kg K 2 (fo (de 0) (fo (de 1) kh))) from Yc rfl (Zt (pb 0) (Zt (pb 1) ZW))) (fun C s H fp=>Z3)
      (fun C s H fp D'=>ZE rfl (Zi D hr (Za (pv 0) (Za (pv 1) Zb))))) Zb))))))) Zu) Zr,?_⟩
  refine⟨_,rfl,(by show 2≤sizeLine;decide),fun t ht=> ?_⟩
  have s1:=ag (o:=.tup [V.ty "tuple",V.ty "list"]) ht
  have e1:upd H t (.tup [V.ty "tuple",V.ty "list"]) t=some (.tup [V.ty "tuple",V.ty "list"]):=Zc
  generalize upd H t (HO.tup [V.ty "tuple",V.ty "list"])=H1 at s1 e1
  have fm:=s1 _ _ ha
  have bM:=s1 _ _ hb
  refine⟨_,t,_,_,rfl,ai.of e1,.inr (.inr (.inr (.inr ⟨b,ys,rfl,bM,rfl⟩))),(show _=some true from rfl),_,rfl,aH ?_⟩
  refine⟨_,rfl,_,_,_,rfl,.tup fm,(show _=some true from rfl),_,rfl,_,_,_,rfl,.tup bM,(show _=some true from rfl),rfl,_,rfl,ay ?_⟩
  refine⟨_,rfl,_,_,_,rfl,.tup fm,(show _=some false from rfl),_,rfl,_,_,_,rfl,.tup bM,(show _=some false from rfl),rfl,_,rfl,ay ?_⟩
  have hlen:xs.length=ys.length:=Paired.length pr
  refine⟨_,rfl,a,xs,rfl,.inr (ai.of fm),_,rfl,b,ys,rfl,.inr (ai.of bM),rfl,_,rfl,?_⟩
  have el:decide (V.int (xs.length:Int)=V.int (ys.length:Int))=true:=decide_eq_true (by rw[hlen])
  rw[el]
  refine aH ⟨_,rfl,_,rfl,a,b,rfl,⟨xs,ys,ai.of fm,ai.of bM⟩,?_⟩
  refine Y9 (xs:=xs) (zs:=ys) hlen (fun i zs σ H2=> ∃v0 v1,σ=[v0,v1]∧ae H1 H2∧zs=List.replicate i (V.bl true)) ⟨_,_,rfl,ae.refl _,rfl⟩ (fun i zs σ H2 _ ⟨_,_,_,s2,_⟩=> ⟨ai.of (s2 _ _ fm),ai.of (s2 _ _ bM)⟩) ?_ ?_
  ·rintro i x y T zs σ H2 hx hy hT ⟨v0,v1,rfl,s2,rfl⟩
   obtain⟨y',i8,r⟩:=Z6 pr hx
   rw[hy]at i8
   cases i8
   have sT:=ag (o:=.par [x,y]) hT
   have hi:i<xs.length:=(List.getElem?_eq_some_iff.mp hx).1
   refine⟨T,_,rfl,ai.lu Zc,rfl,_,_,rfl,_,_,rfl,rfl,?_⟩
   refine⟨x,rfl,y,rfl,x,y,rfl,hR r (s1.trans (s2.trans sT)),fun H3 s3=> ⟨by rw[List.length_replicate,sizeLine_eq];omega,_,_,rfl,s2.trans (sT.trans s3),?_⟩⟩
   rw[List.replicate_succ']
  ·rintro zs σ H2 ⟨v0,v1,rfl,s2,rfl⟩ p hp
   refine⟨p,List.replicate xs.length true,rfl,?_,?_⟩
   ·rw[List.map_replicate]
    exact af.of Zc
   ·have e:(List.replicate xs.length true).all id=true:=by simp
    rw[e]
    exact q _ (s1.trans (s2.trans (ag hp)))
theorem Ur {R:Hp→V→V→Prop}{k:Nat}(hR:∀{H H':Hp}{x y:V},R H x y→ae H H'→R H' x y) {f:Addr}{fd:FuncData}(F:aK K "_law_same" "_law_same" jN f fd) (G:Gs mg) (D:Def P w K mg base k "_law_same" ["_law_found", "_law_due"] (dj R)):
  az P w K mg base aE (k+1) f fd ["_law_found", "_law_due"] (dj (uc R)):=by
 refine F.ok qj (fun vs H Q E h=> ?_) (fun ao A outer s H vs Q E hr h=> ?_)
 ·obtain⟨x,y,rfl,_⟩:=h
  rfl
 ·obtain⟨x,y,rfl,⟨a,b,xs,ys,rfl,rfl,ha,hb,pr,hl⟩,q⟩:=h
  refine⟨_,Zd (ZM (ZL (Zg (Wh (a:= "tuple") (b:= "list")) rfl G.isinstance boot_isinstance (Za (pv 1) (Za (Zz (Za (Zv (v:=.ty "tuple") rfl G.tuple boot_tuple rfl) (Za (Zv (v:=.ty "list") rfl G.list boot_list rfl) Zb))) Zb))))
    (Zd (ZM (PW.pt (Yj (ZA Wo (Zg (Zn (c:= "tuple")) rfl G.isinstance boot_isinstance (Za (pv 0) (Za (Zv (v:=.ty "tuple") rfl G.tuple boot_tuple rfl) Zb))) (Zg (Zn (c:= "tuple")) rfl G.isinstance boot_isinstance (Za (pv 1) (Za (Zv (v:=.ty "tuple") rfl G.tuple boot_tuple rfl) Zb))) (bz _))
      (Z7 (ZA Wo (Zg (Zn (c:= "list")) rfl G.isinstance boot_isinstance (Za (pv 0) (Za (Zv (v:=.ty "list") rfl G.list boot_list rfl) Zb))) (Zg (Zn (c:= "list")) rfl G.isinstance boot_isinstance (Za (pv 1) (Za (Zv (v:=.ty "list") rfl G.list boot_list rfl) Zb))) (bz _))))) Zr Zu)
    (Zk (ZB (Yf (Yh Jq (Zg Zq rfl G.len boot_len (Za (pv 0) Zb)) (Zg Zq rfl G.len boot_len (Za (pv 1) Zb)) (bz _))
     (Ye (Zg Z0 rfl G.all boot_all (Za (ZY ["_law_one", "_law_other"] 2 [] (GZ rfl G.zip (Za (pv 0) (Za (pv 1) Zb)))
      (fun C s H fp=>show PG (aJ _ _ _ C s H fp) _ (kg K 2 (fo (de 0) (fo (de 1) kh))) from Yc rfl (Zt (pb 0) (Zt (pb 1) ZW))) (fun C s H fp=>Z3)
      (fun C s H fp D'=>ZE rfl (Zi D hr (Za (pv 0) (Za (pv 1) Zb))))) Zb))))))) Zu) Zr,?_⟩
  refine⟨_,rfl,(by show 2≤sizeLine;decide),fun t ht=> ?_⟩
  have s1:=ag (o:=.tup [V.ty "tuple",V.ty "list"]) ht
  have e1:upd H t (.tup [V.ty "tuple",V.ty "list"]) t=some (.tup [V.ty "tuple",V.ty "list"]):=Zc
  generalize upd H t (HO.tup [V.ty "tuple",V.ty "list"])=H1 at s1 e1
  have fm:=s1 _ _ ha
  have bM:=s1 _ _ hb
  refine⟨_,t,_,_,rfl,ai.of e1,.inr ⟨b,ys,rfl,bM,rfl⟩,(show _=some true from rfl),_,rfl,aH ?_⟩
  refine⟨_,rfl,_,_,_,rfl,.lst fm,(show _=some false from rfl),_,rfl,_,_,_,rfl,.lst bM,(show _=some false from rfl),rfl,_,rfl,ay ?_⟩
  refine⟨_,rfl,_,_,_,rfl,.lst fm,(show _=some true from rfl),_,rfl,_,_,_,rfl,.lst bM,(show _=some true from rfl),rfl,_,rfl,ay ?_⟩
  have hlen:xs.length=ys.length:=Paired.length pr
  refine⟨_,rfl,a,xs,rfl,.inl (af.of fm),_,rfl,b,ys,rfl,.inl (af.of bM),rfl,_,rfl,?_⟩
  have el:decide (V.int (xs.length:Int)=V.int (ys.length:Int))=true:=decide_eq_true (by rw[hlen])
  rw[el]
  refine aH ⟨_,rfl,_,rfl,a,b,rfl,⟨xs,ys,af.of fm,af.of bM⟩,?_⟩
  refine Uv (xs:=xs) (zs:=ys) (fun i zs σ H2=> ∃v0 v1,σ=[v0,v1]∧ae H1 H2∧zs=List.replicate i (V.bl true)) ⟨_,_,rfl,ae.refl _,rfl⟩ (fun i zs σ H2 _ ⟨_,_,_,s2,_⟩=> ⟨af.of (s2 _ _ fm),af.of (s2 _ _ bM)⟩) ?_ ?_
  ·rintro i x y T zs σ H2 hx hy hT ⟨v0,v1,rfl,s2,rfl⟩
   obtain⟨y',i8,r⟩:=Z6 pr hx
   rw[hy]at i8
   cases i8
   have sT:=ag (o:=.par [x,y]) hT
   have hi:i<xs.length:=(List.getElem?_eq_some_iff.mp hx).1
   refine⟨T,_,rfl,ai.lu Zc,rfl,_,_,rfl,_,_,rfl,rfl,?_⟩
   refine⟨x,rfl,y,rfl,x,y,rfl,hR r (s1.trans (s2.trans sT)),fun H3 s3=> ⟨by rw[List.length_replicate,sizeLine_eq];omega,_,_,rfl,s2.trans (sT.trans s3),?_⟩⟩
   rw[List.replicate_succ']
  ·rintro zs σ H2 ⟨v0,v1,rfl,s2,ez⟩ p hp
   rw[Nat.min_eq_left (by omega)]at ez
   subst ez
   refine⟨p,List.replicate xs.length true,rfl,?_,?_⟩
   ·rw[List.map_replicate]
    exact af.of Zc
   ·have e:(List.replicate xs.length true).all id=true:=by simp
    rw[e]
    exact q _ (s1.trans (s2.trans (ag hp)))
theorem Ga {CX:fI}{k:Nat}{f:Addr}{fd:FuncData}{ps:List Str}{R S:Hp→V→V→Prop}(h1:az P w K mg base CX k f fd ps (dj R)) (h2:az P w K mg base CX k f fd ps (dj S)):az P w K mg base CX k f fd ps (dj fun H x y=>R H x y∨S H x y):=by
 refine⟨fun vs H Q E h=> ?_,fun A outer s H args us vs Q E hr he hb hv h=> ?_⟩
 ·obtain⟨x,y,e,r |r,q⟩:=h
  ·exact h1.len vs H Q E ⟨x,y,e,r,q⟩
  ·exact h2.len vs H Q E ⟨x,y,e,r,q⟩
 ·obtain⟨x,y,e,r |r,q⟩:=h
  ·exact h1.run A outer s H args us vs Q E hr he hb hv ⟨x,y,e,r,q⟩
  ·exact h2.run A outer s H args us vs Q E hr he hb hv ⟨x,y,e,r,q⟩
theorem Uq {R:Hp→V→V→Prop}{k:Nat}(hR:∀{H H':Hp}{x y:V},R H x y→ae H H'→R H' x y) {f:Addr}{fd:FuncData}(F:aK K "_law_same" "_law_same" jN f fd) (G:Gs mg) (D:Def P w K mg base k "_law_same" ["_law_found", "_law_due"] (dj R)):
  az P w K mg base aE (k+1) f fd ["_law_found", "_law_due"] (dj (fw R)):=Ga (Wp F G) (Up (R:=R) hR F G D)
end
section
def mU (Y:Cx) (cl:List (Str×Addr)) (x:Str) (v:V) (H:Hp) (s:Shared):Prop:=∃c u,cl.lookup x=some c∧s.heap.IsCell c (some u)∧RelV v u∧H c=none∧c∉aG Y.stack
def BV (so si:Scope):Bool:=si.names.all fun z=>z.2 !=.free||so.names.lookup z.1==some .cell||so.names.lookup z.1==some .free
theorem YK {X:Cx}{scope:Scope}(h:BV X.env.scope scope=true):∀z∈scope.names,z.2=.free→X.env.kindOf z.1=some .cell∨X.env.kindOf z.1=some .free:=fun z hz e=>by
 have:=List.all_eq_true.mp h z hz
 simp only[Bool.or_eq_true,bne_iff_ne,ne_eq,beq_iff_eq]at this
 rcases this with (h |h) |h
 ·exact absurd e h
 ·exact .inl h
 ·exact .inr h
end
section
variable {Y:Cx}{pins:List (Addr×Obj)}{σ:L2.St}{H:Hp}{s:Shared}
theorem WC {i:Nat}{x:Str}{v:V}{scope:Scope}(I:Inv Y pins σ H s) (hi:Y.N[i]? =some x) (gp:σ[i]? =some (some v)) (hk:Y.env.scope.names.lookup x=some .cell) (fj:Y.fn x=true) (eG:(x,NameKind.free)∈scope.names):mU Y (bG scope Y.env) x v H s:=by
 obtain⟨m,hn,hl⟩:=I.loc
 obtain⟨u,r,l⟩:=hl i x v hi gp (.inr (.inl hk))
 obtain⟨c,hc⟩:=Jw (env:=Y.env) eG
 have e1:=(ZZ hc).1
 rcases l with ⟨cD,_⟩ |⟨_,c',aQ,iq⟩
 ·have:Y.env.scope.names.lookup x=some .local:=cD
  rw[hk]at this
  cases this
 ·rw[aQ]at e1
  have e2:c=c':=e1
  subst e2
  refine⟨c,u,hc,iq,r,I.dP x c aQ,fun hm=> ?_⟩
  rcases List.mem_cons.mp (I.nD c hm) with z |z
  ·exact I.eW x c aQ z
  ·obtain⟨_,o,ho,_⟩:=I.ok.cE.mem z
   exact absurd (Nat.lt_of_lt_of_le (Heap.lt_size ho) (I.ok.iF x c fj aQ)) (Nat.lt_irrefl _)
theorem yE {scope:Scope}{env:Env}{z:Str}{c:Addr}(h:(bG scope env).lookup z=some c):(z,NameKind.free)∈scope.names:=(ZZ h).2
end
section
variable {X:Cx}{cS c P fR:Addr}{kf:Nat}
abbrev lq (X:Cx):Str:=X.env.qual++ "<lambda>"
theorem ZT {H H':Hp}{P:Addr}{q:Str}(h:TabAt H P q) (s:ae H H'):TabAt H' P q:=by
 obtain⟨ps,h1,h2,h3⟩:=h
 exact⟨ps,s _ _ h1,h2,fun pos cv z=>by obtain⟨d,e,g⟩:=h3 pos cv z;exact⟨d,e,s _ _ g⟩⟩
structure LCtx (X:Cx) (cS c P fR:Addr) (kf:Nat):Prop where
 lam:yW X c P
 hR:∀b',Def X.prog X.w X.K X.mg b' (kf+2) "_law_refused" ["_law_call"] (jJ X.prog X.w X.K X.mg b' cS (kf+1))
 room:bo (kf+2) X.A
 mR:X.mg "_law_refused" =some (.ref fR)
 kR:PySem.W.keepIn X.K (.ref fR)=true
structure LN (X:Cx) (x:Str) (i:Nat):Prop where
 nx:X.N[i]? =some x
 kx:X.env.scope.names.lookup x=some .cell
 fx:X.fn x=true
def o7 (sp:Sp) (vs:List V) (C:Addr) (H:Hp):Prop:=∀Q' E',(∀e H',ae H H'→E' (.ref e) (some C) H')→sp vs H Q' E'
structure mM (params:Arguments) (body:Expr) (scope:Scope) (N:List Str):Prop where
 kind:scope.kind=.function
 co:scope.isCoroutine=false
 gen:scope.isGenerator=false
 fe:∀z∈scope.names,z.2≠.cell
 only:∀z∈scope.names,z.2=.free→z.1∈N
 free:∀x∈N,scope.names.lookup x=some .free
 bind:∀(q:Str) (cl:List (Str×Addr)) (pm:Value) (c:Addr) (ct:Value),bindArgs (PySem.W.kla_fn "<lambda>" q params body scope cl pm (.ref c) ct) ⟨[],[]⟩=pure []
def jz (X:Cx) (kf:Nat) (C:Addr) (f:Addr) (q:Str) (bd:Expr) (scope:Scope) (cl:List (Str×Addr)) (N:List Str) (ws:List V) (Pre:Hp→Prop):Prop:=
 ∀(bA:Heap) (cc:Addr) (A:Around) (outer:List Env) (s2:Shared) (H2:Hp) (Q2:VK) (E2:XK),bo kf (A.deeper (PySem.W.envX q scope s2.heap.objs.size f (.ref cc) cl))→Pre H2→(∀e H',ae H2 H'→E2 (.ref e) (some C) H')→
  ∃t,PE (gB X.prog X.w X.K X.mg bA N q scope f (.ref cc) cl A outer s2 H2 E2) bd t∧t (ws.map some) H2 Q2
theorem UM {pins:List (Addr×Obj)}{σ:L2.St}{H:Hp}{s:Shared}{f C:Addr}{iC:Nat}{q:Str}{params:Arguments}{bd:Expr}{scope:Scope}{cl:List (Str×Addr)}{Q:VK}{N:List Str}{ws:List V}{Pre:Hp→Prop}(L:LCtx X cS c P fR kf)
  (LS:mM params bd scope N) (I:Inv X pins σ H s) (hl:fB H f q params bd scope cl) (hlen:ws.length=N.length) (fk:∀(i:Nat) x v,N[i]? =some x→ws[i]? =some v→mU X cl x v H s) (jZ:∀z c,cl.lookup z=some c→(z,NameKind.free)∈scope.names)
  (su:∀a b c,cl.lookup a=some c→cl.lookup b=some c→a=b) (hi:iC=0∨iC=1∨iC=3) (M:gE X.K X.mg cS C iC) (bad:jz X kf C f q bd scope cl N ws Pre) (pre:Pre H) (hq:∀l H',ae H H'→H l=none→H' l=some (.lst [.int (iC:Int)])→Q (.ref l) H'):
  wpAny (model X.prog X.w) X.A (call (.ref fR) [.ref f]) (EP X pins σ Q) X.xe s:=by
 obtain⟨bA,st,e0,bf⟩:=I.rebase
 obtain⟨pm,cc,ct,hf,hc⟩:=hl
 have T:Cells bA scope cl N ws:=⟨hlen,fun u hu=>by
   rcases hu with hu |hu
   ·exact absurd rfl (LS.fe _ (PySem.mem_of_lookup hu))
   ·exact LS.only _ (PySem.mem_of_lookup hu) rfl,fun i a v h1 h2=>by
   obtain⟨ax,ux,lx,⟨ox,gx,dx⟩,rx,nx,fx⟩:=fk i a v h1 h2
   exact⟨LS.free a (List.mem_of_getElem? h1),ax,ux,lx,⟨ox,bf _ _ gx nx fx,dx⟩,rx⟩,fun u c h=>LS.only _ (jZ u c h) rfl,su⟩
 have FL:az X.prog X.w X.K X.mg bA (bq X.prog X.w) (kf+1) f (PySem.W.kla_fn "<lambda>" q params bd scope cl pm (.ref cc) ct) []
   (fun vs H2 Q2 E2=> (vs=[]∧H2 f=some (i3 f q params bd scope cl pm cc ct)∧H2 cc=some (eI cc q))∧Pre H2∧∀e H',ae H2 H'→E2 (.ref e) (some C) H'):=by
  refine Ua (k:=kf) T LS.kind LS.co LS.gen LS.fe (fun vs H2 Q2 E2 h=>h.1) fun A outer s2 H2 Q2 E2 jY h=> ?_
  exact bad bA cc A outer s2 H2 Q2 E2 jY h.2.1 h.2.2
 obtain⟨Er,xM,FR,cU,hk,hb⟩:=L.hR bA
 rw[L.mR]at cU
 cases cU
 refine wpAny_call (codeAny_mono (FR.run X.A X.stack s H ⟨[.ref f],[]⟩ [.ref f] [.ref f] Q E0 L.room e0 (hb s [.ref f] I.bc rfl) (.cons rfl .nil)
  ⟨f,_,_,C,iC,rfl,hi,M,fun h ah=> ?_,FL,fun s2=> .of_eq (LS.bind q cl pm cc ct),fun Q' E' hE=> ⟨⟨rfl,hf,hc⟩,pre,hE⟩,hq⟩) fun r s' h=> ?_)
 ·have z:h.get? f=some _:=(ah f _ hf).1
  exact⟨_,_,_,_,z⟩
 ·cases r with
  |error e=>exact h.elim
  |ok fl=>
   cases fl with
   |ret u=>exact I.after h
   |next=>exact False.elim h
   |brk=>exact False.elim h
   |cont=>exact False.elim h
def zQ (X:Cx) (cS P:Addr) (kf:Nat) (bd:Expr) (scope:Scope) (N:List Str) (idx:List Nat):TE:=fun σ H Q=> ∃(ws:List V) (C:Addr) (iC:Nat) (Pre:Hp→Prop),ws.length=idx.length∧(∀(k i:Nat) v,idx[k]? =some i→ws[k]? =some v→σ[i]? =some (some v))∧TabAt H P (lq X)∧(iC=0∨iC=1∨iC=3)∧gE X.K X.mg cS C iC∧
 (∀f,jz X kf C f (lq X) bd scope (bG scope X.env) N ws Pre)∧(∀H',ak P H H'→Pre H')∧∀l H',ak P H H'→TabAt H' P (lq X)→H l=none→H' l=some (.lst [.int (iC:Int)])→Q (.ref l) H'
theorem Jg {params:Arguments}{scope:Scope}{bd:Expr}{p lp pos:Pos}{N:List Str}{idx:List Nat}(L:LCtx X cS c P fR kf) (LS:mM params bd scope N) (hN:idx.length=N.length) (HA:∀(k:Nat) x i,N[k]? =some x→idx[k]? =some i→LN X x i) (hg:Gl X "_law_refused") (sJ:defaultsOf params X.env=([],[]))
  (eG:∀z∈scope.names,z.2=.free→X.env.kindOf z.1=some .cell∨X.env.kindOf z.1=some .free):
  PE X (.Call (.Name "_law_refused" p) [.Lambda params bd scope lp] [] pos) (zQ X cS P kf bd scope N idx):=by
 intro pins s σ H Q I h
 obtain⟨ws,C,iC,Pre,rS,gp,tab,hi,M,bad,pre,q⟩:=h
 refine wpAny_Call_Name_kw (YE I hg L.mR ?_ (by decide))
 have ha:PA X [.Lambda params bd scope lp] _:=Za (J7 L.lam sJ eG) Zb
 refine PySem.W.callWith_K (h₀:=X.base) I.ok.mod.i4 L.kR (aq (ha pos pins s σ H (fun vs H1=> ∃f,vs=[.ref f]∧ak P H H1∧TabAt H1 P (lq X)∧fB H1 f (lq X) params bd scope (bG scope X.env)) I ⟨tab,fun f H1 sx nf t1 l1=> ⟨f,rfl,sx,t1,l1⟩⟩) fun us s1 ⟨vs,H1,I1,r,f,ev,sx,t1,l1⟩=> ⟨I1.bc,?_⟩) rfl rfl
 subst ev
 obtain⟨u,rfl,ru⟩:=vals1 r
 cases ru
 refine UM L LS I1 l1 (by rw[rS,hN]) (fun i x v h1 h2=> ?_) (fun z c h=>yE h) (fun a b c h1 h2=> ?_) hi M (bad f) (pre H1 sx) fun l H2 s2 nl hl=>q l H2 (sx.trans s2.x) (ZT t1 s2) ?_ hl
 ·have hi:i<idx.length:=by
   have:=(List.getElem?_eq_some_iff.mp h1).1
   omega
  have ei:=List.getElem?_eq_getElem hi
  have n:=HA i x _ h1 ei
  exact WC I1 n.nx (gp i _ v ei h2) n.kx n.fx (PySem.mem_of_lookup (LS.free x (List.mem_of_getElem? h1)))
 obtain⟨e1,m1⟩:=ZZ h1
 obtain⟨e2,m2⟩:=ZZ h2
 obtain⟨c1,g1⟩:=I1.ok.has a (eG _ m1 rfl)
 obtain⟨c2,g2⟩:=I1.ok.has b (eG _ m2 rfl)
 rw[g1]at e1
 rw[g2]at e2
 have z1:c1=c2:=by
  have y1:_=c1:=e1
  have y2:_=c2:=e2
  rw[←y1,←y2]
 subst z1
 exact I1.ok.inj _ _ _ g1 g2
 cases hh:H l with
 |none=>rfl
 |some u=>
  by_cases z:l=P
  ·obtain⟨ps,e,_⟩:=t1
   rw[z,e]at nl;cases nl
  ·rw[sx _ _ hh z]at nl;cases nl
end
section
theorem yD {H H':Hp}{P p:Addr}{q:Str}{o:HO}(h:TabAt H P q) (s:ak p H H') (hp:H p=some o) (h1:∀ps,o≠.bh ps) (h2:∀c,o≠eI c q):TabAt H' P q:=by
 obtain⟨ps,e,t,f⟩:=h
 refine⟨ps,s _ _ e fun z=>by rw[z,hp]at e;cases e;exact h1 _ rfl,t,fun pos cv z=> ?_⟩
 obtain⟨d,e1,e2⟩:=f pos cv z
 exact⟨d,e1,s _ _ e2 fun z=>by rw[z,hp]at e2;cases e2;exact h2 _ rfl⟩
theorem Yy {K:PySem.W.Frag}{H H':Hp}{p:Addr}{v:V}(t:bN K H v) (s:ak p H H') (hn:v≠.ref p):aC H' v=aC H v:=by
 obtain⟨T,t⟩:=t
 cases t with
 |tup e=>rw[Zo e,Zo (s _ _ e fun z=>hn (by rw[z]))]
 |lst e=>rw[Zp,Zp,e,s _ _ e fun z=>hn (by rw[z])]
 |bC e=>rw[Zp,Zp,e,s _ _ e fun z=>hn (by rw[z])]
 |dK e=>rw[Zp,Zp,e,s _ _ e fun z=>hn (by rw[z])]
 |dT e=>rw[Zp,Zp,e,s _ _ e fun z=>hn (by rw[z])]
 |_=>rfl
theorem yC {K:PySem.W.Frag}{H H':Hp}{p:Addr}{v:V}(t:bN K H v) (s:ak p H H') (hn:v≠.ref p):bN K H' v:=by
 obtain⟨T,t⟩:=t
 cases t with
 |tup e=>exact⟨_,.tup (s _ _ e fun z=>hn (by rw[z]))⟩
 |lst e=>exact⟨_,.lst (s _ _ e fun z=>hn (by rw[z]))⟩
 |bC e=>exact⟨_,.bC (s _ _ e fun z=>hn (by rw[z]))⟩
 |dK e=>exact⟨_,.dK (s _ _ e fun z=>hn (by rw[z]))⟩
 |dT e=>exact⟨_,.dT (s _ _ e fun z=>hn (by rw[z]))⟩
 |aa=>exact⟨_,.aa⟩
 |bl b=>exact⟨_,.bl b⟩
 |int i=>exact⟨_,.int i⟩
 |str x=>exact⟨_,.str x⟩
 |fq x=>exact⟨_,.fq x⟩
theorem W7 {K:PySem.W.Frag}{H H':Hp}{p:Addr}{v:V}(t:cC K H v) (s:ak p H H') (n:fV p H v):cC K H' v:=by
 refine⟨yC t.1 s n.1,fun xs e y hy=> ?_⟩
 rw[Yy t.1 s n.1]at e
 exact yC (t.2 xs e y hy) s (n.2 xs e y hy)
theorem GJ {K:PySem.W.Frag}{H H':Hp}{p q:Addr}{v:V}(t:bN K H v) (s:ak q H H') (hq:v≠.ref q) (n:fV p H v):fV p H' v:=⟨n.1,fun xs e=>n.2 xs (by rw[←Yy t s hq];exact e)⟩
theorem yN {K:PySem.W.Frag}{H H':Hp}{p:Addr}{v:V}(b:eK K H v) (s:ak p H H') (n:fV p H v):eK K H' v:=⟨W7 b.1 s n,by rw[Yy b.1.1 s n.1];exact b.2⟩
theorem FK {K:PySem.W.Frag}{wd hg:Int}{H H':Hp}{p:Addr}{v:V}(b:fX K wd hg H v) (s:ak p H H') (n:fV p H v):fX K wd hg H' v:=⟨W7 b.1 s n,by rw[Yy b.1.1 s n.1];exact b.2⟩
theorem YD {K:PySem.W.Frag}{H:Hp}{P:Addr}{ps:Array Value}{v:V}(t:cC K H v) (h:H P=some (.bh ps)):fV P H v:=by
 have key:∀y,bN K H y→y≠.ref P:=fun y ⟨T,ty⟩ z=>by
  subst z
  cases ty with
  |lst e=>rw[h]at e;cases e
  |bC e=>rw[h]at e;cases e
  |tup e=>rw[h]at e;cases e
  |dK e=>rw[h]at e;cases e
  |dT e=>rw[h]at e;cases e
 exact⟨key v t.1,fun xs e y hy=>key y (t.2 xs e y hy)⟩
abbrev cb:Arguments:= {posonlyargs:=[],args:=[],vararg:=none,kwonlyargs:=[],kw_defaults:=[],kwarg:=none,defaults:=[]}
end
end U
namespace U.T
open PySem L2 PyProof.Rows
section
theorem ag {H:Hp}{p:Addr}{o:HO}(h:H p=none):ae H (upd H p o):=fun b u hb=>by rw[Ze (Zf hb h)];exact hb
theorem eQ {D:Ends}{σ:L2.St}{H:Hp}(h:D.nx σ H):pN D σ H:=h
theorem aF {t u:TS}{D:Ends}{σ:L2.St}{H:Hp}(h:t {D with nx:=u D} σ H):nz t u D σ H:=h
theorem bO {te:TE}{g:TG}{D:Ends}{σ:L2.St}{H:Hp}(h:te σ H fun v H1=>g v σ H1 D.nx):kH te g D σ H:=h
theorem bV {i:Nat}{v:V}{σ:L2.St}{H:Hp}{Q:L2.St→Hp→Prop}(h:Q (σ.set i (some v)) H):de i v σ H Q:=h
theorem pB {b a c:Int}(h0:a≤b) (h1:b≤c):av (.int b) a c=true:=by
 show(decide (a≤b)&&decide (b≤c))=true
 rw[decide_eq_true h0,decide_eq_true h1];rfl
theorem uF {t u:TS}{D:Ends}{σ:L2.St}{H:Hp}(R:L2.St→Hp→Prop) (h2:∀aj H',R aj H'→u D aj H') (h1:∀D':Ends,(∀aj H',R aj H'→D'.nx aj H')→t D' σ H):nz t u D σ H:=h1 _ h2
theorem wt {n:Nat}{k:Int}(h0:0≤k) (h1:k<n):fg n k=some k.toNat:=by
 unfold fg
 rw[if_pos h0,if_pos h1]
def gJ (qs:List (Int×Int)):Prop:=qs.Pairwise fun a b=>a.1≠b.1∧a.2≠b.2
def gG (wd hg:Int) (qs:List (Int×Int)):Prop:=∀q∈qs,(0≤q.1∧q.1<wd)∧0≤q.2∧q.2<hg
def dG (ps:List (Int×Int)) (k:Int):V:=ps.foldl (fun v p=>if k=p.1 then .int p.2 else v) .aa
theorem US {ps:List (Int×Int)}{p:Int×Int}{k:Int} :dG (ps++[p]) k=if k=p.1 then .int p.2 else dG ps k:=by
 unfold dG
 rw[List.foldl_append]
 rfl
theorem UT {k:Int} :∀(ps:List (Int×Int)) (v:V),ps.foldl (fun v p=>if k=p.1 then V.int p.2 else v) v=v∨∃p∈ps,p.1=k∧ps.foldl (fun v p=>if k=p.1 then V.int p.2 else v) v=.int p.2
 | [],v=> .inl rfl
 |p::ps,v=>by
  rw[List.foldl_cons]
  rcases UT ps (if k=p.1 then V.int p.2 else v) with h |⟨q,hq,e1,e2⟩
  ·by_cases z:k=p.1
   ·right
    refine⟨p,List.mem_cons_self,z.symm,?_⟩
    rw[h,if_pos z]
   ·left
    rw[h,if_neg z]
  ·exact .inr ⟨q,List.mem_cons_of_mem _ hq,e1,e2⟩
theorem JM (ps:List (Int×Int)) (k:Int):dG ps k=.aa∨∃p∈ps,p.1=k∧dG ps k=.int p.2:=UT ps .aa
theorem qN {ps:List (Int×Int)}{k:Int}(h:∀p∈ps,p.1≠k):dG ps k=.aa:=by
 rcases JM ps k with z |⟨p,hp,e,_⟩
 ·exact z
 ·exact absurd e (h p hp)
def bL (W:Nat) (ps:List (Int×Int)):List V:=(List.range W).map fun(k:Nat)=>dG ps k
theorem lD (W:Nat) (ps:List (Int×Int)):(bL W ps).length=W:=by unfold bL;rw[List.length_map,List.length_range]
theorem wm (W:Nat):bL W []=List.replicate W .aa:=by
 unfold bL
 rw[show(fun(k:Nat)=>dG [] (k:Int))=fun _=>V.aa from rfl,List.map_const',List.length_range]
theorem lE {W:Nat}{ps:List (Int×Int)}{k:Nat}(h:k<W):(bL W ps)[k]? =some (dG ps k):=by
 unfold bL
 rw[List.getElem?_map,List.getElem?_range h]
 rfl
theorem wk {W:Nat}{ps:List (Int×Int)}{p:Int×Int}(h0:0≤p.1):(bL W ps).set p.1.toNat (.int p.2)=bL W (ps++[p]):=by
 refine List.ext_getElem (by rw[List.length_set,lD,lD]) fun i h1 h2=> ?_
 rw[lD]at h2
 have e1:=List.getElem?_eq_some_iff.mp (lE (ps:=ps) h2)
 have e2:=List.getElem?_eq_some_iff.mp (lE (ps:=ps++[p]) h2)
 rw[List.getElem_set]
 obtain⟨_,e1⟩:=e1
 obtain⟨_,e2⟩:=e2
 rw[e1,e2,US]
 by_cases z:p.1.toNat=i
 ·rw[if_pos z,if_pos (by omega)]
 ·rw[if_neg z,if_neg (by omega)]
theorem JQ {W:Nat}{ps:List (Int×Int)}{v:V}(h:v∈bL W ps):v=.aa∨∃p∈ps,v=.int p.2:=by
 unfold bL at h
 obtain⟨k,_,rfl⟩:=List.mem_map.mp h
 rcases JM ps (k:Int) with z |⟨p,hp,_,e⟩
 ·exact .inl z
 ·exact .inr ⟨p,hp,e⟩
theorem wo {W:Nat}{ps:List (Int×Int)}{r:Int}(h:∀p∈ps,p.2≠r):g9 (.int r) (bL W ps)=false:=by
 unfold g9
 rw[List.any_eq_false]
 intro y hy
 rcases JQ hy with rfl |⟨p,hp,rfl⟩
 ·show ¬false=true
  exact Bool.false_ne_true
 ·show ¬(p.2==r)=true
  rw[beq_iff_eq]
  exact h p hp
theorem rF {W:Nat}{ps:List (Int×Int)} :(bL W ps).all eV=true:=by
 rw[List.all_eq_true]
 intro y hy
 rcases JQ hy with rfl |⟨p,hp,rfl⟩<;>rfl
theorem vo (n:Nat) (v:V):(List.replicate n [v]).flatten=List.replicate n v:=by
 induction n with
 |zero=>rfl
 |succ n ih=>rw[List.replicate_succ,List.flatten_cons,ih,List.replicate_succ];rfl
theorem qk {H H1:Hp}{L:Addr}{o:HO}(s:ae H H1) (n:H L=none):ae H (upd H1 L o):=fun b u h=>by
 rw[Ze (Zf h n)]
 exact s b u h
end
section
variable {P:Program}{w:World}{K:PySem.W.Frag}{mg:Str→Option Value}{base:Heap}{aB aL aT:Addr}
abbrev nW:Stmt:=top 27
def qa (K:PySem.W.Frag):Sp:=fun vs H Q _=> ∃(b:Addr) (v:V) (wd hg:Int) (x:Int×Int),vs=[.ref b,v]∧H b=some (.tup [.int wd,.int hg])∧aM H v x∧(0≤x.1∧x.1<wd)∧(0≤x.2∧x.2<hg)∧∀H',ae H H'→Q (.bl true) H'
theorem vc:bI ["board", "thing"] ["board", "thing"] (au nW):=⟨rfl,rfl,rfl,by decide+kernel,rfl,by decide+kernel,by decide+kernel⟩
theorem Bq {f:Addr}{fd:FuncData}(F:aK K "is_point" "is_point" nW f fd) (G:Gs mg) (D1:Def P w K mg base 1 "is_tuple_of" ["thing", "many"] (jI K)) (D2:Def P w K mg base 2 "is_whole_within" ["thing", "least", "most"] (jH K)):
  az P w K mg base aE 3 f fd ["board", "thing"] (qa K):=by
 refine F.ok vc (fun vs H Q E h=> ?_) (fun ao A outer s H vs Q E hr h=> ?_)
 ·obtain⟨b,v,wd,hg,x,rfl,_⟩:=h
  rfl
 ·obtain⟨b,v,wd,hg,⟨x,y⟩,rfl,hb,⟨t,rfl,ht⟩,hx,hy,q⟩:=h
  refine⟨_,Zk (ZB (Yf (Zi D1 (hr.mono (by decide)) (Za (pv 1) (Za Zh Zb)))
   (Ye (Zg Z0 rfl G.all boot_all (Za (ZY ["at", "side"] 2 [] (J5 rfl G.zip (Za (pv 1) (Za (pv 0) Zb)))
    (fun C s H fp=>show PG (aJ _ _ _ C s H fp) _ (kg K 2 (fo (de 0) (fo (de 1) kh))) from Yc rfl (Zt (pb 0) (Zt (pb 1) ZW))) (fun C s H fp=>Z3)
    (fun C s H fp D=>ZE rfl (Zi D2 (hr.mono (by decide)) (Za (pv 0) (Za Zh (Za (Zj Jo (pv 1) Zh) Zb)))))) Zb))))),?_⟩
  refine⟨_,rfl,.ref t,2,rfl,⟨_,.tup ht⟩,_,rfl,?_⟩
  rw[Zo ht]
  show if decide ((2:Int)=2)=true then _ else _
  rw[decide_eq_true rfl]
  refine aH ⟨_,rfl,_,rfl,t,b,rfl,⟨_,_,ai.of ht,ai.of hb⟩,?_⟩
  refine Y9 (xs:=[.int x,.int y]) (zs:=[.int wd,.int hg]) rfl (fun i zs σ H2=> ∃v0 v1,σ=[v0,v1]∧ae H H2∧zs=List.replicate i (V.bl true)) ⟨_,_,rfl,ae.refl _,rfl⟩ (fun i zs σ H2 _ ⟨_,_,_,s2,_⟩=> ⟨ai.of (s2 _ _ ht),ai.of (s2 _ _ hb)⟩) ?_ ?_
  ·rintro i u v T zs σ H2 hu hv hT ⟨v0,v1,rfl,s2,rfl⟩
   have sT:=ag (o:=.par [u,v]) hT
   obtain⟨a,sd,rfl,rfl,h0,h1⟩:∃a sd:Int,u=.int a∧v=.int sd∧0≤a∧a<sd:=by
    match i,hu,hv with
    |0,hu,hv=>cases hu;cases hv;exact⟨_,_,rfl,rfl,hx.1,hx.2⟩
    |1,hu,hv=>cases hu;cases hv;exact⟨_,_,rfl,rfl,hy.1,hy.2⟩
   have hi:i<2:=(List.getElem?_eq_some_iff.mp hu).1
   refine⟨T,_,rfl,ai.lu Zc,rfl,_,_,rfl,_,_,rfl,rfl,?_⟩
   refine⟨_,rfl,_,rfl,_,_,rfl,rfl,.int a,0,sd - 1,rfl,⟨_,.int a⟩,by rw[List.length_replicate,sizeLine_eq];omega,_,_,rfl,s2.trans sT,?_⟩
   rw[pB h0 (by omega),List.replicate_succ']
  ·rintro zs σ H2 ⟨v0,v1,rfl,s2,rfl⟩ p hp
   refine⟨p,List.replicate 2 true,rfl,af.of Zc,?_⟩
   exact q _ (s2.trans (ag hp))
abbrev nU:Stmt:=top 28
def nK (K:PySem.W.Frag):Sp:=fun vs H Q _=> ∃(b L:Addr) (ps:List V) (qs:List (Int×Int)) (wd hg:Int),vs=[.ref b,.ref L]∧cY H (.ref b) wd hg∧H L=some (.lst ps)∧Paired (aM H) ps qs∧gG wd hg qs∧gJ qs∧qs.length≤12∧∀(t:Addr) H',ae H H'→H' t=some (.tup (bL wd.toNat qs))→Q (.ref t) H'
theorem gR:bI ["board", "points", "rows", "line", "row"] ["board", "points"] (au nU):=⟨rfl,rfl,rfl,by decide+kernel,rfl,by decide+kernel,by decide+kernel⟩
theorem Bp {f:Addr}{fd:FuncData}(F:aK K "lay_of" "lay_of" nU f fd) (G:Gs mg) (D1:Def P w K mg base 4 "need_board" ["board"] (kL K)) (D2:Def P w K mg base 3 "is_point" ["board", "thing"] (qa K)):az P w K mg base aE 5 f fd ["board", "points"] (nK K):=by
 refine F.ok gR (fun vs H Q E h=> ?_) (fun ao A outer s H vs Q E hr h=> ?_)
 ·obtain⟨b,L,ps,qs,wd,hg,rfl,_⟩:=h
  rfl
 ·obtain⟨b,L,ps,qs,wd,hg,rfl,bd,hL,pr,bT,df,hlen,q⟩:=h
  refine⟨_,Zd (ZO (Zi D1 hr (Za (pv 0) Zb)))
   (Zd (ZM (PW.pt (Yj (ZS (ZL (Zg (Zn (c:= "list")) rfl G.isinstance boot_isinstance (Za (pv 1) (Za (Zv (v:=.ty "list") rfl G.list boot_list rfl) Zb)))))
     (Z7 (ZS (ZL (Zg Z0 rfl G.all boot_all (Za (ZY ["point", "board"] 1 [0] (Yo (pv 1)) (fun C s H fp=>pb 0) (fun C s H fp=>Z3)
      (fun C s H fp D=>ZE rfl (Zi D2 (hr.mono (by decide)) (Za (pv 1) (Za (pv 0) Zb))))) Zb))))))) Zr Zu)
   (Zd (Zs (i:=2) gR.nd rfl (Or.inl rfl) (Zj WP (Zl (Za ZX Zb)) (ZG Yq (pv 0) Zh (fun _ _=>rfl))))
   (Zd (Y7 PassesOwn.never rfl (Yo (pv 1)) (Yc rfl (Zt (ZF (i:=3) gR.nd rfl (Or.inl rfl)) (Zt (ZF (i:=4) gR.nd rfl (Or.inl rfl)) ZW)))
    (Zd (ZM (PW.pt (Yj (Y6 (YB (ZG ZC (pv 2) (pv 3) (fun _ _=>rfl)))) (Z7 (ZA JN (pv 4) (pv 2) rfl)))) Zr Zu)
    (Zk (Yv (pv 4) (J6 (pv 2) (pv 3) YU)))))
   (Zk (ZB (ZR Yi rfl G.tuple boot_tuple (Za (pv 2) Zb))))))),?_⟩
  obtain⟨_,w1,iO,g1,Ej⟩:=id bd
  obtain⟨b',eb,hb⟩:=Zx bd.1
  cases eb
  have lp:ps.length=qs.length:=Paired.length pr
  refine aF ⟨_,rfl,.ref b,wd,hg,rfl,bd,fun H1 s1=> ?_⟩
  dsimp only
  have bQ:=s1 _ _ hL
  have bM:=s1 _ _ hb
  refine aF ⟨_,rfl,_,_,_,rfl,.lst bQ,(show _=some true from rfl),_,rfl,ay ?_⟩
  refine⟨_,rfl,L,rfl,⟨ps,af.of bQ⟩,?_⟩
  refine Yk (xs:=ps) (fun i zs σ H2=> ∃v0,σ=[v0,some (.ref b)]∧ae H1 H2∧zs=List.replicate i (V.bl true)) ⟨_,rfl,ae.refl _,rfl⟩ (fun i zs σ H2 _ ⟨_,_,s2,_⟩=>af.of (s2 _ _ bQ)) ?_ ?_
  ·rintro i v zs σ H2 hv ⟨v0,rfl,s2,rfl⟩
   obtain⟨x,hx,px⟩:=Z6 pr hv
   obtain⟨wB,gq⟩:=bT x (List.mem_of_getElem? hx)
   have hi:i<ps.length:=(List.getElem?_eq_some_iff.mp hv).1
   refine⟨_,rfl,_,rfl,b,v,wd,hg,x,rfl,s2 _ _ bM,px.same (s1.trans s2),wB,gq,fun H3 s3=> ⟨by rw[List.length_replicate,sizeLine_eq];omega,_,rfl,s2.trans s3,?_⟩⟩
   rw[List.replicate_succ']
  rintro zs σ H2 ⟨v0,rfl,s2,rfl⟩ p hp
  refine⟨p,List.replicate ps.length true,rfl,?_,?_⟩
  ·rw[List.map_replicate]
   exact af.of Zc
  have ea:(List.replicate ps.length true).all id=true:=by simp
  rw[ea]
  refine⟨_,rfl,ay (eQ ?_)⟩
  dsimp only
  have s3:=s2.trans (ag (o:=.lst (List.replicate ps.length (V.bl true))) hp)
  generalize upd H2 p (.lst (List.replicate ps.length (V.bl true)))=H3 at s3
  have ji:=s3 _ _ bM
  have ix:=s3 _ _ bQ
  refine aF (bO ⟨(by show 1≤sizeLine;decide),fun l0 h0=> ?_⟩)
  have s4:=ag (o:=.lst [V.aa]) h0
  have e4:upd H3 l0 (.lst [V.aa]) l0=some (.lst [V.aa]):=Zc
  generalize upd H3 l0 (HO.lst [V.aa])=H4 at s4 e4
  refine⟨_,rfl,b,_,_,_,rfl,rfl,ai.of (s4 _ _ ji),iG,l0,wd,_,rfl,rfl,e4,by omega,by omega,(by rw[sizeLine_eq];show 1*wd.toNat≤_;omega),fun R hR=>bV ?_⟩
  dsimp only[List.set]
  have er:(List.replicate wd.toNat [V.aa]).flatten=bL wd.toNat []:=by rw[vo,wm]
  rw[er]
  have dJ:=s4 _ _ ix
  have aZ:=s3.trans s4
  have qP:Paired (aM H4) ps qs:=Paired.aX pr fun v q' hq=>hq.same (s1.trans aZ)
  refine aF ⟨_,rfl,L,rfl,⟨ps,af.of ((ag hR) _ _ dJ)⟩,?_⟩
  refine Wy (xs:=ps) (fun i σ H5=> ∃v3 v4,σ=[some (.ref b),some (.ref L),some (.ref R),v3,v4]∧ae H4 H5∧H5 R=some (.lst (bL wd.toNat (qs.take i)))) ⟨_,_,rfl,ag hR,Zc⟩ (fun i σ H5 _ ⟨_,_,_,s5,_⟩=>af.of (s5 _ _ dJ)) ?_ ?_
  ·rintro i v σ H5 hv ⟨v3,v4,rfl,s5,e5⟩
   obtain⟨x,hx,px⟩:=Z6 qP hv
   obtain⟨t,rfl,ht⟩:=px.same s5
   obtain⟨⟨x0,x1⟩,y0,y1⟩:=bT x (List.mem_of_getElem? hx)
   have hi:i<qs.length:=(List.getElem?_eq_some_iff.mp hx).1
   have mx:∀p∈qs.take i,p.1≠x.1∧p.2≠x.2:=fun p hp=>by
    obtain⟨j,hj,e⟩:=List.getElem_of_mem hp
    rw[List.length_take]at hj
    rw[List.getElem_take]at e
    have:=List.pairwise_iff_getElem.mp df j i (by omega) hi (by omega)
    rw[e,(List.getElem?_eq_some_iff.mp hx).2]at this
    exact this
   refine⟨t,_,rfl,ai.of ht,rfl,_,_,rfl,_,_,rfl,rfl,?_⟩
   dsimp only[List.set]
   have ek:x.1=(x.1.toNat:Int):=by omega
   have ck:eJ (bL wd.toNat (qs.take i)) x.1=some .aa:=by
    rw[ek]
    refine ZK ?_
    rw[lE (by omega),←ek,qN fun p hp=> (mx p hp).1]
   refine aF ⟨_,rfl,_,rfl,R,_,_,_,rfl,rfl,af.of e5,ck,?_⟩
   refine⟨_,rfl,ay ?_⟩
   refine⟨_,rfl,_,rfl,R,_,rfl,.inl (af.of e5),rfl,rF,?_⟩
   have zi:g9 (.int x.2) (bL wd.toNat (qs.take i))=false:=wo fun p hp=> (mx p hp).2
   rw[if_neg Bool.false_ne_true,zi]
   refine⟨_,rfl,ay (eQ ?_)⟩
   dsimp only
   refine bO ⟨_,rfl,_,rfl,_,rfl,R,_,x.1,x.1.toNat,rfl,rfl,e5,wt x0 (by rw[lD];omega),?_⟩
   refine⟨_,_,rfl,qk s5 hR,?_⟩
   rw[Zc,wk x0,List.take_add_one,hx]
   rfl
  ·rintro σ H5 ⟨v3,v4,rfl,s5,e5⟩
   rw[lp,List.take_length]at e5
   refine⟨_,rfl,R,_,rfl,.inl ⟨af.of e5,fun t ht=> ?_⟩⟩
   exact q t _ (s1.trans (aZ.trans (s5.trans (ag ht)))) Zc
end
end U.T
namespace U
open PySem L2 PyProof.Rows
theorem Wm {k:Int} :∀(l:List (Int×Int)) (v:V),(∀p∈l,p.1≠k)→l.foldl (fun v p=>if k=p.1 then V.int p.2 else v) v=v
 | [],_,_=>rfl
 |p::l,v,h=>by
  rw[List.foldl_cons,if_neg (fun e=>h p List.mem_cons_self e.symm)]
  exact Wm l v fun q hq=>h q (List.mem_cons_of_mem _ hq)
theorem WK {ps:List (Int×Int)}{p:Int×Int}(hd:ps.Pairwise fun a b=>a.1≠b.1) (hp:p∈ps):T.dG ps p.1=.int p.2:=by
 obtain⟨l1,l2,rfl⟩:=List.append_of_mem hp
 unfold T.dG
 rw[List.foldl_append,List.foldl_cons,if_pos rfl]
 refine Wm l2 _ fun q hq e=> ?_
 have:=(List.pairwise_cons.mp (List.pairwise_append.mp hd).2.1).1 q hq
 exact this e.symm
def gn (wd hg:Int):Option (List V)→Bool
 |some [x,y]=>av x 0 (wd - 1)&&av y 0 (hg - 1)
 |_=>false
def gK (K:PySem.W.Frag) (wd hg:Int) (H:Hp) (v:V):Prop:=
 (v=.aa∨∃(a:Addr) (xs:List V),v=.ref a∧H a=some (.tup xs))∨
 (∃(L:Addr) (ps:List V),v=.ref L∧H L=some (.lst ps)∧ps.length≤1000∧(∀u∈ps,cC K H u)∧∃u∈ps,gn wd hg (aC H u)=false)∨
 (∃(L:Addr) (ps:List V) (qs:List (Int×Int)) (x:Int×Int),v=.ref L∧H L=some (.lst ps)∧Paired (aM H) ps (qs++[x])∧T.gG wd hg (qs++[x])∧T.gJ qs∧qs.length≤12∧∃p∈qs,p.1=x.1∨p.2=x.2)
def HX (K:PySem.W.Frag) (cB cP:Addr) (H:Hp) (x y:V) (C:Addr):Prop:=(C=cB∧eK K H x)∨(C=cP∧∃(b:Addr) (wd hg:Int),x=.ref b∧cY H x wd hg∧gK K wd hg H y)
section
variable {P:Program}{w:World}{K:PySem.W.Frag}{mg:Str→Option Value}{base:Heap}{cB cP:Addr}
def pZ (K:PySem.W.Frag):Sp:=fun vs H Q _=> ∃(b:Addr) (v:V) (wd hg:Int),vs=[.ref b,v]∧H b=some (.tup [.int wd,.int hg])∧cC K H v∧∀H',ae H H'→Q (.bl (gn wd hg (aC H v))) H'
theorem F0 {f:Addr}{fd:FuncData}(F:aK K "is_point" "is_point" T.nW f fd) (G:Gs mg) (D1:Def P w K mg base 1 "is_tuple_of" ["thing", "many"] (jI K)) (D2:Def P w K mg base 2 "is_whole_within" ["thing", "least", "most"] (jH K)):
  az P w K mg base aE 3 f fd ["board", "thing"] (pZ K):=by
 refine F.ok T.vc (fun vs H Q E h=> ?_) (fun ao A outer s H vs Q E hr h=> ?_)
 ·obtain⟨b,v,wd,hg,rfl,_⟩:=h
  rfl
 ·obtain⟨b,v,wd,hg,rfl,hb,pl,q⟩:=h
  refine⟨_,Zk (ZB (Yf (Zi D1 (hr.mono (by decide)) (Za (pv 1) (Za Zh Zb)))
   (Ye (Zg Z0 rfl G.all boot_all (Za (ZY ["at", "side"] 2 [] (J5 rfl G.zip (Za (pv 1) (Za (pv 0) Zb)))
    (fun C s H fp=>show PG (aJ _ _ _ C s H fp) _ (kg K 2 (fo (de 0) (fo (de 1) kh))) from Yc rfl (Zt (pb 0) (Zt (pb 1) ZW))) (fun C s H fp=>Z3)
    (fun C s H fp D=>ZE rfl (Zi D2 (hr.mono (by decide)) (Za (pv 0) (Za Zh (Za (Zj Jo (pv 1) Zh) Zb)))))) Zb))))),?_⟩
  refine⟨_,rfl,v,2,rfl,pl.1,_,rfl,?_⟩
  have q0:=q H (ae.refl _)
  cases e:aC H v with
  |none=>
   rw[e]at q0
   exact ay q0
  |some xs=>
   rw[e]at q0
   by_cases h2:(xs.length:Int)=2
   ·obtain⟨x,y,rfl⟩:∃x y,xs=[x,y]:=by
     match xs,h2 with
     | [x,y],_=>exact⟨x,y,rfl⟩
     | [],h=>simp at h
     | [_],h=>simp at h
     |_::_::_::_,h=>simp at h;omega
    obtain⟨t,rfl,ht⟩:=Zx e
    have pe:=pl.2 _ e
    show if decide ((2:Int)=2)=true then _ else _
    rw[decide_eq_true rfl]
    refine aH ⟨_,rfl,_,rfl,t,b,rfl,⟨_,_,ai.of ht,ai.of hb⟩,?_⟩
    refine Y9 (xs:=[x,y]) (zs:=[.int wd,.int hg]) rfl (fun i zs σ H2=> ∃v0 v1,σ=[v0,v1]∧ae H H2∧zs=([av x 0 (wd - 1),av y 0 (hg - 1)].take i).map V.bl) ⟨_,_,rfl,ae.refl _,rfl⟩ (fun i zs σ H2 _ ⟨_,_,_,s2,_⟩=> ⟨ai.of (s2 _ _ ht),ai.of (s2 _ _ hb)⟩) ?_ ?_
    ·rintro i u v T zs σ H2 hu hv hT ⟨v0,v1,rfl,s2,rfl⟩
     have sT:=ag (o:=.par [u,v]) hT
     obtain⟨sd,rfl,eu,hi⟩:∃sd:Int,v=.int sd∧(([av x 0 (wd - 1),av y 0 (hg - 1)].take (i+1)).map V.bl=([av x 0 (wd - 1),av y 0 (hg - 1)].take i).map V.bl++[V.bl (av u 0 (sd - 1))])∧i<2:=by
      match i,hu,hv with
      |0,hu,hv=>cases hu;cases hv;exact⟨_,rfl,rfl,by decide⟩
      |1,hu,hv=>cases hu;cases hv;exact⟨_,rfl,rfl,by decide⟩
     have pu:=pe u (List.mem_of_getElem? hu)
     refine⟨T,_,rfl,ai.lu Zc,rfl,_,_,rfl,_,_,rfl,rfl,?_⟩
     refine⟨_,rfl,_,rfl,_,_,rfl,rfl,u,0,sd - 1,rfl,(s2.trans sT).iY pu,by rw[List.length_map,List.length_take,sizeLine_eq];simp;omega,_,_,rfl,s2.trans sT,?_⟩
     rw[eu]
    ·rintro zs σ H2 ⟨v0,v1,rfl,s2,rfl⟩ p hp
     refine⟨p,[av x 0 (wd - 1),av y 0 (hg - 1)],rfl,af.of Zc,?_⟩
     have q1:=q _ (s2.trans (ag (o:=.lst [V.bl (av x 0 (wd - 1)),V.bl (av y 0 (hg - 1))]) hp))
     rw[e]at q1
     have ea:[av x 0 (wd - 1),av y 0 (hg - 1)].all id=gn wd hg (some [x,y]):=by
      show(av x 0 (wd - 1)&&(av y 0 (hg - 1)&&true))=(av x 0 (wd - 1)&&av y 0 (hg - 1))
      rw[Bool.and_true]
     rw[ea]
     exact q1
   ·show if decide ((xs.length:Int)=2)=true then _ else _
    rw[decide_eq_false h2]
    have e2:gn wd hg (some xs)=false:=by
     match xs,h2 with
     | [x,y],h=>exact absurd rfl h
     | [],_=>rfl
     | [_],_=>rfl
     |_::_::_::_,_=>rfl
    rw[e2]at q0
    exact ay q0
def jK (K:PySem.W.Frag) (cB cP:Addr):Sp:=fun vs H _ E=> ∃x y C,vs=[x,y]∧HX K cB cP H x y C∧∀e H',ae H H'→E (.ref e) (some C) H'
theorem F3 {f:Addr}{fd:FuncData}(F:aK K "lay_of" "lay_of" T.nU f fd) (G:Gs mg) (mP:mg "NoPoints" =some (.ref cP)) (xP:PySem.W.excIn K cP kl "ValueError.__new__" =true) (R1:cJ P w K mg base 4 "need_board" ["board"] (nI K cB)) (D1:Def P w K mg base 4 "need_board" ["board"] (kL K)) (D2:Def P w K mg base 3 "is_point" ["board", "thing"] (pZ K)):az P w K mg base (bq P w) 5 f fd ["board", "points"] (jK K cB cP):=by
 refine F.lj T.gR (fun vs H Q E h=> ?_) (fun ao A outer s H vs Q E hr h=> ?_)
 ·obtain⟨x,y,C,rfl,_⟩:=h
  rfl
 ·obtain⟨x,y,C,rfl,bad,q⟩:=h
  rcases bad with ⟨rfl,b⟩ |⟨rfl,b,wd,hg,rfl,bd,bad⟩
  ·refine⟨_,Zd (ZO (YW R1 hr (Za (pv 0) Zb))) Zr,?_⟩
   exact⟨x,rfl,x,rfl,b,q⟩
  obtain⟨_,w1,iO,g1,Ej⟩:=id bd
  obtain⟨b',eb,hb⟩:=Zx bd.1
  cases eb
  rcases bad with bad |⟨L,ps,rfl,hL,lp,cf,u,hu,eu⟩ |⟨L,ps,qs,x,rfl,hL,pr,bT,df,hlen,p,hp,EO⟩
  ·refine⟨_,Zd (ZO (Zi D1 hr (Za (pv 0) Zb)))
    (Zd (ZM (PW.pt (Yj (ZS (ZL (Zg (Zn (c:= "list")) rfl G.isinstance boot_isinstance (Za (pv 1) (Za (Zv (v:=.ty "list") rfl G.list boot_list rfl) Zb)))))
     (Z7 (fun _ _ _ _ _ _ h=>False.elim (h:False))))) (Zk (Yu PySem.F.excBase_ValueError mP xP rfl (Za Yw Zb))) Zu) Zr),?_⟩
   refine aF ⟨_,rfl,.ref b,wd,hg,rfl,bd,fun H1 s1=> ?_⟩
   rcases bad with rfl |⟨a,xs,rfl,ha⟩
   ·refine aF ⟨_,rfl,_,_,_,rfl,.aa,(show _=some false from rfl),_,rfl,aH (aH ⟨by show 1≤sizeLine;decide,fun e=>q e _ s1⟩)⟩
   ·refine aF ⟨_,rfl,_,_,_,rfl,.tup (s1 _ _ ha),(show _=some false from rfl),_,rfl,aH (aH ⟨by show 1≤sizeLine;decide,fun e=>q e _ s1⟩)⟩
  ·refine⟨_,Zd (ZO (Zi D1 hr (Za (pv 0) Zb)))
    (Zd (ZM (PW.pt (Yj (ZS (ZL (Zg (Zn (c:= "list")) rfl G.isinstance boot_isinstance (Za (pv 1) (Za (Zv (v:=.ty "list") rfl G.list boot_list rfl) Zb)))))
     (Z7 (ZS (ZL (Zg Z0 rfl G.all boot_all (Za (ZY ["point", "board"] 1 [0] (Yo (pv 1)) (fun C s H fp=>pb 0) (fun C s H fp=>Z3)
      (fun C s H fp D=>ZE rfl (Zi D2 (hr.mono (by decide)) (Za (pv 1) (Za (pv 0) Zb))))) Zb))))))) (Zk (Yu PySem.F.excBase_ValueError mP xP rfl (Za Yw Zb))) Zu) Zr),?_⟩
   refine aF ⟨_,rfl,.ref b,wd,hg,rfl,bd,fun H1 s1=> ?_⟩
   dsimp only
   have bQ:=s1 _ _ hL
   have bM:=s1 _ _ hb
   refine aF ⟨_,rfl,_,_,_,rfl,.lst bQ,(show _=some true from rfl),_,rfl,ay ?_⟩
   refine⟨_,rfl,L,rfl,⟨ps,af.of bQ⟩,?_⟩
   refine Yk (xs:=ps) (fun i zs σ H2=> ∃v0,σ=[v0,some (.ref b)]∧ae H1 H2∧zs=((ps.take i).map fun u=>gn wd hg (aC H u)).map V.bl) ⟨_,rfl,ae.refl _,rfl⟩ (fun i zs σ H2 _ ⟨_,_,s2,_⟩=>af.of (s2 _ _ bQ)) ?_ ?_
   ·rintro i v zs σ H2 hv ⟨v0,rfl,s2,rfl⟩
    have hi:i<ps.length:=(List.getElem?_eq_some_iff.mp hv).1
    have vv:=cf v (List.mem_of_getElem? hv)
    refine⟨_,rfl,_,rfl,b,v,wd,hg,rfl,s2 _ _ bM,vv.same (s1.trans s2),fun H3 s3=> ⟨by rw[List.length_map,List.length_map,List.length_take,sizeLine_eq];omega,_,rfl,s2.trans s3,?_⟩⟩
    rw[Z1 vv.1 (s1.trans s2),List.take_add_one,hv]
    simp
   rintro zs σ H2 ⟨v0,rfl,s2,rfl⟩ p hp
   refine⟨p,(ps.take ps.length).map fun u=>gn wd hg (aC H u),rfl,af.of Zc,?_⟩
   have ea:((ps.take ps.length).map fun u=>gn wd hg (aC H u)).all id=false:=by
    rw[List.take_length,List.all_eq_false]
    exact⟨false,List.mem_map.mpr ⟨u,hu,eu⟩,by simp⟩
   rw[ea]
   exact⟨_,rfl,aH ⟨by show 1≤sizeLine;decide,fun e=>q e _ (s1.trans (s2.trans (ag hp)))⟩⟩
  ·refine⟨_,Zd (ZO (Zi D1 hr (Za (pv 0) Zb)))
    (Zd (ZM (PW.pt (Yj (ZS (ZL (Zg (Zn (c:= "list")) rfl G.isinstance boot_isinstance (Za (pv 1) (Za (Zv (v:=.ty "list") rfl G.list boot_list rfl) Zb)))))
     (Z7 (ZS (ZL (Zg Z0 rfl G.all boot_all (Za (ZY ["point", "board"] 1 [0] (Yo (pv 1)) (fun C s H fp=>pb 0) (fun C s H fp=>Z3)
      (fun C s H fp D=>ZE rfl (Zi D2 (hr.mono (by decide)) (Za (pv 1) (Za (pv 0) Zb))))) Zb))))))) Zr Zu)
    (Zd (Zs (i:=2) T.gR.nd rfl (Or.inl rfl) (Zj WP (Zl (Za ZX Zb)) (ZG Yq (pv 0) Zh (fun _ _=>rfl))))
    (Zd (Y7 PassesOwn.leaving rfl (Yo (pv 1)) (Yc rfl (Zt (ZF (i:=3) T.gR.nd rfl (Or.inl rfl)) (Zt (ZF (i:=4) T.gR.nd rfl (Or.inl rfl)) ZW)))
     (Zd (ZM (PW.pt (Yj (Y6 (YB (ZG ZC (pv 2) (pv 3) (fun _ _=>rfl)))) (Z7 (ZA JN (pv 4) (pv 2) rfl)))) (Zk (Yu PySem.F.excBase_ValueError mP xP rfl (Za Yw Zb))) Zu)
     (Zk (Yv (pv 4) (J6 (pv 2) (pv 3) YU)))))
    Zr))),?_⟩
   have lp:ps.length=qs.length+1:=by rw[Paired.length pr];simp
   refine aF ⟨_,rfl,.ref b,wd,hg,rfl,bd,fun H1 s1=> ?_⟩
   dsimp only
   have bQ:=s1 _ _ hL
   have bM:=s1 _ _ hb
   refine aF ⟨_,rfl,_,_,_,rfl,.lst bQ,(show _=some true from rfl),_,rfl,ay ?_⟩
   refine⟨_,rfl,L,rfl,⟨ps,af.of bQ⟩,?_⟩
   refine Yk (xs:=ps) (fun i zs σ H2=> ∃v0,σ=[v0,some (.ref b)]∧ae H1 H2∧zs=List.replicate i (V.bl true)) ⟨_,rfl,ae.refl _,rfl⟩ (fun i zs σ H2 _ ⟨_,_,s2,_⟩=>af.of (s2 _ _ bQ)) ?_ ?_
   ·rintro i v zs σ H2 hv ⟨v0,rfl,s2,rfl⟩
    obtain⟨x',hx,px⟩:=Z6 pr hv
    obtain⟨⟨x0,x1⟩,y0,y1⟩:=bT x' (List.mem_of_getElem? hx)
    have hi:i<ps.length:=(List.getElem?_eq_some_iff.mp hv).1
    obtain⟨t,rfl,ht⟩:=px.same (s1.trans s2)
    have pl:cC K H2 (.ref t):=⟨⟨_,.tup ht⟩,fun ys e y hy=>by
     rw[Zo ht]at e
     cases e
     simp only[List.mem_cons,List.not_mem_nil,or_false]at hy
     rcases hy with rfl |rfl<;>exact⟨_,.int _⟩⟩
    refine⟨_,rfl,_,rfl,b,.ref t,wd,hg,rfl,s2 _ _ bM,pl,fun H3 s3=> ⟨by rw[List.length_replicate,sizeLine_eq];omega,_,rfl,s2.trans s3,?_⟩⟩
    have e1:gn wd hg (aC H2 (.ref t))=true:=by
     rw[Zo ht]
     show(av (.int x'.1) 0 (wd - 1)&&av (.int x'.2) 0 (hg - 1))=true
     rw[T.pB x0 (by omega),T.pB y0 (by omega)]
     rfl
    rw[e1,List.replicate_succ']
   rintro zs σ H2 ⟨v0,rfl,s2,rfl⟩ p' r9
   refine⟨p',List.replicate ps.length true,rfl,?_,?_⟩
   ·rw[List.map_replicate]
    exact af.of Zc
   have ea:(List.replicate ps.length true).all id=true:=by simp
   rw[ea]
   refine⟨_,rfl,ay (eQ ?_)⟩
   dsimp only
   have s3:=s2.trans (ag (o:=.lst (List.replicate ps.length (V.bl true))) r9)
   generalize upd H2 p' (.lst (List.replicate ps.length (V.bl true)))=H3 at s3
   have ji:=s3 _ _ bM
   have ix:=s3 _ _ bQ
   refine aF (bO ⟨(by show 1≤sizeLine;decide),fun l0 h0=> ?_⟩)
   have s4:=ag (o:=.lst [V.aa]) h0
   have e4:upd H3 l0 (.lst [V.aa]) l0=some (.lst [V.aa]):=Zc
   generalize upd H3 l0 (HO.lst [V.aa])=H4 at s4 e4
   refine⟨_,rfl,b,_,_,_,rfl,rfl,ai.of (s4 _ _ ji),iG,l0,wd,_,rfl,rfl,e4,by omega,by omega,(by rw[sizeLine_eq];show 1*wd.toNat≤_;omega),fun R hR=>bV ?_⟩
   dsimp only[List.set]
   have er:(List.replicate wd.toNat [V.aa]).flatten=T.bL wd.toNat []:=by rw[T.vo,T.wm]
   rw[er]
   have dJ:=s4 _ _ ix
   have aZ:=s3.trans s4
   have qP:Paired (aM H4) ps (qs++[x]):=Paired.aX pr fun v q' hq=>hq.same (s1.trans aZ)
   refine aF ⟨_,rfl,L,rfl,⟨ps,af.of ((ag hR) _ _ dJ)⟩,?_⟩
   refine Wy (xs:=ps) (fun i σ H5=>i≤qs.length∧∃v3 v4,σ=[some (.ref b),some (.ref L),some (.ref R),v3,v4]∧ae H4 H5∧H5 R=some (.lst (T.bL wd.toNat (qs.take i)))) ⟨Nat.zero_le _,_,_,rfl,ag hR,Zc⟩ (fun i σ H5 _ ⟨_,_,_,_,s5,_⟩=>af.of (s5 _ _ dJ)) ?_ ?_
   ·rintro i v σ H5 hv ⟨j7,v3,v4,rfl,s5,e5⟩
    obtain⟨x',hx,px⟩:=Z6 qP hv
    obtain⟨t,rfl,ht⟩:=px.same s5
    obtain⟨⟨x0,x1⟩,y0,y1⟩:=bT x' (List.mem_of_getElem? hx)
    refine⟨t,_,rfl,ai.of ht,rfl,_,_,rfl,_,_,rfl,rfl,?_⟩
    dsimp only[List.set]
    have ek:x'.1=(x'.1.toNat:Int):=by omega
    have ck:eJ (T.bL wd.toNat (qs.take i)) x'.1=some (T.dG (qs.take i) x'.1):=by
     rw[ek]
     refine ZK ?_
     rw[T.lE (by omega),←ek]
    refine aF ⟨_,rfl,_,rfl,R,_,_,_,rfl,rfl,af.of e5,ck,?_⟩
    by_cases ar:i<qs.length
    ·have jV:qs[i]? =some x':=by rw[List.getElem?_append_left ar]at hx;exact hx
     have mx:∀p∈qs.take i,p.1≠x'.1∧p.2≠x'.2:=fun p hp=>by
      obtain⟨j,hj,e⟩:=List.getElem_of_mem hp
      rw[List.length_take]at hj
      rw[List.getElem_take]at e
      have:=List.pairwise_iff_getElem.mp df j i (by omega) ar (by omega)
      rw[e,(List.getElem?_eq_some_iff.mp jV).2]at this
      exact this
     rw[T.qN fun p hp=> (mx p hp).1]
     refine⟨_,rfl,ay ?_⟩
     refine⟨_,rfl,_,rfl,R,_,rfl,.inl (af.of e5),rfl,T.rF,?_⟩
     have zi:g9 (.int x'.2) (T.bL wd.toNat (qs.take i))=false:=T.wo fun p hp=> (mx p hp).2
     rw[if_neg Bool.false_ne_true,zi]
     refine⟨_,rfl,ay (eQ ?_)⟩
     dsimp only
     refine bO ⟨_,rfl,_,rfl,_,rfl,R,_,x'.1,x'.1.toNat,rfl,rfl,e5,T.wt x0 (by rw[T.lD];omega),?_⟩
     refine⟨ar,_,_,rfl,T.qk s5 hR,?_⟩
     rw[Zc,T.wk x0,List.take_add_one,jV]
     rfl
    ·have ei:i=qs.length:=by omega
     subst ei
     have xQ:x'=x:=by
      rw[List.getElem?_append_right (Nat.le_refl _),Nat.sub_self]at hx
      exact(Option.some.inj hx).symm
     subst xQ
     rw[List.take_length]at e5 ck ⊢
     have pw:qs.Pairwise fun a b=>a.1≠b.1:=List.Pairwise.imp (fun h=>h.1) df
     have leave:∀e,E (.ref e) (some C) H5:=fun e=>q e _ (s1.trans (aZ.trans s5))
     by_cases hn:T.dG qs x'.1=.aa
     ·rw[hn]
      refine⟨_,rfl,ay ?_⟩
      refine⟨_,rfl,_,rfl,R,_,rfl,.inl (af.of e5),rfl,T.rF,?_⟩
      have jb:p.2=x'.2:=by
       rcases EO with z |z
       ·have:=WK pw hp
        rw[z,hn]at this
        cases this
       ·exact z
      have zi:g9 (.int x'.2) (T.bL wd.toNat qs)=true:=by
       obtain⟨⟨z0,z1⟩,_⟩:=bT p (List.mem_append_left _ hp)
       have h1:=T.lE (W:=wd.toNat) (ps:=qs) (k:=p.1.toNat) (by omega)
       rw[Int.toNat_of_nonneg z0,WK pw hp,jb]at h1
       have hm:=List.mem_of_getElem? h1
       unfold g9
       rw[List.any_eq_true]
       exact⟨_,hm,by show(x'.2==x'.2)=true;simp⟩
      rw[if_neg Bool.false_ne_true,zi]
      exact⟨_,rfl,aH ⟨by show 1≤sizeLine;decide,leave⟩⟩
     ·refine⟨_,rfl,?_⟩
      have hd:decide (T.dG qs x'.1=.aa)=false:=decide_eq_false hn
      rw[hd]
      exact aH (aH ⟨by show 1≤sizeLine;decide,leave⟩)
   ·rintro σ H5 ⟨j7,_⟩
    omega
end
def iQ:V→Bool
 | .int i=>decide (i.natAbs.log2<1920)
 | .bl _=>true
 | .aa=>true
 | .str x=>x== "0" ||x== "01"
 |_=>false
theorem Hg {i:Int}(h0:0≤i) (h1:i≤12):iQ (.int i)=true:=by
 have c:i=0∨i=1∨i=2∨i=3∨i=4∨i=5∨i=6∨i=7∨i=8∨i=9∨i=10∨i=11∨i=12:=by omega
 rcases c with rfl |rfl |rfl |rfl |rfl |rfl |rfl |rfl |rfl |rfl |rfl |rfl |rfl<;>decide
mutual
theorem Hf {H H':Hp}(s:ae H H'):∀{v:V}{d:PyData},Sh H v d→Sh H' v d
 |_,_,.aa=> .aa
 |_,_,.bl b=> .bl b
 |_,_,.int i=> .int i
 |_,_,.str x=> .str x
 |_,_,.tup h r=> .tup (s _ _ h) (qi s r)
 |_,_,.lst h r=> .lst (s _ _ h) (qi s r)
 |_,_,.bD h=> .bD (s _ _ h)
theorem qi {H H':Hp}(s:ae H H'):∀{vs:List V}{ds:List PyData},fv H vs ds→fv H' vs ds
 |_,_,.nil=> .nil
 |_,_,.cons h r=> .cons (Hf s h) (qi s r)
end
theorem UK {H:Hp}{v:V}(h:iQ v=true):∃d:PyData,Sh H v d∧d.showable=true∧d.shown.length≤1921∧d.depth=0∧d.hasDict=false:=by
 cases v with
 |int i=>exact⟨.int i,.int i,h,int_text_len_1921 (of_decide_eq_true h),rfl,rfl⟩
 |bl b=>exact⟨.bool b,.bl b,rfl,by cases b<;>decide,rfl,rfl⟩
 |aa=>exact⟨.none,.aa,rfl,by decide,rfl,rfl⟩
 |str x=>
  have h':(x== "0" ||x== "01")=true:=h
  rw[Bool.or_eq_true,beq_iff_eq,beq_iff_eq]at h'
  refine⟨.str x,.str x,rfl,?_,rfl,rfl⟩
  rcases h' with rfl |rfl<;>decide+kernel
 |_=>cases h
theorem Jb:∀(ts:List Str) (k:Nat) (acc:Str),(textFrom k acc ts).length≤acc.length+piled ts
 | [],k,acc=>by show acc.length≤acc.length+0;omega
 |t::r,k,acc=>by
  have ih:=Jb r (k+1) (acc++(if k>0 then ", " else "" :String)++t)
  have e:(acc++(if k>0 then ", " else "" :String)++t).length=acc.length+(if k>0 then 2 else 0)+t.length:=by
   rw[strLen_append,strLen_append]
   split<;>rfl
  rw[e]at ih
  show(textFrom (k+1) _ r).length≤_
  rw[piled_cons]
  have:(if k>0 then 2 else 0:Nat)≤2:=by split<;>omega
  omega
theorem Hm (ts:List Str):(listText ts).length≤piled ts+2:=by
 unfold listText
 rw[strLen_append]
 have h1:=Jb ts 0 "["
 have e1:((("[" :String):Str)).length=1:=rfl
 have e2:((("]" :String):Str)).length=1:=rfl
 rw[e1]at h1
 rw[e2]
 omega
theorem UI (ts:List Str):(tupleText ts).length≤piled ts+3:=by
 unfold tupleText
 rw[strLen_append,strLen_append]
 have e1:((("(" :String):Str)).length=1:=rfl
 have e3:(((if ts.length==1 then ",)" else ")" :String):Str)).length≤2:=by split<;>decide
 rw[e1]
 cases ts with
 |nil=>
  have:(Str.join ", " ([]:List Str)).length=0:=rfl
  omega
 |cons t r=>
  have:=join_length_add (t::r) (by simp)
  omega
mutual
theorem uS {H H':Hp}{P:Addr}{tp:Array Value}(s:ak P H H') (hp:H P=some (.bh tp)):∀{v:V}{d:PyData},Sh H v d→Sh H' v d
 |_,_,.aa=> .aa
 |_,_,.bl b=> .bl b
 |_,_,.int i=> .int i
 |_,_,.str x=> .str x
 |_,_,.tup h r=> .tup (s _ _ h (fun z=>by rw[z,hp]at h;cases h)) (qh s hp r)
 |_,_,.lst h r=> .lst (s _ _ h (fun z=>by rw[z,hp]at h;cases h)) (qh s hp r)
 |_,_,.bD h=> .bD (s _ _ h (fun z=>by rw[z,hp]at h;cases h))
theorem qh {H H':Hp}{P:Addr}{tp:Array Value}(s:ak P H H') (hp:H P=some (.bh tp)):∀{vs:List V}{ds:List PyData},fv H vs ds→fv H' vs ds
 |_,_,.nil=> .nil
 |_,_,.cons h r=> .cons (uS s hp h) (qh s hp r)
end
structure Rd (H:Hp) (v:V) (d:PyData):Prop where
 sh:Sh H v d
 ok:d.showable=true
 len:d.shown.length≤sizeLine
 dp:d.depth≤60
 bD:d.hasDict=false
theorem Rd.x {H H':Hp}{v:V}{d:PyData}{P:Addr}{tp:Array Value}(r:Rd H v d) (s:ak P H H') (hp:H P=some (.bh tp)):Rd H' v d:=⟨uS s hp r.sh,r.ok,r.len,r.dp,r.bD⟩
def cI:List Nat→Hp→V→Prop
 | [],_,v=>iQ v=true
 |m::ms,H,v=>iQ v=true∨∃(a:Addr) (xs:List V),v=.ref a∧(H a=some (.tup xs)∨H a=some (.lst xs))∧xs.length≤m∧∀y∈xs,cI ms H y
def kQ:List Nat→Nat
 | []=>1921
 |m::ms=>max 1921 (m*(kQ ms+2)+3)
theorem cI.same {H H':Hp}(s:ae H H'):∀{ms:List Nat}{v:V},cI ms H v→cI ms H' v
 | [],_,h=>h
 |_::ms,_,.inl h=> .inl h
 |_::ms,_,.inr ⟨a,xs,e,.inl h,l,hy⟩=> .inr ⟨a,xs,e,.inl (s _ _ h),l,fun y m=>cI.same s (hy y m)⟩
 |_::ms,_,.inr ⟨a,xs,e,.inr h,l,hy⟩=> .inr ⟨a,xs,e,.inr (s _ _ h),l,fun y m=>cI.same s (hy y m)⟩
theorem yM {H:Hp}{B D:Nat} :∀{xs:List V},(∀y∈xs,∃d:PyData,Sh H y d∧d.showable=true∧d.shown.length≤B∧d.depth≤D∧d.hasDict=false)→∃ds:List PyData,fv H xs ds∧PyData.showableAll ds=true∧piled (PyData.shownAll ds)≤xs.length*(B+2)∧PyData.depthAll ds≤D∧PyData.hasDictAll ds=false
 | [],_=> ⟨[],.nil,rfl,Nat.zero_le _,Nat.zero_le _,rfl⟩
 |x::xs,h=>by
  obtain⟨d,a1,a2,a3,a4,a5⟩:=h x List.mem_cons_self
  obtain⟨ds,b1,b2,b3,b4,b5⟩:=yM (xs:=xs) fun y hy=>h y (List.mem_cons_of_mem _ hy)
  refine⟨d::ds,.cons a1 b1,?_,?_,?_,?_⟩
  ·show(d.showable&&PyData.showableAll ds)=true
   rw[a2,b2];rfl
  ·show piled (d.shown::PyData.shownAll ds)≤_
   rw[piled_cons,List.length_cons,Nat.add_mul]
   omega
  ·show max d.depth (PyData.depthAll ds)≤D
   exact Nat.max_le.mpr ⟨a4,b4⟩
  ·show(d.hasDict||PyData.hasDictAll ds)=false
   rw[a5,b5];rfl
theorem UO {H:Hp} :∀{ms:List Nat}{v:V},cI ms H v→∃d:PyData,Sh H v d∧d.showable=true∧d.shown.length≤kQ ms∧d.depth≤ms.length∧d.hasDict=false
 | [],v,h=>by
  obtain⟨d,h1,h2,h3,h4,h5⟩:=UK (H:=H) h
  exact⟨d,h1,h2,h3,by omega,h5⟩
 |m::ms,v,.inl h=>by
  obtain⟨d,h1,h2,h3,h4,h5⟩:=UK (H:=H) h
  exact⟨d,h1,h2,Nat.le_trans h3 (Nat.le_max_left _ _),by omega,h5⟩
 |m::ms,v,.inr ⟨a,xs,e,ha,l,hy⟩=>by
  subst e
  obtain⟨ds,b1,b2,b3,b4,b5⟩:=yM (B:=kQ ms) (D:=ms.length) fun y hm=>UO (hy y hm)
  have I9:piled (PyData.shownAll ds)≤m*(kQ ms+2):=Nat.le_trans b3 (Nat.mul_le_mul_right _ l)
  rcases ha with ha |ha
  ·refine⟨.tuple ds,.tup ha b1,b2,?_,?_,b5⟩
   ·refine Nat.le_trans (UI (PyData.shownAll ds)) (Nat.le_trans ?_ (Nat.le_max_right _ _))
    omega
   ·show PyData.depthAll ds+1≤ms.length+1
    omega
  ·refine⟨.list ds,.lst ha b1,b2,?_,?_,b5⟩
   ·refine Nat.le_trans (Hm (PyData.shownAll ds)) (Nat.le_trans ?_ (Nat.le_max_right _ _))
    omega
   ·show PyData.depthAll ds+1≤ms.length+1
    omega
theorem FH {H:Hp}{v:V}(h:cI [13,3,1] H v):∃d,Rd H v d:=by
 obtain⟨d,h1,h2,h3,h4,h5⟩:=UO h
 have e:kQ [13,3,1]≤sizeLine:=by rw[sizeLine_eq];decide
 exact⟨d,h1,h2,by omega,by have:([13,3,1]:List Nat).length=3:=rfl;omega,h5⟩
def Gd (σ:L2.St) (H0:Hp) (R:Hp→V→Prop) (t:TE):Prop:=∀H1,ae H0 H1→∀Q:VK,(∀v H',ae H1 H'→R H' v→Q v H')→t σ H1 Q
def pq (σ:L2.St) (H0:Hp) (R:Hp→V→Prop) (n:Nat) (t:TA):Prop:=∀H1,ae H0 H1→∀Q:List V→Hp→Prop,(∀vs H',ae H1 H'→vs.length=n→(∀v∈vs,R H' v)→Q vs H')→t σ H1 Q
def LG (R:Hp→V→Prop) (n:Nat) (H:Hp) (v:V):Prop:=∃(L:Addr) (vs:List V),v=.ref L∧H L=some (.lst vs)∧vs.length=n∧∀u∈vs,R H u
section
variable {σ:L2.St}{H0:Hp}{R R':Hp→V→Prop}{t t2:TE}{tr:TA}{n m:Nat}
theorem Ji:pq σ H0 R 0 jE:=fun H1 _ Q q=>q [] H1 (ae.refl _) rfl (fun v hv=>by cases hv)
theorem ZN (hR:∀{H H':Hp}{v:V},R H v→ae H H'→R H' v) (h1:Gd σ H0 R t) (h2:pq σ H0 R n tr):pq σ H0 R (n+1) (iP t tr):=fun H1 s1 Q q=>h1 H1 s1 _ fun v H2 s2 r=>h2 H2 (s1.trans s2) _ fun vs H3 s3 l r'=>q (v::vs) H3 (s2.trans s3) (by rw[List.length_cons,l]) fun u hu=>by
 rcases List.mem_cons.mp hu with rfl |hu
 ·exact hR r s3
 ·exact r' u hu
theorem Wf (hR:∀{H H':Hp}{v:V},R H v→ae H H'→R H' v) (h:pq σ H0 R n tr) (hn:n≤1000):Gd σ H0 (LG R n) (jF tr):=fun H1 s1 Q q=>h H1 s1 _ fun vs H2 s2 l r=> ⟨by rw[l,sizeLine_eq];omega,fun p hp=>q _ _ (s2.trans (ag hp)) ⟨p,vs,rfl,Zc,l,fun u hu=>hR (r u hu) (ag hp)⟩⟩
theorem LG.same (hR:∀{H H':Hp}{v:V},R H v→ae H H'→R H' v) {H H':Hp}{v:V}(h:LG R n H v) (s:ae H H'):LG R n H' v:=by
 obtain⟨L,vs,e,hL,l,r⟩:=h
 exact⟨L,vs,e,s _ _ hL,l,fun u hu=>hR (r u hu) s⟩
theorem W1 (hR:∀{H H':Hp}{v:V},R H v→ae H H'→R H' v) (h1:Gd σ H0 (LG R n) t) (h2:Gd σ H0 (LG R m) t2) (hn:n+m≤1000):Gd σ H0 (LG R (n+m)) (fJ kW t t2):=fun H1 s1 Q q=>h1 H1 s1 _ fun v H2 s2 r1=>h2 H2 (s1.trans s2) _ fun v' H3 s3 r2=>by
 obtain⟨L,vs,rfl,hL,l,r⟩:=LG.same (R:=R) (n:=n) hR r1 s3
 obtain⟨L',pE,rfl,DN,l',r'⟩:=r2
 refine⟨L,L',vs,pE,rfl,rfl,hL,DN,by rw[l,l',sizeLine_eq];omega,fun p hp=>q _ _ (s2.trans (s3.trans (ag hp))) ⟨p,_,rfl,Zc,by rw[List.length_append,l,l'],fun u hu=> ?_⟩⟩
 rcases List.mem_append.mp hu with hu |hu
 ·exact hR (r u hu) (ag hp)
 ·exact hR (r' u hu) (ag hp)
theorem ZQ (h:Gd σ H0 R t) (f:∀H v,ae H0 H→R H v→R' H v):Gd σ H0 R' t:=fun H1 s1 Q q=>h H1 s1 Q fun v H2 s2 r=>q v H2 s2 (f _ _ (s1.trans s2) r)
theorem W0 {i:Nat}{v:V}(h:σ[i]? =some (some v)) (r:∀H,ae H0 H→R H v):Gd σ H0 R (gN i):=fun H1 s1 Q q=> ⟨v,h,q v H1 (ae.refl _) (r H1 s1)⟩
theorem oZ {v:V}(r:∀H,ae H0 H→R H v):Gd σ H0 R (tC v):=fun H1 s1 Q q=>q v H1 (ae.refl _) (r H1 s1)
theorem YQ {xs:List V}(h:∀H1,ae H0 H1→∀Q:List V→Hp→Prop,Q xs H1→tr σ H1 Q) (hn:xs.length≤1000):Gd σ H0 (fun H v=> ∃t:Addr,v=.ref t∧H t=some (.tup xs)) (pM tr):=fun H1 s1 Q q=>h H1 s1 _ ⟨by rw[sizeLine_eq];omega,fun p hp=>q _ _ (ag hp) ⟨p,rfl,Zc⟩⟩
theorem FD {xs:List V}(h:∀H1,ae H0 H1→∀Q:List V→Hp→Prop,Q xs H1→tr σ H1 Q) (hn:xs.length≤1000):Gd σ H0 (fun H v=> ∃t:Addr,v=.ref t∧H t=some (.lst xs)) (jF tr):=fun H1 s1 Q q=>h H1 s1 _ ⟨by rw[sizeLine_eq];omega,fun p hp=>q _ _ (ag hp) ⟨p,rfl,Zc⟩⟩
theorem Ys {A B:Addr}{as bs:List V}{i j:Nat}(hR:∀{H H':Hp}{v:V},R H v→ae H H'→R H' v) (iA:σ[i]? =some (some (.ref A))) (hA:H0 A=some (.lst as)) (iB:σ[j]? =some (some (.ref B))) (hB:H0 B=some (.lst bs)) (hn:as.length+1+bs.length≤1000) (h:Gd σ H0 R t):
  Gd σ H0 (fun H v=> ∃(L:Addr) (e:V),v=.ref L∧H L=some (.lst (as++[e]++bs))∧R H e) (fJ kW (fJ kW (gN i) (jF (iP t jE))) (gN j)):=fun H1 s1 Q q=>by
 refine⟨_,iA,h H1 s1 _ fun e H2 s2 r=> ⟨(by show 1≤sizeLine;decide),fun p hp=> ?_⟩⟩
 have u1:=ag (o:=.lst [e]) hp
 refine⟨A,p,as,[e],rfl,rfl,(s1.trans (s2.trans u1)) _ _ hA,Zc,by rw[sizeLine_eq];simp;omega,fun p2 hJ=> ⟨_,iB,?_⟩⟩
 have u2:=ag (o:=.lst (as++[e])) hJ
 refine⟨p2,B,as++[e],bs,rfl,rfl,Zc,(s1.trans (s2.trans (u1.trans u2))) _ _ hB,by rw[sizeLine_eq,List.length_append];simp;omega,fun p3 jc=> ?_⟩
 have u3:=ag (o:=.lst (as++[e]++bs)) jc
 exact q _ _ (s2.trans (u1.trans (u2.trans u3))) ⟨p3,e,rfl,Zc,hR r (u1.trans (u2.trans u3))⟩
theorem yI {A:Addr}{as:List V}{i:Nat}(hR:∀{H H':Hp}{v:V},R H v→ae H H'→R H' v) (iA:σ[i]? =some (some (.ref A))) (hA:H0 A=some (.lst as)) (hn:as.length+1≤1000) (h:Gd σ H0 R t):
  Gd σ H0 (fun H v=> ∃(L:Addr) (e:V),v=.ref L∧H L=some (.lst (as++[e]))∧R H e) (fJ kW (gN i) (jF (iP t jE))):=fun H1 s1 Q q=>by
 refine⟨_,iA,h H1 s1 _ fun e H2 s2 r=> ⟨(by show 1≤sizeLine;decide),fun p hp=> ?_⟩⟩
 have u1:=ag (o:=.lst [e]) hp
 refine⟨A,p,as,[e],rfl,rfl,(s1.trans (s2.trans u1)) _ _ hA,Zc,by rw[sizeLine_eq];simp;omega,fun p2 hJ=> ?_⟩
 have u2:=ag (o:=.lst (as++[e])) hJ
 exact q _ _ (s2.trans (u1.trans u2)) ⟨p2,e,rfl,Zc,hR r (u1.trans u2)⟩
end
end U
namespace U
open PySem L2 PyProof.Rows
theorem Gd.run {σ:L2.St}{H:Hp}{R:Hp→V→Prop}{t:TE}{Q:VK}(h:Gd σ H R t) (q:∀v H',ae H H'→R H' v→Q v H'):t σ H Q:=h H (ae.refl _) Q q
theorem gK.same {K:PySem.W.Frag}{wd hg:Int}{H H':Hp}{v:V}(b:gK K wd hg H v) (s:ae H H'):gK K wd hg H' v:=by
 rcases b with (b |⟨a,xs,e,h⟩) |⟨L,ps,e,hL,l,pl,u,hu,eu⟩ |⟨L,ps,qs,x,e,hL,pr,r⟩
 ·exact .inl (.inl b)
 ·exact .inl (.inr ⟨a,xs,e,s _ _ h⟩)
 ·exact .inr (.inl ⟨L,ps,e,s _ _ hL,l,fun u hu=> (pl u hu).same s,u,hu,by rw[Z1 (pl u hu).1 s];exact eu⟩)
 ·exact .inr (.inr ⟨L,ps,qs,x,e,s _ _ hL,Paired.aX pr fun v q h=>h.same s,r⟩)
theorem gK.x {K:PySem.W.Frag}{wd hg:Int}{H H':Hp}{v:V}{P:Addr}{tp:Array Value}(b:gK K wd hg H v) (s:ak P H H') (hp:H P=some (.bh tp)):gK K wd hg H' v:=by
 rcases b with (b |⟨a,xs,e,h⟩) |⟨L,ps,e,hL,l,pl,u,hu,eu⟩ |⟨L,ps,qs,x,e,hL,pr,r⟩
 ·exact .inl (.inl b)
 ·exact .inl (.inr ⟨a,xs,e,s _ _ h (fun z=>by rw[z,hp]at h;cases h)⟩)
 ·exact .inr (.inl ⟨L,ps,e,s _ _ hL (fun z=>by rw[z,hp]at hL;cases hL),l,fun u hu=>W7 (pl u hu) s (YD (pl u hu) hp),u,hu,by rw[Yy (pl u hu).1 s (YD (pl u hu) hp).1];exact eu⟩)
 ·refine .inr (.inr ⟨L,ps,qs,x,e,s _ _ hL (fun z=>by rw[z,hp]at hL;cases hL),Paired.aX pr fun v q h=> ?_,r⟩)
  obtain⟨t,e,ht⟩:=h
  exact⟨t,e,s _ _ ht (fun z=>by rw[z,hp]at ht;cases ht)⟩
def It (K:PySem.W.Frag) (H:Hp) (e:V):Prop:=cC K H e∧cI [3,1] H e
def bH (K:PySem.W.Frag) (wd hg:Int) (H:Hp) (e:V):Prop:=It K H e∧gn wd hg (aC H e)=false
def Gp (K:PySem.W.Frag) (wd hg:Int) (H:Hp) (v:V):Prop:=gK K wd hg H v∧cI [13,3,1] H v
section
variable {K:PySem.W.Frag}{wd hg:Int}{H H':Hp}
theorem It.same {e:V}(h:It K H e) (s:ae H H'):It K H' e:=⟨h.1.same s,h.2.same s⟩
theorem bH.same {e:V}(h:bH K wd hg H e) (s:ae H H'):bH K wd hg H' e:=⟨h.1.same s,by rw[Z1 h.1.1.1 s];exact h.2⟩
theorem Gp.same {v:V}(h:Gp K wd hg H v) (s:ae H H'):Gp K wd hg H' v:=⟨h.1.same s,h.2.same s⟩
theorem WX {t:Addr}{xs:List V}(h:H t=some (.tup xs)) (l:xs.length≤3) (hy:∀y∈xs,bN K H y∧cI [1] H y):It K H (.ref t):=
 ⟨⟨⟨_,.tup h⟩,fun ys e y m=>by rw[Zo h]at e;cases e;exact(hy y m).1⟩,.inr ⟨t,xs,rfl,.inl h,l,fun y m=> (hy y m).2⟩⟩
theorem FQ {t:Addr}{xs:List V}(h:H t=some (.lst xs)) (l:xs.length≤3) (hy:∀y∈xs,cI [1] H y):bH K wd hg H (.ref t):=by
 have e0:aC H (.ref t)=none:=by rw[Zp,h];rfl
 exact⟨⟨⟨⟨_,.lst h⟩,fun ys e=>by rw[e0]at e;cases e⟩,.inr ⟨t,xs,rfl,.inr h,l,hy⟩⟩,by rw[e0];rfl⟩
theorem tY {v:V}(h:iQ v=true):bH K wd hg H v:=by
 have e0:aC H v=none:=by cases v<;>first |rfl |cases h
 refine⟨⟨⟨?_,fun ys e=>by rw[e0]at e;cases e⟩,.inl h⟩,by rw[e0];rfl⟩
 cases v with
 |int i=>exact⟨_,.int i⟩
 |bl b=>exact⟨_,.bl b⟩
 |aa=>exact⟨_,.aa⟩
 |str x=>exact⟨_,.str x⟩
 |_=>cases h
theorem rq {i:Int}(h0:0≤i) (h1:i≤12):bN K H (.int i)∧cI [1] H (.int i):=⟨⟨_,.int i⟩,.inl (Hg h0 h1)⟩
theorem UR {ls:List V}{qs:List (Int×Int)}(pr:Paired (aM H) ls qs) (bT:T.gG wd hg qs) (w2:wd≤12) (g2:hg≤12):∀u∈ls,It K H u:=fun u hu=>by
 obtain⟨i,hi,e⟩:=List.getElem_of_mem hu
 obtain⟨q,hq,t,rfl,ht⟩:=Z6 pr (show ls[i]? =some u by rw[List.getElem?_eq_getElem hi,e])
 obtain⟨⟨x0,x1⟩,y0,y1⟩:=bT q (List.mem_of_getElem? hq)
 refine WX ht (by simp) fun y hy=> ?_
 simp only[List.mem_cons,List.not_mem_nil,or_false]at hy
 rcases hy with rfl |rfl
 ·exact rq x0 (by omega)
 ·exact rq y0 (by omega)
theorem Yr {H0:Hp}{as bs:List V}(ha:∀u∈as,It K H0 u) (hb:∀u∈bs,It K H0 u) (l:as.length+1+bs.length≤13):∀H v,ae H0 H→(∃(L:Addr) (e:V),v=.ref L∧H L=some (.lst (as++[e]++bs))∧bH K wd hg H e)→Gp K wd hg H v:=fun H v s ⟨L,e,ev,hL,hi⟩=>by
 subst ev
 have len:(as++[e]++bs).length≤13:=by rw[List.length_append,List.length_append];simp;omega
 have all:∀u∈as++[e]++bs,It K H u:=fun u hu=>by
  rcases List.mem_append.mp hu with hu |hu
  ·rcases List.mem_append.mp hu with hu |hu
   ·exact(ha u hu).same s
   ·rw[List.mem_singleton.mp hu];exact hi.1
  ·exact(hb u hu).same s
 exact⟨.inr (.inl ⟨L,_,rfl,hL,by omega,fun u hu=> (all u hu).1,e,by simp,hi.2⟩),.inr ⟨L,_,rfl,.inr hL,len,fun u hu=> (all u hu).2⟩⟩
theorem yJ {H0:Hp}{ls:List V}{qs:List (Int×Int)}{x:Int×Int}(pr:Paired (aM H0) ls qs) (bT:T.gG wd hg qs) (df:T.gJ qs) (w2:wd≤12) (g2:hg≤12) (l:qs.length≤12) (hx:(0≤x.1∧x.1<wd)∧0≤x.2∧x.2<hg) (cl:∃p∈qs,p.1=x.1∨p.2=x.2):
  ∀H v,ae H0 H→(∃(L:Addr) (e:V),v=.ref L∧H L=some (.lst (ls++[e]))∧∃t:Addr,e=.ref t∧H t=some (.tup [.int x.1,.int x.2]))→Gp K wd hg H v:=fun H v s ⟨L,e,ev,hL,hi⟩=>by
 subst ev
 have lh:Paired (aM H) (ls++[e]) (qs++[x]):=Paired.snoc (Paired.aX pr fun v q h=>h.same s) hi
 have wx:T.gG wd hg (qs++[x]):=fun q hq=>by
  rcases List.mem_append.mp hq with hq |hq
  ·exact bT q hq
  ·rw[List.mem_singleton.mp hq];exact hx
 have ll:=Paired.length pr
 exact⟨.inr (.inr ⟨L,_,qs,x,rfl,hL,lh,wx,df,l,cl⟩),.inr ⟨L,_,rfl,.inr hL,by rw[List.length_append];simp;omega,fun u hu=> (UR (K:=K) lh wx w2 g2 u hu).2⟩⟩
end
section
variable {P:Program}{w:World}{K:PySem.W.Frag}{mg:Str→Option Value}{base:Heap}
abbrev jO:Stmt:=top 39
def jT:List Lit:=[.sc (.int (-1)),.sc (.bl true),.sc .aa,.sc (.str "0"),.tup [.int 0],.sc (.int (10^(29:Int).toNat)),.sc (.bl false),.lst [.int 0]]
def mK (K:PySem.W.Frag) (H:Hp) (v:V):Prop:=(∀m:Int,m≤12→av v 0 m=false)∧bN K H v∧cI [1] H v
theorem mK.same {H H':Hp}{v:V}(h:mK K H v) (s:ae H H'):mK K H' v:=⟨h.1,s.iY h.2.1,h.2.2.same s⟩
theorem GF {H:Hp}{v:V}{l:Lit}(hl:l∈jT) (h:dz H v l):mK K H v:=by
 have hp:gj l=true:=List.all_eq_true.mp (show jT.all gj=true by decide+kernel) l hl
 refine⟨fun m hm=> ?_,(Wb hp h).1,?_⟩
 ·simp only[jT,List.mem_cons,List.not_mem_nil,or_false]at hl
  rcases hl with rfl |rfl |rfl |rfl |rfl |rfl |rfl |rfl
  ·rw[show v=_ from h];rfl
  ·rw[show v=_ from h];rfl
  ·rw[show v=_ from h];rfl
  ·rw[show v=_ from h];rfl
  ·obtain⟨a,e,_⟩:=h;rw[e];rfl
  ·rw[show v=_ from h]
   show(decide ((0:Int)≤10^(29:Int).toNat)&&decide ((10:Int)^(29:Int).toNat≤m))=false
   have:¬(10:Int)^(29:Int).toNat≤m:=by
    have:(10:Int)^(29:Int).toNat=100000000000000000000000000000:=by decide
    omega
   rw[decide_eq_false this,Bool.and_false]
  ·rw[show v=_ from h];rfl
  ·obtain⟨a,e,_⟩:=h;rw[e];rfl
 ·simp only[jT,List.mem_cons,List.not_mem_nil,or_false]at hl
  rcases hl with rfl |rfl |rfl |rfl |rfl |rfl |rfl |rfl
  ·rw[show v=_ from h];exact .inl (by decide)
  ·rw[show v=_ from h];exact .inl (by decide)
  ·rw[show v=_ from h];exact .inl (by decide)
  ·rw[show v=_ from h];exact .inl (by decide)
  ·obtain⟨a,e,h1⟩:=h;exact .inr ⟨a,_,e,.inl h1,by simp,fun y hy=>by rw[List.mem_singleton.mp hy];exact(show iQ (V.int 0)=true by decide)⟩
  ·rw[show v=_ from h];exact .inl (by decide)
  ·rw[show v=_ from h];exact .inl (by decide)
  ·obtain⟨a,e,h1⟩:=h;exact .inr ⟨a,_,e,.inr h1,by simp,fun y hy=>by rw[List.mem_singleton.mp hy];exact(show iQ (V.int 0)=true by decide)⟩
def rf:List Expr:=match bu jO with |_::_:: .Assign _ (.Subscript (.List es _) _ _) _::_=>es |_=> []
def Bt (a:List Expr):List Stmt:=match bu jO with
 |s0::s1:: .Assign x (.Subscript (.List _ p1) z p2) p3::r=>s0::s1:: .Assign x (.Subscript (.List a p1) z p2) p3::r
 |_=> []
theorem GL:bu jO=Bt rf:=by kernel_rfl
theorem FZ:litsOf rf=some jT:=by kernel_rfl
def pW (K:PySem.W.Frag):Sp:=fun vs H Q _=> ∃(p b M:Addr) (wd hg:Int) (ms:List V) (qs:List (Int×Int)),vs=[.ref p,.ref b,.ref M]∧aY H p∧cY H (.ref b) wd hg∧H M=some (.lst ms)∧M≠p∧Paired (aM H) ms qs∧T.gG wd hg qs∧T.gJ qs∧qs.length≤12∧
 ∀v H',ak p H H'→aY H' p→gK K wd hg H' v→(∃d,Rd H' v d)→Q v H'
abbrev BH:List Str:=["_law_state_here", "_law_board_here", "_law_some", "_law_way", "_law_at", "_law_to", "_law_wide", "_law_high", "_law_odd", "_law_line", "_law_row", "_law_ahead", "_law_behind", "_law_rows"]
theorem dD:bI BH ["_law_state_here", "_law_board_here", "_law_some"] (au jO):=⟨rfl,rfl,rfl,by decide+kernel,rfl,by decide+kernel,by decide+kernel⟩
theorem FA {xs:List V}{k:Nat}(h:k≤xs.length):dw xs none (some (k:Int))=xs.take k:=by
 unfold dw
 rw[HT.nV,HT.jP,List.drop_zero,Nat.sub_zero,Nat.min_eq_left h]
theorem UE {xs:List V}{k:Nat}(h:k≤xs.length):dw xs (some (k:Int)) none=xs.drop k:=by
 unfold dw
 rw[HT.nV,HT.jP,Nat.min_eq_left h]
 exact List.take_of_length_le (by rw[List.length_drop];omega)
theorem Gi {f:Addr}{fd:FuncData}(F:aK K "_law_no_points" "_law_no_points" jO f fd) (G:Gs mg) (D1:Def P w K mg base 1 "_law_take" ["_law_state_here", "_law_many"] gP):az P w K mg base aE 2 f fd ["_law_state_here", "_law_board_here", "_law_some"] (pW K):=by
 refine F.ok dD (fun vs H Q E h=> ?_) (fun ao A outer s H vs Q E hr h=> ?_)
 ·obtain⟨p,b,M,wd,hg,ms,qs,rfl,_⟩:=h
  rfl
 ·obtain⟨p,b,M,wd,hg,ms,qs,rfl,st,bd,hM,nM,pr,bT,df,hlen,q⟩:=h
  rw[GL]
  have i1:=FZ
  generalize rf=xS at i1
  refine⟨_,Zd (Jf (i:=3) (j:=4) (k:=5) rfl dD.nd rfl rfl rfl rfl rfl rfl
    (Za (Zi D1 hr (Za (pv 0) (Za Zh Zb))) (Za (Zi D1 hr (Za (pv 0) (Za Zh Zb))) (Za (Zi D1 hr (Za (pv 0) (Za Zh Zb))) Zb))))
   (Zd (Yv (pv 1) (Yc rfl (Zt (ZF (i:=6) dD.nd rfl (Or.inl rfl)) (Zt (ZF (i:=7) dD.nd rfl (Or.inl rfl)) ZW))))
   (Zd (Zs (i:=8) dD.nd rfl (Or.inl rfl) (ZG ZC (Zl (YC (ls:=jT) i1)) (Zi D1 hr (Za (pv 0) (Za Zh Zb))) (fun _ _=>rfl)))
   (Zd (ZM (ZA (U4 hr.pF) (pv 2) (Zl Zb) (bz _)) (Zk (Zs (i:=2) dD.nd rfl (Or.inl rfl) (Zl (Za (Zz (Za (Zj ZU (pv 4) (pv 6)) (Za (Zj ZU (pv 5) (pv 7)) Zb))) Zb)))) Zu)
   (Zd (Zs (i:=4) dD.nd rfl (Or.inl rfl) (Zj ZU (pv 4) (Zg Zq rfl G.len boot_len (Za (pv 2) Zb))))
   (Zd (Yv (ZG ZC (pv 2) (pv 4) (fun _ _=>rfl)) (Yc rfl (Zt (ZF (i:=9) dD.nd rfl (Or.inl rfl)) (Zt (ZF (i:=10) dD.nd rfl (Or.inl rfl)) ZW))))
   (Zd (J4 (i:=11) (j:=12) rfl dD.nd rfl rfl (by decide) rfl rfl (Za (Yd W5 (pv 2) Yn (Ym (pv 4))) (Za (Yd W5 (pv 2) (Ym (Zj Z2 (pv 4) Zh)) Yn) Zb)) rfl)
   (Zd (Zs (i:=13) dD.nd rfl (Or.inl rfl) (Zl (Za (Zj Zy (Zj Zy (pv 11) (Zl (Za (Zz (Za (pv 8) (Za (pv 10) Zb))) Zb))) (pv 12)) (Za (Zj Zy (Zj Zy (pv 11) (Zl (Za (Zz (Za (pv 9) (Za (pv 8) Zb))) Zb))) (pv 12)) (Za (Zj Zy (Zj Zy (pv 11) (Zl (Za (Zz (Za (pv 6) (Za (pv 10) Zb))) Zb))) (pv 12)) (Za (ZR Yi rfl G.tuple boot_tuple (Za (pv 2) Zb)) Zb))))))
   (Zd (Zs (i:=13) dD.nd rfl (Or.inl rfl) (Zj Zy (pv 13) (Zl (Za (Zj Zy (Zj Zy (pv 11) (Zl (Za (Zz (Za (pv 9) (Za (pv 7) Zb))) Zb))) (pv 12)) (Za (Zj Zy (Zj Zy (pv 11) (Zl (Za (Zl (Za (pv 9) (Za (pv 10) Zb))) Zb))) (pv 12)) (Za (Zj Zy (Zj Zy (pv 11) (Zl (Za (Zz (Za (pv 9) (Za (pv 10) (Za Zh Zb)))) Zb))) (pv 12)) Zb))))))
   (Zd (Zs (i:=13) dD.nd rfl (Or.inl rfl) (Zj Zy (pv 13) (Zl (Za (Zj Zy (pv 2) (Zl (Za (Zz (Za (pv 9) (Za (Zj ZU (Zj Z2 (pv 10) Zh) (pv 7)) Zb))) Zb))) (Za (Zj Zy (pv 2) (Zl (Za (Zz (Za (Zj ZU (Zj Z2 (pv 9) Zh) (pv 6)) (Za (pv 10) Zb))) Zb))) (Za ZX Zb))))))
   (Zd (Zs (i:=13) dD.nd rfl (Or.inl rfl) (Zj Zy (pv 13) (Zl (Za (Zj Zy (Zj Zy (pv 11) (Zl (Za ZX Zb))) (pv 12)) (Za (Zj Zy (Zj Zy (pv 11) (Zl (Za Zh Zb))) (pv 12)) (Za (Zj Zy (Zj Zy (pv 11) (Zl (Za Yw Zb))) (pv 12)) Zb))))))
   (Zk (ZB (ZG ZC (pv 13) (pv 3) (fun _ _=>rfl)))))))))))))),?_⟩
  obtain⟨sO,w1,w2,g1,g2⟩:=id bd
  have hb:H b=some (.tup [.int wd,.int hg]):=by
   obtain⟨a,e,h⟩:=Zx sO
   cases e
   exact h
  obtain⟨u0,v0,ep,_⟩:=id st
  have jg:b≠p:=Y0 hb ep (by intro z;cases z)
  refine⟨_,rfl,p,13,rfl,st,by decide,by decide,fun r1 o1 a1 a2 cN=> ?_⟩
  refine⟨_,rfl,p,12,rfl,cN,by decide,by decide,fun r2 o2 a3 a4 bS=> ?_⟩
  refine⟨_,rfl,p,12,rfl,bS,by decide,by decide,fun r3 o3 a5 a6 cq=> ⟨_,_,_,rfl,?_⟩⟩
  have x3:ak p H (upd (upd (upd H p o1) p o2) p o3):=(ak.upd.trans ak.upd).trans ak.upd
  generalize upd (upd (upd H p o1) p o2) p o3=H3 at cq x3
  have ji:=x3 _ _ hb jg
  dsimp only[List.set]
  refine aF ⟨_,rfl,b,_,rfl,ai.of ji,rfl,_,_,rfl,_,_,rfl,rfl,?_⟩
  dsimp only[List.set]
  refine aF (bO (fun cQ H4 s4 lg n4=> ?_))
  have lo:cQ.length=8:=Paired.length lg
  refine⟨by rw[lo];decide,fun L4 dJ=> ?_⟩
  have s5:ae H4 (upd H4 L4 (.lst cQ)):=ag dJ
  have e5:upd H4 L4 (.lst cQ) L4=some (.lst cQ):=Zc
  generalize upd H4 L4 (HO.lst cQ)=H5 at s5 e5
  have iU:ae H3 H5:=s4.trans s5
  refine⟨_,rfl,p,8,rfl,cq.same iU,by decide,by decide,fun r4 o4 a7 a8 dY=> ?_⟩
  obtain⟨u3,v3,jn,_⟩:=id cq
  have rB:L4≠p:=fun z=>by rw[z,s4 _ _ jn]at dJ;cases dJ
  have ar:r4.toNat<cQ.length:=by rw[lo];omega
  have dc:=List.getElem?_eq_getElem ar
  have ck:=ZK dc
  rw[Int.toNat_of_nonneg a7]at ck
  have iN:ak p H5 (upd H5 p o4):=ak.upd
  refine⟨L4,_,_,_,rfl,rfl,af.of (by rw[Ze rB];exact e5),ck,bV ?_⟩
  obtain⟨lt,C3,oY⟩:=Paired.at lg dc
  generalize CP:cQ[r4.toNat]=od at dc oY
  have odd:mK K (upd H5 p o4) od:=by
   refine GF (List.mem_of_getElem? C3) ?_
   have cG:=oY.same s5
   cases lt with
   |sc v=>exact cG
   |tup xs=>
    obtain⟨a,e,h⟩:=cG
    exact⟨a,e,iN _ _ h fun z=>by rw[z,iU _ _ jn]at h;cases h⟩
   |lst xs=>
    obtain⟨a,e,h⟩:=cG
    refine⟨a,e,iN _ _ h fun z=> ?_⟩
    have:=n4 a (by rw[←e];exact List.mem_of_getElem? dc)
    rw[z,jn]at this
    cases this
   |bD=>
    obtain⟨a,e,h⟩:=cG
    exact⟨a,e,iN _ _ h fun z=>by rw[z,iU _ _ jn]at h;cases h⟩
  have x6:ak p H (upd H5 p o4):=(x3.trans iU.x).trans iN
  generalize upd H5 p o4=H6 at dY x6 odd
  dsimp only[List.set]
  have xq:=x6 _ _ hM nM
  have vF:Paired (aM H6) ms qs:=Paired.aX pr fun v q' hq=>by
   obtain⟨t,e,ht⟩:=hq
   exact⟨t,e,x6 _ _ ht fun z=>by rw[z,ep]at ht;cases ht⟩
  refine T.uF (fun σ H7=> ∃(L:Addr) (ls:List V) (qs:List (Int×Int)),σ=[some (.ref p),some (.ref b),some (.ref L),some (.int r1),some (.int r2),some (.int r3),some (.int wd),some (.int hg),some od,none,none,none,none,none]∧ae H6 H7∧H7 L=some (.lst ls)∧Paired (aM H7) ls qs∧T.gG wd hg qs∧T.gJ qs∧0<qs.length∧qs.length≤12) ?_ ?_
  case refine_2=>
   intro D' hD
   refine⟨_,rfl,Nat.zero_le _,fun L7 DK=> ?_⟩
   have s7:=ag (o:=.lst []) DK
   have e7:upd H6 L7 (.lst []) L7=some (.lst []):=Zc
   generalize upd H6 L7 (HO.lst [])=H7 at s7 e7
   refine⟨M,L7,ms,rfl,rfl,af.of (s7 _ _ xq),af.of e7,_,rfl,?_⟩
   have lm:ms.length=qs.length:=Paired.length vF
   cases ms with
   |cons m0 mr=>
    refine ay (eQ (hD _ _ ⟨M,_,qs,rfl,s7,s7 _ _ xq,Paired.aX vF fun v q' h=>h.same s7,bT,df,by rw[←lm];simp,hlen⟩))
   |nil=>
    refine aH (bO ⟨_,rfl,_,rfl,_,_,rfl,rfl,by omega,_,rfl,_,rfl,_,_,rfl,rfl,by omega,(by show 2≤sizeLine;decide),fun t8 rX=> ?_⟩)
    have s8:=ag (o:=.tup [V.int (r2%wd),V.int (r3%hg)]) rX
    have e8:upd H7 t8 (.tup [V.int (r2%wd),V.int (r3%hg)]) t8=some (.tup [V.int (r2%wd),V.int (r3%hg)]):=Zc
    generalize upd H7 t8 (HO.tup [V.int (r2%wd),V.int (r3%hg)])=H8 at s8 e8
    refine⟨(by show 1≤sizeLine;decide),fun L9 mi=>bV ?_⟩
    have s9:=ag (o:=.lst [V.ref t8]) mi
    refine hD _ _ ⟨L9,[.ref t8],[(r2%wd,r3%hg)],rfl,s7.trans (s8.trans s9),Zc,.cons ⟨t8,rfl,s9 _ _ e8⟩ .nil,fun q' hq=> ?_,List.pairwise_singleton _ _,by simp,by simp⟩
    rw[List.mem_singleton.mp hq]
    exact⟨⟨Int.emod_nonneg _ (by omega),Int.emod_lt_of_pos _ (by omega)⟩,Int.emod_nonneg _ (by omega),Int.emod_lt_of_pos _ (by omega)⟩
  rintro σ H7 ⟨L,ls,qs,rfl,s7,hL,kZ,bT,df,wJ,hlen⟩
  have ll:ls.length=qs.length:=Paired.length kZ
  refine aF (bO ⟨_,rfl,_,rfl,L,ls,rfl,.inl (af.of hL),_,_,rfl,rfl,by omega,bV ?_⟩)
  dsimp only[List.set]
  obtain⟨k,hk⟩:=Int.eq_ofNat_of_zero_le (Int.emod_nonneg r2 (show(ls.length:Int)≠0 by omega))
  have il:k<ls.length:=by
   have:=Int.emod_lt_of_pos r2 (show(0:Int)< (ls.length:Int) by omega)
   omega
  rw[hk]
  have ck:=List.getElem?_eq_getElem il
  obtain⟨x,hx,px⟩:=Z6 kZ ck
  obtain⟨⟨x0,x1⟩,y0,y1⟩:=bT x (List.mem_of_getElem? hx)
  obtain⟨t,et,ht⟩:=px
  rw[et]at ck
  refine aF ⟨_,rfl,_,rfl,L,ls,_,_,rfl,rfl,af.of hL,ZK ck,t,_,rfl,ai.of ht,rfl,_,_,rfl,_,_,rfl,rfl,?_⟩
  dsimp only[List.set]
  refine aF ⟨_,rfl,_,rfl,_,rfl,L,ls,rfl,af.of hL,fun A8 Eb=> ?_⟩
  rw[FA (by omega)]at *
  have s8:=ag (o:=.lst (ls.take k)) Eb
  have e8:upd H7 A8 (.lst (ls.take k)) A8=some (.lst (ls.take k)):=Zc
  generalize upd H7 A8 (HO.lst (ls.take k))=H8 at s8 e8
  refine⟨_,rfl,_,rfl,_,_,rfl,rfl,_,rfl,L,ls,rfl,af.of (s8 _ _ hL),fun B9 Ea=> ⟨_,_,rfl,?_⟩⟩
  have ec:dw ls (some ((k:Int)+1)) none=ls.drop (k+1):=UE (k:=k+1) (by omega)
  rw[ec]
  have s9:=ag (o:=.lst (ls.drop (k+1))) Ea
  have e9:upd H8 B9 (.lst (ls.drop (k+1))) B9=some (.lst (ls.drop (k+1))):=Zc
  generalize upd H8 B9 (HO.lst (ls.drop (k+1)))=H9 at s9 e9
  dsimp only[List.set]
  have nY:=s8.trans s9
  have gA:=s9 _ _ e8
  have mi:=nY _ _ hL
  have vD:Paired (aM H9) ls qs:=Paired.aX kZ fun v q' h=>h.same nY
  have rK:=UR (K:=K) vD bT w2 g2
  have rb:=odd.same (s7.trans nY)
  have ia:∀u∈ls.take k,It K H9 u:=fun u hu=>rK u (List.mem_of_mem_take hu)
  have ib:∀u∈ls.drop (k+1),It K H9 u:=fun u hu=>rK u (List.mem_of_mem_drop hu)
  have gm:(ls.take k).length+1+(ls.drop (k+1)).length≤13:=by rw[List.length_take,List.length_drop];omega
  have ff:∀{H':Hp}{i:Int},0≤i→i≤12→bN K H' (.int i)∧cI [1] H' (.int i):=fun h0 h1=>rq h0 h1
  have wf:∀{i m:Int},m<i→av (.int i) 0 m=false:=fun {i m} h=>by
   show(decide ((0:Int)≤i)&&decide (i≤m))=false
   rw[decide_eq_false (show ¬i≤m by omega),Bool.and_false]
  have two:∀{H':Hp}{v:V}{a c:V},(∃t:Addr,v=.ref t∧H' t=some (.tup [a,c]))→(bN K H' a∧cI [1] H' a)→(bN K H' c∧cI [1] H' c)→(av a 0 (wd - 1)=false∨av c 0 (hg - 1)=false)→bH K wd hg H' v:=by
   rintro H' v a c ⟨t,rfl,ht⟩ ha hc hf
   refine⟨WX ht (by simp) fun y hy=> ?_,?_⟩
   ·simp only[List.mem_cons,List.not_mem_nil,or_false]at hy
    rcases hy with rfl |rfl
    ·exact ha
    ·exact hc
   ·rw[Zo ht]
    show(av a 0 (wd - 1)&&av c 0 (hg - 1))=false
    rcases hf with hf |hf
    ·rw[hf,Bool.false_and]
    ·rw[hf,Bool.and_false]
  have vQ:∀{H':Hp},ae H9 H'→bN K H' od∧cI [1] H' od:=fun s'=> (rb.same s').2
  refine aF (bO (Gd.run (R:=LG (Gp K wd hg) 4) (Wf Gp.same (ZN Gp.same (ZQ (Ys (R:=bH K wd hg) bH.same rfl gA rfl e9 (by omega) (ZQ (YQ (xs:=[od,.int x.2]) (fun H1 s1 Q q=> ⟨_,rfl,_,rfl,q⟩) (by simp)) fun H' v s' h=>two h (vQ s') (ff y0 (by omega)) (.inl (rb.1 _ (by omega))))) (Yr ia ib gm))
   (ZN Gp.same (ZQ (Ys (R:=bH K wd hg) bH.same rfl gA rfl e9 (by omega) (ZQ (YQ (xs:=[.int x.1,od]) (fun H1 s1 Q q=> ⟨_,rfl,_,rfl,q⟩) (by simp)) fun H' v s' h=>two h (ff x0 (by omega)) (vQ s') (.inr (rb.1 _ (by omega))))) (Yr ia ib gm))
   (ZN Gp.same (ZQ (Ys (R:=bH K wd hg) bH.same rfl gA rfl e9 (by omega) (ZQ (YQ (xs:=[.int wd,.int x.2]) (fun H1 s1 Q q=> ⟨_,rfl,_,rfl,q⟩) (by simp)) fun H' v s' h=>two h (ff (by omega) (by omega)) (ff y0 (by omega)) (.inl (wf (by omega))))) (Yr ia ib gm))
   (ZN Gp.same (fun H1 s1 Q q=> ⟨_,rfl,L,ls,rfl,.inl ⟨af.of (s1 _ _ mi),fun l hl=>q _ _ (ag hl) ⟨.inl (.inr ⟨l,ls,rfl,Zc⟩),.inr ⟨l,ls,rfl,.inl Zc,by omega,fun u hu=> ((rK u hu).same (s1.trans (ag hl))).2⟩⟩⟩⟩) Ji)))) (by decide)) fun v10 iL bt Bc=>bV ?_))
  dsimp only[List.set]
  have rQ:∀u∈ls.take k,It K iL u:=fun u hu=> (ia u hu).same bt
  have rO:∀u∈ls.drop (k+1),It K iL u:=fun u hu=> (ib u hu).same bt
  refine aF (bO (Gd.run (R:=LG (Gp K wd hg) (4+3)) (W1 Gp.same (W0 rfl fun H' s'=>LG.same (R:=Gp K wd hg) (n:=4) Gp.same Bc s') (Wf Gp.same (ZN Gp.same (ZQ (Ys (R:=bH K wd hg) bH.same rfl (bt _ _ gA) rfl (bt _ _ e9) (by omega) (ZQ (YQ (xs:=[.int x.1,.int hg]) (fun H1 s1 Q q=> ⟨_,rfl,_,rfl,q⟩) (by simp)) fun H' v s' h=>two h (ff x0 (by omega)) (ff (by omega) (by omega)) (.inr (wf (by omega))))) (Yr rQ rO gm))
   (ZN Gp.same (ZQ (Ys (R:=bH K wd hg) bH.same rfl (bt _ _ gA) rfl (bt _ _ e9) (by omega) (ZQ (FD (xs:=[.int x.1,.int x.2]) (fun H1 s1 Q q=> ⟨_,rfl,_,rfl,q⟩) (by simp)) fun H' v s' h=>by
     obtain⟨t,rfl,ht⟩:=h
     exact FQ ht (by simp) fun y hy=>by
      simp only[List.mem_cons,List.not_mem_nil,or_false]at hy
      rcases hy with rfl |rfl
      ·exact(ff (H':=H') x0 (by omega)).2
      ·exact(ff (H':=H') y0 (by omega)).2)) (Yr rQ rO gm))
   (ZN Gp.same (ZQ (Ys (R:=bH K wd hg) bH.same rfl (bt _ _ gA) rfl (bt _ _ e9) (by omega) (ZQ (YQ (xs:=[.int x.1,.int x.2,.int 0]) (fun H1 s1 Q q=> ⟨_,rfl,_,rfl,q⟩) (by simp)) fun H' v s' h=>by
     obtain⟨t,rfl,ht⟩:=h
     refine⟨WX ht (by simp) fun y hy=> ?_,by rw[Zo ht];rfl⟩
     simp only[List.mem_cons,List.not_mem_nil,or_false]at hy
     rcases hy with rfl |rfl |rfl
     ·exact ff x0 (by omega)
     ·exact ff y0 (by omega)
     ·exact ff (by decide) (by decide))) (Yr rQ rO gm)) Ji))) (by decide)) (by decide)) fun v11 fW aW Bb=>bV ?_))
  dsimp only[List.set]
  have nX:=bt.trans aW
  have vH:Paired (aM fW) ls qs:=Paired.aX vD fun v q' h=>h.same nX
  have md:∀{i m:Int},0<m→0≤i%m∧i%m<m:=fun {i m} h=> ⟨Int.emod_nonneg _ (by omega),Int.emod_lt_of_pos _ h⟩
  have ga:=yJ (K:=K) (x:=(x.1,(x.2+1)%hg)) vH bT df w2 g2 hlen ⟨⟨x0,x1⟩,md (by omega)⟩ ⟨x,List.mem_of_getElem? hx,.inl rfl⟩
  have gb:=yJ (K:=K) (x:=((x.1+1)%wd,x.2)) vH bT df w2 g2 hlen ⟨md (by omega),y0,y1⟩ ⟨x,List.mem_of_getElem? hx,.inr rfl⟩
  refine aF (bO (Gd.run (R:=LG (Gp K wd hg) (4+3+3)) (W1 Gp.same (W0 rfl fun H' s'=>LG.same (R:=Gp K wd hg) (n:=4+3) Gp.same Bb s') (Wf Gp.same (ZN Gp.same (ZQ (yI (R:=fun H' v=> ∃t:Addr,v=.ref t∧H' t=some (.tup [.int x.1,.int ((x.2+1)%hg)])) (fun h s'=>let ⟨t,e,ht⟩:=h;⟨t,e,s' _ _ ht⟩) rfl (nX _ _ mi) (by omega) (YQ (xs:=[.int x.1,.int ((x.2+1)%hg)]) (fun H1 s1 Q q=> ⟨_,rfl,_,rfl,_,_,rfl,rfl,_,rfl,_,_,rfl,rfl,by omega,q⟩) (by simp))) ga)
   (ZN Gp.same (ZQ (yI (R:=fun H' v=> ∃t:Addr,v=.ref t∧H' t=some (.tup [.int ((x.1+1)%wd),.int x.2])) (fun h s'=>let ⟨t,e,ht⟩:=h;⟨t,e,s' _ _ ht⟩) rfl (nX _ _ mi) (by omega) (YQ (xs:=[.int ((x.1+1)%wd),.int x.2]) (fun H1 s1 Q q=> ⟨_,rfl,_,_,rfl,rfl,_,rfl,_,_,rfl,rfl,by omega,_,rfl,q⟩) (by simp))) gb)
   (ZN Gp.same (oZ fun H' s'=> ⟨.inl (.inl rfl),.inl rfl⟩) Ji))) (by decide)) (by decide)) fun Ic y7 dm Ba=>bV ?_))
  dsimp only[List.set]
  have gh:=nX.trans dm
  have rP:∀u∈ls.take k,It K y7 u:=fun u hu=> (ia u hu).same gh
  have rN:∀u∈ls.drop (k+1),It K y7 u:=fun u hu=> (ib u hu).same gh
  refine aF (bO (Gd.run (R:=LG (Gp K wd hg) (4+3+3+3)) (W1 Gp.same (W0 rfl fun H' s'=>LG.same (R:=Gp K wd hg) (n:=4+3+3) Gp.same Ba s') (Wf Gp.same (ZN Gp.same (ZQ (Ys (R:=bH K wd hg) bH.same rfl (gh _ _ gA) rfl (gh _ _ e9) (by omega) (oZ fun H' s'=>tY rfl)) (Yr rP rN gm))
   (ZN Gp.same (ZQ (Ys (R:=bH K wd hg) bH.same rfl (gh _ _ gA) rfl (gh _ _ e9) (by omega) (oZ fun H' s'=>tY (by decide))) (Yr rP rN gm))
   (ZN Gp.same (ZQ (Ys (R:=bH K wd hg) bH.same rfl (gh _ _ gA) rfl (gh _ _ e9) (by omega) (oZ fun H' s'=>tY (by decide))) (Yr rP rN gm)) Ji))) (by decide)) (by decide)) fun Ib dA fb A9=>bV ?_))
  dsimp only[List.set]
  obtain⟨HB,zh,rfl,DL,B1,Ei⟩:=A9
  have ar:r1.toNat<zh.length:=by rw[B1];omega
  have ck:=ZK (List.getElem?_eq_getElem ar)
  rw[Int.toNat_of_nonneg a1]at ck
  have gg:=Ei _ (List.getElem_mem ar)
  have sA:=s7.trans (nY.trans (gh.trans fb))
  exact⟨_,rfl,_,rfl,HB,_,_,_,rfl,rfl,af.of DL,ck,q _ _ (x6.trans sA.x) (dY.same sA) gg.1 (FH gg.2)⟩
end
end U
namespace L2
open PySem PySem.Spec PyProof.Rows SeqAt
section
variable {X:Cx}
def fA (H:Hp) (v:V) (k:List Int):Prop:=∃l:Addr,v=.ref l∧H l=some (.lst (k.map V.int))
theorem fA.same {H H':Hp}{v:V}{k:List Int}(h:fA H v k) (s:ae H H'):fA H' v k:=let ⟨l,e,h1⟩:=h;⟨l,e,s _ _ h1⟩
theorem Gf {pins:List (Addr×Obj)}{σ:St}{H:Hp}{s:Shared}{x y:V}{u v:Value}{k:List Int}(A:Around) (hu:A.units<cLine) (I:Inv X pins σ H s) (hx:fA H x k) (hy:fA H y k) (ru:RelV x u) (rv:RelV y v):EqAt A s u v true:=by
 obtain⟨a,rfl,ha⟩:=hx
 obtain⟨b,rfl,hb⟩:=hy
 cases ru
 cases rv
 by_cases fT:a=b
 ·subst fT
  exact EqAt.same _
 ·obtain⟨us,r1,p1,_⟩:=I.list (af.of ha)
  obtain⟨vs,r2,p2,_⟩:=I.list (af.of hb)
  have l1:=r1.length
  have l2:=r2.length
  have z:=RcAt.lists (A:=A) (s:=s) (e:=fun j=>k.getD j 0==k.getD j 0) p1.isList p2.isList (by simp;omega) hu (fun j h1 h2=>by
   obtain⟨t1,e1⟩:=Yb r1 j (by simpa using h1)
   obtain⟨t2,e2⟩:=Yb r2 j (by simpa using h2)
   rw[show us.toArray[j]=us[j]'(by simpa using h1) by simp,show vs.toArray[j]=vs[j]'(by simpa using h2) by simp,e1,e2]
   exact EqAt.int_int _ _ _ _)
  have e:(List.range us.toArray.size).all (fun j=>k.getD j 0==k.getD j 0)=true:=by simp
  rw[e]at z
  exact EqAt.of_refs fT z
def AZ (K:PySem.W.Frag) (r:Bool):R2:=fun x y H Q=> ∃(a b:Addr) (xs ys:List V) (ks:List (List Int)),x=.ref a∧y=.ref b∧af K H a xs∧af K H b ys∧Paired (fA H) xs ks∧Paired (fA H) ys ks∧Q (.bl r) H
theorem FX {pins:List (Addr×Obj)}{σ:St}{H:Hp}{s:Shared}{xs ys:List V}{ks:List (List Int)}{us vs:List Value}(A:Around) (hu:A.units<cLine) (I:Inv X pins σ H s) (p1:Paired (fA H) xs ks) (p2:Paired (fA H) ys ks) (r1:Vals xs us) (r2:Vals ys vs):∀j (h1:j<us.toArray.size) (h2:j<vs.toArray.size),EqAt A s us.toArray[j] vs.toArray[j] true:=fun j h1 h2=>by
 have l1:=r1.length
 have l2:=r2.length
 have k1:j<xs.length:=by simp at h1;omega
 have k2:j<ys.length:=by simp at h2;omega
 obtain⟨k,hk,e⟩:=Z6 p1 (List.getElem?_eq_getElem k1)
 obtain⟨k',cD,e'⟩:=Z6 p2 (List.getElem?_eq_getElem k2)
 rw[hk]at cD
 cases cD
 obtain⟨u,lJ,ru⟩:=r1.get (List.getElem?_eq_getElem k1)
 obtain⟨v,lI,rv⟩:=r2.get (List.getElem?_eq_getElem k2)
 have e1:us.toArray[j]=u:=by simpa using (List.getElem?_eq_some_iff.mp lJ).2
 have e2:vs.toArray[j]=v:=by simpa using (List.getElem?_eq_some_iff.mp lI).2
 rw[e1,e2]
 exact Gf A hu I e e' ru rv
theorem GU (hu:X.A.units+1<cLine):aO X (compareOp .NotEq) (AZ X.K false):=by
 intro pins s σ H x y u v Q I rx ry h
 obtain⟨a,b,xs,ys,ks,rfl,rfl,ha,hb,p1,p2,q⟩:=h
 cases rx
 cases ry
 obtain⟨us,r1,l1,_⟩:=I.list ha
 obtain⟨vs,r2,l2,_⟩:=I.list hb
 have eC:us.toArray.size=vs.toArray.size:=by have:=r1.length;have:=r2.length;have:=Paired.length p1;have:=Paired.length p2;simp at *;omega
 refine RcNeAt.lists (e:=fun _=>true) l1.isList l2.isList eC (Nat.lt_of_succ_lt hu) (FX X.A.in1 hu I p1 p2 r1 r2) _ _ _ _ ?_
 have e:(List.range us.toArray.size).all (fun _=>true)=true:=by simp
 rw[e]
 exact⟨.bl false,H,I,rfl,q⟩
end
end L2
namespace U
open PySem L2 PyProof.Rows
theorem Wa {xs:List V}{p:Int×Int} :p∈bY xs↔∃l:Nat,l<xs.length∧rowAt xs l=some p.2∧p.1=(l:Int):=by
 unfold bY
 rw[List.mem_filterMap]
 constructor
 ·rintro⟨l,hl,e⟩
  rw[Option.map_eq_some_iff]at e
  obtain⟨r,hr,rfl⟩:=e
  exact⟨l,List.mem_range.mp hl,hr,rfl⟩
 ·rintro⟨l,hl,hr,e⟩
  refine⟨l,List.mem_range.mpr hl,?_⟩
  rw[hr,Option.map_some,←e]
theorem Fm (xs:List V):(bY xs).Pairwise fun a b=>a.1≠b.1:=by
 unfold bY
 rw[List.pairwise_filterMap]
 refine List.Pairwise.imp ?_ (List.nodup_iff_pairwise_ne.mp List.nodup_range)
 intro l l' bB q hq q' wI
 rw[Option.map_eq_some_iff]at hq wI
 obtain⟨_,_,rfl⟩:=hq
 obtain⟨_,_,rfl⟩:=wI
 show(l:Int)≠(l':Int)
 omega
theorem Y5 {wd hg:Int}{xs:List V}(h:dW wd hg xs) {i:Nat}{v:V}(e:xs[i]? =some v):(v=.aa∧rowAt xs i=none)∨∃r,v=.int r∧rowAt xs i=some r∧0≤r∧r<hg:=by
 have er:rowAt xs i=n9 v:=by unfold rowAt;rw[e];rfl
 rcases h.ok v (List.mem_of_getElem? e) with rfl |⟨r,rfl⟩
 ·exact .inl ⟨rfl,er⟩
 ·have m:V.int r∈rowsOf xs:=List.mem_filter.mpr ⟨List.mem_of_getElem? e,by simp⟩
  have q:(decide (0≤r)&&decide (r≤hg - 1))=true:=h.row _ m
  rw[Bool.and_eq_true]at q
  have q1:=of_decide_eq_true q.1
  have q2:=of_decide_eq_true q.2
  exact .inr ⟨r,rfl,er,q1,by omega⟩
theorem GC {wd hg:Int}{xs:List V}{qs:List (Int×Int)}(h:dW wd hg xs) (pm:qs.Perm (bY xs)):T.bL wd.toNat qs=xs:=by
 have hl:=h.len
 have pw:qs.Pairwise fun a b=>a.1≠b.1:=(List.Perm.pairwise_iff (fun h=>Ne.symm h) pm).mpr (Fm xs)
 unfold T.bL
 refine List.ext_getElem? fun k=> ?_
 rw[List.getElem?_map]
 by_cases hk:k<xs.length
 ·rw[List.getElem?_range (by omega),Option.map_some,List.getElem?_eq_getElem hk]
  rcases Y5 h (List.getElem?_eq_getElem hk) with ⟨e1,e2⟩ |⟨r,e1,e2,_⟩
  ·rw[e1,T.qN]
   intro p hp e
   obtain⟨l,IK,hr,e'⟩:=Wa.mp (pm.mem_iff.mp hp)
   have:l=k:=by omega
   subst this
   rw[e2]at hr
   cases hr
  ·rw[e1]
   exact congrArg some (WK (p:=((k:Int),r)) pw (pm.mem_iff.mpr (Wa.mpr ⟨k,hk,e2,rfl⟩)))
 ·rw[List.getElem?_eq_none (by simp;omega),List.getElem?_eq_none (by omega)]
  rfl
theorem G6 {wd hg:Int}{xs:List V}{qs:List (Int×Int)}(h:dW wd hg xs) (pm:qs.Perm (bY xs)):T.gG wd hg qs:=fun q hq=>by
 obtain⟨l,hl,hr,e⟩:=Wa.mp (pm.mem_iff.mp hq)
 rcases Y5 h (List.getElem?_eq_getElem hl) with ⟨_,e2⟩ |⟨r,_,e2,r0,r1⟩
 ·rw[e2]at hr;cases hr
 ·rw[e2]at hr
  cases hr
  have:=h.len
  omega
theorem G5 {wd hg:Int}{xs:List V}(h:dW wd hg xs):T.gJ (bY xs):=by
 unfold T.gJ
 unfold bY
 refine List.pairwise_filterMap.mpr (List.Pairwise.imp_of_mem ?_ (List.pairwise_lt_range (n:=xs.length)))
 intro a b ha hb fT p hp q hq
 obtain⟨r,hr,rfl⟩:=Option.map_eq_some_iff.mp hp
 obtain⟨r',dH,rfl⟩:=Option.map_eq_some_iff.mp hq
 refine⟨by show(a:Int)≠(b:Int);omega,fun e=> ?_⟩
 have e':r=r':=e
 subst e'
 have row:∀{i:Nat}{r:Int},rowAt xs i=some r→xs[i]? =some (.int r):=fun {i r} h=>by
  unfold rowAt at h
  cases e:xs[i]? with
  |none=>rw[e]at h;cases h
  |some v=>
   rw[e]at h
   cases v with
   |int y=>have:y=r:=Option.some.inj h;rw[this]
   |_=>cases h
 have nd:=h.nd
 unfold rowsOf at nd
 rw[List.nodup_iff_pairwise_ne,List.pairwise_filter]at nd
 have xo:=List.mem_range.mp ha
 have gw:=List.mem_range.mp hb
 have:=List.pairwise_iff_getElem.mp nd a b xo gw fT
 have ea:=row hr
 have eb:=row dH
 rw[List.getElem?_eq_getElem xo]at ea
 rw[List.getElem?_eq_getElem gw]at eb
 rw[Option.some.inj ea,Option.some.inj eb]at this
 exact this (by simp) (by simp) rfl
theorem UW {wd hg:Int}{xs:List V}{qs:List (Int×Int)}(h:dW wd hg xs) (pm:qs.Perm (bY xs)):T.gJ qs:=(List.Perm.pairwise_iff (fun h=> ⟨Ne.symm h.1,Ne.symm h.2⟩) pm).mpr (G5 h)
theorem gf.x {p:Addr}{H H':Hp}{y:V}(h:gf H y) (s:ak p H H') (st:aY H p):gf H' y:=by
 obtain⟨u,v,e,_⟩:=st
 rcases h with h |⟨b,z,rfl,h |h,hz⟩
 ·exact .inl h
 ·exact .inr ⟨b,z,rfl,.inl (s _ _ h fun q=>by rw[q,e]at h;cases h),hz⟩
 ·exact .inr ⟨b,z,rfl,.inr (s _ _ h fun q=>by rw[q,e]at h;cases h),hz⟩
theorem iH.x {p:Addr}{H H':Hp}{v:V}(h:iH p H v) (s:ak p H H') (st:aY H p):iH p H' v:=by
 have cg:=id st
 obtain⟨u,w,e,_⟩:=st
 rcases h with h |⟨a,xs,rfl,hl,h |⟨n,h⟩,hy⟩ |⟨a,rfl,h⟩
 ·exact .inl h
 ·exact .inr (.inl ⟨a,xs,rfl,hl,.inl (s _ _ h fun q=>by rw[q,e]at h;cases h),fun y m=> (hy y m).x s cg⟩)
 ·exact .inr (.inl ⟨a,xs,rfl,hl,.inr ⟨n,s _ _ h n⟩,fun y m=> (hy y m).x s cg⟩)
 ·exact .inr (.inr ⟨a,rfl,s _ _ h fun q=>by rw[q,e]at h;cases h⟩)
section
variable {K:PySem.W.Frag}
def Th (K:PySem.W.Frag) (p:Addr) (H:Hp) (v:V):Prop:=cC K H v∧iH p H v
theorem Th.x {p:Addr}{H H':Hp}{v:V}(t:Th K p H v) (s:ak p H H') (st:aY H p):Th K p H' v:=by
 have h2:=t.2.x s st
 obtain⟨u,w,e,_⟩:=id st
 refine⟨W7 t.1 s ⟨fun z=> ?_,fun xs ex y hy z=> ?_⟩,h2⟩
 ·subst z
  rcases t.2 with h |⟨a,xs,z,_,h |⟨n,_⟩,_⟩ |⟨a,z,h⟩
  ·cases h
  ·cases z;rw[e]at h;cases h
  ·cases z;exact n rfl
  ·cases z;rw[e]at h;cases h
 ·subst z
  rcases t.2 with h |⟨a,ys,rfl,_,h,i8⟩ |⟨a,rfl,h⟩
  ·cases v with
   |ref a=>cases h
   |_=>cases ex
  ·rcases h with h |⟨_,h⟩
   ·rw[Zo h]at ex
    cases ex
    rcases i8 _ hy with h' |⟨b,z,hz,h' |h',_⟩
    ·cases h'
    ·cases hz;rw[e]at h';cases h'
    ·cases hz;rw[e]at h';cases h'
   ·have e0:aC H (.ref a)=none:=by rw[Zp,h];rfl
    rw[e0]at ex;cases ex
  ·have e0:aC H (.ref a)=none:=by rw[Zp,h];rfl
   rw[e0]at ex;cases ex
theorem aS.x {p:Addr}{wd hg:Int}{H H':Hp}{v:V}(b:aS K p wd hg H v) (s:ak p H H') (st:aY H p):aS K p wd hg H' v:=by
 have t:Th K p H v:=⟨b.1.1,b.2⟩
 have t':=t.x s st
 obtain⟨u,w,e,_⟩:=id st
 refine⟨⟨t'.1,?_⟩,t'.2⟩
 rw[Yy b.1.1.1 s fun z=> ?_]
 ·exact b.1.2
 ·subst z
  rcases b.2 with h |⟨a,xs,z,_,h |⟨n,_⟩,_⟩ |⟨a,z,h⟩
  ·cases h
  ·cases z;rw[e]at h;cases h
  ·cases z;exact n rfl
  ·cases z;rw[e]at h;cases h
theorem UH {p:Addr}{H H':Hp}{v:V}(b:eK K H v∧fV p H v) (s:ak p H H'):eK K H' v∧fV p H' v:=⟨yN b.1 s b.2,GJ b.1.1.1 s b.2.1 b.2⟩
end
theorem YM {p L:Addr}{H H1:Hp}{o:HO}(x:ak p H H1) (n:H L=none):ak p H (upd H1 L o):=fun b u h nb=>by
 rw[Ze (Zf h n)]
 exact x b u h nb
section
variable {Y:Cx}{cS fR:Addr}{kf:Nat}
theorem UL {pins:List (Addr×Obj)}{σ:L2.St}{H:Hp}{s:Shared}{f C:Addr}{iC:Nat}{q:Str}{params:Arguments}{bd:Expr}{scope:Scope}{cl:List (Str×Addr)}{Q:VK}{N:List Str}{ws:List V}{Pre:Hp→Prop}
  (hR:∀b',Def Y.prog Y.w Y.K Y.mg b' (kf+2) "_law_refused" ["_law_call"] (jJ Y.prog Y.w Y.K Y.mg b' cS (kf+1))) (room:bo (kf+2) Y.A) (mR:Y.mg "_law_refused" =some (.ref fR))
  (LS:mM params bd scope N) (I:Inv Y pins σ H s) (hl:fB H f q params bd scope cl) (hlen:ws.length=N.length) (fk:∀(i:Nat) x v,N[i]? =some x→ws[i]? =some v→mU Y cl x v H s) (jZ:∀z c,cl.lookup z=some c→(z,NameKind.free)∈scope.names)
  (su:∀a b c,cl.lookup a=some c→cl.lookup b=some c→a=b) (hi:iC=0∨iC=1∨iC=3) (M:gE Y.K Y.mg cS C iC) (bad:jz Y kf C f q bd scope cl N ws Pre) (pre:Pre H) (hq:∀l H',ae H H'→H l=none→H' l=some (.lst [.int (iC:Int)])→Q (.ref l) H'):
  wpAny (model Y.prog Y.w) Y.A (call (.ref fR) [.ref f]) (EP Y pins σ Q) Y.xe s:=by
 obtain⟨bA,st,e0,bf⟩:=I.rebase
 obtain⟨pm,cc,ct,hf,hc⟩:=hl
 have T:Cells bA scope cl N ws:=⟨hlen,fun u hu=>by
   rcases hu with hu |hu
   ·exact absurd rfl (LS.fe _ (PySem.mem_of_lookup hu))
   ·exact LS.only _ (PySem.mem_of_lookup hu) rfl,fun i a v h1 h2=>by
   obtain⟨ax,ux,lx,⟨ox,gx,dx⟩,rx,nx,fx⟩:=fk i a v h1 h2
   exact⟨LS.free a (List.mem_of_getElem? h1),ax,ux,lx,⟨ox,bf _ _ gx nx fx,dx⟩,rx⟩,fun u c h=>LS.only _ (jZ u c h) rfl,su⟩
 have FL:az Y.prog Y.w Y.K Y.mg bA (bq Y.prog Y.w) (kf+1) f (PySem.W.kla_fn "<lambda>" q params bd scope cl pm (.ref cc) ct) []
   (fun vs H2 Q2 E2=> (vs=[]∧H2 f=some (i3 f q params bd scope cl pm cc ct)∧H2 cc=some (eI cc q))∧Pre H2∧∀e H',ae H2 H'→E2 (.ref e) (some C) H'):=by
  refine Ua (k:=kf) T LS.kind LS.co LS.gen LS.fe (fun vs H2 Q2 E2 h=>h.1) fun A outer s2 H2 Q2 E2 jY h=> ?_
  exact bad bA cc A outer s2 H2 Q2 E2 jY h.2.1 h.2.2
 obtain⟨Er,xM,FR,cU,hk,hb⟩:=hR bA
 rw[mR]at cU
 cases cU
 refine wpAny_call (codeAny_mono (FR.run Y.A Y.stack s H ⟨[.ref f],[]⟩ [.ref f] [.ref f] Q E0 room e0 (hb s [.ref f] I.bc rfl) (.cons rfl .nil)
  ⟨f,_,_,C,iC,rfl,hi,M,fun h ah=> ?_,FL,fun s2=> .of_eq (LS.bind q cl pm cc ct),fun Q' E' hE=> ⟨⟨rfl,hf,hc⟩,pre,hE⟩,hq⟩) fun r s' h=> ?_)
 ·have z:h.get? f=some _:=(ah f _ hf).1
  exact⟨_,_,_,_,z⟩
 ·cases r with
  |error e=>exact h.elim
  |ok fl=>
   cases fl with
   |ret u=>exact I.after h
   |next=>exact False.elim h
   |brk=>exact False.elim h
   |cont=>exact False.elim h
end
section
variable {X:Cx}{cS c P fR:Addr}{kf:Nat}
theorem Gr {pins:List (Addr×Obj)}{σ:L2.St}{H:Hp}{s:Shared}{N':List Str}{scope vf:Scope}{C:Addr}{s0:Shared}{H0:Hp}{fp:List Addr}{x:Str}{v:V}{p0:List (Addr×Obj)}{gL:L2.St}(I0:Inv X p0 gL H0 s0) (hf:∀b∈fp,bE X p0 H0 b) (c0:mU X (bG vf X.env) x v H0 s0) (hk:X.env.scope.names.lookup x=some .cell)
  (J:Inv (aJ X N' scope C s0 H0 fp) pins σ H s):mU (aJ X N' scope C s0 H0 fp) (bG vf X.env) x v H s:=by
 obtain⟨c,u,h1,⟨o,h2,h3⟩,h4,h5,h6⟩:=c0
 have u0:Un (aG X.stack) fp H0 H s0.heap s.heap:=J.base
 have vV:c∉fp:=fun hm=>by
  obtain⟨a,ha⟩:=I0.ok.has x (.inl hk)
  have e1:=(ZZ h1).1
  rw[ha]at e1
  have z:c=a:=e1
  subst z
  obtain⟨_,_,_,_,f4,_⟩:=hf c hm
  exact f4 x c ha rfl
 exact⟨c,u,h1,⟨o,u0.keep c o h2 h5 h6 vV,h3⟩,h4,u0.free c o h2 h5 vV,h6⟩
structure zb (X:Cx) (cS:Addr) (kf:Nat) (gL:L2.St) (H:Hp) (f:Addr) (iC:Nat) (params:Arguments) (bd:Expr) (scope:Scope) (N:List Str) (idx:List Nat) (ws:List V) (C:Addr) (Pre:Hp→Prop):Prop where
 ls:mM params bd scope N
 hN:idx.length=N.length
 ln:∀(k:Nat) x i,N[k]? =some x→idx[k]? =some i→LN X x i
 rS:ws.length=idx.length
 gp:∀(k i:Nat) v,idx[k]? =some i→ws[k]? =some v→gL[i]? =some (some v)
 fr:∀z∈scope.names,z.2=.free→X.env.kindOf z.1=some .cell∨X.env.kindOf z.1=some .free
 lam:fB H f (lq X) params bd scope (bG scope X.env)
 hi:iC=0∨iC=1∨iC=3
 mr:gE X.K X.mg cS C iC
 body:jz X kf C f (lq X) bd scope (bG scope X.env) N ws Pre
 pre:Pre H
def zR (X:Cx) (cS:Addr) (kf:Nat) (gL:L2.St):TE:=fun σ H Q=> ∃f iC,σ[0]? =some (some (.ref f))∧(∃params bd scope N idx ws C Pre,zb X cS kf gL H f iC params bd scope N idx ws C Pre)∧∀l H',ae H H'→H l=none→H' l=some (.lst [.int (iC:Int)])→Q (.ref l) H'
theorem GX {N':List Str}{bs:Scope}{B:Addr}{s0:Shared}{H0:Hp}{fp:List Addr}{p0:List (Addr×Obj)}{gL:L2.St}{p p' pos:Pos}{cn:Str}
  (hR:∀b',Def X.prog X.w X.K X.mg b' (kf+2) "_law_refused" ["_law_call"] (jJ X.prog X.w X.K X.mg b' cS (kf+1))) (room:bo (kf+2) X.A) (mR:X.mg "_law_refused" =some (.ref fR)) (kR:PySem.W.keepIn X.K (.ref fR)=true) (I0:Inv X p0 gL H0 s0) (hf:∀b∈fp,bE X p0 H0 b)
  (hg:Gl (aJ X N' bs B s0 H0 fp) "_law_refused") (hv:PE (aJ X N' bs B s0 H0 fp) (.Name cn p') (gN 0)):
  PE (aJ X N' bs B s0 H0 fp) (.Call (.Name "_law_refused" p) [.Name cn p'] [] pos) (zR X cS kf gL):=by
 intro pins s σ H Q J h
 obtain⟨f,iC,gp,⟨params,bd,scope,N,idx,ws,C,Pre,ask⟩,q⟩:=h
 refine wpAny_Call_Name_kw (YE J hg mR ?_ (by decide))
 have ha:PA (aJ X N' bs B s0 H0 fp) [.Name cn p'] _:=Za hv Zb
 refine PySem.W.callWith_K (h₀:=X.base) J.ok.mod.i4 kR (aq (ha pos pins s σ H (fun vs H1=>vs=[.ref f]∧H1=H) J ⟨_,gp,rfl,rfl⟩) fun us s3 ⟨vs,H1,J1,r,ev,eh⟩=> ⟨J1.bc,?_⟩) rfl rfl
 subst ev eh
 obtain⟨u,rfl,ru⟩:=vals1 r
 cases ru
 refine UL (Y:=aJ X N' bs B s0 H0 fp) (kf:=kf) hR room mR ask.ls J1 ask.lam (by rw[ask.rS,ask.hN]) (fun i x v h1 h2=> ?_) (fun z c h=>yE h) (fun a b c h1 h2=> ?_) ask.hi ask.mr ask.body ask.pre q
 ·have hi:i<idx.length:=by
   have:=(List.getElem?_eq_some_iff.mp h1).1
   rw[ask.hN]
   exact this
  have ei:=List.getElem?_eq_getElem hi
  have n:=ask.ln i x _ h1 ei
  exact Gr I0 hf (WC I0 n.nx (ask.gp i _ v ei h2) n.kx n.fx (PySem.mem_of_lookup (ask.ls.free x (List.mem_of_getElem? h1)))) n.kx J1
 obtain⟨e1,m1⟩:=ZZ h1
 obtain⟨e2,m2⟩:=ZZ h2
 obtain⟨c1,g1⟩:=I0.ok.has a (ask.fr _ m1 rfl)
 obtain⟨c2,g2⟩:=I0.ok.has b (ask.fr _ m2 rfl)
 rw[g1]at e1
 rw[g2]at e2
 have z1:c1=c2:=by
  have y1:_=c1:=e1
  have y2:_=c2:=e2
  rw[←y1,←y2]
 subst z1
 exact I0.ok.inj _ _ _ g1 g2
def mF (fn x y:Str) (p1 p2 p3 p4:Pos):Expr:=.Call (.Name fn p1) [.Name x p2,.Name y p3] [] p4
theorem oX {k':Nat}{fn x y:Str}{ps:List Str}{sp:Sp}{scope:Scope}{C f:Addr}{q:Str}{cl:List (Str×Addr)}{vx vy:V}{p1 p2 p3 p4:Pos}(cD:k'≤kf) (hU:∀b',cJ X.prog X.w X.K X.mg b' k' fn ps sp) (gl:scope.names.lookup fn=some .globalImplicit)
  (kx:scope.names.lookup x=some .free) (ky:scope.names.lookup y=some .free) (dx:(x==("__debug__" :Str))=false) (dy:(y==("__debug__" :Str))=false)
  (ex:(x==("__classdict__" :Str))=false) (ey:(y==("__classdict__" :Str))=false) (sH:(fn==("__debug__" :Str))=false):
  jz X kf C f q (mF fn x y p1 p2 p3 p4) scope cl [x,y] [vx,vy] (o7 sp [vx,vy] C):=by
 intro bA cc A outer s2 H2 Q2 E2 hr pre hE
 obtain⟨g,fd,F,hg,hk,hb⟩:=hU bA
 refine⟨_,YX (X:=gB X.prog X.w X.K X.mg bA [x,y] q scope f (.ref cc) cl A outer s2 H2 E2) F (hr.mono cD) gl hg hk hb .nil (E:=E2) (qQ (X:=gB X.prog X.w X.K X.mg bA [x,y] q scope f (.ref cc) cl A outer s2 H2 E2) (fun e s' z=>z) rfl rfl rfl)
  (Za (Jn (i:=0) rfl (.inr (.inr kx)) dx ex) (Za (Jn (i:=1) rfl (.inr (.inr ky)) dy ey) Zb)) sH,?_⟩
 exact⟨vx,rfl,vy,rfl,pre Q2 E2 hE⟩
def yo (fn x:Str) (p1 p2 p3 p4:Pos):Expr:=.Call (.Name fn p1) [.Name x p2,.Constant .none 0 p3] [] p4
theorem EY {k':Nat}{fn x:Str}{ps:List Str}{sp:Sp}{scope:Scope}{C f:Addr}{q:Str}{cl:List (Str×Addr)}{vx:V}{p1 p2 p3 p4:Pos}(cD:k'≤kf) (hU:∀b',cJ X.prog X.w X.K X.mg b' k' fn ps sp) (gl:scope.names.lookup fn=some .globalImplicit)
  (kx:scope.names.lookup x=some .free) (dx:(x==("__debug__" :Str))=false) (ex:(x==("__classdict__" :Str))=false) (sH:(fn==("__debug__" :Str))=false):
  jz X kf C f q (yo fn x p1 p2 p3 p4) scope cl [x] [vx] (o7 sp [vx,.aa] C):=by
 intro bA cc A outer s2 H2 Q2 E2 hr pre hE
 obtain⟨g,fd,F,hg,hk,hb⟩:=hU bA
 refine⟨_,YX (X:=gB X.prog X.w X.K X.mg bA [x] q scope f (.ref cc) cl A outer s2 H2 E2) F (hr.mono cD) gl hg hk hb .nil (E:=E2) (qQ (X:=gB X.prog X.w X.K X.mg bA [x] q scope f (.ref cc) cl A outer s2 H2 E2) (fun e s' z=>z) rfl rfl rfl)
  (Za (Jn (i:=0) rfl (.inr (.inr kx)) dx ex) (Za ZX Zb)) sH,?_⟩
 exact⟨vx,rfl,pre Q2 E2 hE⟩
abbrev kI (i:Int) (p:Pos):Expr:=.Constant (.int i) 0 p
abbrev kT (i j:Int) (p1 p2 p3:Pos):Expr:=.Tuple [kI i p1,kI j p2] 0 p3
abbrev tR (a b c d e f g h:Int) (p1 p2 p3 p4 p5 p6 p7 p8 p9 qW qV qU qT qS qR:Pos):Expr:=.Call (.Name "lay_of" p1) [kT a b p2 p3 p4,.List [kT c d p5 p6 p7,kT e f p8 p9 qW,kT g h qV qU qT] qS] [] qR
theorem yp {k':Nat}{scope:Scope}{cB cP f:Addr}{q:Str}{cl:List (Str×Addr)}{a b c d e f' g h:Int}{p1 p2 p3 p4 p5 p6 p7 p8 p9 qW qV qU qT qS qR:Pos}(cD:k'≤kf) (hU:∀b',cJ X.prog X.w X.K X.mg b' k' "lay_of" ["board", "points"] (jK X.K cB cP)) (gl:scope.names.lookup ("lay_of" :Str)=some .globalImplicit)
  (lZ:1≤a∧a≤12∧1≤b∧b≤12) (bT:T.gG a b ([(c,d),(e,f')]++[(g,h)])) (df:T.gJ [(c,d),(e,f')]) (fk:∃p∈[(c,d),(e,f')],p.1=g∨p.2=h):
  jz X kf cP f q (tR a b c d e f' g h p1 p2 p3 p4 p5 p6 p7 p8 p9 qW qV qU qT qS qR) scope cl [] [] (fun _=>True):=by
 intro bA cc A outer s2 H2 Q2 E2 hr pre hE
 obtain⟨g',fd,F,hg,hk,hb⟩:=hU bA
 refine⟨_,YX (X:=gB X.prog X.w X.K X.mg bA [] q scope f (.ref cc) cl A outer s2 H2 E2) F (hr.mono cD) gl hg hk hb .nil (E:=E2) (qQ (X:=gB X.prog X.w X.K X.mg bA [] q scope f (.ref cc) cl A outer s2 H2 E2) (fun e s' z=>z) rfl rfl rfl)
  (Za (Zz (Za Zh (Za Zh Zb))) (Za (Zl (Za (Zz (Za Zh (Za Zh Zb))) (Za (Zz (Za Zh (Za Zh Zb))) (Za (Zz (Za Zh (Za Zh Zb))) Zb)))) Zb)) (by decide),?_⟩
 refine⟨(by show 2≤sizeLine;decide),fun t0 h0=> ?_⟩
 have u0:=ag (o:=.tup [V.int a,V.int b]) h0
 have e0:upd H2 t0 (.tup [V.int a,V.int b]) t0=some (.tup [V.int a,V.int b]):=Zc
 generalize upd H2 t0 (HO.tup [V.int a,V.int b])=G0 at u0 e0
 refine⟨(by show 2≤sizeLine;decide),fun t1 h1=> ?_⟩
 have u1:=ag (o:=.tup [V.int c,V.int d]) h1
 have e1:upd G0 t1 (.tup [V.int c,V.int d]) t1=some (.tup [V.int c,V.int d]):=Zc
 generalize upd G0 t1 (HO.tup [V.int c,V.int d])=G1 at u1 e1
 refine⟨(by show 2≤sizeLine;decide),fun t2 h2=> ?_⟩
 have u2:=ag (o:=.tup [V.int e,V.int f']) h2
 have e2:upd G1 t2 (.tup [V.int e,V.int f']) t2=some (.tup [V.int e,V.int f']):=Zc
 generalize upd G1 t2 (HO.tup [V.int e,V.int f'])=G2 at u2 e2
 refine⟨(by show 2≤sizeLine;decide),fun t3 h3=> ?_⟩
 have u3:=ag (o:=.tup [V.int g,V.int h]) h3
 have e3:upd G2 t3 (.tup [V.int g,V.int h]) t3=some (.tup [V.int g,V.int h]):=Zc
 generalize upd G2 t3 (HO.tup [V.int g,V.int h])=G3 at u3 e3
 refine⟨(by show 3≤sizeLine;decide),fun L hL=> ?_⟩
 have u4:=ag (o:=.lst [V.ref t1,.ref t2,.ref t3]) hL
 have e4:upd G3 L (.lst [V.ref t1,.ref t2,.ref t3]) L=some (.lst [V.ref t1,.ref t2,.ref t3]):=Zc
 generalize upd G3 L (HO.lst [V.ref t1,.ref t2,.ref t3])=G4 at u4 e4
 refine⟨.ref t0,.ref L,cP,rfl,.inr ⟨rfl,t0,a,b,rfl,⟨Zo ((u1.trans (u2.trans (u3.trans u4))) _ _ e0),lZ⟩,.inr (.inr ⟨L,_,[(c,d),(e,f')],(g,h),rfl,e4,.cons ⟨t1,rfl,(u2.trans (u3.trans u4)) _ _ e1⟩ (.cons ⟨t2,rfl,(u3.trans u4) _ _ e2⟩ (.cons ⟨t3,rfl,u4 _ _ e3⟩ .nil)),bT,df,by simp,fk⟩)⟩,fun e H' s'=>hE e H' (u0.trans (u1.trans (u2.trans (u3.trans (u4.trans s')))))⟩
def gF (X:Cx) (H:Hp) (v:V) (b:Expr×Scope):Prop:=∃f:Addr,v=.ref f∧fB H f (lq X) cb b.1 b.2 (bG b.2 X.env)
theorem gF.same {H H':Hp}{v:V}{b:Expr×Scope}(h:gF X H v b) (s:ae H H'):gF X H' v b:=by
 obtain⟨f,e,l⟩:=h
 exact⟨f,e,l.same s⟩
theorem gF.x {H H':Hp}{v:V}{b:Expr×Scope}{p:Addr}{o:HO}(h:gF X H v b) (s:ak p H H') (hp:H p=some o) (ho:∀F,o≠.ext F):gF X H' v b:=by
 obtain⟨f,e,pm,c,ct,h1,h2⟩:=h
 exact⟨f,e,pm,c,ct,s _ _ h1 (fun z=>by rw[z,hp]at h1;cases h1;exact ho _ rfl),s _ _ h2 (fun z=>by rw[z,hp]at h2;cases h2;exact ho _ rfl)⟩
structure iJ (X:Cx) (P L:Addr) (H0 H:Hp) (bs:List (Expr×Scope)):Prop where
 sx:ak P H0 H
 fr:H0 L=none
 tb:TabAt H P (lq X)
 ls:∃vs,H L=some (.lst vs)∧Paired (gF X H) vs bs
theorem iJ.lst {L:Addr}{H0 H:Hp}{bs:List (Expr×Scope)}(h:iJ X P L H0 H bs):∃vs,H L=some (.lst vs)∧vs.length=bs.length:=by
 obtain⟨vs,hL,pr⟩:=h.ls
 exact⟨vs,hL,Paired.length pr⟩
theorem iJ.cH {L:Addr}{H0 H H1:Hp}{bs:List (Expr×Scope)}{vs:List V}(h:iJ X P L H0 H bs) (hv:H L=some (.lst vs)) (s1:ak P H H1):H1 L=some (.lst vs):=by
 obtain⟨tp,tF,_⟩:=h.tb
 exact s1 _ _ hv fun z=>by rw[z,tF]at hv;cases hv
theorem iJ.app {L f:Addr}{H0 H H1:Hp}{bs:List (Expr×Scope)}{bd:Expr}{sc:Scope}{vs:List V}(h:iJ X P L H0 H bs) (hv:H L=some (.lst vs)) (s1:ak P H H1) (t1:TabAt H1 P (lq X)) (l1:fB H1 f (lq X) cb bd sc (bG sc X.env)):iJ X P L H0 (upd H1 L (.lst (vs++[.ref f]))) (bs++[(bd,sc)]):=by
 have bQ:=h.cH hv s1
 obtain⟨sx,fr,tb,pE,hL,pr⟩:=h
 rw[hv]at hL
 cases hL
 obtain⟨tp,tF,_⟩:=id tb
 have x2:ak L H1 (upd H1 L (.lst (vs++[.ref f]))):=ak.upd
 have p1:Paired (gF X (upd H1 L (.lst (vs++[.ref f])))) vs bs:=Paired.aX pr fun v b h=> (h.x s1 tF (fun _ z=>by cases z)).x x2 bQ (fun _ z=>by cases z)
 exact⟨YM (sx.trans s1) fr,fr,yD t1 x2 bQ (fun _ z=>by cases z) (fun _ z=>by cases z),_,Zc,Paired.snoc p1 (gF.x (b:=(bd,sc)) ⟨f,rfl,l1⟩ x2 bQ (fun _ z=>by cases z))⟩
theorem Hn {H0 H1:Hp}{L f:Addr}{bd:Expr}{sc:Scope}(tb:TabAt H0 P (lq X)) (s1:ak P H0 H1) (t1:TabAt H1 P (lq X)) (l1:fB H1 f (lq X) cb bd sc (bG sc X.env)) (hL:H1 L=none):iJ X P L H0 (upd H1 L (.lst [.ref f])) [(bd,sc)]:=by
 obtain⟨Ii,Es,_⟩:=id t1
 have s2:=ag (o:=.lst [V.ref f]) hL
 have BI:L≠P:=fun z=>by rw[z,Es]at hL;cases hL
 have fr:H0 L=none:=by
  cases h:H0 L with
  |none=>rfl
  |some u=>rw[s1 _ _ h BI]at hL;cases hL
 exact⟨s1.trans s2.x,fr,ZT t1 s2,_,Zc,.cons ⟨f,rfl,l1.same s2⟩ .nil⟩
end
theorem lsN {bd:Expr}{N:List Str}{scope:Scope}(h:(decide (scope.kind=.function)&& !scope.isCoroutine&& !scope.isGenerator&&scope.names.all (fun z=>z.2 !=.cell)&&scope.names.all (fun u=>u.2 !=.free||N.contains u.1)&&N.all (fun x=>scope.names.lookup x==some .free))=true):mM cb bd scope N:=by
 simp only[Bool.and_eq_true,Bool.not_eq_true',decide_eq_true_eq,beq_iff_eq,List.all_eq_true,bne_iff_ne,ne_eq,Bool.or_eq_true,List.contains_iff_mem]at h
 obtain⟨⟨⟨⟨⟨h1,h2⟩,h3⟩,h4⟩,h5⟩,h6⟩:=h
 exact⟨h1,h2,h3,h4,fun u hu e=> (h5 u hu).resolve_left fun z=>z e,h6,fun _ _ _ _ _=>rfl⟩
theorem oB {X:Cx}{x y:Str}{i j:Nat}(a:LN X x i) (b:LN X y j):∀(k:Nat) u m,([x,y]:List Str)[k]? =some u→([i,j]:List Nat)[k]? =some m→LN X u m
 |0,_,_,h1,h2=>by cases h1;cases h2;exact a
 |1,_,_,h1,h2=>by cases h1;cases h2;exact b
 |k+2,_,_,h1,h2=>by simp at h1
theorem BU {X:Cx}{x:Str}{i:Nat}(a:LN X x i):∀(k:Nat) u m,([x]:List Str)[k]? =some u→([i]:List Nat)[k]? =some m→LN X u m
 |0,_,_,h1,h2=>by cases h1;cases h2;exact a
 |k+1,_,_,h1,h2=>by simp at h1
theorem wj {X:Cx} :∀(k:Nat) u m,([]:List Str)[k]? =some u→([]:List Nat)[k]? =some m→LN X u m:=fun k u m h=>by simp at h
theorem at2 {σ:L2.St}{x y:V}{i j:Nat}(a:σ[i]? =some (some x)) (b:σ[j]? =some (some y)):∀(k m:Nat) (v:V),([i,j]:List Nat)[k]? =some m→([x,y]:List V)[k]? =some v→σ[m]? =some (some v)
 |0,_,_,h1,h2=>by cases h1;cases h2;exact a
 |1,_,_,h1,h2=>by cases h1;cases h2;exact b
 |k+2,_,_,h1,h2=>by simp at h1
theorem Fg {σ:L2.St}{x:V}{i:Nat}(a:σ[i]? =some (some x)):∀(k m:Nat) (v:V),([i]:List Nat)[k]? =some m→([x]:List V)[k]? =some v→σ[m]? =some (some v)
 |0,_,_,h1,h2=>by cases h1;cases h2;exact a
 |k+1,_,_,h1,h2=>by simp at h1
theorem yu {σ:L2.St} :∀(k m:Nat) (v:V),([]:List Nat)[k]? =some m→([]:List V)[k]? =some v→σ[m]? =some (some v):=fun k m v h=>by simp at h
theorem UQ {H:Hp}{ps ds:List V}{qs:List (Int×Int)}(a:Paired (aM H) ps qs) (b:Paired (aM H) ds qs):Paired (fw Rl H) ps ds:=by
 induction a generalizing ds with
 |nil=>cases b;exact .nil
 |cons h t ih=>
  cases b with
  |cons h' t'=>
   obtain⟨x,rfl,hx⟩:=h
   obtain⟨y,rfl,hy⟩:=h'
   exact .cons (.inr ⟨x,y,_,_,rfl,rfl,hx,hy,.cons (.inl ⟨_,rfl,rfl⟩) (.cons (.inl ⟨_,rfl,rfl⟩) .nil),by simp⟩) (ih t')
theorem GD {H:Hp}{xs:List V}(h:yO xs):Paired (Rl H) xs xs:=by
 induction xs with
 |nil=>exact .nil
 |cons x r ih=>
  refine .cons ?_ (ih fun y hy=>h y (List.mem_cons_of_mem _ hy))
  rcases h x List.mem_cons_self with rfl |⟨i,rfl⟩
  ·exact .inr (.inr ⟨rfl,rfl⟩)
  ·exact .inl ⟨i,rfl,rfl⟩
theorem Fn {H:Hp}{ps:List V}{qs:List (Int×Int)}(a:Paired (aM H) ps qs):Paired (js H) ps (qs.map fun q=> [q.1,q.2]):=by
 induction a with
 |nil=>exact .nil
 |cons h t ih=>
  obtain⟨x,rfl,hx⟩:=h
  exact .cons ⟨x,rfl,hx⟩ ih
theorem YZ {α β:Type}{R:α→β→Prop} :∀{xs:List α}{ys:List β},Paired R xs ys→∀k,Paired R (xs.eraseIdx k) (ys.eraseIdx k)
 |_,_,.nil,_=> .nil
 |_,_,.cons _ t,0=>t
 |_,_,.cons h t,k+1=> .cons h (YZ t k)
abbrev tv (ns:List (Str×NameKind)):Scope:= {kind:=.function,names:=ns,isGenerator:=false,isCoroutine:=false}
abbrev sA:Scope:=tv [("_law_bad",.free),("_law_none",.free),("points",.globalImplicit)]
abbrev sB:Scope:=tv [("_law_none",.free),("lay_of",.globalImplicit)]
abbrev sC:Scope:=tv [("_law_lay_here",.free),("_law_none",.free),("points",.globalImplicit)]
section
variable {P:Program}{w:World}{K:PySem.W.Frag}{mg:Str→Option Value}{base:Heap}
abbrev br:Stmt:=top 40
def pY (K:PySem.W.Frag) (Pt:Addr):Sp:=fun vs H Q _=> ∃(a:Addr) (ns:List Int),vs=[.ref a]∧dg K H a ns∧ns.length≤63∧H Pt=some (.bh #[])∧∀H',Q (.bl true) H'
abbrev da:List Str:=["_law_script", "_law_k", "_law_state_here", "_law_none", "_law_board_here", "_law_lay_here", "_law_bad", "_law_due", "_law_left", "_law_mixed", "_law_turn", "_law_found", "_law_handed", "_law_calls", "_law_wrong", "_law_kept"]
theorem dk:bI da ["_law_script"] (au br):=⟨rfl,rfl,rfl,by decide+kernel,rfl,by decide+kernel,by decide+kernel⟩
structure pd (K:PySem.W.Frag) (H:Hp) (vn vb:V) (b l:Addr) (wd hg:Int) (xs:List V):Prop where
 bn:eK K H vn
 bl:fX K wd hg H vb
 hb:H b=some (.tup [.int wd,.int hg])
 el:H l=some (.tup xs)
theorem pd.xt {H H':Hp}{vn vb:V}{b l Pt:Addr}{wd hg:Int}{xs:List V}{tp:Array Value}(h:pd K H vn vb b l wd hg xs) (s:ak Pt H H') (hp:H Pt=some (.bh tp)):pd K H' vn vb b l wd hg xs:=
 ⟨yN h.bn s (YD h.bn.1 hp),FK h.bl s (YD h.bl.1 hp),s _ _ h.hb (fun z=>by have e:=h.hb;rw[z,hp]at e;cases e),s _ _ h.el (fun z=>by have e:=h.el;rw[z,hp]at e;cases e)⟩
theorem F1 {f c Pt fR cS cB cL cP:Addr}{oc:Value}{od an:Option Addr}{kV doc pm ct:Value}{dq:Array (Option Value)}
  (lk:K.lookup f=some ⟨oc,od,.func (PySem.W.fnOf "law" "law" (dQ br) (bu br) (au br) .none kV doc pm an (.ref c) ct),dq⟩) (bP:PySem.W.codeIn K (.ref c) "law" =true) (G:Gs mg)
  (HJ:Def P w K mg base 2 "_law_state" ["_law_script", "_law_k"] (pS K)) (HP:Def P w K mg base 2 "_law_no_board" ["_law_state_here"] (pU K)) (HQ:Def P w K mg base 2 "_law_board" ["_law_state_here", "_law_upto"] qc)
  (Dl:Def P w K mg base 2 "_law_lay" ["_law_state_here", "_law_board_here"] (qb K)) (HN:Def P w K mg base 2 "_law_no_lay" ["_law_state_here", "_law_board_here", "_law_lay_here"] (pT K)) (HI:Def P w K mg base 1 "_law_take" ["_law_state_here", "_law_many"] gP)
  (HM:Def P w K mg base 2 "_law_no_points" ["_law_state_here", "_law_board_here", "_law_some"] (pW K)) (HL:Def P w K mg base 7 "points" ["board", "lay"] nH) (y9:Def P w K mg base 5 "lay_of" ["board", "points"] (T.nK K))
  (S2:Def P w K mg base 2 "_law_same" ["_law_found", "_law_due"] (dj (fw Rl))) (S3:Def P w K mg base 3 "_law_same" ["_law_found", "_law_due"] (dj (uc (fw Rl))))
  (hR:∀b',Def P w K mg b' 9 "_law_refused" ["_law_call"] (jJ P w K mg b' cS 8)) (hP:∀b',cJ P w K mg b' 7 "points" ["board", "lay"] (gO K cB cL)) (hO:∀b',cJ P w K mg b' 5 "lay_of" ["board", "points"] (jK K cB cP))
  (mR:mg "_law_refused" =some (.ref fR)) (kR:PySem.W.keepIn K (.ref fR)=true)
  (M0:gE K mg cS cB 0) (M1:gE K mg cS cL 1) (M3:gE K mg cS cP 3) (hC:PySem.W.CodeHd base c Pt)
  (sQ:∃bm ob,mg "__builtins__" =some (.ref bm)∧bm≠builtinsNs∧base.get? bm=some ob∧ob.cls=.type "module" ∧ob.dict=some builtinsNs∧ob.data=.plain):
  az P w K mg base aE 10 f (PySem.W.fnOf "law" "law" (dQ br) (bu br) (au br) .none kV doc pm an (.ref c) ct) ["_law_script"] (pY K Pt):=by
 refine tW lk bP dk (fun vs H Q E h=> ?_) (fun A outer s H vs Q E hr h=> ?_)
 ·obtain⟨a,ns,rfl,_⟩:=h
  rfl
 ·obtain⟨a,ns,rfl,uV,lO,Cu,q⟩:=h
  have C:LCtx (aV aE P w K mg base da "law" (au br) f (.ref c) A outer s H E).cu cS c Pt fR 7:=⟨⟨rfl,hC,sQ⟩,hR,hr,mR,kR⟩
  have n3:LN (aV aE P w K mg base da "law" (au br) f (.ref c) A outer s H E).cu "_law_none" 3:=⟨rfl,rfl,rfl⟩
  have n4:LN (aV aE P w K mg base da "law" (au br) f (.ref c) A outer s H E).cu "_law_board_here" 4:=⟨rfl,rfl,rfl⟩
  have n5:LN (aV aE P w K mg base da "law" (au br) f (.ref c) A outer s H E).cu "_law_lay_here" 5:=⟨rfl,rfl,rfl⟩
  have n6:LN (aV aE P w K mg base da "law" (au br) f (.ref c) A outer s H E).cu "_law_bad" 6:=⟨rfl,rfl,rfl⟩
  have BK:LN (aV aE P w K mg base da "law" (au br) f (.ref c) A outer s H E).cu "_law_wrong" 14:=⟨rfl,rfl,rfl⟩
  have wC:=hr.units
  have jW:=Ge hr
  have rV:=Nat.lt_of_succ_lt jW
  have xf:(aV aE P w K mg base da "law" (au br) f (.ref c) A outer s H E).cu.A.guards=some []:=hr.gd
  have main:∃t,cW (aV aE P w K mg base da "law" (au br) f (.ref c) A outer s H E).cu (bu br) t∧t {nx:=fun _ H'=>Q .aa H',rt:=Q} (start da [.ref a]) H:=by
   refine⟨_,(Zd (Y7 PassesOwn.never rfl (Z9 rfl G.range (Za (Zg (JT rfl) rfl G.max boot_max (Za Zh (Za (Zg (UG rfl) rfl G.min boot_min (Za (Zg Zq rfl G.len boot_len (Za (pv 0) Zb)) (Za Zh Zb))) Zb))) Zb)) (ZF (i:=1) dk.nd rfl (Or.inl rfl)) (Zd (Zs (i:=2) dk.nd rfl (Or.inl rfl) (Zi HJ (hr.mono (by decide)) (Za (pv 0) (Za (pv 1) Zb))))
   (Zd (Yv (Zz (Za (Zi HP (hr.mono (by decide)) (Za (pv 2) Zb)) (Za (Zi HQ (hr.mono (by decide)) (Za (pv 2) (Za Zh Zb))) Zb))) (Yc rfl (Zt (ZF (i:=3) dk.nd rfl (Or.inr rfl)) (Zt (ZF (i:=4) dk.nd rfl (Or.inr rfl)) ZW))))
   (Zd (Zs (i:=5) dk.nd rfl (Or.inr rfl) (Zi Dl (hr.mono (by decide)) (Za (pv 2) (Za (pv 4) Zb))))
   (Zd (Zs (i:=6) dk.nd rfl (Or.inr rfl) (Zi HN (hr.mono (by decide)) (Za (pv 2) (Za (pv 4) (Za (pv 5) Zb)))))
   (Zd (J3 ["_law_line", "_law_lay_here"] 1 [5] (i:=7) dk.nd rfl (Or.inl rfl) (Z9 rfl G.range (Za (ZG Yq (pv 4) Zh (fun _ _=>rfl)) Zb)) (fun C s H fp=>pb 0) (fun C s H fp=>YV (Y6 (YB (ZG (show kq (aJ _ _ _ C s H fp) (qJ K) from Yq) (pv 1) (pv 0) (fun _ _=>rfl))))) (fun C s H fp D=>ZE rfl (Zz (Za (pv 0) (Za (ZG (show kq (aJ _ _ _ C s H fp) (qJ K) from Yq) (pv 1) (pv 0) (fun _ _=>rfl)) Zb)))))
   (Zd (J4 (i:=8) (j:=9) rfl dk.nd rfl rfl (by decide) rfl rfl (Za (ZR Yt rfl G.list boot_list (Za (pv 7) Zb)) (Za (Zl Zb) Zb)) rfl)
   (Zd (UU PassesOwn.never (ZA (U3 rV) (pv 8) (Zl Zb) (bz _)) (Zk (ZO (YY PySem.F.plainAttrs_list PySem.F.slot_list_append PySem.F.type_list_append Ya (pv 9) (Za (YY PySem.F.plainAttrs_list PySem.F.slot_list_pop PySem.F.type_list_pop Wr (pv 8) (Za (Zi HI (hr.mono (by decide)) (Za (pv 2) (Za (Zg Zq rfl G.len boot_len (Za (pv 8) Zb)) Zb))) Zb)) Zb)))))
   (Zd (Y7 PassesOwn.never rfl (Z9 rfl G.range (Za Zh Zb)) (ZF (i:=10) dk.nd rfl (Or.inl rfl)) (Zd (J4 (i:=11) (j:=12) rfl dk.nd rfl rfl (by decide) rfl rfl (Za (Zi HL (hr.mono (by decide)) (Za (pv 4) (Za (pv 5) Zb))) (Za (ZR Yt rfl G.list boot_list (Za (pv 9) Zb)) Zb)) rfl)
   (Zd (ZM (PW.pt (Yj (ZS (ZL (Zi S3 (hr.mono (by decide)) (Za (pv 11) (Za (pv 7) Zb))))) (Yj (ZS (ZL (Zi S2 (hr.mono (by decide)) (Za (Zi y9 (hr.mono (by decide)) (Za (pv 4) (Za (pv 12) Zb))) (Za (pv 5) Zb))))) (Z7 (ZA (GV jW) (pv 12) (pv 9) (bz _)))))) Zr Zu)
   (Zk (ZO (YY PySem.F.plainAttrs_list PySem.F.slot_list_append PySem.F.type_list_append Ya (pv 11) (Za (Zz Zb) Zb)))))))
   (Zd (Zs (i:=13) dk.nd rfl (Or.inl rfl) (Zl (Za (J7 (params:=cb) (body:=mF "points" "_law_none" "_law_bad" _ _ _ _) (scope:=sA) C.lam rfl (YK (by kernel_rfl))) Zb)))
   (Zd (ZO (YY PySem.F.plainAttrs_list PySem.F.slot_list_append PySem.F.type_list_append Ya (pv 13) (Za (J7 (params:=cb) (body:=yo "lay_of" "_law_none" _ _ _ _) (scope:=sB) C.lam rfl (YK (by kernel_rfl))) Zb)))
   (Zd (ZO (YY PySem.F.plainAttrs_list PySem.F.slot_list_append PySem.F.type_list_append Ya (pv 13) (Za (J7 (params:=cb) (body:=mF "points" "_law_none" "_law_lay_here" _ _ _ _) (scope:=sC) C.lam rfl (YK (by kernel_rfl))) Zb)))
   (Zd (ZM (PW.pt (Yj (ZA (GU jW) (UY ["_law_call"] 1 [] (Yo (pv 13)) (fun C s H fp=>pb 0) (fun C s H fp=>Z3) (fun pins σ B s H fp D I0 hf=>ZE rfl (GX (kf:=7) C.hR C.room C.mR C.kR I0 hf rfl (pv 0)))) (Zj WP (Zl (Za (Zl (Za Zh Zb)) Zb)) Zh) (bz _)) (Z7 (ZA (WQ jW) (Jg (params:=cb) (bd:=mF "points" "_law_board_here" "_law_bad" _ _ _ _) (idx:=[4,6]) C (lsN (by kernel_rfl)) rfl (oB n4 n6) rfl rfl (YK (by kernel_rfl))) (Zl (Za Zh Zb)) (bz _))))) Zr Zu)
   (Zk (Y7 PassesOwn.never rfl (Z9 rfl G.range (Za Zh Zb)) (ZF (i:=10) dk.nd rfl (Or.inl rfl)) (Zd (Zs (i:=14) dk.nd rfl (Or.inr rfl) (Zi HM (hr.mono (by decide)) (Za (pv 2) (Za (pv 4) (Za (pv 9) Zb)))))
   (Zd (Zs (i:=15) dk.nd rfl (Or.inl rfl) (Zg (Jx wC xf) rfl G.repr PyProof.Rows.Boot.«repr» (Za (pv 14) Zb)))
   (Zk (ZM (PW.pt (Yj (ZA (WQ jW) (Jg (params:=cb) (bd:=mF "lay_of" "_law_board_here" "_law_wrong" _ _ _ _) (idx:=[4,14]) C (lsN (by kernel_rfl)) rfl (oB n4 BK) rfl rfl (YK (by kernel_rfl))) (Zl (Za Zh Zb)) (bz _)) (Z7 (ZA Wo (Zg (Jx wC xf) rfl G.repr PyProof.Rows.Boot.«repr» (Za (pv 14) Zb)) (pv 15) (bz _))))) Zr Zu)))))))))))))))))))
   (Zd (ZM (ZA (WQ jW) (Jg (params:=cb) (bd:=tR 3 3 0 1 2 2 1 1 _ _ _ _ _ _ _ _ _ _ _ _ _ _ _) (idx:=[]) C (lsN (by kernel_rfl)) rfl wj rfl rfl (YK (by kernel_rfl))) (Zl (Za Zh Zb)) (bz _)) Zr Zu)
   (Zk (ZB (Yf (Yh (F7 rV) (Jg (params:=cb) (bd:=tR 3 3 0 1 2 2 0 0 _ _ _ _ _ _ _ _ _ _ _ _ _ _ _) (idx:=[]) C (lsN (by kernel_rfl)) rfl wj rfl rfl (YK (by kernel_rfl))) (Zl (Za Zh Zb)) (bz _)) (Ye (Yh (GS rV) (Zi y9 (hr.mono (by decide)) (Za (Zz (Za Zh (Za Zh Zb))) (Za (Zl Zb) Zb))) (Zz (Za ZX (Za ZX Zb))) (bz _)))))))),?_⟩
   have zG:TabAt H Pt (lq (aV aE P w K mg base da "law" (au br) f (.ref c) A outer s H E).cu):=⟨#[],Cu,trivial,fun pos cv z=>by cases z⟩
   refine aF ?_
   refine⟨_,rfl,a,_,rfl,.inl uV.sq,_,_,rfl,_,_,rfl,_,rfl,(by rw[List.length_map];split<;>split<;>omega),(by rw[List.length_map];split<;>split<;>omega),?_⟩
   refine YG (fun i σ H'=> ∃s1 s2 s3 s4 s5 s6 s7 s8 s9 bt aW dm fb aZ cZ,σ=[some (.ref a),s1,s2,s3,s4,s5,s6,s7,s8,s9,bt,aW,dm,fb,aZ,cZ]∧dg K H' a ns∧TabAt H' Pt (lq (aV aE P w K mg base da "law" (au br) f (.ref c) A outer s H E).cu)) ⟨_,_,_,_,_,_,_,_,_,_,_,_,_,_,_,rfl,uV,zG⟩ ?_ ?_
   ·rintro i σ H0 hi ⟨q1,q2,q3,q4,q5,q6,q7,q8,q9,oh,og,oa,kX,jR,jQ,rfl,uU,zF⟩
    rw[Int.zero_add]
    refine bV ?_
    dsimp only[List.set]
    refine aF (bO ⟨_,rfl,_,rfl,a,ns,i,rfl,uU.sq,fun p H1 np k1 cN=>bV ?_⟩)
    dsimp only[List.set]
    have uT:=uU.same k1
    have pL:=ZT zF k1
    have step:∀{Ha Hb:Hp},ak p Ha Hb→aY Ha p→dg K Ha a ns→TabAt Ha Pt (lq (aV aE P w K mg base da "law" (au br) f (.ref c) A outer s H E).cu)→dg K Hb a ns∧TabAt Hb Pt (lq (aV aE P w K mg base da "law" (au br) f (.ref c) A outer s H E).cu):=fun x st sc tb=>by
     obtain⟨u,v,e,_⟩:=st
     exact⟨sc.x x e (fun _ _ z=>by cases z),yD tb x e (fun _ z=>by cases z) (fun _ z=>by cases z)⟩
    refine aF (bO ⟨_,rfl,p,rfl,cN,fun vn H2 x2 bS bn nn=> ⟨_,rfl,p,12,rfl,bS,by decide,by decide,fun b H3 wd hg w1 w2 g1 g2 x3 cq hb nb=> ⟨(by show 2≤sizeLine;decide),fun tq Ct=> ?_⟩⟩⟩)
    obtain⟨AD,pI⟩:=step x2 cN uT pL
    obtain⟨AB,zA⟩:=step x3 bS AD pI
    have Fc:=UH ⟨bn,nn⟩ x3
    have s4:=ag (o:=.tup [vn,.ref b]) Ct
    have e4:upd H3 tq (.tup [vn,.ref b]) tq=some (.tup [vn,.ref b]):=Zc
    generalize upd H3 tq (HO.tup [vn,V.ref b])=H4 at s4 e4
    refine⟨tq,_,rfl,ai.of e4,rfl,_,_,rfl,_,_,rfl,rfl,?_⟩
    dsimp only[List.set]
    have xn:=s4 _ _ hb
    have jr:∀{H':Hp},H' b=some (.tup [V.int wd,V.int hg])→cY H' (.ref b) wd hg:=fun h=> ⟨Zo h,w1,w2,g1,g2⟩
    have kK:=cq.same s4
    have Fb:=UH Fc s4.x
    refine aF (bO ⟨_,rfl,_,rfl,p,b,wd,hg,rfl,kK,jr xn,fun l H5 xs x5 dh el nl ly=>bV ?_⟩)
    dsimp only[List.set]
    obtain⟨AA,zz⟩:=step x5 kK (AB.same s4) (ZT zA s4)
    have E9:=UH Fb x5
    have xm:=x5 _ _ xn nb
    have lx:=ly.len
    refine aF (bO ⟨_,rfl,_,rfl,_,rfl,p,b,l,wd,hg,xs,rfl,dh,jr xm,el,ly,fun vb H6 x6 dY EW=>bV ?_⟩)
    dsimp only[List.set]
    obtain⟨Az,zy⟩:=step x6 dh AA zz
    have EZ:=UH E9 x6
    have sR:=x6 _ _ xm nb
    have xX:=x6 _ _ el nl
    refine aF ⟨_,rfl,b,_,_,_,rfl,rfl,ai.of sR,iG,wd,rfl,by omega,by omega,?_⟩
    refine Jt (n:=wd.toNat) (fun j ys aj H'=> ∃v0,aj=[v0,some (.ref l)]∧ae H6 H'∧Paired (aM H') ys (jS xs j)∧ys.length≤j) ⟨_,rfl,ae.refl _,.nil,Nat.zero_le _⟩ ?_ ?_
    ·rintro j ys aj H' hj ⟨v0,rfl,s',lh,l'⟩
     rw[Int.zero_add]
     refine bV ?_
     dsimp only[List.set]
     have lS:j<xs.length:=by omega
     have hv:=List.getElem?_eq_getElem lS
     have xW:=s' _ _ xX
     refine⟨_,rfl,_,rfl,l,xs,_,_,rfl,rfl,ai.of xW,ZK hv,_,rfl,?_⟩
     rcases Y5 ly hv with ⟨e1,e2⟩ |⟨r,e1,e2,_⟩
     ·rw[e1]
      refine ay ⟨_,rfl,s',?_,by omega⟩
      rw[Yl,e2]
      exact(by simpa using lh)
     ·rw[e1]at hv ⊢
      refine aH ⟨_,rfl,_,rfl,_,rfl,l,xs,_,_,rfl,rfl,ai.of xW,ZK hv,(by show 2≤sizeLine;decide),fun t ht=> ⟨by rw[sizeLine_eq];omega,?_⟩⟩
      have sT:=ag (o:=.tup [.int (j:Int),.int r]) ht
      refine⟨_,rfl,s'.trans sT,?_,by rw[List.length_append];simp;omega⟩
      rw[Yl,e2]
      exact Paired.snoc (Paired.aX lh fun v q' hq=>hq.same sT) ⟨t,rfl,Zc⟩
    rintro ds aj H7 ⟨v0,rfl,s7,kZ,l7⟩ Du xE
    have vi:=ag (o:=.lst ds) xE
    have eD:upd H7 Du (.lst ds) Du=some (.lst ds):=Zc
    have vE:Paired (aM (upd H7 Du (.lst ds))) ds (jS xs wd.toNat):=Paired.aX kZ fun v q' hq=>hq.same vi
    rw[show wd.toNat=xs.length by omega]at vE
    have oj:Paired (aM (upd H7 Du (.lst ds))) ds (bY xs):=vE
    have s8:=s7.trans vi
    have BJ:Du≠p:=fun z=>by
     obtain⟨u,v,e,_⟩:=id dY
     have:=s7 _ _ e
     rw[←z,xE]at this;cases this
    generalize upd H7 Du (HO.lst ds)=H8 at s8 eD oj
    dsimp only[List.set]
    have nE:=dY.same s8
    obtain⟨u8,v8,tH,_⟩:=id nE
    have ld:ds.length=(bY xs).length:=Paired.length oj
    have Iv:=G7 xs
    refine aF ⟨_,rfl,Du,ds,rfl,.inl (af.of eD),fun Lf oT=> ⟨Nat.zero_le _,fun Mx mh=> ⟨_,_,rfl,?_⟩⟩⟩
    dsimp only[List.set]
    have sL:=ag (o:=.lst ds) oT
    have eL:upd H8 Lf (.lst ds) Lf=some (.lst ds):=Zc
    have rA:H8 Mx=none:=by
     cases h:H8 Mx with
     |none=>rfl
     |some u=>rw[sL _ _ h]at mh;cases mh
    have vZ:Lf≠Mx:=fun z=>by rw[←z,eL]at mh;cases mh
    have sM:=ag (o:=.lst []) mh
    have yc:upd (upd H8 Lf (.lst ds)) Mx (.lst []) Mx=some (.lst []):=Zc
    have yg:=sM _ _ eL
    have qF:=sL.trans sM
    generalize upd (upd H8 Lf (HO.lst ds)) Mx (HO.lst [])=H9 at qF yc yg
    have vY:Lf≠p:=fun z=>by rw[z,tH]at oT;cases oT
    have oz:Mx≠p:=fun z=>by rw[z,tH]at rA;cases rA
    have vz:∀{H':Hp}{v:V}{q':Int×Int},ak p H8 H'→aM H8 v q'→aM H' v q':=fun x h=>by
     obtain⟨t,e,ht⟩:=h
     exact⟨t,e,x _ _ ht fun z=>by rw[z,tH]at ht;cases ht⟩
    refine T.uF (fun σ H'=> ∃(ms:List V) (qM:List (Int×Int)),σ=[some (.ref a),some (.int (i:Int)),some (.ref p),some vn,some (.ref b),some (.ref l),some vb,some (.ref Du),some (.ref Lf),some (.ref Mx),oh,og,oa,kX,jR,jQ]∧ak p H8 H'∧aY H' p∧H' Mx=some (.lst ms)∧Paired (aM H8) ms qM∧qM.Perm (bY xs)) ?_ ?_
    case refine_2=>
     intro D' hD
     refine⟨fun m σ H'=> ∃(ls ms:List V) (qL qM:List (Int×Int)),m=ls.length∧σ=[some (.ref a),some (.int (i:Int)),some (.ref p),some vn,some (.ref b),some (.ref l),some vb,some (.ref Du),some (.ref Lf),some (.ref Mx),oh,og,oa,kX,jR,jQ]∧ak p H8 H'∧aY H' p∧H' Lf=some (.lst ls)∧H' Mx=some (.lst ms)∧Paired (aM H8) ls qL∧Paired (aM H8) ms qM∧(qL++qM).Perm (bY xs)∧ls.length≤12∧ms.length≤12,
      ⟨_,ds,[],bY xs,[],rfl,rfl,qF.x,nE.same qF,yg,yc,oj,.nil,by rw[List.append_nil],by omega,Nat.zero_le _⟩,?_⟩
     rintro m σ H' ⟨ls,ms,qL,qM,rfl,rfl,x',cg,yh,yd,qO,gZ,pm,Iz,Iy⟩
     refine⟨_,rfl,Nat.zero_le _,fun c' aQ=> ⟨Lf,c',ls,rfl,rfl,af.of (ag aQ _ _ yh),af.of Zc,_,rfl,?_⟩⟩
     have sc:=ag (o:=.lst []) aQ
     generalize upd H' c' (HO.lst [])=Hc at sc
     have lL:ls.length=qL.length:=Paired.length qO
     have lM:ms.length=qM.length:=Paired.length gZ
     cases oJ:ls with
     |nil=>
      subst oJ
      have eq:qL=[]:=by cases qL with |nil=>rfl |cons _ _=>cases lL
      subst eq
      exact ay (hD _ _ ⟨ms,qM,rfl,x'.trans sc.x,cg.same sc,sc _ _ yd,gZ,pm⟩)
     |cons l0 lr=>
      rw[←oJ]
      have wJ:0<ls.length:=by rw[oJ];simp
      have bB:(!ls.isEmpty)=true:=by rw[oJ];rfl
      rw[bB]
      refine aH ⟨fun σ H'=> ∃m',m'<ls.length∧∃(ls ms:List V) (qL qM:List (Int×Int)),m'=ls.length∧σ=[some (.ref a),some (.int (i:Int)),some (.ref p),some vn,some (.ref b),some (.ref l),some vb,some (.ref Du),some (.ref Lf),some (.ref Mx),oh,og,oa,kX,jR,jQ]∧ak p H8 H'∧aY H' p∧H' Lf=some (.lst ls)∧H' Mx=some (.lst ms)∧Paired (aM H8) ls qL∧Paired (aM H8) ms qM∧(qL++qM).Perm (bY xs)∧ls.length≤12∧ms.length≤12,fun aj H' h=>h,?_⟩
      have tK:=sc _ _ yh
      have x9:=sc _ _ yd
      have Ao:=cg.same sc
      refine⟨_,rfl,.inl ⟨rfl,_,af.of x9⟩,_,rfl,.inl ⟨rfl,_,af.of tK⟩,_,rfl,_,rfl,Lf,ls,rfl,.inl (af.of tK),p,(ls.length:Int),rfl,Ao,by omega,by omega,fun r o r0 r1 nG=> ?_⟩
      have x1:ak p Hc (upd Hc p o):=ak.upd
      have yf:=x1 _ _ tK vY
      have x8:=x1 _ _ x9 oz
      generalize upd Hc p o=Hd at x1 yf x8 nG
      have hk:r.toNat<ls.length:=by omega
      obtain⟨q0,CM,p0⟩:=Z6 qO (List.getElem?_eq_getElem hk)
      refine⟨Lf,ls,r,r.toNat,ls[r.toNat],rfl,rfl,yf,by omega,by omega,yw r0 r1,List.getElem?_eq_getElem hk,?_⟩
      have xA:ak p H8 (upd Hd Lf (.lst (ls.eraseIdx r.toNat))):=YM (x'.trans (sc.x.trans x1)) oT
      have ye:upd Hd Lf (.lst (ls.eraseIdx r.toNat)) Lf=some (.lst (ls.eraseIdx r.toNat)):=Zc
      have xZ:upd Hd Lf (.lst (ls.eraseIdx r.toNat)) Mx=some (.lst ms):=by rw[Ze (Ne.symm vZ)];exact x8
      have uN:aY (upd Hd Lf (.lst (ls.eraseIdx r.toNat))) p:=by
       obtain⟨u,v,e,h⟩:=nG
       exact⟨u,v,by rw[Ze (Ne.symm vY)];exact e,h⟩
      generalize upd Hd Lf (HO.lst (ls.eraseIdx r.toNat))=He at xA ye xZ uN
      refine⟨Mx,ms,_,rfl,rfl,xZ,by rw[sizeLine_eq];omega,?_⟩
      have C8:r.toNat<qL.length:=by omega
      have vK:(qL.eraseIdx r.toNat++(qM++[q0])).Perm (bY xs):=by
       refine List.Perm.trans ?_ pm
       have e0:qL=qL.take r.toNat++q0::qL.drop (r.toNat+1):=by
        have:=List.getElem?_eq_some_iff.mp CM
        obtain⟨h1,h2⟩:=this
        rw[←h2,List.getElem_cons_drop,List.take_append_drop]
       rw[List.eraseIdx_eq_take_drop_succ]
       refine List.Perm.trans ?_ (List.Perm.append_right qM (List.Perm.of_eq e0.symm))
       rw[List.append_assoc,List.append_assoc]
       refine List.Perm.append_left _ ?_
       rw[←List.append_assoc]
       exact List.perm_append_singleton q0 (qL.drop (r.toNat+1)++qM)
      have le:(ls.eraseIdx r.toNat).length=ls.length - 1:=List.length_eraseIdx_of_lt hk
      have we:=vK.length_eq
      rw[List.length_append,List.length_append,List.length_eraseIdx_of_lt C8]at we
      simp only[List.length_cons,List.length_nil]at we
      refine⟨_,by rw[le];omega,ls.eraseIdx r.toNat,ms++[ls[r.toNat]],qL.eraseIdx r.toNat,qM++[q0],rfl,rfl,YM xA rA,?_,?_,Zc,YZ qO r.toNat,Paired.snoc gZ p0,vK,by omega,by rw[List.length_append];simp;omega⟩
      ·obtain⟨u,v,e,h⟩:=uN
       exact⟨u,v,by rw[Ze (Ne.symm oz)];exact e,h⟩
      ·rw[Ze vZ];exact ye
    rintro σ iL ⟨ms,qM,rfl,gM,Ap,eM,Bg,pm⟩
    try dsimp only
    have EV:aS K p wd hg H8 vb:=EW.same s8
    have EX:=EV.x gM nE
    have Fd:=UH (UH EZ s8.x) gM
    have sS:=gM _ _ (s8 _ _ sR) nb
    have tJ:=gM _ _ (s8 _ _ xX) nl
    have ED:=gM _ _ eD BJ
    obtain⟨AG,zE⟩:=step gM nE (Az.same s8) (ZT zy s8)
    have gZ:Paired (aM iL) ms qM:=Paired.aX Bg fun v q' h=>vz gM h
    have Bi:Paired (aM iL) ds (bY xs):=Paired.aX oj fun v q' h=>vz gM h
    have bT:=G6 ly pm
    have df:=UW ly pm
    have wb:qM.length≤12:=by have:=pm.length_eq;omega
    have Iw:ms.length=qM.length:=Paired.length gZ
    have back:=GC ly pm
    refine aF ⟨2,rfl,by decide,by decide,?_⟩
    refine YG (fun j σ H'=> ∃jD kF iO,σ=[some (.ref a),some (.int (i:Int)),some (.ref p),some vn,some (.ref b),some (.ref l),some vb,some (.ref Du),some (.ref Lf),some (.ref Mx),jD,kF,iO,kX,jR,jQ]∧ae iL H') ⟨_,_,_,rfl,ae.refl _⟩ ?_ ?_
    ·rintro j σ Hj hj ⟨jD,kF,iO,rfl,sj⟩
     refine bV ?_
     dsimp only[List.set]
     refine aF ⟨_,rfl,_,rfl,.ref b,.ref l,wd,hg,xs,rfl,⟨jr (sj _ _ sS),Zo (sj _ _ tJ),ly⟩,fun Fo pk ps vm nF eF vC=> ⟨_,rfl,Mx,ms,rfl,.inl (af.of ((sj.trans vm) _ _ eM)),fun Ha DQ=> ⟨_,_,rfl,?_⟩⟩⟩
     dsimp only[List.set]
     have n8:=ag (o:=.lst ms) DQ
     have tL:upd pk Ha (.lst ms) Ha=some (.lst ms):=Zc
     generalize upd pk Ha (HO.lst ms)=uj at n8 tL
     have dm:=vm.trans n8
     have qg:=sj.trans dm
     have tM:=n8 _ _ eF
     have wc:ps.length=(bY xs).length:=Paired.length vC
     refine aF ⟨_,rfl,_,rfl,.ref Fo,.ref Du,rfl,⟨Fo,Du,ps,ds,rfl,rfl,tM,qg _ _ ED,UQ (Paired.aX vC fun v q' h=>h.same n8) (Paired.aX Bi fun v q' h=>h.same qg),by omega⟩,fun yZ qH=> ⟨_,rfl,ay ?_⟩⟩
     have qf:=qg.trans qH
     refine⟨_,rfl,_,rfl,b,Ha,ms,qM,wd,hg,rfl,jr (qf _ _ sS),qH _ _ tL,Paired.aX gZ fun v q' h=>h.same qf,bT,df,wb,fun t4 Kh vk yi=> ?_⟩
     rw[back]at yi
     have uR:=qf.trans vk
     refine⟨_,rfl,.ref t4,.ref l,rfl,.inr ⟨t4,l,xs,xs,rfl,rfl,yi,uR _ _ tJ,GD ly.ok,by omega⟩,fun HH vj=> ⟨_,rfl,ay ?_⟩⟩
     have uQ:=uR.trans vj
     have nZ:=qH.trans (vk.trans vj)
     have uA:=Fn (Paired.aX gZ fun v q' h=>h.same uQ)
     refine⟨_,rfl,_,rfl,Ha,Mx,ms,ms,_,rfl,rfl,af.of (nZ _ _ tL),af.of (uQ _ _ eM),uA,uA,_,rfl,ay (eQ ?_)⟩
     try dsimp only
     refine⟨_,rfl,.inl ⟨rfl,_,af.of (nZ _ _ tM)⟩,Nat.zero_le _,fun t6 Cv=> ?_⟩
     have qG:=ag (o:=.tup []) Cv
     generalize upd HH t6 (HO.tup [])=Kg at qG
     refine⟨Fo,ps,.ref t6,rfl,rfl,(nZ.trans qG) _ _ tM,by rw[sizeLine_eq];omega,?_⟩
     exact⟨_,_,_,rfl,sj.trans (T.qk (dm.trans (nZ.trans qG)) nF)⟩
    rintro σ fW ⟨jD,kF,iO,rfl,aW⟩
    try dsimp only
    have xb:pd K fW vn vb b l wd hg xs:=⟨Fd.1.same aW,EX.1.same aW,aW _ _ sS,aW _ _ tJ⟩
    have pK:=ZT zE aW
    have AF:=AG.same aW
    have ya:=aW _ _ eM
    obtain⟨zt,v11,xT,CF⟩:=Ap.same aW
    refine aF (bO ⟨pK,fun Ek HG AO _ zJ B0=> ⟨(by show 1≤sizeLine;decide),fun L hL=>bV ?_⟩⟩)
    have m1:=Hn pK AO zJ B0 hL
    generalize upd HG L (.lst [V.ref Ek])=kz at m1
    dsimp only[List.set]
    obtain⟨bX,bQ,Ca⟩:=m1.lst
    refine aF ⟨_,rfl,.inl ⟨rfl,_,af.of bQ⟩,m1.tb,fun xJ HF vh _ zI BZ=> ⟨L,bX,.ref xJ,rfl,rfl,m1.cH bQ vh,(by rw[Ca,sizeLine_eq];decide),?_⟩⟩
    have m2:=m1.app bQ vh zI BZ
    generalize upd HF L (.lst (bX++[V.ref xJ]))=ku at m2
    try dsimp only
    obtain⟨bW,mm,B3⟩:=m2.lst
    refine aF ⟨_,rfl,.inl ⟨rfl,_,af.of mm⟩,m2.tb,fun xI HE vg _ zH BY=> ⟨L,bW,.ref xI,rfl,rfl,m2.cH mm vg,(by rw[B3,sizeLine_eq];decide),?_⟩⟩
    have m3:=m2.app mm vg zH BY
    generalize upd HE L (.lst (bW++[V.ref xI]))=jx at m3
    try dsimp only
    obtain⟨uK,mw,pJ,nj,ix,vG⟩:=m3
    have l3:nj.length=3:=Paired.length vG
    obtain⟨Ig,kj,_⟩:=id pK
    have xa:=xb.xt uK kj
    have Et:Mx≠Pt:=Y0 ya kj (by intro z;cases z)
    have Ex:p≠Pt:=Y0 xT kj (by intro z;cases z)
    refine aF ⟨_,rfl,L,rfl,⟨nj,af.of ix⟩,?_⟩
    refine Yk (xs:=nj) (fun j zs σ Hj=> ∃v0,σ=[v0]∧ae jx Hj∧Paired (fA Hj) zs (List.replicate j [0])) ⟨_,rfl,ae.refl _,.nil⟩ (fun j zs σ Hj _ ⟨_,_,s8,_⟩=>af.of (s8 _ _ ix)) ?_ ?_
    ·rintro j v zs σ Hj hv ⟨v0,rfl,sj,kY⟩
     obtain⟨bb,gv,lm⟩:=Z6 vG hv
     obtain⟨g,rfl,rC⟩:=lm.same sj
     have hj:j<nj.length:=(List.getElem?_eq_some_iff.mp hv).1
     obtain⟨zv,tE,_⟩:=id pJ
     have sr:=xa.xt sj.x tE
     have lz:zs.length=j:=by rw[Paired.length kY,List.length_replicate]
     suffices h:∃params bd scope N idx ws C Pre,zb (aV aE P w K mg base da "law" (au br) f (.ref c) A outer s H E).cu cS 7 [some (.ref a),some (.int (i:Int)),some (.ref p),some vn,some (.ref b),some (.ref l),some vb,some (.ref Du),some (.ref Lf),some (.ref Mx),jD,kF,iO,some (.ref L),jR,jQ] Hj g 0 params bd scope N idx ws C Pre by
      refine⟨g,0,rfl,h,fun l1 H9 s9 _ e9=> ⟨by rw[lz,sizeLine_eq];omega,_,rfl,sj.trans s9,?_⟩⟩
      rw[List.replicate_succ']
      exact Paired.snoc (Paired.aX kY fun v q' h=>h.same s9) ⟨l1,rfl,e9⟩
     match j,gv,hj with
     |0,gv,_=>
      cases gv
      exact⟨cb,_,sA,_,[3,6],[vn,vb],cB,_,⟨lsN (by kernel_rfl),rfl,oB n3 n6,rfl,at2 rfl rfl,YK (by kernel_rfl),rC,.inl rfl,M0,oX (Nat.le_refl _) hP rfl rfl rfl (by decide) (by decide) (by decide) (by decide) (by decide),fun Q' E' hE=> ⟨vn,vb,cB,rfl,.inl ⟨rfl,sr.bn⟩,hE⟩⟩⟩
     |1,gv,_=>
      cases gv
      exact⟨cb,_,sB,_,[3],[vn],cB,_,⟨lsN (by kernel_rfl),rfl,BU n3,rfl,Fg rfl,YK (by kernel_rfl),rC,.inl rfl,M0,EY (by decide) hO rfl rfl (by decide) (by decide) (by decide),fun Q' E' hE=> ⟨vn,.aa,cB,rfl,.inl ⟨rfl,sr.bn⟩,hE⟩⟩⟩
     |2,gv,_=>
      cases gv
      exact⟨cb,_,sC,_,[3,5],[vn,.ref l],cB,_,⟨lsN (by kernel_rfl),rfl,oB n3 n5,rfl,at2 rfl rfl,YK (by kernel_rfl),rC,.inl rfl,M0,oX (Nat.le_refl _) hP rfl rfl rfl (by decide) (by decide) (by decide) (by decide) (by decide),fun Q' E' hE=> ⟨vn,.ref l,cB,rfl,.inl ⟨rfl,sr.bn⟩,hE⟩⟩⟩
     |j+3,_,h=>omega
    rintro zs σ dA ⟨v0,rfl,fb,kY⟩ Z hZ
    rw[l3]at kY
    have sZ:=ag (o:=.lst zs) hZ
    have eZ:upd dA Z (.lst zs) Z=some (.lst zs):=Zc
    generalize upd dA Z (HO.lst zs)=fH at sZ eZ
    refine⟨(by show 1≤sizeLine;decide),fun a1 h1=> ⟨(by show 1≤sizeLine;decide),fun a2 h2=> ?_⟩⟩
    have y1:=ag (o:=.lst [V.int 0]) h1
    have z1:upd fH a1 (.lst [V.int 0]) a1=some (.lst [V.int 0]):=Zc
    generalize upd fH a1 (HO.lst [V.int 0])=G1 at y1 z1 h2 ⊢
    have y2:=ag (o:=.lst [V.ref a1]) h2
    have z2:upd G1 a2 (.lst [V.ref a1]) a2=some (.lst [V.ref a1]):=Zc
    generalize upd G1 a2 (HO.lst [V.ref a1])=G2 at y2 z2
    refine⟨a2,3,_,rfl,rfl,z2,by decide,by decide,(by show 1*3≤sizeLine;decide),fun a3 h3=> ?_⟩
    have Ew:(List.replicate (Int.toNat 3) [V.ref a1]).flatten=[V.ref a1,V.ref a1,V.ref a1]:=rfl
    rw[Ew]
    have y3:=ag (o:=.lst [V.ref a1,V.ref a1,V.ref a1]) h3
    have z3:upd G2 a3 (.lst [V.ref a1,V.ref a1,V.ref a1]) a3=some (.lst [V.ref a1,V.ref a1,V.ref a1]):=Zc
    have pA:=y1.trans (y2.trans y3)
    have oA:fA (upd G2 a3 (.lst [V.ref a1,V.ref a1,V.ref a1])) (.ref a1) [0]:=⟨a1,rfl,(y2.trans y3) _ _ z1⟩
    refine⟨Z,a3,zs,[V.ref a1,V.ref a1,V.ref a1],[[0],[0],[0]],rfl,rfl,af.of (pA _ _ eZ),af.of z3,Paired.aX kY fun v q' h=>h.same (sZ.trans pA),.cons oA (.cons oA (.cons oA .nil)),_,rfl,ay ?_⟩
    clear oA z3
    have aZ:=fb.trans (sZ.trans pA)
    generalize upd G2 a3 (HO.lst [V.ref a1,V.ref a1,V.ref a1])=gI at aZ
    obtain⟨zv,tE,_⟩:=id pJ
    have w9:=xa.xt aZ.x tE
    have uD:=ZT pJ aZ
    obtain⟨Ie,xR,_⟩:=id uD
    refine⟨[.ref b,vb],cL,1,o7 (gO K cB cL) [.ref b,vb] cL,rfl,at2 rfl rfl,uD,.inr (.inl rfl),M1,fun f'=>oX (Nat.le_refl _) hP rfl rfl rfl (by decide) (by decide) (by decide) (by decide) (by decide),fun H' x Q' E' hE=> ⟨.ref b,vb,cL,rfl,.inr ⟨rfl,wd,hg,jr (w9.xt x xR).hb,(w9.xt x xR).bl⟩,hE⟩,fun l1 fG ze zD vT je=> ⟨(by show 1≤sizeLine;decide),fun N0 mf=> ?_⟩⟩
    have nq:=ag (o:=.lst [V.int 1]) mf
    have e17:upd fG N0 (.lst [V.int 1]) N0=some (.lst [V.int 1]):=Zc
    generalize upd fG N0 (HO.lst [V.int 1])=mS at nq e17
    refine⟨l1,N0,[V.int 1],[V.int 1],rfl,rfl,af.of (nq _ _ je),af.of e17,.cons (.inl ⟨1,rfl,rfl⟩) .nil,false,rfl,ay (eQ ?_)⟩
    try dsimp only
    have xA:ak Pt fW mS:=uK.trans (aZ.x.trans (ze.trans nq.x))
    have zC:=ZT zD nq
    have DD:mS b=some (.tup [.int wd,.int hg]):=(xb.xt xA kj).hb
    have EC:=xA _ _ ya Et
    have Ey:=xA _ _ xT Ex
    have AE:=AF.x xA kj (fun _ _ z=>by cases z)
    have vA:∀{Ha Hb:Hp}{tp:Array Value},ak Pt Ha Hb→Ha Pt=some (.bh tp)→Paired (aM Ha) ms qM→Paired (aM Hb) ms qM:=fun x e pr=>Paired.aX pr fun v q' h=>by
     obtain⟨t,et,ht⟩:=h
     exact⟨t,et,x _ _ ht fun z=>by rw[z,e]at ht;cases ht⟩
    have Be:∀{Ha Hb:Hp},ak p Ha Hb→aY Ha p→Paired (aM Ha) ms qM→Paired (aM Hb) ms qM:=fun x st pr=>Paired.aX pr fun v q' h=>by
     obtain⟨t,et,ht⟩:=h
     obtain⟨u,v,e,_⟩:=st
     exact⟨t,et,x _ _ ht fun z=>by rw[z,e]at ht;cases ht⟩
    have Bh:=vA xA kj (Paired.aX gZ fun v q' h=>h.same aW)
    refine⟨4,rfl,by decide,by decide,?_⟩
    refine YG (fun j σ H'=> ∃jD pD pC,σ=[some (.ref a),some (.int (i:Int)),some (.ref p),some vn,some (.ref b),some (.ref l),some vb,some (.ref Du),some (.ref Lf),some (.ref Mx),jD,kF,iO,some (.ref L),pD,pC]∧dg K H' a ns∧TabAt H' Pt (lq (aV aE P w K mg base da "law" (au br) f (.ref c) A outer s H E).cu)∧H' b=some (.tup [.int wd,.int hg])∧H' Mx=some (.lst ms)∧aY H' p∧Paired (aM H') ms qM) ⟨_,_,_,rfl,AE,zC,DD,EC,⟨zt,v11,Ey,CF⟩,Bh⟩ ?_ ?_
    ·rintro j σ Hj hj ⟨zg,pD,pC,rfl,Ay,zx,xl,xY,pQ,vB⟩
     refine bV ?_
     dsimp only[List.set]
     refine aF (bO ⟨_,rfl,_,rfl,_,rfl,p,b,Mx,wd,hg,ms,qM,rfl,pQ,jr xl,xY,oz,vB,bT,df,wb,fun vw pk ni nG bp AS=>bV ?_⟩)
     obtain⟨d,rd⟩:=AS
     dsimp only[List.set]
     obtain⟨AH,uE⟩:=step ni pQ Ay zx
     have l5:=ni _ _ xl nb
     have yb:=ni _ _ xY oz
     have Bf:=Be ni pQ vB
     obtain⟨Ih,iz,_⟩:=id uE
     refine aF (bO ⟨_,rfl,vw,d,rfl,rd.sh,rd.ok,rd.len,rd.dp,fun h=> (by rw[rd.bD]at h;cases h),bV ?_⟩)
     dsimp only[List.set]
     refine⟨[.ref b,vw],cP,3,o7 (jK K cB cP) [.ref b,vw] cP,rfl,at2 rfl rfl,uE,.inr (.inr rfl),M3,fun f'=>oX (by decide) hO rfl rfl rfl (by decide) (by decide) (by decide) (by decide) (by decide),fun H' x Q' E' hE=> ⟨.ref b,vw,cP,rfl,.inr ⟨rfl,b,wd,hg,rfl,jr (x _ _ l5 (fun z=>by rw[z,iz]at l5;cases l5)),bp.x x iz⟩,hE⟩,fun l1 uj zd zB vT je=> ⟨(by show 1≤sizeLine;decide),fun N0 mf=> ?_⟩⟩
     have nk:=ag (o:=.lst [V.int 3]) mf
     have jo:upd uj N0 (.lst [V.int 3]) N0=some (.lst [V.int 3]):=Zc
     generalize upd uj N0 (HO.lst [V.int 3])=yZ at nk jo
     refine⟨l1,N0,[V.int 3],[V.int 3],rfl,rfl,af.of (nk _ _ je),af.of jo,.cons (.inl ⟨3,rfl,rfl⟩) .nil,false,rfl,ay ?_⟩
     have jC:ak Pt pk yZ:=zd.trans nk.x
     have kS:=rd.x jC iz
     refine⟨_,rfl,vw,d,rfl,kS.sh,kS.ok,kS.len,kS.dp,fun h=> (by rw[kS.bD]at h;cases h),_,rfl,rfl,_,rfl,?_⟩
     have z:decide (V.str d.shown=V.str d.shown)=true:=decide_eq_true rfl
     rw[z]
     obtain⟨zu,zo,xU,CG⟩:=nG
     exact ay (eQ ⟨_,_,_,rfl,AH.x jC iz (fun _ _ z=>by cases z),ZT zB nk,jC _ _ l5 (Y0 l5 iz (by intro z;cases z)),jC _ _ yb (Y0 yb iz (by intro z;cases z)),⟨zu,zo,jC _ _ xU (Y0 xU iz (by intro z;cases z)),CG⟩,vA jC iz Bf⟩)
    ·rintro σ Hz ⟨zg,pD,pC,rfl,Ax,zw,_⟩
     exact⟨_,_,_,_,_,_,_,_,_,_,_,_,_,_,_,rfl,Ax,zw⟩
   ·rintro σ H1 ⟨q1,q2,q3,q4,q5,q6,q7,q8,q9,oh,og,oa,kX,jR,jQ,rfl,uT,pL⟩
    try dsimp only
    refine aF ⟨[],cP,3,fun _=>True,rfl,yu,pL,.inr (.inr rfl),M3,fun f'=>yp (by decide) hO rfl (by decide) (fun q' hq=> ?_) ?_ ⟨(0,1),by simp,.inr rfl⟩,fun H' x=>trivial,fun l1 H2 x2 pI vT je=> ⟨(by show 1≤sizeLine;decide),fun N0 mf=> ?_⟩⟩
    ·simp only[List.mem_append,List.mem_cons,List.not_mem_nil,or_false]at hq
     rcases hq with (rfl |rfl) |rfl<;>exact⟨⟨by decide,by decide⟩,by decide,by decide⟩
    ·exact List.Pairwise.cons (fun b hb=>by rw[List.mem_singleton.mp hb];exact⟨by decide,by decide⟩) (List.pairwise_singleton _ _)
    have u3:=ag (o:=.lst [V.int 3]) mf
    have e3:upd H2 N0 (.lst [V.int 3]) N0=some (.lst [V.int 3]):=Zc
    generalize upd H2 N0 (HO.lst [V.int 3])=H3 at u3 e3
    refine⟨l1,N0,[V.int 3],[V.int 3],rfl,rfl,af.of (u3 _ _ je),af.of e3,.cons (.inl ⟨3,rfl,rfl⟩) .nil,false,rfl,ay (eQ ?_)⟩
    try dsimp only
    refine⟨[],cP,3,fun _=>True,rfl,yu,ZT pI u3,.inr (.inr rfl),M3,fun f'=>yp (by decide) hO rfl (by decide) (fun q' hq=> ?_) ?_ ⟨(0,1),by simp,.inl rfl⟩,fun H' x=>trivial,fun l2 H4 x4 Ij Ip gr=> ⟨(by show 1≤sizeLine;decide),fun N1 DI=> ?_⟩⟩
    ·simp only[List.mem_append,List.mem_cons,List.not_mem_nil,or_false]at hq
     rcases hq with (rfl |rfl) |rfl<;>exact⟨⟨by decide,by decide⟩,by decide,by decide⟩
    ·exact List.Pairwise.cons (fun b hb=>by rw[List.mem_singleton.mp hb];exact⟨by decide,by decide⟩) (List.pairwise_singleton _ _)
    have u5:=ag (o:=.lst [V.int 3]) DI
    have e5:upd H4 N1 (.lst [V.int 3]) N1=some (.lst [V.int 3]):=Zc
    generalize upd H4 N1 (HO.lst [V.int 3])=H5 at u5 e5
    refine⟨l2,N1,[3],[3],rfl,rfl,af.of (u5 _ _ gr),af.of e5,_,rfl,aH ?_⟩
    refine⟨(by show 2≤sizeLine;decide),fun t6 h6=> ?_⟩
    have u6:=ag (o:=.tup [V.int 2,V.int 1]) h6
    have e6:upd H5 t6 (.tup [V.int 2,V.int 1]) t6=some (.tup [V.int 2,V.int 1]):=Zc
    generalize upd H5 t6 (HO.tup [V.int 2,V.int 1])=H6 at u6 e6
    refine⟨Nat.zero_le _,fun L7 h7=> ?_⟩
    have u7:=ag (o:=.lst []) h7
    refine⟨t6,L7,[],[],2,1,rfl,⟨Zo (u7 _ _ e6),by decide,by decide,by decide,by decide⟩,Zc,.nil,(fun q' hq=>by cases hq),List.Pairwise.nil,Nat.zero_le _,fun t8 H8 s8 e8=> ⟨(by show 2≤sizeLine;decide),fun t9 h9=> ?_⟩⟩
    have u9:=ag (o:=.tup [V.aa,V.aa]) h9
    refine⟨t8,t9,[.aa,.aa],[.aa,.aa],rfl,rfl,u9 _ _ e8,Zc,rfl,rfl,?_⟩
    rw[decide_eq_true rfl]
    exact q _
  obtain⟨t,ht,hq⟩:=main
  exact⟨t,ht.cu,hq⟩
end
end U
namespace U
open PySem L2 PyProof.Rows PySem.Spec
abbrev tj:List Str:=["isinstance", "int", "bool", "tuple", "list", "len", "all", "set", "range", "max", "min", "enumerate", "zip", "repr", "ValueError"]
section
variable {P:Program}{w:World}{K:PySem.W.Frag}{mg:Str→Option Value}{base:Heap}
theorem Gb {h:Heap}{t0:Tok}(KX:K.In h) (G:h.Ns mainGlobals mg) (e:tj.all (ou K)=true) (lo0:PySem.W.nsIn K mainGlobals "LONGEST_SIDE" =some (some (.int 12 t0))):Gs mg∧mg "ValueError" =none:=by
 have k:∀x∈tj,mg x=none:=fun x hx=>Ut KX G (List.all_eq_true.mp e x hx)
 exact⟨⟨k _ (by simp),k _ (by simp),k _ (by simp),k _ (by simp),k _ (by simp),k _ (by simp),k _ (by simp),k _ (by simp),k _ (by simp),k _ (by simp),k _ (by simp),k _ (by simp),k _ (by simp),k _ (by simp),⟨t0,PySem.W.mg_of KX G lo0⟩⟩,k _ (by simp)⟩
def oD (K:PySem.W.Frag) (C c:Value) (b:Bool):Bool:=match PySem.W.kitOne K C c with |some d=>d==b |none=>false
theorem yK {C c:Value}{b:Bool}(h:oD K C c b=true):PySem.W.kitOne K C c=some b:=by
 unfold oD at h
 split at h
 ·rename_i d q
  rw[q,beq_iff_eq.mp h]
 ·cases h
def BL (K:PySem.W.Frag) (C:Addr) (iC:Nat):Bool:=(List.range 15).all fun i=>match PySem.W.nsIn K mainGlobals (vS.getD i "") with |some (some (.ref c))=>oD K (.ref C) (.ref c) (decide (i=iC)) |_=>false
def mroOk (K:PySem.W.Frag) (C:Addr) (b:Value):Bool:=match PySem.W.mroIn K C b with |some d=>d |none=>false
theorem Ws {C:Addr}{b:Value}(h:mroOk K C b=true):PySem.W.mroIn K C b=some true:=by
 unfold mroOk at h
 split at h
 ·rename_i d q
  rw[q,h]
 ·cases h
def tD (K:PySem.W.Frag) (C c:Value):Bool:=match PySem.W.exmOne K C c with |some d=>d |none=>false
theorem Gz {C c:Value}(h:tD K C c=true):PySem.W.exmOne K C c=some true:=by
 unfold tD at h
 split at h
 ·rename_i d q
  rw[q,h]
 ·cases h
def mz (K:PySem.W.Frag) (cS C:Addr) (iC:Nat):Bool:=mroOk K C (.type "object")&&mroOk K C (.type "BaseException")&&(PySem.W.clsIn K C).isSome&&tD K (.ref C) (.ref cS)&&BL K C iC&&oD K (.ref C) (.type "ValueError") true&&PySem.W.excIn K C kl "ValueError.__new__"
theorem J9 {h:Heap}{cS C:Addr}{iC:Nat}(KX:K.In h) (G:h.Ns mainGlobals mg) (mv:mg "ValueError" =none) (ms:mg "StepError" =some (.ref cS)) (e:mz K cS C iC=true)
  (ga:PySem.W.findIn K (.ref C) "__getattribute__" =some (some (.builtin "BaseException.__getattribute__"))) (hook:PySem.W.findIn K (.ref C) "__getattr__" =some none) (cl:PySem.W.findIn K (.ref C) "__class__" =some (some (.builtin "object.__class__"))):gE K mg cS C iC∧PySem.W.excIn K C kl "ValueError.__new__" =true:=by
 unfold mz at e
 simp only[Bool.and_eq_true]at e
 obtain⟨⟨⟨⟨⟨⟨e1,e2⟩,e3⟩,e4⟩,e5⟩,e6⟩,e7⟩:=e
 refine⟨⟨⟨ga,hook,cl,Ws e1,Ws e2,e3⟩,ms,Gz e4,fun i hi=> ?_,mv,yK e6⟩,e7⟩
 have:=List.all_eq_true.mp e5 i (List.mem_range.mpr hi)
 split at this
 ·rename_i c q
  exact⟨c,PySem.W.mg_of KX G q,yK this⟩
 ·cases this
structure Exc (K:PySem.W.Frag) (mg:Str→Option Value) (nm:Str) (C:Addr):Prop where
 m:mg nm=some (.ref C)
 x:PySem.W.excIn K C kl "ValueError.__new__" =true
set_option maxHeartbeats 4000000 in
theorem BX {h:Heap}{fa c Pt f cS aB aL aP:Addr}{oc:Value}{od an:Option Addr}{kV doc pm ct:Value}{dq:Array (Option Value)}{t0:Tok}(KX:K.In h) (G:h.Ns mainGlobals mg) (hmg:mg "law" =some (.ref fa))
  (d0:bJ K "is_whole" qm) (d1:bJ K "is_whole_within" ql) (d2:bJ K "is_tuple_of" qo) (d3:bJ K "is_board" qE) (d4:bJ K "need_board" nS) (d5:bJ K "is_lay" nT) (d6:bJ K "need_lay" nR) (d7:bJ K "points" nQ) (d8:bJ K "is_point" T.nW) (d9:bJ K "lay_of" T.nU) (EL:bJ K "_law_cell_at" qD) (EK:bJ K "_law_state" qq) (EJ:bJ K "_law_take" qp) (yk:bJ K "_law_refused" qr) (EI:bJ K "_law_board" qC) (EH:bJ K "_law_no_board" iT) (EG:bJ K "_law_lay" qB) (aI:bJ K "_law_no_lay" iS) (tO:bJ K "_law_same" jN) (EF:bJ K "_law_no_points" jO)
  (l1:PySem.W.nsIn K mainGlobals "law" =some (some (.ref f))) (l2:K.lookup f=some ⟨oc,od,.func (PySem.W.fnOf "law" "law" (dQ br) (bu br) (au br) .none kV doc pm an (.ref c) ct),dq⟩) (l3:PySem.W.codeIn K (.ref c) "law" =true) (l4:PySem.W.codeHdIn K c Pt=true)
  (g1:tj.all (ou K)=true) (lo0:PySem.W.nsIn K mainGlobals "LONGEST_SIDE" =some (some (.int 12 t0)))
  (eB:PySem.W.nsIn K mainGlobals "NoBoard" =some (some (.ref aB))) (eL:PySem.W.nsIn K mainGlobals "NoLay" =some (some (.ref aL))) (eP:PySem.W.nsIn K mainGlobals "NoPoints" =some (some (.ref aP))) (eS:PySem.W.nsIn K mainGlobals "StepError" =some (some (.ref cS)))
  (xB:mz K cS aB 0=true) (xL:mz K cS aL 1=true) (xP:mz K cS aP 3=true)
  (gaB:PySem.W.findIn K (.ref aB) "__getattribute__" =some (some (.builtin "BaseException.__getattribute__"))) (hoB:PySem.W.findIn K (.ref aB) "__getattr__" =some none) (clB:PySem.W.findIn K (.ref aB) "__class__" =some (some (.builtin "object.__class__")))
  (gaL:PySem.W.findIn K (.ref aL) "__getattribute__" =some (some (.builtin "BaseException.__getattribute__"))) (hoL:PySem.W.findIn K (.ref aL) "__getattr__" =some none) (clL:PySem.W.findIn K (.ref aL) "__class__" =some (some (.builtin "object.__class__")))
  (gaP:PySem.W.findIn K (.ref aP) "__getattribute__" =some (some (.builtin "BaseException.__getattribute__"))) (hoP:PySem.W.findIn K (.ref aP) "__getattr__" =some none) (clP:PySem.W.findIn K (.ref aP) "__class__" =some (some (.builtin "object.__class__"))):
  ∃fd:FuncData,(∀(s:Shared) (u:Value),BindsTo s fd ⟨[u],[]⟩ [("_law_script",u)])∧∀base:Heap,K.In base→base.Ns mainGlobals mg→mV mg base→az P w K mg base aE 10 fa fd ["_law_script"] (pY K Pt):=by
 have e0:=hmg.symm.trans (PySem.W.mg_of KX G l1)
 cases e0
 obtain⟨gs,mv⟩:=Gb KX G g1 lo0
 have ms:=PySem.W.mg_of KX G eS
 obtain⟨MB,yB⟩:=J9 KX G mv ms xB gaB hoB clB
 have IW:Exc K mg "NoBoard" aB:=⟨PySem.W.mg_of KX G eB,yB⟩
 obtain⟨ML,yL⟩:=J9 KX G mv ms xL gaL hoL clL
 have IV:Exc K mg "NoLay" aL:=⟨PySem.W.mg_of KX G eL,yL⟩
 obtain⟨MP,yP⟩:=J9 KX G mv ms xP gaP hoP clP
 have xO:Exc K mg "NoPoints" aP:=⟨PySem.W.mg_of KX G eP,yP⟩
 have xN:uk K mg aB aL:=⟨PySem.W.mg_of KX G eB,yB,PySem.W.mg_of KX G eL,yL⟩
 refine⟨PySem.W.fnOf "law" "law" (dQ br) (bu br) (au br) .none kV doc pm an (.ref c) ct,fun s u=> .of_eq rfl,fun base kb nb bm=> ?_⟩
 have b0:∀{x:Str}{st:Stmt},(∀(kV doc pm:Value) (an:Option Addr) (ao ct:Value),bindArgs (PySem.W.fnOf x x (dQ st) (bu st) (au st) .none kV doc pm an ao ct) ⟨[],[]⟩=pure [])→kA x st []:=fun h kV doc pm an ao ct us hl=>match us,hl with | [],_=>h kV doc pm an ao ct
 have b1:∀{x a:Str}{st:Stmt},(∀(kV doc pm:Value) (an:Option Addr) (ao ct u:Value),bindArgs (PySem.W.fnOf x x (dQ st) (bu st) (au st) .none kV doc pm an ao ct) ⟨[u],[]⟩=pure [(a,u)])→kA x st [a]:=fun h kV doc pm an ao ct us hl=>match us,hl with | [u],_=>h kV doc pm an ao ct u
 have b2:∀{x a b:Str}{st:Stmt},(∀(kV doc pm:Value) (an:Option Addr) (ao ct u v:Value),bindArgs (PySem.W.fnOf x x (dQ st) (bu st) (au st) .none kV doc pm an ao ct) ⟨[u,v],[]⟩=pure [(a,u),(b,v)])→kA x st [a,b]:=fun h kV doc pm an ao ct us hl=>match us,hl with | [u,v],_=>h kV doc pm an ao ct u v
 have b3:∀{x a b c:Str}{st:Stmt},(∀(kV doc pm:Value) (an:Option Addr) (ao ct u v w:Value),bindArgs (PySem.W.fnOf x x (dQ st) (bu st) (au st) .none kV doc pm an ao ct) ⟨[u,v,w],[]⟩=pure [(a,u),(b,v),(c,w)])→kA x st [a,b,c]:=fun h kV doc pm an ao ct us hl=>match us,hl with | [u,v,w],_=>h kV doc pm an ao ct u v w
 have good:∀b':Heap,(Def P w K mg b' 7 "points" ["board", "lay"] nH∧cJ P w K mg b' 7 "points" ["board", "lay"] (gO K aB aL))∧(Def P w K mg b' 5 "lay_of" ["board", "points"] (T.nK K)∧cJ P w K mg b' 5 "lay_of" ["board", "points"] (jK K aB aP)):=fun b'=>by
  have D0:Def P w K mg b' 1 "is_whole" ["thing"] (pR K):=d0.to KX G (b1 fun _ _ _ _ _ _ _=>rfl) fun f fd F=>U6 F gs
  have D1:Def P w K mg b' 2 "is_whole_within" ["thing", "least", "most"] (jH K):=d1.to KX G (b3 fun _ _ _ _ _ _ _ _ _=>rfl) fun f fd F=>Uo F D0
  have D3:Def P w K mg b' 1 "is_tuple_of" ["thing", "many"] (jI K):=d2.to KX G (b2 fun _ _ _ _ _ _ _ _=>rfl) fun f fd F=>U7 F gs
  have D4:Def P w K mg b' 3 "is_board" ["thing"] (nN K):=d3.to KX G (b1 fun _ _ _ _ _ _ _=>rfl) fun f fd F=>GG F gs D3 D1
  have D5:Def P w K mg b' 4 "need_board" ["board"] (kL K):=d4.to KX G (b1 fun _ _ _ _ _ _ _=>rfl) fun f fd F=>J8 F D4
  have D6:Def P w K mg b' 5 "is_lay" ["board", "thing"] (nJ K):=d5.to KX G (b2 fun _ _ _ _ _ _ _ _=>rfl) fun f fd F=>F2 F gs D5 D3 D1
  have HU:Def P w K mg b' 6 "need_lay" ["board", "lay"] pV:=d6.to KX G (b2 fun _ _ _ _ _ _ _ _=>rfl) fun f fd F=>WS F D6
  have D7:Def P w K mg b' 7 "points" ["board", "lay"] nH:=d7.to KX G (b2 fun _ _ _ _ _ _ _ _=>rfl) fun f fd F=>Us F gs HU
  have D8:Def P w K mg b' 3 "is_point" ["board", "thing"] (T.qa K):=d8.to KX G (b2 fun _ _ _ _ _ _ _ _=>rfl) fun f fd F=>T.Bq F gs D3 D1
  have HR:Def P w K mg b' 3 "is_point" ["board", "thing"] (pZ K):=d8.to KX G (b2 fun _ _ _ _ _ _ _ _=>rfl) fun f fd F=>F0 F gs D3 D1
  have D9:Def P w K mg b' 5 "lay_of" ["board", "points"] (T.nK K):=d9.to KX G (b2 fun _ _ _ _ _ _ _ _=>rfl) fun f fd F=>T.Bp F gs D5 D8
  have R5:cJ P w K mg b' 4 "need_board" ["board"] (nI K aB):=d4.kG KX G (b1 fun _ _ _ _ _ _ _=>rfl) fun f fd F=>JE F gs xN D4
  have R6:cJ P w K mg b' 5 "is_lay" ["board", "thing"] (pX K aB):=d5.kG KX G (b2 fun _ _ _ _ _ _ _ _=>rfl) fun f fd F=>GP F R5
  have Hx:cJ P w K mg b' 6 "need_lay" ["board", "lay"] (gO K aB aL):=d6.kG KX G (b2 fun _ _ _ _ _ _ _ _=>rfl) fun f fd F=>Wq F xN R6 D6
  have R7:cJ P w K mg b' 7 "points" ["board", "lay"] (gO K aB aL):=d7.kG KX G (b2 fun _ _ _ _ _ _ _ _=>rfl) fun f fd F=>WR F Hx
  have R9:cJ P w K mg b' 5 "lay_of" ["board", "points"] (jK K aB aP):=d9.kG KX G (b2 fun _ _ _ _ _ _ _ _=>rfl) fun f fd F=>F3 F gs xO.m xO.x R5 D5 HR
  exact⟨⟨D7,R7⟩,D9,R9⟩
 have hR:∀b':Heap,Def P w K mg b' 9 "_law_refused" ["_law_call"] (jJ P w K mg b' cS 8):=fun b'=>yk.to KX G (b1 fun _ _ _ _ _ _ _=>rfl) fun f fd F=>F6 F gs
 have E1:Def P w K mg base 1 "_law_cell_at" ["_law_script", "_law_k"] (qd K):=EL.to KX G (b2 fun _ _ _ _ _ _ _ _=>rfl) fun f fd F=>GO F gs
 have E2:Def P w K mg base 2 "_law_state" ["_law_script", "_law_k"] (pS K):=EK.to KX G (b2 fun _ _ _ _ _ _ _ _=>rfl) fun f fd F=>U8 F gs E1
 have E3:Def P w K mg base 1 "_law_take" ["_law_state_here", "_law_many"] gP:=EJ.to KX G (b2 fun _ _ _ _ _ _ _ _=>rfl) fun f fd F=>GQ F
 have E4:Def P w K mg base 2 "_law_no_board" ["_law_state_here"] (pU K):=EH.to KX G (b1 fun _ _ _ _ _ _ _=>rfl) fun f fd F=>F4 F E3
 have E5:Def P w K mg base 2 "_law_board" ["_law_state_here", "_law_upto"] qc:=EI.to KX G (b2 fun _ _ _ _ _ _ _ _=>rfl) fun f fd F=>GH F E3
 have E6:Def P w K mg base 2 "_law_lay" ["_law_state_here", "_law_board_here"] (qb K):=EG.to KX G (b2 fun _ _ _ _ _ _ _ _=>rfl) fun f fd F=>U9 F gs E3
 have E7:Def P w K mg base 2 "_law_no_lay" ["_law_state_here", "_law_board_here", "_law_lay_here"] (pT K):=aI.to KX G (b3 fun _ _ _ _ _ _ _ _ _=>rfl) fun f fd F=>F5 F gs E3
 have E8:Def P w K mg base 2 "_law_no_points" ["_law_state_here", "_law_board_here", "_law_some"] (pW K):=EF.to KX G (b3 fun _ _ _ _ _ _ _ _ _=>rfl) fun f fd F=>Gi F gs E3
 have S1:Def P w K mg base 1 "_law_same" ["_law_found", "_law_due"] (dj Rl):=tO.to KX G (b2 fun _ _ _ _ _ _ _ _=>rfl) fun f fd F=>Wp F gs
 have S2:Def P w K mg base 2 "_law_same" ["_law_found", "_law_due"] (dj (fw Rl)):=tO.to KX G (b2 fun _ _ _ _ _ _ _ _=>rfl) fun f fd F=>Uq (R:=Rl) (fun r s=>Rl.same r s) F gs S1
 have S3:Def P w K mg base 3 "_law_same" ["_law_found", "_law_due"] (dj (uc (fw Rl))):=tO.to KX G (b2 fun _ _ _ _ _ _ _ _=>rfl) fun f fd F=>Ur (R:=fw Rl) (fun r s=>fw.same (R:=Rl) (fun r s=>Rl.same r s) r s) F gs S2
 obtain⟨fR,xM,EB,FR⟩:=id yk
 exact F1 l2 l3 gs E2 E4 E5 E6 E7 E3 E8 (good base).1.1 (good base).2.1 S2 S3 hR (fun b'=> (good b').1.2) (fun b'=> (good b').2.2) (PySem.W.mg_of KX G EB) FR.kp MB ML MP (PySem.W.codeHd_of_K kb l4) bm
end
end U
theorem PySem.W.Fast.tw6208459927588752544:True:=⟨⟩
theorem PySem.W.Fast.tw15970376052936525984:True:=⟨⟩
theorem PySem.W.Fast.tw5797629713489681600:True:=⟨⟩
theorem PySem.W.Fast.tw17516117011522289856:True:=⟨⟩
theorem PySem.W.Fast.tw12569558634437921984:True:=⟨⟩
theorem PySem.W.Fast.tw17422304730840963424:True:=⟨⟩
theorem PySem.W.Fast.tw130506040366256672:True:=⟨⟩
theorem PySem.W.Fast.tw5078164988755832384:True:=⟨⟩
theorem PySem.W.Fast.tw2520779398449138528:True:=⟨⟩
theorem PySem.W.Fast.tw7230937336949332928:True:=⟨⟩
theorem PySem.W.Fast.tw15022685224150413537:True:=⟨⟩
theorem PySem.W.Fast.tw3899716599071552001:True:=⟨⟩
theorem PySem.W.Fast.tw15917221395532754465:True:=⟨⟩
theorem PySem.W.Fast.tw11526334330527053441:True:=⟨⟩
theorem PySem.W.Fast.tw14355060588707825377:True:=⟨⟩
theorem PySem.W.Fast.tw14031039467621088097:True:=⟨⟩
theorem PySem.W.Fast.tw8669034823042517889:True:=⟨⟩
theorem PySem.W.Fast.tw7153680451582814338:True:=⟨⟩
theorem PySem.W.Fast.tw7683219975880906946:True:=⟨⟩
theorem PySem.W.Fast.tw3049999187550670050:True:=⟨⟩
theorem PySem.W.Fast.tw5456018766146392674:True:=⟨⟩
theorem PySem.W.Fast.tw2388814164404075138:True:=⟨⟩
theorem PySem.W.Fast.tw8201549805399416450:True:=⟨⟩
theorem PySem.W.Fast.tw5122256260603414306:True:=⟨⟩
theorem PySem.W.Fast.tw6952386418197518274:True:=⟨⟩
theorem PySem.W.Fast.tw16817462241665333218:True:=⟨⟩
theorem PySem.W.Fast.tw17739643781867417667:True:=⟨⟩
theorem PySem.W.Fast.tw1478619672147223907:True:=⟨⟩
theorem PySem.W.Fast.tw4413436673192189379:True:=⟨⟩
theorem PySem.W.Fast.tw17257719243811330563:True:=⟨⟩
theorem PySem.W.Fast.tw14021603925228259875:True:=⟨⟩
theorem PySem.W.Fast.tw8377885528760066627:True:=⟨⟩
theorem PySem.W.Fast.tw565728764175952451:True:=⟨⟩
theorem PySem.W.Fast.tw15170277195629537955:True:=⟨⟩
theorem PySem.W.Fast.tw2663586282892721987:True:=⟨⟩
theorem PySem.W.Fast.tw15148871074543438659:True:=⟨⟩
theorem PySem.W.Fast.tw4541537015373810595:True:=⟨⟩
theorem PySem.W.Fast.tw7034736486349908931:True:=⟨⟩
theorem PySem.W.Fast.tw14107649604923578404:True:=⟨⟩
theorem PySem.W.Fast.tw9818852710945153156:True:=⟨⟩
theorem PySem.W.Fast.tw778079697699268836:True:=⟨⟩
theorem PySem.W.Fast.tw3950083838773722468:True:=⟨⟩
theorem PySem.W.Fast.tw13856308279499360644:True:=⟨⟩
theorem PySem.W.Fast.tw7644756382340429348:True:=⟨⟩
theorem PySem.W.Fast.tw5030501513730198052:True:=⟨⟩
theorem PySem.W.Fast.tw13631030092558819012:True:=⟨⟩
theorem PySem.W.Fast.tw16441261177026915044:True:=⟨⟩
theorem PySem.W.Fast.tw13943995956662536964:True:=⟨⟩
theorem PySem.W.Fast.tw2013383401061685092:True:=⟨⟩
theorem PySem.W.Fast.tw11089692176399501156:True:=⟨⟩
theorem PySem.W.Fast.tw90073981115127684:True:=⟨⟩
theorem PySem.W.Fast.tw273453274710926405:True:=⟨⟩
theorem PySem.W.Fast.tw8254231086960947269:True:=⟨⟩
theorem PySem.W.Fast.tw16041985847725588869:True:=⟨⟩
theorem PySem.W.Fast.tw238899040757630405:True:=⟨⟩
theorem PySem.W.Fast.tw17697685535276713541:True:=⟨⟩
theorem PySem.W.Fast.tw16528930999676516197:True:=⟨⟩
theorem PySem.W.Fast.tw17846168729050224517:True:=⟨⟩
theorem PySem.W.Fast.tw18226669665946029029:True:=⟨⟩
theorem PySem.W.Fast.tw7628144463604122790:True:=⟨⟩
theorem PySem.W.Fast.tw10023596574017394982:True:=⟨⟩
theorem PySem.W.Fast.tw16454820931429723430:True:=⟨⟩
theorem PySem.W.Fast.tw13037972069188526438:True:=⟨⟩
theorem PySem.W.Fast.tw2647827016246596998:True:=⟨⟩
theorem PySem.W.Fast.tw16808363671981730214:True:=⟨⟩
theorem PySem.W.Fast.tw17204991910319682214:True:=⟨⟩
theorem PySem.W.Fast.tw4847209862524113606:True:=⟨⟩
theorem PySem.W.Fast.tw2182406338539385574:True:=⟨⟩
theorem PySem.W.Fast.tw15629083010087938790:True:=⟨⟩
theorem PySem.W.Fast.tw3352946603788184454:True:=⟨⟩
theorem PySem.W.Fast.tw7867653592813133702:True:=⟨⟩
theorem PySem.W.Fast.tw3222289161501281190:True:=⟨⟩
theorem PySem.W.Fast.tw10851574473548273574:True:=⟨⟩
theorem PySem.W.Fast.tw2384947553748524966:True:=⟨⟩
theorem PySem.W.Fast.tw5451148828481505222:True:=⟨⟩
theorem PySem.W.Fast.tw5621276342590551047:True:=⟨⟩
theorem PySem.W.Fast.tw10937791997577411751:True:=⟨⟩
theorem PySem.W.Fast.tw3895004621953731879:True:=⟨⟩
theorem PySem.W.Fast.tw902272058405436743:True:=⟨⟩
theorem PySem.W.Fast.tw10038045575426202983:True:=⟨⟩
theorem PySem.W.Fast.tw1402784433203847655:True:=⟨⟩
theorem PySem.W.Fast.tw13595412654369779303:True:=⟨⟩
theorem PySem.W.Fast.tw13441049225793148551:True:=⟨⟩
theorem PySem.W.Fast.tw4857921747603566247:True:=⟨⟩
theorem PySem.W.Fast.tw9761885917336479431:True:=⟨⟩
theorem PySem.W.Fast.tw15233556836667936487:True:=⟨⟩
theorem PySem.W.Fast.tw15933338055395388199:True:=⟨⟩
theorem PySem.W.Fast.tw9717595493764019111:True:=⟨⟩
theorem PySem.W.Fast.tw8698886757129845703:True:=⟨⟩
theorem PySem.W.Fast.tw5774077186256451624:True:=⟨⟩
theorem PySem.W.Fast.tw3819523047278831720:True:=⟨⟩
theorem PySem.W.Fast.tw17135463644140134568:True:=⟨⟩
theorem PySem.W.Fast.tw272609599819847368:True:=⟨⟩
theorem PySem.W.Fast.tw8434121598325084872:True:=⟨⟩
theorem PySem.W.Fast.tw10413506453678256872:True:=⟨⟩
theorem PySem.W.Fast.tw7583113324173066024:True:=⟨⟩
theorem PySem.W.Fast.tw12280422647812676424:True:=⟨⟩
theorem PySem.W.Fast.tw13395649141686070281:True:=⟨⟩
theorem PySem.W.Fast.tw15871351232864470057:True:=⟨⟩
theorem PySem.W.Fast.tw10119799892703403177:True:=⟨⟩
theorem PySem.W.Fast.tw8389701289178295593:True:=⟨⟩
theorem PySem.W.Fast.tw4557059989813650761:True:=⟨⟩
theorem PySem.W.Fast.tw12276125541122029225:True:=⟨⟩
theorem PySem.W.Fast.tw9159941808882826089:True:=⟨⟩
theorem PySem.W.Fast.tw4998435374158222217:True:=⟨⟩
theorem PySem.W.Fast.tw6363125813834897482:True:=⟨⟩
theorem PySem.W.Fast.tw17102376478770563242:True:=⟨⟩
theorem PySem.W.Fast.tw1390920714779007178:True:=⟨⟩
theorem PySem.W.Fast.tw4741017347370760394:True:=⟨⟩
theorem PySem.W.Fast.tw16045189889447848266:True:=⟨⟩
theorem PySem.W.Fast.tw10034457359887922538:True:=⟨⟩
theorem PySem.W.Fast.tw8879580965174718826:True:=⟨⟩
theorem PySem.W.Fast.tw2735188511010638378:True:=⟨⟩
theorem PySem.W.Fast.tw13755056177758394922:True:=⟨⟩
theorem PySem.W.Fast.tw18038075305711506058:True:=⟨⟩
theorem PySem.W.Fast.tw15164583843312126634:True:=⟨⟩
theorem PySem.W.Fast.tw18390955839293780970:True:=⟨⟩
theorem PySem.W.Fast.tw164600274862570571:True:=⟨⟩
theorem PySem.W.Fast.tw3713191175228016715:True:=⟨⟩
theorem PySem.W.Fast.tw10968394292539613323:True:=⟨⟩
theorem PySem.W.Fast.tw8416902578802734347:True:=⟨⟩
theorem PySem.W.Fast.tw14031926246618021163:True:=⟨⟩
theorem PySem.W.Fast.tw454145313220626763:True:=⟨⟩
theorem PySem.W.Fast.tw2264612188230192491:True:=⟨⟩
theorem PySem.W.Fast.tw1918417886675503659:True:=⟨⟩
theorem PySem.W.Fast.tw10124202501828755179:True:=⟨⟩
theorem PySem.W.Fast.tw14633797501438808907:True:=⟨⟩
theorem PySem.W.Fast.tw18046437174104267659:True:=⟨⟩
theorem PySem.W.Fast.tw3036591161259706315:True:=⟨⟩
theorem PySem.W.Fast.tw14907962601503255596:True:=⟨⟩
theorem PySem.W.Fast.tw3776704836651314252:True:=⟨⟩
theorem PySem.W.Fast.tw848769654191134828:True:=⟨⟩
theorem PySem.W.Fast.tw9568456447581024364:True:=⟨⟩
theorem PySem.W.Fast.tw9043132564293183628:True:=⟨⟩
theorem PySem.W.Fast.tw4987969062330514636:True:=⟨⟩
theorem PySem.W.Fast.tw3377385313403268300:True:=⟨⟩
theorem PySem.W.Fast.tw16673925110217871596:True:=⟨⟩
theorem PySem.W.Fast.tw2265757093427070220:True:=⟨⟩
theorem PySem.W.Fast.tw11071217743476624652:True:=⟨⟩
theorem PySem.W.Fast.tw9955377638446536972:True:=⟨⟩
theorem PySem.W.Fast.tw2150977525272718668:True:=⟨⟩
theorem PySem.W.Fast.tw6291564647264338316:True:=⟨⟩
theorem PySem.W.Fast.tw2892499805960952300:True:=⟨⟩
theorem PySem.W.Fast.tw6516883258173691468:True:=⟨⟩
theorem PySem.W.Fast.tw864653487936220812:True:=⟨⟩
theorem PySem.W.Fast.tw3027412801670876876:True:=⟨⟩
theorem PySem.W.Fast.tw14833474682397884172:True:=⟨⟩
theorem PySem.W.Fast.tw16478049679619246924:True:=⟨⟩
theorem PySem.W.Fast.tw1311884149948274540:True:=⟨⟩
theorem PySem.W.Fast.tw3275294581942865804:True:=⟨⟩
theorem PySem.W.Fast.tw4231685948956818380:True:=⟨⟩
theorem PySem.W.Fast.tw7458870867206136845:True:=⟨⟩
theorem PySem.W.Fast.tw998850551699855693:True:=⟨⟩
theorem PySem.W.Fast.tw7432066270560323981:True:=⟨⟩
theorem PySem.W.Fast.tw684363987293741517:True:=⟨⟩
theorem PySem.W.Fast.tw8988003790330390061:True:=⟨⟩
theorem PySem.W.Fast.tw8470509901502778925:True:=⟨⟩
theorem PySem.W.Fast.tw2425070113763262029:True:=⟨⟩
theorem PySem.W.Fast.tw1585369394308166349:True:=⟨⟩
theorem PySem.W.Fast.tw14326011196770064173:True:=⟨⟩
theorem PySem.W.Fast.tw12272093163445319501:True:=⟨⟩
theorem PySem.W.Fast.tw17564941274886542317:True:=⟨⟩
theorem PySem.W.Fast.tw4463491427827228686:True:=⟨⟩
theorem PySem.W.Fast.tw9690252426070175822:True:=⟨⟩
theorem PySem.W.Fast.tw10275352537752350126:True:=⟨⟩
theorem PySem.W.Fast.tw4769742536327123406:True:=⟨⟩
theorem PySem.W.Fast.tw1636830169924016782:True:=⟨⟩
theorem PySem.W.Fast.tw15441540645463935630:True:=⟨⟩
theorem PySem.W.Fast.tw18277209325510353614:True:=⟨⟩
theorem PySem.W.Fast.tw2213632279908242350:True:=⟨⟩
theorem PySem.W.Fast.tw4639710403440710735:True:=⟨⟩
theorem PySem.W.Fast.tw2708238475834709263:True:=⟨⟩
theorem PySem.W.Fast.tw9934258148071688527:True:=⟨⟩
theorem PySem.W.Fast.tw268572957871592847:True:=⟨⟩
theorem PySem.W.Fast.tw10806878033789661839:True:=⟨⟩
theorem PySem.W.Fast.tw13410719297812537071:True:=⟨⟩
theorem PySem.W.Fast.tw12916301138584882959:True:=⟨⟩
theorem PySem.W.Fast.tw9084689078440389423:True:=⟨⟩
theorem PySem.W.Fast.tw239469559960223567:True:=⟨⟩
theorem PySem.W.Fast.tw801991990648347631:True:=⟨⟩
theorem PySem.W.Fast.tw17005650570929301520:True:=⟨⟩
theorem PySem.W.Fast.tw2325861668041142352:True:=⟨⟩
theorem PySem.W.Fast.tw7611349021924070480:True:=⟨⟩
theorem PySem.W.Fast.tw12549634022989433968:True:=⟨⟩
theorem PySem.W.Fast.tw6039192543058823312:True:=⟨⟩
theorem PySem.W.Fast.tw12307671435142199504:True:=⟨⟩
theorem PySem.W.Fast.tw16441849506685511888:True:=⟨⟩
theorem PySem.W.Fast.tw15073327725675097328:True:=⟨⟩
theorem PySem.W.Fast.tw156791941092972848:True:=⟨⟩
theorem PySem.W.Fast.tw15394698791687472432:True:=⟨⟩
theorem PySem.W.Fast.tw16132735571461368144:True:=⟨⟩
theorem PySem.W.Fast.tw18244994583499270608:True:=⟨⟩
theorem PySem.W.Fast.tw10874829259003710064:True:=⟨⟩
theorem PySem.W.Fast.tw10846539003485623216:True:=⟨⟩
theorem PySem.W.Fast.tw7982743225429082161:True:=⟨⟩
theorem PySem.W.Fast.tw7294367952253963345:True:=⟨⟩
theorem PySem.W.Fast.tw8354786265204418705:True:=⟨⟩
theorem PySem.W.Fast.tw4341299502340966577:True:=⟨⟩
theorem PySem.W.Fast.tw8007054635912600945:True:=⟨⟩
theorem PySem.W.Fast.tw14135694896795075057:True:=⟨⟩
theorem PySem.W.Fast.tw9257738731744330289:True:=⟨⟩
theorem PySem.W.Fast.tw12837468941197150833:True:=⟨⟩
theorem PySem.W.Fast.tw17521096193565769361:True:=⟨⟩
theorem PySem.W.Fast.tw4884860291012769425:True:=⟨⟩
theorem PySem.W.Fast.tw14535003743916745393:True:=⟨⟩
theorem PySem.W.Fast.tw13701229670736486097:True:=⟨⟩
theorem PySem.W.Fast.tw13435667065178226449:True:=⟨⟩
theorem PySem.W.Fast.tw2044340312717609905:True:=⟨⟩
theorem PySem.W.Fast.tw18002114492725641266:True:=⟨⟩
theorem PySem.W.Fast.tw5073212794959863858:True:=⟨⟩
theorem PySem.W.Fast.tw1916623213554859154:True:=⟨⟩
theorem PySem.W.Fast.tw9888086697750029522:True:=⟨⟩
theorem PySem.W.Fast.tw13666691750817355986:True:=⟨⟩
theorem PySem.W.Fast.tw7535658245262035186:True:=⟨⟩
theorem PySem.W.Fast.tw15119143947650603250:True:=⟨⟩
theorem PySem.W.Fast.tw2253753402923031826:True:=⟨⟩
theorem PySem.W.Fast.tw13574993337525252370:True:=⟨⟩
theorem PySem.W.Fast.tw13852036066621373746:True:=⟨⟩
theorem PySem.W.Fast.tw2768206489830591826:True:=⟨⟩
theorem PySem.W.Fast.tw11212979495403861394:True:=⟨⟩
theorem PySem.W.Fast.tw18062802271245943186:True:=⟨⟩
theorem PySem.W.Fast.tw353783566618498482:True:=⟨⟩
theorem PySem.W.Fast.tw1231675742190492082:True:=⟨⟩
theorem PySem.W.Fast.tw4737055946094434930:True:=⟨⟩
theorem PySem.W.Fast.tw15503100409710694034:True:=⟨⟩
theorem PySem.W.Fast.tw2743053970926445234:True:=⟨⟩
theorem PySem.W.Fast.tw14382729610521229042:True:=⟨⟩
theorem PySem.W.Fast.tw11138209217429319410:True:=⟨⟩
theorem PySem.W.Fast.tw6131982534696911602:True:=⟨⟩
theorem PySem.W.Fast.tw10692332589049445138:True:=⟨⟩
theorem PySem.W.Fast.tw14066564447973675954:True:=⟨⟩
theorem PySem.W.Fast.tw12605120937710135282:True:=⟨⟩
theorem PySem.W.Fast.tw9518626999322051795:True:=⟨⟩
theorem PySem.W.Fast.tw793203904868190483:True:=⟨⟩
theorem PySem.W.Fast.tw12664289846727264691:True:=⟨⟩
theorem PySem.W.Fast.tw4082363261649094099:True:=⟨⟩
theorem PySem.W.Fast.tw9705892339481806323:True:=⟨⟩
theorem PySem.W.Fast.tw5833242062456656467:True:=⟨⟩
theorem PySem.W.Fast.tw16832342520011283091:True:=⟨⟩
theorem PySem.W.Fast.tw5338407695183028915:True:=⟨⟩
theorem PySem.W.Fast.tw11274921743301185267:True:=⟨⟩
theorem PySem.W.Fast.tw3465488807208387347:True:=⟨⟩
theorem PySem.W.Fast.tw5852045281930118995:True:=⟨⟩
theorem PySem.W.Fast.tw2594231518081447795:True:=⟨⟩
theorem PySem.W.Fast.tw3700011846320548884:True:=⟨⟩
theorem PySem.W.Fast.tw12228081104983015732:True:=⟨⟩
theorem PySem.W.Fast.tw7374524886439526740:True:=⟨⟩
theorem PySem.W.Fast.tw2721599474600725076:True:=⟨⟩
theorem PySem.W.Fast.tw15294324511550847700:True:=⟨⟩
theorem PySem.W.Fast.tw1249639984233125684:True:=⟨⟩
theorem PySem.W.Fast.tw10617938659055125460:True:=⟨⟩
theorem PySem.W.Fast.tw5094610612814556148:True:=⟨⟩
theorem PySem.W.Fast.tw13796918231508271285:True:=⟨⟩
theorem PySem.W.Fast.tw13057632167437149461:True:=⟨⟩
theorem PySem.W.Fast.tw15337570609014546741:True:=⟨⟩
theorem PySem.W.Fast.tw13312859254478935701:True:=⟨⟩
theorem PySem.W.Fast.tw11407051385152862901:True:=⟨⟩
theorem PySem.W.Fast.tw12622467475480525493:True:=⟨⟩
theorem PySem.W.Fast.tw2337673004688286485:True:=⟨⟩
theorem PySem.W.Fast.tw14327817647840926581:True:=⟨⟩
theorem PySem.W.Fast.tw17548319192911633333:True:=⟨⟩
theorem PySem.W.Fast.tw17953956107628944566:True:=⟨⟩
theorem PySem.W.Fast.tw14549051207109009718:True:=⟨⟩
theorem PySem.W.Fast.tw5900536442104588598:True:=⟨⟩
theorem PySem.W.Fast.tw12729164389891023382:True:=⟨⟩
theorem PySem.W.Fast.tw16120111024456384054:True:=⟨⟩
theorem PySem.W.Fast.tw9929037560156484566:True:=⟨⟩
theorem PySem.W.Fast.tw5763024029418774679:True:=⟨⟩
theorem PySem.W.Fast.tw3603900636916912343:True:=⟨⟩
theorem PySem.W.Fast.tw12612140925871439095:True:=⟨⟩
theorem PySem.W.Fast.tw13915022407099997559:True:=⟨⟩
theorem PySem.W.Fast.tw16517821822485546423:True:=⟨⟩
theorem PySem.W.Fast.tw17729482705685765655:True:=⟨⟩
theorem PySem.W.Fast.tw1812739294865437271:True:=⟨⟩
theorem PySem.W.Fast.tw740727960391187031:True:=⟨⟩
theorem PySem.W.Fast.tw16137528257647123095:True:=⟨⟩
theorem PySem.W.Fast.tw6853618897232259735:True:=⟨⟩
theorem PySem.W.Fast.tw13997134834046443319:True:=⟨⟩
theorem PySem.W.Fast.tw12291944356838257816:True:=⟨⟩
theorem PySem.W.Fast.tw3592614874405790904:True:=⟨⟩
theorem PySem.W.Fast.tw5294540480950259960:True:=⟨⟩
theorem PySem.W.Fast.tw14532189400460745176:True:=⟨⟩
theorem PySem.W.Fast.tw1511338771373121112:True:=⟨⟩
theorem PySem.W.Fast.tw3955656264127612632:True:=⟨⟩
theorem PySem.W.Fast.tw13311793323394441976:True:=⟨⟩
theorem PySem.W.Fast.tw16702515902693847800:True:=⟨⟩
theorem PySem.W.Fast.tw1071859189149428504:True:=⟨⟩
theorem PySem.W.Fast.tw15513294200623598488:True:=⟨⟩
theorem PySem.W.Fast.tw7527040958144887961:True:=⟨⟩
theorem PySem.W.Fast.tw424230364558686393:True:=⟨⟩
theorem PySem.W.Fast.tw1714504705014744313:True:=⟨⟩
theorem PySem.W.Fast.tw15869533402311105881:True:=⟨⟩
theorem PySem.W.Fast.tw2680015781713779417:True:=⟨⟩
theorem PySem.W.Fast.tw10393015672150605689:True:=⟨⟩
theorem PySem.W.Fast.tw7068357823960730650:True:=⟨⟩
theorem PySem.W.Fast.tw13838940478070164506:True:=⟨⟩
theorem PySem.W.Fast.tw1509927640627418170:True:=⟨⟩
theorem PySem.W.Fast.tw13199694404953995386:True:=⟨⟩
theorem PySem.W.Fast.tw7667965556096614554:True:=⟨⟩
theorem PySem.W.Fast.tw8669477792137665722:True:=⟨⟩
theorem PySem.W.Fast.tw5167558599294126298:True:=⟨⟩
theorem PySem.W.Fast.tw32126220646485242:True:=⟨⟩
theorem PySem.W.Fast.tw9342955656669619450:True:=⟨⟩
theorem PySem.W.Fast.tw3651439545366965562:True:=⟨⟩
theorem PySem.W.Fast.tw11743640747151676954:True:=⟨⟩
theorem PySem.W.Fast.tw10949716420694121114:True:=⟨⟩
theorem PySem.W.Fast.tw7706378063879776986:True:=⟨⟩
theorem PySem.W.Fast.tw2406080929515975418:True:=⟨⟩
theorem PySem.W.Fast.tw270403256708125498:True:=⟨⟩
theorem PySem.W.Fast.tw15251027454200761146:True:=⟨⟩
theorem PySem.W.Fast.tw5508667929402744666:True:=⟨⟩
theorem PySem.W.Fast.tw6637483420909672539:True:=⟨⟩
theorem PySem.W.Fast.tw17803382910389143771:True:=⟨⟩
theorem PySem.W.Fast.tw10135219208562745595:True:=⟨⟩
theorem PySem.W.Fast.tw12717558499986261243:True:=⟨⟩
theorem PySem.W.Fast.tw938857082397761883:True:=⟨⟩
theorem PySem.W.Fast.tw12771216795108028795:True:=⟨⟩
theorem PySem.W.Fast.tw1501036866289864091:True:=⟨⟩
theorem PySem.W.Fast.tw1840087456785069659:True:=⟨⟩
theorem PySem.W.Fast.tw8953115336081024667:True:=⟨⟩
theorem PySem.W.Fast.tw10706629375656432347:True:=⟨⟩
theorem PySem.W.Fast.tw13715383003134622555:True:=⟨⟩
theorem PySem.W.Fast.tw3293746156574853979:True:=⟨⟩
theorem PySem.W.Fast.tw7933593499407970171:True:=⟨⟩
theorem PySem.W.Fast.tw3355035273422824347:True:=⟨⟩
theorem PySem.W.Fast.tw3857163212545031131:True:=⟨⟩
theorem PySem.W.Fast.tw7443797406938770427:True:=⟨⟩
theorem PySem.W.Fast.tw16378149674467934268:True:=⟨⟩
theorem PySem.W.Fast.tw9757587294830051420:True:=⟨⟩
theorem PySem.W.Fast.tw5420371280023207004:True:=⟨⟩
theorem PySem.W.Fast.tw8539722032972823676:True:=⟨⟩
theorem PySem.W.Fast.tw8185201537689840156:True:=⟨⟩
theorem PySem.W.Fast.tw11004277614100753020:True:=⟨⟩
theorem PySem.W.Fast.tw16879889331240362716:True:=⟨⟩
theorem PySem.W.Fast.tw3734285945574893340:True:=⟨⟩
theorem PySem.W.Fast.tw1221128579364418364:True:=⟨⟩
theorem PySem.W.Fast.tw9674831825454454620:True:=⟨⟩
theorem PySem.W.Fast.tw15877307387178288060:True:=⟨⟩
theorem PySem.W.Fast.tw14515071102150527037:True:=⟨⟩
theorem PySem.W.Fast.tw1596535917930238077:True:=⟨⟩
theorem PySem.W.Fast.tw15140938459676776669:True:=⟨⟩
theorem PySem.W.Fast.tw17179859946465034685:True:=⟨⟩
theorem PySem.W.Fast.tw10302511824814437917:True:=⟨⟩
theorem PySem.W.Fast.tw8692001074308277885:True:=⟨⟩
theorem PySem.W.Fast.tw7159348213693252285:True:=⟨⟩
theorem PySem.W.Fast.tw13207260388679480061:True:=⟨⟩
theorem PySem.W.Fast.tw8490920908549152541:True:=⟨⟩
theorem PySem.W.Fast.tw920289219360177981:True:=⟨⟩
theorem PySem.W.Fast.tw17013766078672327742:True:=⟨⟩
theorem PySem.W.Fast.tw399599581482142270:True:=⟨⟩
theorem PySem.W.Fast.tw6453618821328168638:True:=⟨⟩
theorem PySem.W.Fast.tw9667105244546001790:True:=⟨⟩
theorem PySem.W.Fast.tw12856463583801196639:True:=⟨⟩
theorem PySem.W.Fast.tw15780987076177527007:True:=⟨⟩
theorem PySem.W.Fast.tw3455265838208576799:True:=⟨⟩
theorem PySem.W.Fast.tw6036585574537284895:True:=⟨⟩
theorem PySem.W.Fast.tw12939868078388850111:True:=⟨⟩
theorem PySem.W.Fast.tw8219463280490656191:True:=⟨⟩
theorem PySem.W.Fast.tw4420153949012199999:True:=⟨⟩
theorem PySem.W.Fast.tw7215369451523313311:True:=⟨⟩
theorem PySem.W.Fast.tw6564459456500013759:True:=⟨⟩
theorem PySem.W.Fast.tw14301297542667629375:True:=⟨⟩
theorem PySem.W.Fast.tw13825016461395754879:True:=⟨⟩
theorem PySem.W.Fast.tw516649356064181748:True:=⟨⟩
set_option maxRecDepth 100000 in
set_option maxHeartbeats 0 in
theorem PySem.Challenge.cw_unlikesteps_k02_points_there_and_back_holds : PySem.Challenge.rw_unlikesteps_k02_points_there_and_back.Holds := by
 w_on; o_law; k_head; (case hw => w_witness2)
 k_fill
 refine U.zf (l := PySem.Challenge.rw_unlikesteps_k02_points_there_and_back) (n := 63) (k := 10) (x := "_law_script") (Pts := [333]) (sp := fun K => U.pY K 333) rfl (by decide) rfl ⟨rfl, by decide, by decide, rfl⟩ (fun w h Y => PySem.W.km_in_of Y) ?hT9 ?hC9 ?hN9 ?F ?S
 case hT9 =>
  intro w h Y P hP
  simp only [List.mem_cons, List.not_mem_nil, or_false] at hP
  rcases hP with rfl
  ·exact PySem.W.km_tabs_of Y 333 (by simp)
 case hC9 =>
  intro w h X P hP
  simp only [List.mem_cons, List.not_mem_nil, or_false] at hP
  rcases hP with rfl
  ·exact ⟨335, PySem.W.codeHd_of_K X (by kernel_rfl)⟩
 case hN9 =>
  intro w P hP
  simp only [List.mem_cons, List.not_mem_nil, or_false] at hP
  rcases hP with rfl
  ·kernel_rfl
 case S => exact fun K H a ns hl hs hp => ⟨a, ns, rfl, hs, hl, hp _ (by simp), fun _ => rfl⟩
 case F =>
  intro w mg fa h KX G hmg
  refine' U.BX (c := 335) (Pt := 333) KX G hmg (U.cm ?a0 ?b0 ?c0 ?e0) (U.cm ?a1 ?b1 ?c1 ?e1) (U.cm ?a2 ?b2 ?c2 ?e2) (U.cm ?a3 ?b3 ?c3 ?e3) (U.cm ?a4 ?b4 ?c4 ?e4) (U.cm ?a5 ?b5 ?c5 ?e5) (U.cm ?a6 ?b6 ?c6 ?e6) (U.cm ?a7 ?b7 ?c7 ?e7) (U.cm ?a8 ?b8 ?c8 ?e8) (U.cm ?a9 ?b9 ?c9 ?e9) (U.cm ?a10 ?b10 ?c10 ?e10) (U.cm ?a11 ?b11 ?c11 ?e11) (U.cm ?a12 ?b12 ?c12 ?e12) (U.cm ?a13 ?b13 ?c13 ?e13) (U.cm ?a14 ?b14 ?c14 ?e14) (U.cm ?a15 ?b15 ?c15 ?e15) (U.cm ?a16 ?b16 ?c16 ?e16) (U.cm ?a17 ?b17 ?c17 ?e17) (U.cm ?a18 ?b18 ?c18 ?e18) (U.cm ?a19 ?b19 ?c19 ?e19) ?l1 ?l2 ?l3 ?l4 ?g1 ?lo0 ?eB ?eL ?eP ?eS ?xB ?xL ?xP ?gaB ?hoB ?clB ?gaL ?hoL ?clL ?gaP ?hoP ?clP
  (case a0 => k_is); (case b0 => k_is); (case c0 => k_is); (case e0 => k_is)
  (case a1 => k_is); (case b1 => k_is); (case c1 => k_is); (case e1 => k_is)
  (case a2 => k_is); (case b2 => k_is); (case c2 => k_is); (case e2 => k_is)
  (case a3 => k_is); (case b3 => k_is); (case c3 => k_is); (case e3 => k_is)
  (case a4 => k_is); (case b4 => k_is); (case c4 => k_is); (case e4 => k_is)
  (case a5 => k_is); (case b5 => k_is); (case c5 => k_is); (case e5 => k_is)
  (case a6 => k_is); (case b6 => k_is); (case c6 => k_is); (case e6 => k_is)
  (case a7 => k_is); (case b7 => k_is); (case c7 => k_is); (case e7 => k_is)
  (case a8 => k_is); (case b8 => k_is); (case c8 => k_is); (case e8 => k_is)
  (case a9 => k_is); (case b9 => k_is); (case c9 => k_is); (case e9 => k_is)
  (case a10 => k_is); (case b10 => k_is); (case c10 => k_is); (case e10 => k_is)
  (case a11 => k_is); (case b11 => k_is); (case c11 => k_is); (case e11 => k_is)
  (case a12 => k_is); (case b12 => k_is); (case c12 => k_is); (case e12 => k_is)
  (case a13 => k_is); (case b13 => k_is); (case c13 => k_is); (case e13 => k_is)
  (case a14 => k_is); (case b14 => k_is); (case c14 => k_is); (case e14 => k_is)
  (case a15 => k_is); (case b15 => k_is); (case c15 => k_is); (case e15 => k_is)
  (case a16 => k_is); (case b16 => k_is); (case c16 => k_is); (case e16 => k_is)
  (case a17 => k_is); (case b17 => k_is); (case c17 => k_is); (case e17 => k_is)
  (case a18 => k_is); (case b18 => k_is); (case c18 => k_is); (case e18 => k_is)
  (case a19 => k_is); (case b19 => k_is); (case c19 => k_is); (case e19 => k_is)
  (case l1 => k_is)
  (case l2 => k_is)
  (case l3 => k_is)
  (case l4 => kernel_rfl)
  (case g1 => kernel_rfl)
  (case lo0 => k_is)
  (case eB => k_is)
  (case eL => k_is)
  (case eP => k_is)
  (case eS => k_is)
  (case xB => kernel_rfl)
  (case xL => kernel_rfl)
  (case xP => kernel_rfl)
  (case gaB => k_is)
  (case hoB => k_is)
  (case clB => k_is)
  (case gaL => k_is)
  (case hoL => k_is)
  (case clL => k_is)
  (case gaP => k_is)
  (case hoP => k_is)
  (case clP => k_is)
