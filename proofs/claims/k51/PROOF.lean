import PyProof.Rows.All
import Wide.All
import OpenK.AllK
import Wide.FinOn
import Lean
import PyProof.EqAt
import PyProof.EqKinds
import PyProof.TupleCall
import PyProof.NeKinds
import PyProof.Rows.SortWalk
import PyProof.Rows.SortRuns
import KE.KMinKey
import PyProof.IsRules
import PySem.SetOps
import PyProof.SetScanFacts
import PyProof.TupleKey
import PyProof.SetKind
import PyProof.Rows.SetFrom
import KE.KRevSl
import PyProof.Rows.SumAny
import PyProof.EnumMake
import PyProof.SeqI3
import PyProof.TupleOfGen
import PyProof.ListRange
import PyProof.CollectIter
import PySem.Challenge.RW_unlikesteps_k51_places_for_a_point_more
set_option Elab.async false
set_option linter.all false
set_option maxRecDepth 100000
set_option maxHeartbeats 0
namespace L2
open PySem PySem.Spec PyProof.Rows
abbrev Key:=Sum Int Str
def Be:Key→Value→Bool
 | .inl k,v=>Value.isInt k v
 | .inr x,v=>Value.isStrOf x v
def KJ (w:World):Key→Int
 | .inl k=>hashInt k
 | .inr x=>hashStr w x
theorem ZP:∀{k:Key}{v:Value},Be k v=true→(∃i t,k=Sum.inl i∧v=Value.int i t)∨(∃x t,k=Sum.inr x∧v=Value.str x t)
 | .inl i,v,h=>by
  obtain⟨t,e⟩:=Value.isInt_shape (k:=i) (v:=v) h
  exact .inl ⟨i,t,rfl,e⟩
 | .inr x,v,h=>by
  obtain⟨t,e⟩:=Value.isStrOf_shape (x:=x) (v:=v) h
  exact .inr ⟨x,t,rfl,e⟩
theorem PD (a b:Int):decide ((Sum.inl a:Key)=Sum.inl b)=(a==b):=by
 by_cases e:a=b
 ·subst e;simp
 ·have h:¬(Sum.inl a:Key)=Sum.inl b:=fun q=>e (Sum.inl.inj q)
  rw[decide_eq_false h]
  exact(beq_eq_false_iff_ne.mpr e).symm
theorem PJ (a b:Str):decide ((Sum.inr a:Key)=Sum.inr b)=decide (a=b):=by
 by_cases e:a=b
 ·subst e;simp
 ·have h:¬(Sum.inr a:Key)=Sum.inr b:=fun q=>e (Sum.inr.inj q)
  rw[decide_eq_false h,decide_eq_false e]
theorem PF (a:Int) (b:Str):decide ((Sum.inl a:Key)=Sum.inr b)=false:=decide_eq_false (fun q=>nomatch q)
theorem PH (a:Str) (b:Int):decide ((Sum.inr a:Key)=Sum.inl b)=false:=decide_eq_false (fun q=>nomatch q)
def A6 (prog:Program) (w:World):PySem.KeyKind prog w Key where
 is:=Be
 hash:=KJ w
 inj:=fun v a b ha hb=>by
  rcases ZP ha with ⟨i,t,rfl,rfl⟩ |⟨x,t,rfl,rfl⟩
  ·rcases ZP hb with ⟨j,u,rfl,e⟩ |⟨y,u,rfl,e⟩
   ·injection e with e1 _;rw[e1]
   ·exact nomatch e
  ·rcases ZP hb with ⟨j,u,rfl,e⟩ |⟨y,u,rfl,e⟩
   ·exact nomatch e
   ·injection e with e1 _;rw[e1]
 byValue:=fun k v h=>by
  rcases ZP h with ⟨i,t,rfl,rfl⟩ |⟨x,t,rfl,rfl⟩<;>rfl
 pyHash:=fun hv h=>by
  rcases ZP hv with ⟨i,t,rfl,rfl⟩ |⟨x,t,rfl,rfl⟩
  ·exact wpAny_pyHash_int h
  ·exact wpAny_pyHash_str h
 eqBool:=fun hu hv h=>by
  rcases ZP hu with ⟨i,t,rfl,rfl⟩ |⟨x,t,rfl,rfl⟩
  ·rcases ZP hv with ⟨j,u,rfl,rfl⟩ |⟨y,u,rfl,rfl⟩
   ·rw[PD]at h;exact wpAny_eqBool_int h
   ·rw[PF]at h;exact SeqAt.EqAt.int_str i t y u _ _ _ _ h
  ·rcases ZP hv with ⟨j,u,rfl,rfl⟩ |⟨y,u,rfl,rfl⟩
   ·rw[PH]at h;exact SeqAt.EqAt.str_int x t j u _ _ _ _ h
   ·rw[PJ]at h;exact wpAny_eqBool_str h
 «strs» :=fun k x t v h=>by
  rcases ZP h with ⟨i,u,rfl,e⟩ |⟨y,u,rfl,e⟩
  ·exact nomatch e
  ·injection e with e1 _
   subst e1
   cases v<;>rfl
inductive V where
 |ae |bl (b:Bool) |int (i:Int) |str (x:Str) |hX (b:Array UInt8) |gB (b:UInt64) |ref (a:Addr) |ty (n:String)
 deriving DecidableEq
def RelV:V→Value→Prop
 | .ae,u=>u=Value.none
 | .bl b,u=>u=Value.bool b
 | .int i,u=> ∃t,u=Value.int i t
 | .str x,u=> ∃t,u=Value.str x t
 | .hX b,u=> ∃t,u=Value.bytes b t
 | .gB b,u=> ∃t,u=Value.float b t
 | .ref a,u=>u=Value.ref a
 | .ty n,u=>u=Value.type n
abbrev Vals:List V→List Value→Prop:=Paired RelV
theorem Vals.length {xs:List V}{us:List Value}(r:Vals xs us):xs.length=us.length:=Paired.length r
theorem Vals.get:∀{xs:List V}{us:List Value}{i:Nat}{x:V},Vals xs us→xs[i]? =some x→∃u,us[i]? =some u∧RelV x u
 |_,_,_,_,.nil,e=>by simp at e
 |_,_,0,_,.cons r _,e=>by simp at e;subst e;exact⟨_,rfl,r⟩
 |_,_,i+1,x,.cons _ t,e=>by
  obtain⟨u,h1,h2⟩:=Vals.get (i:=i) (x:=x) t (by simpa using e)
  exact⟨u,by simpa using h1,h2⟩
theorem Vals.set {x:V}{u:Value}(r:RelV x u):∀{xs:List V}{us:List Value}(i:Nat),Vals xs us→Vals (xs.set i x) (us.set i u)
 |_,_,_,.nil=> .nil
 |_,_,0,.cons _ t=> .cons r t
 |_,_,i+1,.cons q t=> .cons q (Vals.set r i t)
theorem Vals.append:∀{xs ys:List V}{us ws:List Value},Vals xs us→Vals ys ws→Vals (xs++ys) (us++ws)
 |_,_,_,_,.nil,s=>s
 |_,_,_,_,.cons r t,s=> .cons r (Vals.append t s)
theorem Vals.take:∀{xs:List V}{us:List Value}(n:Nat),Vals xs us→Vals (xs.take n) (us.take n)
 |_,_,0,_=> .nil
 |_,_,_+1,.nil=> .nil
 |_,_,n+1,.cons r t=> .cons r (Vals.take n t)
theorem Vals.drop:∀{xs:List V}{us:List Value}(n:Nat),Vals xs us→Vals (xs.drop n) (us.drop n)
 |_,_,0,r=>r
 |_,_,_+1,.nil=> .nil
 |_,_,n+1,.cons _ t=>Vals.drop n t
def yR:Option V→Option Value→Prop
 |some v,some u=>RelV v u
 |none,none=>True
 |_,_=>False
def KV {κ:Type} :List (κ×V)→List (κ×Value)→Prop:=Paired fun(p:κ×V) (q:κ×Value)=>p.1=q.1∧RelV p.2 q.2
def kV:Key→V
 | .inl i=> .int i
 | .inr x=> .str x
inductive HO where
  |lst (xs:List V)
  |tup (xs:List V)
  |par (xs:List V)
  |dK (cm:List (Key×V)) |dT (cm:List (List Key×V))
  |set (S:Int→Bool) (n:Nat)
  |ins (C dx:Addr) (fs:List (Str×V))
  |own (x:Addr)
  |xd (fs:List (Str×V))
  |met (f x:Addr)
  |fj (lo hi:Int)
  |bU (o:Obj) (u:HO)
  |bH (ps:Array Value)
  |ext (φ:Heap→Prop)
abbrev Hp:=Addr→Option HO
def upd (H:Hp) (a:Addr) (o:HO):Hp:=fun b=>if b=a then some o else H b
theorem Zc {H:Hp}{a:Addr}{o:HO} :upd H a o a=some o:=by unfold upd;rw[if_pos rfl]
theorem Zf {H:Hp}{a b:Addr}{o:HO}(h:b≠a):upd H a o b=H b:=by unfold upd;rw[if_neg h]
theorem Ye {H:Hp}{a b:Addr}{o u:HO}(h:H a=some o) (h':H b=some u) (d:o≠u):a≠b:=by
 intro e;subst e;rw[h]at h';exact d (Option.some.inj h')
theorem Zg {H:Hp}{a b:Addr}{o:HO}(h:H a=some o) (h':H b=none):a≠b:=by
 intro e;subst e;rw[h]at h';cases h'
section
variable (P:Program) (w:World)
def bC (H:Hp) (h:Heap) (a:Addr):HO→Prop
 | .lst xs=>xs.length≤sizeLine∧∃(its:List Value) (n:Nat),Vals xs its∧h.get? a=some {cls:=.type "list",data:=.seq its.toArray n}
 | .tup xs=>xs.length≤sizeLine∧∃its:List Value,Vals xs its∧IsTup h a its.toArray∧∃o,h.get? a=some o∧o.dict=none
 | .par xs=>xs.length≤sizeLine∧∃its:List Value,Vals xs its∧IsTup h a its.toArray
 | .dK cm=>cm.length≤sizeLine∧(a==sysModules)=false∧∃vs,KV cm vs∧h.DictOf (A6 P w) a vs
 | .dT cm=>cm.length≤sizeLine∧(a==sysModules)=false∧∃xs:List (List Key×Addr×Value),
   Paired (fun(p:List Key×V) (q:List Key×Addr×Value)=>p.1=q.1∧H q.2.1=some (.tup (p.1.map kV))∧RelV p.2 q.2.2) cm xs∧
   ∃o es ep,h.get? a=some o∧o.ExactDict∧o.data=.dict es ep∧es.toList=xs.map (entryOfKey (tupleKind (A6 P w)))∧(xs.map (·.1)).Nodup
 | .set S n=>h.SetOf (intKind P w) a S n
 | .ins C dx fs=>H dx=some (.own a)∧fs.length≤1000∧dx≠a∧h.get? a=some (PySem.W.instObj C dx)∧
   ∃mA,h.Ns1 dx mA∧(∀f,yR (fs.lookup f) (mA f))∧PySem.Within mA (fs.map (·.1))
 | .own _=> ∃o,h.get? a=some o
 | .xd fs=> ∃mA,h.Ns1 a mA∧∀f,yR (fs.lookup f) (mA f)
 | .fj lo hi=> ∃t u v,h.get? a=some {cls:=.type "range",data:=.fields #[.int lo t,.int hi u,.int 1 v]}
 | .bU o u=>h.get? a=some o∧bC H h a u
 | .bH ps=>h.get? a=some {cls:=.none,data:=.fields ps}
 | .met f x=>h.get? a=some (PySem.W.methodObj (.ref f) (.ref x))
 | .ext φ=>φ h∧(∃o,h.get? a=some o)∧∀h1 h2:Heap,φ h1→(∀o,h1.get? a=some o→h2.get? a=some o)→φ h2
def bS (H:Hp) (h:Heap):Prop:=∀a o,H a=some o→bC P w H h a o
end
section
variable {P:Program}{w:World}{H H':Hp}{h h':Heap}{a:Addr}{o:HO}
theorem bC.lt (x:bC P w H h a o):a<h.objs.size:=by
 cases o with
 |lst xs=>obtain⟨_,_,_,_,e⟩:=x;exact Heap.lt_size e
 |tup xs=>obtain⟨_,_,_,p,_⟩:=x;exact p.lt
 |par xs=>obtain⟨_,_,_,p⟩:=x;exact p.lt
 |dK cm=>obtain⟨_,_,_,_,o,_,_,e,_⟩:=x;exact Heap.lt_size e
 |dT cm=>obtain⟨_,_,_,_,o,_,_,e,_⟩:=x;exact Heap.lt_size e
 |set S n=>obtain⟨o,_,_,_,e,_⟩:=x;exact Heap.lt_size e
 |ins C dx fs=>obtain⟨_,_,_,e,_⟩:=x;exact Heap.lt_size e
 |own y=>obtain⟨_,e⟩:=x;exact Heap.lt_size e
 |xd fs=>obtain⟨_,⟨_,_,_,e,_⟩,_⟩:=x;exact Heap.lt_size e
 |fj lo hi=>obtain⟨_,_,_,e⟩:=x;exact Heap.lt_size e
 |bU ob u=>obtain⟨e,_⟩:=x;exact Heap.lt_size e
 |bH ps=>exact Heap.lt_size (show h.get? a=some _ from x)
 |met f y=>exact Heap.lt_size (show h.get? a=some _ from x)
 |ext φ=>obtain⟨_,⟨_,e⟩,_⟩:=x;exact Heap.lt_size e
theorem Paired.ck {α β:Type}{F G:α→β→Prop} :∀{kj:List α}{ki:List β},Paired F kj ki→(∀a b,F a b→G a b)→Paired G kj ki
 |_,_,.nil,_=> .nil
 |_,_,.cons r t,f=> .cons (f _ _ r) (Paired.ck t f)
theorem bC.bI (x:bC P w H h a o) (k:∀b u,(b=a∨H b=some (.own a))→h.get? b=some u→h'.get? b=some u)
  (ho:∀b,H b=some (.own a)→H' b=some (.own a)) (ht:∀b xs,H b=some (.tup xs)→H' b=some (.tup xs)):bC P w H' h' a o:=by
 induction o with
 |lst xs=>obtain⟨z,its,n,r,e⟩:=x;exact⟨z,its,n,r,k _ _ (.inl rfl) e⟩
 |tup xs=>obtain⟨z,its,r,⟨ob,e,c⟩,o2,e2,c2⟩:=x;exact⟨z,its,r,⟨ob,k _ _ (.inl rfl) e,c⟩,o2,k _ _ (.inl rfl) e2,c2⟩
 |par xs=>obtain⟨z,its,r,ob,e,c⟩:=x;exact⟨z,its,r,ob,k _ _ (.inl rfl) e,c⟩
 |dK cm=>obtain⟨z,y,vs,r,ob,es,ep,e,c⟩:=x;exact⟨z,y,vs,r,ob,es,ep,k _ _ (.inl rfl) e,c⟩
 |dT cm=>
  obtain⟨z,y,xs,r,ob,es,ep,e,c⟩:=x
  exact⟨z,y,xs,Paired.ck r fun p q z=> ⟨z.1,ht _ _ z.2.1,z.2.2⟩,ob,es,ep,k _ _ (.inl rfl) e,c⟩
 |set S n=>obtain⟨ob,es,ep,t,e,c⟩:=x;exact⟨ob,es,ep,t,k _ _ (.inl rfl) e,c⟩
 |ins C dx fs=>
  obtain⟨d,z,ne,e,mA,⟨od,es,ep,e2,c⟩,r⟩:=x
  exact⟨ho _ d,z,ne,k _ _ (.inl rfl) e,mA,⟨od,es,ep,k _ _ (.inr d) e2,c⟩,r⟩
 |own y=>obtain⟨ob,e⟩:=x;exact⟨ob,k _ _ (.inl rfl) e⟩
 |xd fs=>obtain⟨mA,⟨od,es,ep,e,c⟩,r⟩:=x;exact⟨mA,⟨od,es,ep,k _ _ (.inl rfl) e,c⟩,r⟩
 |fj lo hi=>obtain⟨t,u,v,e⟩:=x;exact⟨t,u,v,k _ _ (.inl rfl) e⟩
 |bU ob u ih=>obtain⟨e,q⟩:=x;exact⟨k _ _ (.inl rfl) e,ih q⟩
 |bH ps=>
  have e:h.get? a=some {cls:=.none,data:=.fields ps} :=x
  show h'.get? a=some {cls:=.none,data:=.fields ps}
  exact k a _ (.inl rfl) e
 |met f y=>
  have e:h.get? a=some (PySem.W.methodObj (.ref f) (.ref y)):=x
  show h'.get? a=some (PySem.W.methodObj (.ref f) (.ref y))
  exact k a _ (.inl rfl) e
 |ext φ=>obtain⟨p,⟨o,e⟩,st⟩:=x;exact⟨st _ _ p fun o q=>k _ _ (.inl rfl) q,⟨o,k _ _ (.inl rfl) e⟩,st⟩
theorem bS.lt (x:bS P w H h) (e:H a=some o):a<h.objs.size:=(x a o e).lt
theorem bS.fresh (x:bS P w H h) (e:h.objs.size≤a):H a=none:=by
 cases q:H a with
 |none=>rfl
 |some u=>exact absurd (Nat.lt_of_lt_of_le (x.lt q) e) (Nat.lt_irrefl _)
theorem bS.kept (x:bS P w H h) (k:∀b u,h.get? b=some u→h'.get? b=some u):bS P w H h':=fun a o e=>
 (x a o e).bI (fun b u _ q=>k b u q) (fun _ q=>q) fun _ _ q=>q
theorem bS.laid (x:bS P w H h) (k:∀b u,h.get? b=some u→h'.get? b=some u) (hp:h.objs.size≤a) (new:bC P w (upd H a o) h' a o):bS P w (upd H a o) h':=fun b u e=>by
 have hn:=x.fresh hp
 by_cases hb:b=a
 ·subst hb;rw[Zc]at e;cases e;exact new
 ·rw[Zf hb]at e
  exact(x b u e).bI (fun c v _ q=>k c v q) (fun c q=>by rw[Zf (Zg q hn)];exact q) fun c xs q=>by rw[Zf (Zg q hn)];exact q
end
def Rd (H:Hp) (a:Addr) (u:HO):Prop:=H a=some u∨∃o,H a=some (.bU o u)
theorem Rd.ok {P:Program}{w:World}{H:Hp}{h:Heap}{a:Addr}{u:HO}(r:Rd H a u) (x:bS P w H h):bC P w H h a u:=by
 rcases r with r |⟨o,r⟩
 ·exact x a u r
 ·obtain⟨_,q⟩:=x a _ r
  exact q
def uG:Option HO→Prop
 |some (.lst _)=>True
 |some (.dK _)=>True
 |some (.dT _)=>True
 |some (.set _ _)=>True
 |some (.ins _ _ _)=>True
 |some (.ext _)=>True
 |_=>False
section
variable {P:Program}{w:World}{H:Hp}{h h':Heap}{x e:Addr}{o':HO}
theorem bS.write (ok:bS P w H h) (mu:uG (H x)) (he:e=x∨H e=some (.own x)) (k:∀b u,b≠e→h.get? b=some u→h'.get? b=some u) (oB:∃u,h'.get? e=some u)
  (new:bC P w (upd H x o') h' x o'):bS P w (upd H x o') h':=fun b u q=>by
 have AQ:∀c y,H c=some (.own y)→c≠x:=fun c y r z=>by subst z;rw[r]at mu;exact mu
 have Iv:∀c xs,H c=some (.tup xs)→c≠x:=fun c xs r z=>by subst z;rw[r]at mu;exact mu
 by_cases hb:b=x
 ·subst hb;rw[Zc]at q;cases q;exact new
 ·rw[Zf hb]at q
  by_cases jo:b=e
  ·have q':H b=some (.own x):=by
    rcases he with z |z
    ·exact absurd (jo.trans z) hb
    ·rw[jo];exact z
   rw[q]at q';cases q'
   obtain⟨v,hv⟩:=oB
   exact⟨v,by rw[jo];exact hv⟩
  ·refine(ok b u q).bI (fun c v hc r=>k c v ?_ r) (fun c r=>by rw[Zf (AQ c b r)];exact r) fun c xs r=>by rw[Zf (Iv c xs r)];exact r
   rcases hc with rfl |hc
   ·exact jo
   ·rintro rfl
    rcases he with z |z
    ·exact AQ c b hc z
    ·rw[hc]at z;cases z;exact hb rfl
end
structure Un (fs ex:List Addr) (H H':Hp) (h h':Heap):Prop where
 keep:∀b o,h.get? b=some o→H b=none→b∉fs→b∉ex→h'.get? b=some o
 slot:∀b o,h.get? b=some o→H b=none→b∈fs→b∉ex→∃sl,h'.get? b=some {o with slots:=sl}
 free:∀b o,h.get? b=some o→H b=none→b∉ex→H' b=none
 there:∀b o,h.get? b=some o→b∉ex→∃o',h'.get? b=some o'
 f9:∀b xs,H b=some (.tup xs)→H' b=some (.tup xs)
 fW:∀b o u,H b=some (.bU o u)→H' b=some (.bU o u)
 fM:∀b ps,H b=some (.bH ps)→∃more,H' b=some (.bH (ps++more))
section
variable {fs qy ex VO:List Addr}{H H1 H2:Hp}{h h1 h2 h':Heap}{a x e:Addr}{o:HO}
theorem Un.any (u:Un fs ex H H1 h h1) {b:Addr}{ob:Obj}(q:h.get? b=some ob) (n:H b=none) (hx:b∉ex):∃sl,h1.get? b=some {ob with slots:=sl} :=by
 by_cases hb:b∈fs
 ·exact u.slot b ob q n hb hx
 ·exact⟨ob.slots,u.keep b ob q n hb hx⟩
theorem Un.kept (k:∀b u,h.get? b=some u→h'.get? b=some u):Un fs ex H H h h':=
 ⟨fun b ob q _ _ _=>k b ob q,fun b ob q _ _ _=> ⟨ob.slots,k b ob q⟩,fun _ _ _ n _=>n,fun b ob q _=> ⟨ob,k b ob q⟩,fun _ _ q=>q,fun _ _ _ q=>q,fun _ ps q=> ⟨#[],by rw[q];simp⟩⟩
theorem Un.refl:Un fs ex H H h h:=Un.kept fun _ _ q=>q
theorem Un.laid (k:∀b u,h.get? b=some u→h'.get? b=some u) (hp:h.objs.size≤a) (hn:H a=none):Un fs ex H (upd H a o) h h' where
 keep:=fun b u q _ _ _=>k b u q
 slot:=fun b u q _ _ _=> ⟨u.slots,k b u q⟩
 free:=fun b u q n _=>by rw[Zf (Nat.ne_of_lt (Nat.lt_of_lt_of_le (Heap.lt_size q) hp))];exact n
 there:=fun b u q _=> ⟨u,k b u q⟩
 f9:=fun b xs q=>by rw[Zf (Zg q hn)];exact q
 fW:=fun b u xs q=>by rw[Zf (Zg q hn)];exact q
 fM:=fun b ps q=> ⟨#[],by rw[Zf (Zg q hn),q];simp⟩
theorem Un.write (mu:uG (H x)) (he:e=x∨H e=some (.own x)) (k:∀b u,b≠e→h.get? b=some u→h'.get? b=some u) (oB:∃u,h'.get? e=some u):Un fs ex H (upd H x o) h h':=by
 have hx:∀b,H b=none→b≠x:=fun b n z=>by subst z;rw[n]at mu;exact mu
 have hb:∀b,H b=none→b≠e:=fun b n z=>by
  subst z
  rcases he with r |r
  ·exact hx b n r
  ·rw[n]at r;cases r
 have hm:∀b u,H b=some u→¬uG (some u)→b≠x:=fun b u q nm z=>by subst z;rw[q]at mu;exact nm mu
 refine⟨fun b u q n _ _=>k b u (hb b n) q,fun b u q n _ _=> ⟨u.slots,k b u (hb b n) q⟩,fun b u q n _=>by rw[Zf (hx b n)];exact n,fun b u q _=> ?_,
  fun b xs q=>by rw[Zf (hm b _ q fun z=>z)];exact q,fun b u xs q=>by rw[Zf (hm b _ q fun z=>z)];exact q,fun b ps q=> ⟨#[],by rw[Zf (hm b _ q fun z=>z),q];simp⟩⟩
 by_cases jo:b=e
 ·subst jo;exact oB
 ·exact⟨u,k b u jo q⟩
end
def bX (h:Heap) (H:Hp):List Addr:=(List.range h.objs.size).filter fun a=> (H a).isSome
def gX (h:Heap) (H:Hp):Heap:=PySem.W.hideAll h (bX h H)
theorem Uc (h:Heap) (H:Hp):(gX h H).objs.size=h.objs.size:=PySem.W.hideAll_size _ _
theorem Ep {h:Heap}{H:Hp}{b:Addr}{o:Obj}(e:h.get? b=some o) (n:H b=none):(gX h H).get? b=some o:=
 PySem.W.hideAll_get _ e fun hm=>by
  have q:(H b).isSome=true:=(List.mem_filter.mp hm).2
  rw[n]at q;simp at q
theorem Eh {h:Heap}{H:Hp}{b:Addr}{o:Obj}(e:(gX h H).get? b=some o):h.get? b=some o∧H b=none:=by
 have e':h.get? b=some o:=PySem.W.of_hideAll (bX h H) e
 refine⟨e',?_⟩
 cases q:H b with
 |none=>rfl
 |some x=>
  have hm:b∈bX h H:=List.mem_filter.mpr ⟨List.mem_range.mpr (Heap.lt_size e'),by simp[q]⟩
  have z:(gX h H).get? b=none:=PySem.W.hideAll_none (bX h H) hm
  rw[z]at e;cases e
def OP (g h:Heap) (L:Addr):List (Addr×Obj):=(List.range h.objs.size).filterMap fun a=>if a=L∨(g.get? a).isSome=true then none else (h.get? a).map fun o=> (a,o)
def rest (g h:Heap) (L d:Addr):List (Addr×Obj):=(OP g h L).filter fun p=>decide (p.1≠d)
structure Mod (K:PySem.W.Frag) (mg:Str→Option Value) (base:Heap):Prop where
 lL:K.In base
 glob:base.Ns mainGlobals mg
 blt:∃mb,base.Ns builtinsNs mb∧∀x:Str,x≠ "__name__" →mb x=bootBuiltins x
 nolimit:base.NoLimit
structure Cx where
 prog:Program
 w:World
 K:PySem.W.Frag
 mg:Str→Option Value
 base:Heap
 A:Around
 N:List Str
 cj:Shared
 j4:Hp
 env:Env
 outer:List Env
 stack:List Env
 ex:List Addr
 fn:Str→Bool
 calm:Bool
 pn:List (Addr×Obj)
 xe:Value→Shared→Prop
def aX (l:List Env):List Addr:=l.filterMap (·.frame)
abbrev Cx.fs (X:Cx):List Addr:=aX X.outer
def qK (sc:Scope) (x:Str):Prop:=sc.names.lookup x=some .local∨sc.names.lookup x=some .cell∨sc.names.lookup x=some .free
def Loc (sc:Scope) (x:Str):Prop:=sc.names.lookup x=some .local∨sc.names.lookup x=some .cell
def Look (env:Env) (h:Heap) (m:Str→Option Value) (x:Str) (u:Value):Prop:=
 (env.kindOf x=some .local∧m x=some u)∨((env.kindOf x=some .cell∨env.kindOf x=some .free)∧∃c,env.cells.lookup x=some c∧h.IsCell c (some u))
structure Cx.Ok (X:Cx):Prop where
 mod:Mod X.K X.mg X.base
 kind:X.env.scope.kind=.function
 glob:X.env.globals=mainGlobals
 blt:X.env.builtins=builtinsNs
 above:X.cj.heap.objs.size≤X.env.locals
 inj:∀x y c,X.env.cells.lookup x=some c→X.env.cells.lookup y=some c→x=y
 has:∀x,(X.env.kindOf x=some .cell∨X.env.kindOf x=some .free)→∃c,X.env.cells.lookup x=some c
 kM:∀x c,X.fn x=true→X.env.cells.lookup x=some c→X.cj.heap.objs.size≤c
 hd:X.calm=true→X.A.handled=none
 frames:X.A.frames=some X.stack
 nF:X.stack=X.outer∨(X.stack=X.env::X.outer∧X.env.frame=some X.env.locals)
 oI:∀b∈X.ex,b≠X.env.locals∧∀x c,X.env.cells.lookup x=some c→c≠b
 bs:∀b o,X.base.get? b=some o→X.cj.heap.get? b=some o∧X.j4 b=none
 js:X.base.objs.size≤X.cj.heap.objs.size
 lG:∀b o,X.base.get? b=some o→b∉X.ex
 mJ:∀b∈X.ex,b∉X.fs
 dZ:X.cj.heap.FunFrames X.base X.outer
 g9:∀b∈X.fs,X.j4 b=none
structure Inv (X:Cx) (pins:List (Addr×Obj)) (σ:List (Option V)) (H:Hp) (s:Shared):Prop where
 ok:X.Ok
 os:s.os=X.cj.os
 bare:AllBare s.gens
 base:Un X.fs X.ex X.j4 H X.cj.heap s.heap
 loc:∃m,s.heap.Ns X.env.locals m∧∀(i:Nat) (x:Str) (v:V),X.N[i]? =some x→σ[i]? =some (some v)→qK X.env.scope x→∃u,RelV v u∧Look X.env s.heap m x u
 cell:∀x c,X.env.cells.lookup x=some c→∃v,s.heap.IsCell c v
 free:H X.env.locals=none
 fX:∀x c,X.env.cells.lookup x=some c→H c=none
 pin:∀p∈X.pn++pins,s.heap.get? p.1=some p.2∧H p.1=none∧p.1≠X.env.locals∧p.1∉X.fs∧∀v,p.2.data≠.cell v
 ai:bS X.prog X.w H s.heap
 len:σ.length=X.N.length
section
variable {X:Cx}{pins:List (Addr×Obj)}{σ:List (Option V)}{H H':Hp}{s:Shared}{h':Heap}
theorem Cx.Ok.IC (ok:X.Ok) {b:Addr}{o:Obj}(e:X.base.get? b=some o):b∉X.fs:=fun hb=>by
 have:=(ok.dZ.mem hb).1
 rw[e]at this;cases this
theorem Inv.bs (I:Inv X pins σ H s):∀b o,X.base.get? b=some o→s.heap.get? b=some o∧H b=none:=fun b o e=>
 ⟨I.base.keep b o (I.ok.bs b o e).1 (I.ok.bs b o e).2 (I.ok.IC e) (I.ok.lG b o e),I.base.free b o (I.ok.bs b o e).1 (I.ok.bs b o e).2 (I.ok.lG b o e)⟩
theorem Inv.bk (I:Inv X pins σ H s):∀b o,X.base.get? b=some o→s.heap.get? b=some o:=fun b o e=> (I.bs b o e).1
theorem Inv.mod (I:Inv X pins σ H s):Mod X.K X.mg X.base:=I.ok.mod
theorem Inv.bF (I:Inv X pins σ H s):X.K.In s.heap:=I.ok.mod.lL.keeps I.bk
theorem Inv.lt (I:Inv X pins σ H s):X.env.locals<s.heap.objs.size:=let ⟨_,hn,_⟩:=I.loc;hn.lt
theorem Inv.sz (I:Inv X pins σ H s):X.cj.heap.objs.size≤s.heap.objs.size:=Nat.le_trans I.ok.above (Nat.le_of_lt I.lt)
theorem Inv.IA (I:Inv X pins σ H s) {a:Addr}(h:s.heap.objs.size≤a):a∉X.fs:=fun hb=>by
 obtain⟨_,o,ho,_⟩:=I.ok.dZ.mem hb
 exact absurd (Nat.lt_of_lt_of_le (Heap.lt_size ho) (Nat.le_trans I.sz h)) (Nat.lt_irrefl _)
theorem Inv.hV (I:Inv X pins σ H s):∀x c,X.env.cells.lookup x=some c→c≠X.env.locals:=fun x c e z=>by
 obtain⟨v,o,ho,hd⟩:=I.cell x c e
 obtain⟨m,⟨o',es,ep,cF,mw,_⟩,_⟩:=I.loc
 rw[z,cF]at ho;cases ho;rw[mw]at hd;cases hd
theorem Inv.dZ (I:Inv X pins σ H s):s.heap.FunFrames X.base X.outer:=by
 have all:∀(l:List Env),(∀b∈aX l,b∈X.fs)→X.cj.heap.FunFrames X.base l→s.heap.FunFrames X.base l:=by
  intro l
  induction l with
  |nil=>intro _ _;trivial
  |cons env r ih=>
   intro hs hl
   obtain⟨hk,⟨L,o,hf,hn,ho,hd⟩,hr⟩:=hl
   have hL:L∈X.fs:=hs L (by unfold aX;rw[List.filterMap_cons,hf];exact List.mem_cons_self)
   obtain⟨sl,e⟩:=I.base.slot L o ho (I.ok.g9 L hL) hL fun z=>I.ok.mJ L z hL
   exact⟨hk,⟨L,_,hf,hn,e,hd⟩,ih (fun b hb=>hs b (by unfold aX;rw[List.filterMap_cons,hf];exact List.mem_cons_of_mem _ hb)) hr⟩
 exact all X.outer (fun _ hb=>hb) I.ok.dZ
theorem Inv.stack (I:Inv X pins σ H s):s.heap.FunFrames X.base X.stack:=by
 rcases I.ok.nF with e |⟨e,hf⟩
 ·rw[e];exact I.dZ
 ·rw[e]
  obtain⟨m,hn,_⟩:=I.loc
  refine .cons (by rw[I.ok.kind];decide) hf hn ?_ I.dZ
  exact Heap.get?_none_of_le (Nat.le_trans I.ok.js I.ok.above)
theorem Inv.rp (I:Inv X pins σ H s):∀b∈aX X.stack,b∈X.env.locals::X.fs:=fun b hb=>by
 rcases I.ok.nF with e |⟨e,hf⟩
 ·rw[e]at hb;exact List.mem_cons_of_mem _ hb
 ·rw[e]at hb
  unfold aX at hb
  rw[List.filterMap_cons,hf]at hb
  exact hb
theorem Inv.pe (I:Inv X pins σ H s):∀b∈aX X.stack,H b=none:=fun b hb=>by
 rcases List.mem_cons.mp (I.rp b hb) with e |hb
 ·rw[e];exact I.free
 ·obtain⟨_,o,ho,_⟩:=I.ok.dZ.mem hb
  exact I.base.free b o ho (I.ok.g9 b hb) fun z=>I.ok.mJ b z hb
theorem Inv.step {g':Array GenState}{t':Nat}{d':Drawn}{ch:List Addr}(I:Inv X pins σ H s)
  (jm:∀b∈ch,(b∈X.ex∨X.cj.heap.objs.size≤b)∧b≠X.env.locals∧(∀x c,X.env.cells.lookup x=some c→c≠b)∧∀p∈X.pn++pins,p.1≠b)
  (keep:∀b o,b≠X.env.locals→b∉X.fs→b∉ch→s.heap.get? b=some o→H b=none→h'.get? b=some o)
  (slot:∀b o,b≠X.env.locals→b∈X.fs→b∉ch→s.heap.get? b=some o→H b=none→∃sl,h'.get? b=some {o with slots:=sl}) (free:∀b o,b∉ch→s.heap.get? b=some o→H b=none→H' b=none)
  (there:∀b o,b∉ch→s.heap.get? b=some o→∃o',h'.get? b=some o')
  (f9:∀b xs,H b=some (.tup xs)→H' b=some (.tup xs)) (fW:∀b o u,H b=some (.bU o u)→H' b=some (.bU o u)) (fM:∀b ps,H b=some (.bH ps)→∃more,H' b=some (.bH (ps++more)))
  (ns:∀m,s.heap.Ns X.env.locals m→h'.Ns X.env.locals m) (ai:bS X.prog X.w H' h') (hg:AllBare g'):
  Inv X pins σ H' {s with heap:=h',gens:=g',drawn:=d',toks:=t'} :=by
 have lI:∀b o,X.cj.heap.get? b=some o→b≠X.env.locals:=fun b o e=>Nat.ne_of_lt (Nat.lt_of_lt_of_le (Heap.lt_size e) I.ok.above)
 have gM:∀b o,X.cj.heap.get? b=some o→b∉X.ex→b∉ch:=fun b o e hx hb=>by
  rcases (jm b hb).1 with z |z
  ·exact hx z
  ·exact absurd (Nat.lt_of_lt_of_le (Heap.lt_size e) z) (Nat.lt_irrefl _)
 have cellK:∀x c,X.env.cells.lookup x=some c→∀v,s.heap.IsCell c v→h'.IsCell c v:=fun x c e v ⟨o,ho,hd⟩=>by
  have pS:c∉ch:=fun z=> (jm c z).2.2.1 x c e rfl
  by_cases hc:c∈X.fs
  ·obtain⟨sl,q⟩:=slot c o (I.hV x c e) hc pS ho (I.fX x c e)
   exact⟨_,q,hd⟩
  ·exact⟨o,keep c o (I.hV x c e) hc pS ho (I.fX x c e),hd⟩
 refine⟨I.ok,I.os,hg,⟨fun b o e n hb hx=> ?_,fun b o e n hb hx=> ?_,fun b o e n hx=> ?_,fun b o e hx=> ?_,fun b xs e=>f9 b xs (I.base.f9 b xs e),fun b o xs e=>fW b o xs (I.base.fW b o xs e),fun b ps e=> ?_⟩,?_,fun x c e=> ?_,?_,fun x c e=> ?_,fun p hp=> ?_,ai,I.len⟩
 ·exact keep b o (lI b o e) hb (gM b o e hx) (I.base.keep b o e n hb hx) (I.base.free b o e n hx)
 ·obtain⟨sl,e1⟩:=I.base.slot b o e n hb hx
  obtain⟨GC,e2⟩:=slot b _ (lI b o e) hb (gM b o e hx) e1 (I.base.free b o e n hx)
  exact⟨GC,e2⟩
 ·obtain⟨o',e1⟩:=I.base.there b o e hx
  exact free b o' (gM b o e hx) e1 (I.base.free b o e n hx)
 ·obtain⟨o',e1⟩:=I.base.there b o e hx
  exact there b o' (gM b o e hx) e1
 ·obtain⟨m1,e1⟩:=I.base.fM b ps e
  obtain⟨m2,e2⟩:=fM b _ e1
  exact⟨m1++m2,by rw[e2,Array.append_assoc]⟩
 ·obtain⟨m,hn,hl⟩:=I.loc
  refine⟨m,ns m hn,fun i x v e1 e2 e3=> ?_⟩
  obtain⟨u,r,l⟩:=hl i x v e1 e2 e3
  refine⟨u,r,?_⟩
  rcases l with l |⟨k,c,e,z⟩
  ·exact .inl l
  ·exact .inr ⟨k,c,e,cellK x c e _ z⟩
 ·obtain⟨v,z⟩:=I.cell x c e
  exact⟨v,cellK x c e v z⟩
 ·obtain⟨m,⟨o,_,_,ho,_⟩,_⟩:=I.loc
  exact free _ o (fun z=> (jm _ z).2.1 rfl) ho I.free
 ·obtain⟨v,o,ho,hd⟩:=I.cell x c e
  exact free c o (fun z=> (jm c z).2.2.1 x c e rfl) ho (I.fX x c e)
 ·obtain⟨e,n,ne,nf,d⟩:=I.pin p hp
  have pS:p.1∉ch:=fun z=> (jm p.1 z).2.2.2 p hp rfl
  exact⟨keep p.1 p.2 ne nf pS e n,free p.1 p.2 pS e n,ne,nf,d⟩
theorem Inv.un {t':Nat}(I:Inv X pins σ H s) (u:Un X.fs [] H H' s.heap h') (ai:bS X.prog X.w H' h'):Inv X pins σ H' {s with heap:=h',toks:=t'} :=by
 obtain⟨m,⟨o,es,ep,ho,r⟩,_⟩:=id I.loc
 obtain⟨sl,hL⟩:=u.any ho I.free (by simp)
 exact I.step (g':=s.gens) (d':=s.drawn) (ch:=[]) (fun _ z=>nomatch z) (fun b o _ hb _ e n=>u.keep b o e n hb (by simp)) (fun b o _ hb _ e n=>u.slot b o e n hb (by simp)) (fun b o _ e n=>u.free b o e n (by simp)) (fun b o _ e=>u.there b o e (by simp)) u.f9 u.fW u.fM (fun m' hm=>by
  obtain⟨o',gC,yg,cF,r'⟩:=hm
  rw[ho]at cF;cases cF
  exact⟨_,gC,yg,hL,r'⟩) ai I.bare
theorem Inv.call {g':Array GenState}{t':Nat}{d':Drawn}{ch:List Addr}(I:Inv X pins σ H s) (u:Un (aX X.stack) ch H H' s.heap h') (ai:bS X.prog X.w H' h') (hg:AllBare g')
  (jm:∀b∈ch,(b∈X.ex∨X.cj.heap.objs.size≤b)∧b≠X.env.locals∧(∀x c,X.env.cells.lookup x=some c→c≠b)∧∀p∈X.pn++pins,p.1≠b):
  Inv X pins σ H' {s with heap:=h',gens:=g',drawn:=d',toks:=t'} :=by
 obtain⟨m,⟨o,es,ep,ho,r⟩,_⟩:=id I.loc
 obtain⟨sl,hL⟩:=u.any ho I.free fun z=> (jm _ z).2.1 rfl
 exact I.step (ch:=ch) jm (fun b o hL hb hc e n=>u.keep b o e n (fun z=> (List.mem_cons.mp (I.rp b z)).elim hL hb) hc) (fun b o _ _ hc e n=>u.any e n hc) (fun b o hc e n=>u.free b o e n hc) (fun b o hc e=>u.there b o e hc) u.f9 u.fW u.fM (fun m' hm=>by
  obtain⟨o',gC,yg,cF,r'⟩:=hm
  rw[ho]at cF;cases cF
  exact⟨_,gC,yg,hL,r'⟩) ai hg
theorem Inv.turned {t':Nat}{it:Addr}(I:Inv X pins σ H s) (k:∀b o,b≠it→s.heap.get? b=some o→h'.get? b=some o) (hn:H it=none) (hL:it≠X.env.locals)
  (h1:it∈X.ex∨X.cj.heap.objs.size≤it) (h2:∀x c,X.env.cells.lookup x=some c→c≠it) (h3:∀p∈X.pn++pins,p.1≠it):Inv X pins σ H {s with heap:=h',toks:=t'} :=by
 have AX:∀b u,H b=some u→b≠it:=fun b u e z=>by rw[z,hn]at e;cases e
 refine I.step (g':=s.gens) (d':=s.drawn) (ch:=[it]) (fun b hb=> ?_) (fun b o _ _ hc e _=>k b o (fun z=>hc (by simp[z])) e) (fun b o _ _ hc e _=> ⟨o.slots,k b o (fun z=>hc (by simp[z])) e⟩) (fun _ _ _ _ n=>n)
  (fun b o hc e=> ⟨o,k b o (fun z=>hc (by simp[z])) e⟩) (fun _ _ e=>e) (fun _ _ _ e=>e) (fun b ps e=> ⟨#[],by rw[e];simp⟩) (fun m hm=> ?_) (fun b u e=> ?_) I.bare
 ·have e:b=it:=by simpa using hb
  subst e
  exact⟨h1,hL,h2,h3⟩
 ·obtain⟨o,es,ep,ho,r⟩:=hm
  exact⟨o,es,ep,k _ o (Ne.symm hL) ho,r⟩
 ·refine(I.ai b u e).bI (fun c v hc q=>k c v ?_ q) (fun _ q=>q) fun _ _ q=>q
  rcases hc with z |z
  ·rw[z];exact AX b u e
  ·exact AX c _ z
theorem Inv.tok (I:Inv X pins σ H s) (t:Nat):Inv X pins σ H {s with toks:=t} :=I.un (h':=s.heap) (t':=t) Un.refl I.ai
theorem Inv.kept {t':Nat}(I:Inv X pins σ H s) (k:∀b u,s.heap.get? b=some u→h'.get? b=some u):Inv X pins σ H {s with heap:=h',toks:=t'} :=I.un (Un.kept k) (I.ai.kept k)
theorem Inv.laid {a:Addr}{o:HO}{t':Nat}(I:Inv X pins σ H s) (k:∀b u,s.heap.get? b=some u→h'.get? b=some u) (hp:s.heap.objs.size≤a) (new:bC X.prog X.w (upd H a o) h' a o):
  Inv X pins σ (upd H a o) {s with heap:=h',toks:=t'} :=I.un (Un.laid k hp (I.ai.fresh hp)) (I.ai.laid k hp new)
theorem Inv.write {x e:Addr}{o:HO}{t':Nat}(I:Inv X pins σ H s) (mu:uG (H x)) (he:e=x∨H e=some (.own x)) (k:∀b u,b≠e→s.heap.get? b=some u→h'.get? b=some u) (oB:∃u,h'.get? e=some u)
  (new:bC X.prog X.w (upd H x o) h' x o):Inv X pins σ (upd H x o) {s with heap:=h',toks:=t'} :=I.un (Un.write mu he k oB) (I.ai.write mu he k oB new)
theorem Inv.AA {AB:List (Addr×Obj)}(I:Inv X pins σ H s) (h:∀p∈AB,s.heap.get? p.1=some p.2∧H p.1=none∧p.1≠X.env.locals∧p.1∉X.fs∧∀v,p.2.data≠.cell v):Inv X AB σ H s:=
 ⟨I.ok,I.os,I.bare,I.base,I.loc,I.cell,I.free,I.fX,fun p hp=> (List.mem_append.mp hp).elim (fun z=>I.pin p (List.mem_append_left _ z)) (h p),I.ai,I.len⟩
theorem Wn {N:List Str}(hN:N.Nodup) {i j:Nat}{x:Str}(a:N[i]? =some x) (b:N[j]? =some x):i=j:=by
 obtain⟨h1,e1⟩:=List.getElem?_eq_some_iff.mp a
 obtain⟨h2,e2⟩:=List.getElem?_eq_some_iff.mp b
 exact(List.getElem_inj hN).mp (e1.trans e2.symm)
theorem WZ {M:Model}{A:Around}{E:Value→Shared→Prop}{i:Nat}{x:Str}{v:V}{u:Value}{Q:Unit→Shared→Prop}(I:Inv X pins σ H s) (hN:X.N.Nodup) (hi:X.N[i]? =some x) (hx:Loc X.env.scope x) (r:RelV v u)
  (h:∀s',Inv X pins (σ.set i (some v)) H s'→(∃a,Heap.SameBut a s.heap s'.heap∧(a=X.env.locals∨X.env.cells.lookup x=some a))→Q () s') (hf:X.fn x=true∨X.env.scope.names.lookup x=some .local:=by first |exact .inl rfl |exact .inr rfl |assumption):wpAny M A (storeName X.env x u) Q E s:=by
 obtain⟨m,hn,hl⟩:=id I.loc
 have xK:(X.env.scope.kind==.class||(X.env.scope.kind==.module&&X.env.locals !=X.env.globals))=false:=by rw[I.ok.kind];rfl
 have BU:i<σ.length:=by rw[I.len];exact(List.getElem?_eq_some_iff.mp hi).1
 have hV:=I.hV
 have tracked:∀{a:Addr}{h':Heap},(∃o,s.heap.get? a=some o∧H a=none)→Heap.SameBut a s.heap h'→bS X.prog X.w H h':=fun {a h'} ha hs b ob e=>by
  obtain⟨_,_,BY⟩:=ha
  refine(I.ai b ob e).bI (fun c w' hc q=> (hs.2 c ?_).trans q) (fun _ q=>q) fun _ _ q=>q
  rintro rfl
  rcases hc with rfl |hc
  ·rw[BY]at e;cases e
  ·rw[BY]at hc;cases hc
 rcases hx with hk |hk
 ·refine wpAny_storeName_local hk hn (fun h' qm hs=> ?_) xK
  obtain⟨oL,_,_,hoL,_⟩:=id hn
  refine h _ ⟨I.ok,I.os,I.bare,⟨fun b o e n hb hx=> ?_,fun b o e n hb hx=> ?_,I.base.free,fun b o e hx=> ?_,I.base.f9,I.base.fW,I.base.fM⟩,⟨_,qm,fun j y v' e1 e2 e3=> ?_⟩,fun y c e=> ?_,I.free,I.fX,fun p hp=> ?_,tracked ⟨oL,hoL,I.free⟩ hs,by simpa using I.len⟩ ⟨_,hs,.inl rfl⟩
  ·exact(hs.2 b (Nat.ne_of_lt (Nat.lt_of_lt_of_le (Heap.lt_size e) I.ok.above))).trans (I.base.keep b o e n hb hx)
  ·obtain⟨sl,e1⟩:=I.base.slot b o e n hb hx
   exact⟨sl,(hs.2 b (Nat.ne_of_lt (Nat.lt_of_lt_of_le (Heap.lt_size e) I.ok.above))).trans e1⟩
  ·obtain⟨o',e1⟩:=I.base.there b o e hx
   exact⟨o',(hs.2 b (Nat.ne_of_lt (Nat.lt_of_lt_of_le (Heap.lt_size e) I.ok.above))).trans e1⟩
  ·by_cases hj:j=i
   ·subst hj
    rw[hi]at e1;cases e1
    rw[List.getElem?_set_self BU]at e2
    cases e2
    exact⟨u,r,.inl ⟨hk,by simp⟩⟩
   ·rw[List.getElem?_set_ne (Ne.symm hj)]at e2
    obtain⟨u',r',q⟩:=hl j y v' e1 e2 e3
    refine⟨u',r',?_⟩
    rcases q with ⟨k,e⟩ |⟨k,c,e,z⟩
    ·refine .inl ⟨k,?_⟩
     have:y≠x:=fun e=>hj (Wn hN e1 (e▸hi))
     simp[this,e]
    ·exact .inr ⟨k,c,e,z.sameBut hs (hV y c e)⟩
  ·obtain⟨w',z⟩:=I.cell y c e
   exact⟨w',z.sameBut hs (hV y c e)⟩
  ·obtain⟨e,n,ne,nf,d⟩:=I.pin p hp
   exact⟨(hs.2 p.1 ne).trans e,n,ne,nf,d⟩
 ·have eW:X.fn x=true:=by
   rcases hf with z |z
   ·exact z
   ·rw[z]at hk;cases hk
  obtain⟨c,hc⟩:=I.ok.has x (.inl hk)
  obtain⟨w',z⟩:=I.cell x c hc
  refine wpAny_storeName_cell I.ok.kind hk hc z (fun h' br hs=> ?_)
  obtain⟨oc,Bz,LQ⟩:=id z
  refine h {s with heap:=h'} ⟨I.ok,I.os,I.bare,⟨fun b o e n hb hx=> ?_,fun b o e n hb hx=> ?_,I.base.free,fun b o e hx=> ?_,I.base.f9,I.base.fW,I.base.fM⟩,⟨m,hn.sameBut hs (Ne.symm (hV x c hc)),fun j y v' e1 e2 e3=> ?_⟩,fun y c' e=> ?_,I.free,I.fX,fun p hp=> ?_,tracked ⟨oc,Bz,I.fX x c hc⟩ hs,by simpa using I.len⟩ ⟨c,hs,.inr hc⟩
  ·exact(hs.2 b (Nat.ne_of_lt (Nat.lt_of_lt_of_le (Heap.lt_size e) (I.ok.kM x c eW hc)))).trans (I.base.keep b o e n hb hx)
  ·obtain⟨sl,e1⟩:=I.base.slot b o e n hb hx
   exact⟨sl,(hs.2 b (Nat.ne_of_lt (Nat.lt_of_lt_of_le (Heap.lt_size e) (I.ok.kM x c eW hc)))).trans e1⟩
  ·obtain⟨o',e1⟩:=I.base.there b o e hx
   exact⟨o',(hs.2 b (Nat.ne_of_lt (Nat.lt_of_lt_of_le (Heap.lt_size e) (I.ok.kM x c eW hc)))).trans e1⟩
  ·by_cases hj:j=i
   ·subst hj
    rw[hi]at e1;cases e1
    rw[List.getElem?_set_self BU]at e2
    cases e2
    exact⟨u,r,.inr ⟨.inl hk,c,hc,br⟩⟩
   ·rw[List.getElem?_set_ne (Ne.symm hj)]at e2
    obtain⟨u',r',q⟩:=hl j y v' e1 e2 e3
    refine⟨u',r',?_⟩
    rcases q with q |⟨k,c',e,z'⟩
    ·exact .inl q
    ·refine .inr ⟨k,c',e,z'.sameBut hs ?_⟩
     rintro rfl
     exact hj (Wn hN e1 (I.ok.inj _ _ _ e hc▸hi))
  ·by_cases jn:c'=c
   ·subst jn;exact⟨_,br⟩
   ·obtain⟨w2,z2⟩:=I.cell y c' e
    exact⟨w2,z2.sameBut hs jn⟩
  ·obtain⟨e,n,ne,nf,d⟩:=I.pin p hp
   refine⟨(hs.2 p.1 ?_).trans e,n,ne,nf,d⟩
   intro q
   rw[q,Bz]at e
   have q':oc=p.2:=Option.some.inj e
   exact d w' (by rw[←q'];exact LQ)
theorem Yz {M:Model}{A:Around}{E:Value→Shared→Prop}{i:Nat}{x:Str}{v:V}{u:Value}{Q:Unit→Shared→Prop}(I:Inv X pins σ H s) (hN:X.N.Nodup) (hi:X.N[i]? =some x) (hx:Loc X.env.scope x) (r:RelV v u)
  (h:∀s',Inv X pins (σ.set i (some v)) H s'→Q () s') (hf:X.fn x=true∨X.env.scope.names.lookup x=some .local:=by first |exact .inl rfl |exact .inr rfl |assumption):wpAny M A (storeName X.env x u) Q E s:=
 WZ I hN hi hx r (fun s' I' _=>h s' I') hf
theorem Inv.De {s':Shared}{ch:List Addr}(I:Inv X pins σ H s) (ho:s'.os=s.os) (u:Un (aX X.stack) ch H H' s.heap s'.heap) (ai:bS X.prog X.w H' s'.heap) (hg:AllBare s'.gens)
  (jm:∀b∈ch,(b∈X.ex∨X.cj.heap.objs.size≤b)∧b≠X.env.locals∧(∀x c,X.env.cells.lookup x=some c→c≠b)∧∀p∈X.pn++pins,p.1≠b):Inv X pins σ H' s':=by
 obtain⟨h',g',d',t',o'⟩:=s'
 have e:o'=s.os:=ho
 subst e
 exact I.call (g':=g') (t':=t') (d':=d') u ai hg jm
end
abbrev XK:=Value→Option Addr→Hp→Prop
abbrev St:=List (Option V)
abbrev VK:=V→Hp→Prop
abbrev TE:=St→Hp→VK→Prop
abbrev TT:=St→Hp→(Bool→Hp→Prop)→Prop
abbrev TA:=St→Hp→(List V→Hp→Prop)→Prop
structure Ends where
 nx:St→Hp→Prop
 rt:VK
 bk:St→Hp→Prop:=fun _ _=>False
 ct:St→Hp→Prop:=fun _ _=>False
abbrev TS:=Ends→St→Hp→Prop
def EP (X:Cx) (pins:List (Addr×Obj)) (σ:St) (Q:VK) (u:Value) (s':Shared):Prop:=∃v H',Inv X pins σ H' s'∧RelV v u∧Q v H'
def TP (X:Cx) (pins:List (Addr×Obj)) (σ:St) (Q:Bool→Hp→Prop) (b:Bool) (s':Shared):Prop:=∃H',Inv X pins σ H' s'∧Q b H'
def AP (X:Cx) (pins:List (Addr×Obj)) (σ:St) (Q:List V→Hp→Prop) (us:List Value) (s':Shared):Prop:=∃vs H',Inv X pins σ H' s'∧Vals vs us∧Q vs H'
def SP (X:Cx) (pins:List (Addr×Obj)) (D:Ends) (f:Flow) (s':Shared):Prop:=
 match f with
 | .next=> ∃aj H',Inv X pins aj H' s'∧D.nx aj H'
 | .brk=> ∃aj H',Inv X pins aj H' s'∧D.bk aj H'
 | .cont=> ∃aj H',Inv X pins aj H' s'∧D.ct aj H'
 | .ret u=> ∃v aj H',Inv X pins aj H' s'∧RelV v u∧D.rt v H'
def PE (X:Cx) (e:Expr) (t:TE):Prop:=
 ∀(pins:List (Addr×Obj)) (s:Shared) (σ:St) (H:Hp) (Q:VK),Inv X pins σ H s→t σ H Q→wpAny (model X.prog X.w) X.A (eval e X.env) (EP X pins σ Q) X.xe s
def PT (X:Cx) (e:Expr) (t:TT):Prop:=
 ∀(pins:List (Addr×Obj)) (s:Shared) (σ:St) (H:Hp) (Q:Bool→Hp→Prop),Inv X pins σ H s→t σ H Q→wpAny (model X.prog X.w) X.A (isTrue e X.env (eval e X.env)) (TP X pins σ Q) X.xe s
def PW (X:Cx) (e:Expr) (t:TT):Prop:=
 ∀(whole:Sem Value) (pins:List (Addr×Obj)) (s:Shared) (σ:St) (H:Hp) (Q:Bool→Hp→Prop),Inv X pins σ H s→t σ H Q→wpAny (model X.prog X.w) X.A (isTrue e X.env whole) (TP X pins σ Q) X.xe s
theorem PW.pt {X:Cx}{e:Expr}{t:TT}(h:PW X e t):PT X e t:=h _
def PA (X:Cx) (es:List Expr) (t:TA):Prop:=
 ∀(pos:Pos) (pins:List (Addr×Obj)) (s:Shared) (σ:St) (H:Hp) (Q:List V→Hp→Prop),Inv X pins σ H s→t σ H Q→wpAny (model X.prog X.w) X.A (spliced (backTo pos (starEach es X.env))) (AP X pins σ Q) X.xe s
def PS (X:Cx) (st:Stmt) (t:TS):Prop:=
 ∀(pins:List (Addr×Obj)) (s:Shared) (σ:St) (H:Hp) (D:Ends),Inv X pins σ H s→t D σ H→wpAny (model X.prog X.w) X.A (exec st X.env) (SP X pins D) X.xe s
def eZ (X:Cx) (st:List Stmt) (t:TS):Prop:=
 ∀(pins:List (Addr×Obj)) (s:Shared) (σ:St) (H:Hp) (D:Ends),Inv X pins σ H s→t D σ H→wpAny (model X.prog X.w) X.A (execs st X.env) (SP X pins D) X.xe s
theorem au {α:Type}{t:Sem α}{Q Q':α→Shared→Prop}{M:Model}{A:Around}{E:Value→Shared→Prop}{s:Shared}(h:wpAny M A t Q E s) (hQ:∀a s,Q a s→Q' a s):wpAny M A t Q' E s:=wpAny_mono h hQ fun _ _ x=>x
section
variable {X:Cx}
def jE (i:Nat):TE:=fun σ H Q=> ∃v,σ[i]? =some (some v)∧Q v H
def tC (v:V):TE:=fun _ H Q=>Q v H
theorem YK {i:Nat}{x:Str}{pos:Pos}(hN:X.N[i]? =some x) (hv:qK X.env.scope x) (hd:(x==("__debug__" :Str))=false:=by decide) (cP:(x==("__classdict__" :Str))=false:=by decide):PE X (.Name x pos) (jE i):=by
 intro pins s σ H Q I h
 obtain⟨v,e,h⟩:=h
 obtain⟨m,hn,hl⟩:=I.loc
 obtain⟨u,r,l⟩:=hl i x v hN e hv
 have fin:EP X pins σ Q u s:=⟨v,H,I,r,h⟩
 rcases l with ⟨hk,hm⟩ |⟨hk,c,hc,kH⟩
 ·exact wpAny_Name (wpAny_loadName_local I.ok.kind hk hn hm fin) hd
 ·rcases hk with hk |hk
  ·exact wpAny_Name (wpAny_loadName_cell I.ok.kind hk hc kH fin) hd
  ·exact wpAny_Name (wpAny_loadName_free I.ok.kind hk hc kH fin cP) hd
theorem Zh {i j pos} :PE X (.Constant (.int i) j pos) (tC (.int i)):=fun _ _ _ H _ I h=>wpAny_Constant_int ⟨.int i,H,I.tok _,⟨_,rfl⟩,h⟩
theorem W3 {b j pos} :PE X (.Constant (.bool b) j pos) (tC (.bl b)):=fun _ _ _ H _ I h=>Constant_bool ⟨.bl b,H,I,rfl,h⟩
theorem Yv {j pos} :PE X (.Constant .none j pos) (tC .ae):=fun _ _ _ H _ I h=>Constant_none ⟨.ae,H,I,rfl,h⟩
theorem Yt {x j pos} :PE X (.Constant (.str x) j pos) (tC (.str x)):=fun _ _ _ H _ I h=>Calls.Constant_str ⟨.str x,H,I.tok _,⟨_,rfl⟩,h⟩
def Gl (X:Cx) (x:Str):Prop:=X.env.kindOf x=some .globalImplicit
theorem Js {E:Value→Shared→Prop}{pins:List (Addr×Obj)}{s:Shared}{σ:St}{H:Hp}{x:Str}{u:Value}{pos:Pos}{Q:Value→Shared→Prop}(I:Inv X pins σ H s) (hg:Gl X x) (hm:X.mg x=some u) (h:Q u s)
  (hd:(x==("__debug__" :Str))=false:=by decide):wpAny (model X.prog X.w) X.A (eval (.Name x pos) X.env) Q E s:=
 Calls.Name_function_global I.ok.kind hg (Calls.loadGlobal_global (by rw[I.ok.glob];exact I.mod.glob.keeps I.bk) hm h) hd
theorem Ym {E:Value→Shared→Prop}{pins:List (Addr×Obj)}{s:Shared}{σ:St}{H:Hp}{x:Str}{u:Value}{pos:Pos}{Q:Value→Shared→Prop}(I:Inv X pins σ H s) (hg:Gl X x) (hm:X.mg x=none) (hv:bootBuiltins x=some u) (h:Q u s)
  (hn:x≠ "__name__" :=by decide) (hd:(x==("__debug__" :Str))=false:=by decide):wpAny (model X.prog X.w) X.A (eval (.Name x pos) X.env) Q E s:=by
 obtain⟨mb,h1,h2⟩:=I.mod.blt
 exact Calls.Name_function_global I.ok.kind hg (Calls.loadGlobal_builtin (by rw[I.ok.glob];exact I.mod.glob.keeps I.bk) hm (by rw[I.ok.blt];exact h1.keeps I.bk) ((h2 x hn).trans hv) h) hd
theorem YF {x:Str}{v:V}{u:Value}{pos:Pos}(hg:Gl X x) (hm:X.mg x=some u) (r:RelV v u) (hd:(x==("__debug__" :Str))=false:=by decide):PE X (.Name x pos) (tC v):=
 fun _ _ _ H _ I h=>Js I hg hm ⟨v,H,I,r,h⟩ hd
theorem ZE {x:Str}{v:V}{u:Value}{pos:Pos}(hg:Gl X x) (hm:X.mg x=none) (hv:bootBuiltins x=some u) (r:RelV v u) (hn:x≠ "__name__" :=by decide) (hd:(x==("__debug__" :Str))=false:=by decide):PE X (.Name x pos) (tC v):=
 fun _ _ _ H _ I h=>Ym I hg hm hv ⟨v,H,I,r,h⟩ hn hd
variable {a b:Expr}{ta tb:TE}{pos:Pos}
def PC (X:Cx) (op:CmpOp) (a b:Expr) (t:TE):Prop:=
 ∀(pins:List (Addr×Obj)) (s:Shared) (σ:St) (H:Hp) (Q:VK),Inv X pins σ H s→t σ H Q→
  wpAny (model X.prog X.w) X.A (eval a X.env) (fun v aI=>wpAny (model X.prog X.w) X.A (eval b X.env) (fun u nE=>wpAny (model X.prog X.w) X.A (compareOp op v u) (EP X pins σ Q) X.xe nE) X.xe aI) X.xe s
theorem AU (b:Expr) {op:CmpOp}(h:op≠.In) (h2:op≠.NotIn):behindInMarks op b=false:=by
 have e1:(op==CmpOp.In)=false:=by cases op<;>first |rfl |exact absurd rfl h
 have e2:(op==CmpOp.NotIn)=false:=by cases op<;>first |rfl |exact absurd rfl h2
 cases b<;>simp[behindInMarks,e1,e2]
def Ge (ta:TE):TE:=fun σ H Q=>ta σ H fun x H1=>Q (.bl (decide (x=.ae))) H1
def F6 (ta:TE):TE:=fun σ H Q=>ta σ H fun x H1=>Q (.bl (!decide (x=.ae))) H1
theorem RelV.AR {x:V}{v:Value}(r:RelV x v):(v==Value.none)=decide (x=.ae):=by
 cases x with
 |ae=>cases r;rfl
 |bl _=>cases r;rfl
 |int _=>obtain⟨t,rfl⟩:=r;rfl
 |str _=>obtain⟨t,rfl⟩:=r;rfl
 |hX _=>obtain⟨t,rfl⟩:=r;rfl
 |gB _=>obtain⟨t,rfl⟩:=r;rfl
 |ref _=>cases r;rfl
 |ty _=>cases r;rfl
theorem YG {j pos'} (ha:PE X a ta):PC X .Is a (.Constant .none j pos') (Ge ta):=by
 intro pins s σ H Q I h
 refine au (ha pins s σ H _ I h) fun v s1 ⟨x,H1,I1,r1,q1⟩=> ?_
 exact Constant_none (is_none_gen ⟨.bl _,H1,I1,by rw[r1.AR];rfl,q1⟩)
theorem Uy {j pos'} (ha:PE X a ta):PC X .IsNot a (.Constant .none j pos') (F6 ta):=by
 intro pins s σ H Q I h
 refine au (ha pins s σ H _ I h) fun v s1 ⟨x,H1,I1,r1,q1⟩=> ?_
 exact Constant_none (isnot_none_gen ⟨.bl _,H1,I1,by rw[r1.AR];rfl,q1⟩)
def tB (t:TE):TT:=fun σ H Q=>t σ H fun x H1=> ∃c,x=.bl c∧Q c H1
theorem DI {op:CmpOp}{t:TE}(h:PC X op a b t) (h1:behindInMarks op b=false:=by first |exact AU _ (by decide) (by decide) |rfl):PE X (.Compare a [op] [b] pos) t:=fun pins s σ H Q I hw=>wpAny_Compare1 (h pins s σ H Q I hw) h1
theorem Ys {op:CmpOp}{t:TE}(h:PC X op a b t) (h1:behindInMarks op b=false:=by first |exact AU _ (by decide) (by decide) |rfl):PT X (.Compare a [op] [b] pos) (tB t):=by
 intro pins s σ H Q I hw
 refine wpAny_isTrue_Compare1 (au (h pins s σ H _ I hw) fun v s1 h1=>au h1 fun u s2 h2=>au h2 fun c s3 ⟨x,H1,I1,r1,q1⟩=> ?_) h1
 obtain⟨d,rfl,q⟩:=q1
 cases r1
 exact wpAny_truthy_bool ⟨H1,I1,q⟩
theorem ZM {e:Expr}{t:TE}(h:PE X e t) (he:∀whole,isTrue e X.env whole=(do let v ←whole;standAt e.pos;holding [v] (truthy v)):=by intro _;rfl):PT X e (tB t):=by
 intro pins s σ H Q I hw
 refine isTrue_plain (au (h pins s σ H _ I hw) fun v s1 ⟨x,H1,I1,r1,q1⟩=> ?_) (he _)
 obtain⟨d,rfl,q⟩:=q1
 cases r1
 exact wpAny_truthy_bool ⟨H1,I1,q⟩
variable {tA rk:TT}{rest:List Expr}
def Gr (t u:TT):TT:=fun σ H Q=>t σ H fun c H1=>if c=true then u σ H1 Q else Q false H1
def F4 (t u:TT):TT:=fun σ H Q=>t σ H fun c H1=>if c=true then Q true H1 else u σ H1 Q
def F7 (t:TT):TT:=fun σ H Q=>t σ H fun c H1=>Q (!c) H1
theorem Jj (ha:PT X a tA):PW X (.BoolOp .And [a] pos) tA:=by
 intro wh pins s σ H Q I h
 refine isTrue_and (au (ha pins s σ H Q I h) fun c s1 e=> ?_)
 cases c with
 |true=>exact isTrue_and_nil e
 |false=>exact e
theorem Y8 (ha:PT X a tA):PW X (.BoolOp .Or [a] pos) tA:=by
 intro wh pins s σ H Q I h
 refine isTrue_or (au (ha pins s σ H Q I h) fun c s1 e=> ?_)
 cases c with
 |false=>exact isTrue_or_nil e
 |true=>exact e
theorem Wf (ha:PT X a tA) (hb:PW X (.BoolOp .And (b::rest) pos) rk):PW X (.BoolOp .And (a::b::rest) pos) (Gr tA rk):=by
 intro wh pins s σ H Q I h
 refine isTrue_and (au (ha pins s σ H _ I h) fun c s1 ⟨H1,I1,q1⟩=> ?_)
 cases c with
 |true=>exact hb wh pins s1 σ H1 Q I1 q1
 |false=>exact⟨H1,I1,q1⟩
theorem We (ha:PT X a tA) (hb:PW X (.BoolOp .Or (b::rest) pos) rk):PW X (.BoolOp .Or (a::b::rest) pos) (F4 tA rk):=by
 intro wh pins s σ H Q I h
 refine isTrue_or (au (ha pins s σ H _ I h) fun c s1 ⟨H1,I1,q1⟩=> ?_)
 cases c with
 |true=>exact⟨H1,I1,q1⟩
 |false=>exact hb wh pins s1 σ H1 Q I1 q1
theorem Z2 (ha:PT X a tA):PT X (.UnaryOp .Not a pos) (F7 tA):=by
 intro pins s σ H Q I h
 exact isTrue_not (ha pins s σ H (fun c H1=>Q (!c) H1) I h)
def Gq (ta tb:TE):TE:=fun σ H Q=>ta σ H fun x H1=> ∃c,x=.bl c∧if c=true then tb σ H1 Q else Q (.bl false) H1
def F5 (ta:TE):TE:=fun σ H Q=>ta σ H fun x H1=> ∃c,x=.bl c∧Q (.bl (!c)) H1
theorem Yu {op}{t:TE}(h:PE X a t):PE X (.BoolOp op [a] pos) t:=fun pins s σ H Q I hw=>BoolOp_one (h pins s σ H Q I hw)
theorem Yw (ha:PE X a ta) (hb:PE X (.BoolOp .And (b::rest) pos) tb):PE X (.BoolOp .And (a::b::rest) pos) (Gq ta tb):=by
 intro pins s σ H Q I h
 refine BoolOp_and (au (ha pins s σ H _ I h) fun v s1 ⟨x,H1,I1,r1,q1⟩=> ?_)
 obtain⟨c,rfl,q1⟩:=q1
 cases r1
 refine wpAny_truthy_bool ?_
 cases c with
 |true=>exact hb pins s1 σ H1 Q I1 q1
 |false=>exact⟨.bl false,H1,I1,rfl,q1⟩
theorem O0 (ha:PE X a ta):PE X (.UnaryOp .Not a pos) (F5 ta):=by
 intro pins s σ H Q I h
 refine UnaryOp_ (au (ha pins s σ H _ I h) fun v s1 ⟨x,H1,I1,r1,q1⟩=> ?_)
 obtain⟨c,rfl,q1⟩:=q1
 cases r1
 exact not_of (wpAny_truthy_bool ⟨.bl (!c),H1,I1,rfl,q1⟩)
def zA (t:TT) (ta tb:TE):TE:=fun σ H Q=>t σ H fun c H1=>if c=true then ta σ H1 Q else tb σ H1 Q
theorem U0 {c:Expr}(hc:PT X c tA) (ha:PE X a ta) (hb:PE X b tb):PE X (.IfExp c a b pos) (zA tA ta tb):=by
 intro pins s σ H Q I h
 refine wpAny_IfExp (au (hc pins s σ H _ I h) fun d s1 ⟨H1,I1,q1⟩=> ?_)
 cases d with
 |true=>exact ha pins s1 σ H1 Q I1 q1
 |false=>exact hb pins s1 σ H1 Q I1 q1
end
def ag (K:PySem.W.Frag) (H:Hp) (a:Addr) (xs:List V):Prop:=
 Rd H a (.lst xs)∨
  ∃(o:Obj) (its:Array Value) (n:Nat),K.lookup a=some o∧o.cls=.type "list" ∧o.dict=none∧o.data=.seq its n∧its.size≤sizeLine∧Vals xs its.toList
def ah (K:PySem.W.Frag) (H:Hp) (a:Addr) (xs:List V):Prop:=
 Rd H a (.tup xs)∨
  (∃(o:Obj) (its:Array Value) (n:Nat),K.lookup a=some o∧o.cls=.type "tuple" ∧o.data=.seq its n∧its.size≤sizeLine∧Vals xs its.toList)∨H a=some (.par xs)
def OR:Value→Option V
 | .none=>some .ae
 | .bool b=>some (.bl b)
 | .int i _=>some (.int i)
 | .str x _=>some (.str x)
 | .bytes b _=>some (.hX b)
 | .float b _=>some (.gB b)
 | .ref a=>some (.ref a)
 | .type n=>some (.ty n)
 |_=>none
theorem RelV.abs {x:V}{u:Value}(r:RelV x u):OR u=some x:=by
 cases x with
 |ae=>cases r;rfl
 |bl _=>cases r;rfl
 |int _=>obtain⟨t,rfl⟩:=r;rfl
 |str _=>obtain⟨t,rfl⟩:=r;rfl
 |hX _=>obtain⟨t,rfl⟩:=r;rfl
 |gB _=>obtain⟨t,rfl⟩:=r;rfl
 |ref _=>cases r;rfl
 |ty _=>cases r;rfl
theorem RelV.inj {x y:V}{u:Value}(r:RelV x u) (q:RelV y u):x=y:=Option.some.inj (r.abs.symm.trans q.abs)
theorem Vals.inj:∀{xs ys:List V}{us:List Value},Vals xs us→Vals ys us→xs=ys
 |_,_,_,.nil,.nil=>rfl
 |_,_,_,.cons r t,.cons r' t'=>by rw[r.inj r',Vals.inj t t']
section
variable {X:Cx}{pins:List (Addr×Obj)}{σ:St}{H:Hp}{s:Shared}{a:Addr}{xs ys:List V}
theorem ag.of {K:PySem.W.Frag}(h:H a=some (.lst xs)):ag K H a xs:=.inl (.inl h)
theorem ah.of {K:PySem.W.Frag}(h:H a=some (.tup xs)):ah K H a xs:=.inl (.inl h)
theorem ah.nX {K:PySem.W.Frag}(h:H a=some (.par xs)):ah K H a xs:=.inr (.inr h)
theorem Inv.list (I:Inv X pins σ H s) (h:ag X.K H a xs):∃its:List Value,Vals xs its∧PlainL s.heap a its.toArray∧xs.length≤sizeLine:=by
 rcases h with h |⟨o,its,n,hk,hc,hd,hs,hz,r⟩
 ·obtain⟨z,its,n,r,e⟩:=h.ok I.ai
  exact⟨its,r,⟨_,n,e,rfl,rfl,rfl⟩,z⟩
 ·refine⟨its.toList,r,⟨o,n,I.bF a o hk,hc,hd,by simpa using hs⟩,?_⟩
  have e:=r.length
  simp only[Array.length_toList]at e
  omega
theorem Inv.tuple (I:Inv X pins σ H s) (h:ah X.K H a xs):∃its:List Value,Vals xs its∧IsTup s.heap a its.toArray∧xs.length≤sizeLine:=by
 rcases h with h |⟨o,its,n,hk,hc,hs,hz,r⟩ |h
 ·obtain⟨z,its,r,p,_⟩:=h.ok I.ai
  exact⟨its,r,p,z⟩
 rotate_left
 ·obtain⟨z,its,r,p⟩:=(show bC X.prog X.w H s.heap a (.par xs) from I.ai a _ h)
  exact⟨its,r,p,z⟩
 ·refine⟨its.toList,r,⟨o,I.bF a o hk,hc,n,by simpa using hs⟩,?_⟩
  have e:=r.length
  simp only[Array.length_toList]at e
  omega
theorem Inv.sW (I:Inv X pins σ H s) (h:ag X.K H a xs) (h':ag X.K H a ys):xs=ys:=by
 obtain⟨its,r,⟨o,n,e,_,_,d⟩,_⟩:=I.list h
 obtain⟨its',r',⟨o',n',e',_,_,d'⟩,_⟩:=I.list h'
 rw[e]at e';cases e'
 rw[d]at d'
 injection d' with d1 _
 have:its=its':=by simpa using congrArg Array.toList d1
 subst this
 exact r.inj r'
theorem Inv.rb (I:Inv X pins σ H s) (h:ah X.K H a xs) (h':ah X.K H a ys):xs=ys:=by
 obtain⟨its,r,⟨o,e,_,n,d⟩,_⟩:=I.tuple h
 obtain⟨its',r',⟨o',e',_,n',d'⟩,_⟩:=I.tuple h'
 rw[e]at e';cases e'
 rw[d]at d'
 injection d' with d1 _
 have:its=its':=by simpa using congrArg Array.toList d1
 subst this
 exact r.inj r'
end
abbrev Cx.gG (X:Cx) (E:Value→Shared→Prop):Cx:= {X with xe:=E}
abbrev Cx.fm (X:Cx):Cx:=X.gG fun _ _=>False
theorem Cx.Ok.gG {X:Cx}(ok:X.Ok) (E:Value→Shared→Prop):(X.gG E).Ok:=
 ⟨ok.mod,ok.kind,ok.glob,ok.blt,ok.above,ok.inj,ok.has,ok.kM,ok.hd,ok.frames,ok.nF,ok.oI,ok.bs,ok.js,ok.lG,ok.mJ,ok.dZ,ok.g9⟩
theorem Cx.Ok.jD {X:Cx}{E:Value→Shared→Prop}(ok:(X.gG E).Ok):X.Ok:=
 ⟨ok.mod,ok.kind,ok.glob,ok.blt,ok.above,ok.inj,ok.has,ok.kM,ok.hd,ok.frames,ok.nF,ok.oI,ok.bs,ok.js,ok.lG,ok.mJ,ok.dZ,ok.g9⟩
section
variable {X:Cx}{pins:List (Addr×Obj)}{σ:St}{H:Hp}{s:Shared}{E:Value→Shared→Prop}
theorem Inv.gG (I:Inv X pins σ H s) (E:Value→Shared→Prop):Inv (X.gG E) pins σ H s:=⟨I.ok.gG E,I.os,I.bare,I.base,I.loc,I.cell,I.free,I.fX,I.pin,I.ai,I.len⟩
theorem Inv.jD (I:Inv (X.gG E) pins σ H s):Inv X pins σ H s:=⟨I.ok.jD,I.os,I.bare,I.base,I.loc,I.cell,I.free,I.fX,I.pin,I.ai,I.len⟩
theorem SP.jD {D:Ends}{f:Flow}{s':Shared}(h:SP (X.gG E) pins D f s'):SP X pins D f s':=by
 cases f with
 |next=>obtain⟨aj,H',I,q⟩:=h;exact⟨aj,H',I.jD,q⟩
 |brk=>obtain⟨aj,H',I,q⟩:=h;exact⟨aj,H',I.jD,q⟩
 |cont=>obtain⟨aj,H',I,q⟩:=h;exact⟨aj,H',I.jD,q⟩
 |ret u=>obtain⟨v,aj,H',I,r,q⟩:=h;exact⟨v,aj,H',I.jD,r,q⟩
theorem eZ.fm {st:List Stmt}{t:TS}(h:eZ X.fm st t):eZ X st t:=fun pins s σ H D I hw=>
 wpAny_mono (h pins s σ H D (I.gG _) hw) (fun _ _ q=>q.jD) fun _ _ z=>False.elim z
end
section
variable {X:Cx}{st:Stmt}{rest:List Stmt}{t u:TS}{e:Expr}{te:TE}{pos:Pos}
def zx:TS:=fun D σ H=>D.nx σ H
def ir (t u:TS):TS:=fun D σ H=>t {D with nx:=u D} σ H
theorem Zz:eZ X [] zx:=fun _ _ σ H _ I h=>wpAny_execs_nil ⟨σ,H,I,h⟩
theorem Ze (h1:PS X st t) (h2:eZ X rest u):eZ X (st::rest) (ir t u):=by
 intro pins s σ H D I h
 refine wpAny_execs_cons (au (h1 pins s σ H {D with nx:=u D} I h) fun f s1 q=> ?_)
 cases f with
 |next=>
  obtain⟨aj,H',I',q⟩:=q
  exact h2 pins s1 aj H' D I' q
 |ret v=>exact q
 |brk=>exact q
 |cont=>exact q
theorem Zj (h1:PS X st t):eZ X [st] t:=by
 intro pins s σ H D I h
 refine wpAny_execs_cons (au (h1 pins s σ H D I h) fun f s1 q=> ?_)
 cases f with
 |next=>exact wpAny_execs_nil q
 |ret v=>exact q
 |brk=>exact q
 |cont=>exact q
theorem Inv.quiet {pins:List (Addr×Obj)}{σ:St}{H:Hp}{s:Shared}(I:Inv X pins σ H s):interactive X.env=false:=by simp[interactive,I.ok.kind]
def Gj (te:TE):TS:=fun D σ H=>te σ H fun _ H1=>D.nx σ H1
theorem ZX (he:PE X e te) (hs:swapsWith e none pos.line X.env=pure false:=by rfl):PS X (.Expr e pos) (Gj te):=by
 intro pins s σ H D I h
 exact wpAny_Expr_any (au (he pins s σ H _ I h) fun v s1 ⟨x,H1,I1,r1,q1⟩=> ⟨σ,H1,I1,q1⟩) I.quiet hs
def zw (te:TE):TS:=fun D σ H=>te σ H D.rt
theorem Zw (he:PE X e te):PS X (.Return (some e) pos) (zw te):=by
 intro pins s σ H D I h
 exact wpAny_Return_some (au (he pins s σ H _ I h) fun v s1 ⟨x,H1,I1,r1,q1⟩=> ⟨x,σ,H1,I1,r1,q1⟩)
def Gf (c:TT) (t u:TS):TS:=fun D σ H=>c σ H fun b H1=>if b=true then t D σ H1 else u D σ H1
theorem ZO {c:Expr}{a b:List Stmt}{tc:TT}(hc:PT X c tc) (ha:eZ X a t) (hb:eZ X b u):PS X (.If c a b pos) (Gf tc t u):=by
 intro pins s σ H D I h
 refine wpAny_If (au (hc pins s σ H _ I h) fun d s1 ⟨H1,I1,q1⟩=> ?_)
 cases d with
 |true=>exact ha pins s1 σ H1 D I1 q1
 |false=>exact hb pins s1 σ H1 D I1 q1
def F8:TS:=fun _ _ _=>False
theorem Zt {Gw:List Stmt} :eZ X Gw F8:=fun _ _ _ _ _ _ h=>h.elim
end
abbrev TG:=V→St→Hp→(St→Hp→Prop)→Prop
abbrev mP:=List V→St→Hp→(St→Hp→Prop)→Prop
def PG (X:Cx) (target:Expr) (t:TG):Prop:=
 ∀(pins:List (Addr×Obj)) (s:Shared) (σ:St) (H:Hp) (v:V) (u:Value) (Q:St→Hp→Prop),Inv X pins σ H s→RelV v u→t v σ H Q→
  wpAny (model X.prog X.w) X.A (assign target X.env u) (fun _ s'=> ∃aj H',Inv X pins aj H' s'∧Q aj H') X.xe s
def uE (X:Cx) (ts:List Expr) (t:mP):Prop:=
 ∀(pins:List (Addr×Obj)) (s:Shared) (σ:St) (H:Hp) (vs:List V) (us:List Value) (Q:St→Hp→Prop),Inv X pins σ H s→Vals vs us→t vs σ H Q→
  wpAny (model X.prog X.w) X.A (assignInOrder ((assignEach ts X.env).map (·.2)) us) (fun _ s'=> ∃aj H',Inv X pins aj H' s'∧Q aj H') X.xe s
abbrev yQ:=V→V→V→Hp→(Hp→Prop)→Prop
def ET (X:Cx) (t:yQ):Prop:=
 ∀(pins:List (Addr×Obj)) (s:Shared) (σ:St) (H:Hp) (o i v:V) (ov iv u:Value) (Q:Hp→Prop),Inv X pins σ H s→RelV o ov→RelV i iv→RelV v u→t o i v H Q→
  wpAny (model X.prog X.w) X.A (setItem ov iv u) (fun _ s'=> ∃H',Inv X pins σ H' s'∧Q H') X.xe s
section
variable {X:Cx}{pos:Pos}
def bG (i:Nat):TG:=fun v σ H Q=>Q (σ.set i (some v)) H
theorem ZL {i:Nat}{x:Str}(hN:X.N.Nodup) (hi:X.N[i]? =some x) (hx:Loc X.env.scope x) (hf:X.fn x=true∨X.env.scope.names.lookup x=some .local:=by first |exact .inl rfl |exact .inr rfl |assumption):PG X (.Name x pos) (bG i):=by
 intro pins s σ H v u Q I r h
 exact wpAny_assign_Name (Yz I hN hi hx r (fun s' I'=> ⟨_,H,I',h⟩) hf)
def g8:mP:=fun vs σ H Q=>vs=[]∧Q σ H
def bT (t:TG) (u:mP):mP:=fun vs σ H Q=> ∃v r,vs=v::r∧t v σ H fun aj H'=>u r aj H' Q
theorem ZQ:uE X [] g8:=by
 intro pins s σ H vs us Q I r h
 obtain⟨e,h⟩:=h
 subst e
 cases r
 exact assignInOrder_nil ⟨σ,H,I,h⟩
theorem Zo {e:Expr}{es:List Expr}{t:TG}{u:mP}(h1:PG X e t) (h2:uE X es u)
  (hs:(assignEach (e::es) X.env).map (·.2)=assign e X.env::(assignEach es X.env).map (·.2):=by rfl):uE X (e::es) (bT t u):=by
 intro pins s σ H vs us Q I r h
 obtain⟨v,vr,e1,h⟩:=h
 subst e1
 cases r with
 |cons r rr=>
  rw[hs]
  refine assignInOrder_cons (au (h1 pins s σ H _ _ _ I r h) fun _ s1 ⟨nk,H1,I1,q1⟩=> ?_)
  exact h2 pins s1 nk H1 _ _ Q I1 rr q1
def gZ (K:PySem.W.Frag) (n:Nat) (t:mP):TG:=fun v σ H Q=> ∃a xs,v=.ref a∧ah K H a xs∧xs.length=n∧t xs σ H Q
theorem ZZ {es:List Expr}{k:Nat}{t:mP}{n:Nat}(hc:X.calm=true) (h:uE X es t)
  (hn:(assignEach es X.env).length=n:=by rfl) (jP:(assignEach es X.env).findIdx? (·.1)=none:=by rfl):PG X (.Tuple es k pos) (gZ X.K n t):=by
 intro pins s σ H v u Q I r hw
 obtain⟨a,xs,e1,hq,hl,hw⟩:=hw
 subst e1
 cases r
 obtain⟨its,rv,ht,hz⟩:=I.tuple hq
 refine assign_Tuple_tuple (I.ok.hd hc) ht (by simp[hn,←hl,rv.length]) jP fun h' hx=> ?_
 have I1:Inv X pins σ H {s with heap:=h'} :=I.kept (t':=s.toks) fun b o e=>hx b o (Nat.ne_of_lt (Heap.lt_size e)) e
 exact h pins _ σ H xs _ Q I1 (by simpa using rv) hw
def Np (to ti:TE) (t:yQ):TG:=fun v σ H Q=>to σ H fun o H1=>ti σ H1 fun i H2=>t o i v H2 fun H3=>Q σ H3
theorem DJ {o i:Expr}{to ti:TE}{t:yQ}(ho:PE X o to) (hi:PE X i ti) (hs:ET X t)
    (ha:∀v,assign (.Subscript o i pos) X.env v=(do
      let ov ←holding [v] (eval o X.env)
      let iv ←holding [v,ov] (eval i X.env)
      standAt pos
      holding [v,ov,iv] (setItem ov iv v)
      release [v,ov,iv] []):=by intro _;rfl):PG X (.Subscript o i pos) (Np to ti t):=by
  intro pins s σ H v u Q I r h
  rw[ha]
  refine wpAny_bind (wpAny_holding (au (ho pins s σ H _ I h) fun ov s1 ⟨x,H1,I1,r1,q1⟩=> ?_))
  refine wpAny_bind (wpAny_holding (au (hi pins s1 σ H1 _ I1 q1) fun iv s2 ⟨y,H2,I2,r2,q2⟩=> ?_))
  refine wpAny_bind (wpAny_standAt (wpAny_bind (wpAny_holding (au (hs pins s2 σ H2 x y v ov iv u _ I2 r1 r2 r q2) fun _ s3 ⟨H3,I3,q3⟩=> ?_))))
  exact wpAny_release ⟨σ,H3,I3,q3⟩
def rm (te:TE) (g:TG):TS:=fun D σ H=>te σ H fun x H1=>g x σ H1 D.nx
theorem JF {tg e:Expr}{te:TE}{g:TG}(he:PE X e te) (hg:PG X tg g) (hs:swapsWithSole [tg] e pos.line X.env=pure false:=by rfl) (hw:swappedStores [tg] e X.env=pure none:=by rfl)
  (h1:(assignEach [tg] X.env).map (·.2)=[assign tg X.env]:=by rfl):PS X (.Assign [tg] e pos) (rm te g):=by
 intro pins s σ H D I h
 refine wpAny_Assign_stores (au (he pins s σ H _ I h) fun v s1 ⟨x,H1,I1,r1,q1⟩=> ?_) hs hw
 rw[h1]
 exact au (hg pins s1 σ H1 x v _ I1 r1 q1) fun _ s2 q=>q
theorem Zu {i:Nat}{x:Str}{e:Expr}{te:TE}{pos':Pos}(hN:X.N.Nodup) (hi:X.N[i]? =some x) (hx:Loc X.env.scope x) (he:PE X e te) (hs:swapsWith e (some (.Name x pos')) pos.line X.env=pure false:=by rfl) (hf:X.fn x=true∨X.env.scope.names.lookup x=some .local:=by first |exact .inl rfl |exact .inr rfl |assumption):
  PS X (.Assign [.Name x pos'] e pos) (rm te (bG i)):=by
 intro pins s σ H D I h
 refine wpAny_Assign_Name (au (he pins s σ H _ I h) fun v s1 ⟨y,H1,I1,r1,q1⟩=> ?_) hs
 exact Yz I1 hN hi hx r1 (fun s2 I2=> ⟨_,H1,I2,q1⟩) hf
def F3 (i j:Nat) (ta:TA):TS:=fun D σ H=>ta σ H fun vs H1=> ∃v w,vs=[v,w]∧D.nx ((σ.set i (some v)).set j (some w)) H1
theorem Dx {i j:Nat}{x y:Str}{a b:Expr}{ta:TA}{px py pt:Pos}{kt k2 wg} (hc:X.calm=true) (hN:X.N.Nodup) (hi:X.N[i]? =some x) (hj:X.N[j]? =some y) (cb:i≠j)
  (hx:X.env.scope.names.lookup x=some .local) (hy:X.env.scope.names.lookup y=some .local) (ha:PA X [a,b] ta)
  (hw:swappedStores [.Tuple [.Name x px,.Name y py] kt pt] (.Tuple [a,b] k2 wg) X.env=pure (some [x,y]))
  (hs:swapsWithSole [.Tuple [.Name x px,.Name y py] kt pt] (.Tuple [a,b] k2 wg) pos.line X.env=pure false:=by rfl):
  PS X (.Assign [.Tuple [.Name x px,.Name y py] kt pt] (.Tuple [a,b] k2 wg) pos) (F3 i j ta):=by
 intro pins s σ H D I h
 rw[exec_Assign_arm]
 refine wpAny_bind (wpAny_standAt ?_)
 rw[hs]
 refine wpAny_bind (wpAny_pure ?_)
 rw[if_neg (by decide)]
 refine wpAny_bind (Tuple_ (au (ha _ pins s σ H _ I h) fun us s1 ⟨vs,H1,I1,r1,q1⟩=> ?_))
 obtain⟨v,w,e1,q1⟩:=q1
 subst e1
 obtain⟨u1,u2,rfl,rv,jH⟩:∃u1 u2,us=[u1,u2]∧RelV v u1∧RelV w u2:=by
  cases r1 with
  |cons p q=>
   cases q with
   |cons p' q'=>
    cases q'
    exact⟨_,_,rfl,p,p'⟩
 refine wpAny_newObj_type ?_ (by show 2≤sizeLine;decide)
 have I2:Inv X pins σ H1 {s1 with heap:=s1.heap.push {cls:=.type "tuple",data:=.seq [u1,u2].toArray} } :=I1.kept (t':=s1.toks) fun b o e=>Heap.get?_push_of_some _ e
 rw[hw]
 refine wpAny_bind (wpAny_pure ?_)
 show wpAny (model X.prog X.w) X.A (do rule "assign.swapped-stores";let items ←unpackItems (.ref s1.heap.objs.size) 2 none;assignInOrder [fun v=>bindName X.env y v,fun v=>bindName X.env x v] items.reverse;pure Flow.next) _ _ _
 refine wpAny_bind (wpAny_rule (wpAny_bind (unpackItems_tuple (items:= #[u1,u2]) (I.ok.hd hc) (IsTup.new s1.heap _) fun h' l6=> ?_)))
 have I3:=I2.kept (h':=h') (t':=s1.toks) fun b o e=>l6 b o (Nat.ne_of_lt (Heap.lt_size e)) e
 show wpAny _ _ (assignInOrder [fun v=>bindName X.env y v,fun v=>bindName X.env x v] [u2,u1] >>=fun _=>pure Flow.next) _ _ _
 refine wpAny_bind (assignInOrder_cons (wpAny_bindName (Yz I3 hN hj (.inl hy) jH (fun s2 I4=> ?_) (.inr hy))))
 refine assignInOrder_cons (wpAny_bindName (Yz I4 hN hi (.inl hx) rv (fun s3 I5=>assignInOrder_nil (wpAny_pure ?_)) (.inr hx)))
 rw[List.set_comm _ _ (Ne.symm cb)]at I5
 exact⟨_,H1,I5,q1⟩
def FX (c:TT) (tb:TS):TS:=fun D σ H=> ∃W:Nat→St→Hp→Prop,(∃m,W m σ H)∧∀m σ H,W m σ H→
 c σ H fun b H1=>if b=true then ∃N:St→Hp→Prop,(∀aj H',N aj H'→∃m',m'<m∧W m' aj H')∧tb {D with nx:=N,ct:=N,bk:=D.nx} σ H1 else D.nx σ H1
theorem QN {c:Expr}{body:List Stmt}{tc:TT}{tb:TS}(hp:PassesOwn (model X.prog X.w) X.A X.env X.xe) (hc:PT X c tc) (hb:eZ X body tb):PS X (.While c body [] pos) (FX tc tb):=by
 intro pins s σ H D I h
 obtain⟨W,⟨m0,w0⟩,turn⟩:=h
 refine wpAny_While (codeAny_whileLoop (fun n s'=> ∃aj H',Inv X pins aj H' s'∧W n aj H') ?_ m0 ⟨σ,H,I,w0⟩)
 rintro n s1 ⟨nk,H1,I1,w1⟩
 refine wpAny_passesOwn hp (au (hc pins s1 nk H1 _ I1 (turn n nk H1 w1)) fun b s2 ⟨H2,I2,q2⟩=> ?_)
 cases b with
 |true=>
  obtain⟨N,hN,q2⟩:=q2
  rw[if_pos rfl]
  refine wpAny_passesOwn hp (au (hb pins s2 nk H2 _ I2 q2) fun f s3 q3=> ?_)
  cases f with
  |next=>
   obtain⟨eI,H3,I3,n3⟩:=q3
   obtain⟨m',hm,w3⟩:=hN eI H3 n3
   exact⟨m',hm,eI,H3,I3,w3⟩
  |cont=>
   obtain⟨eI,H3,I3,n3⟩:=q3
   obtain⟨m',hm,w3⟩:=hN eI H3 n3
   exact⟨m',hm,eI,H3,I3,w3⟩
  |brk=>exact q3
  |ret v=>exact q3
 |false=>
  rw[if_neg Bool.false_ne_true]
  exact wpAny_execs_nil ⟨nk,H2,I2,q2⟩
end
structure It where
 go:Nat→Hp→Prop
 nz:Nat→Hp→V→Hp→Prop
 stop:Nat→Hp→Prop
def cI (X:Cx) (pins:List (Addr×Obj)) (H:Hp) (b:Addr):Prop:=
 H b=none∧b≠X.env.locals∧b∉X.fs∧(b∈X.ex∨X.cj.heap.objs.size≤b)∧(∀x c,X.env.cells.lookup x=some c→c≠b)∧∀p∈X.pn++pins,p.1≠b
theorem Inv.kI {X:Cx}{pins:List (Addr×Obj)}{σ:St}{H H':Hp}{s:Shared}{b:Addr}(I:Inv X pins σ H s) (hb:s.heap.objs.size≤b) (hn:H' b=none):cI X pins H' b:=by
 refine⟨hn,Nat.ne_of_gt (Nat.lt_of_lt_of_le I.lt hb),I.IA hb,.inr (Nat.le_trans I.sz hb),fun x c e z=> ?_,fun p hp z=> ?_⟩
 ·obtain⟨v,q⟩:=I.cell x c e
  exact absurd (Nat.lt_of_lt_of_le q.lt (by rw[z];exact hb)) (Nat.lt_irrefl _)
 ·exact absurd (Nat.lt_of_lt_of_le (Heap.lt_size (I.pin p hp).1) (by rw[z];exact hb)) (Nat.lt_irrefl _)
structure Turn (P:Program) (w:World) (K:PySem.W.Frag) (tg:Expr) (J:It) (fp:List Addr) (it:Addr) (tn:Nat→Heap→Prop):Prop where
 mem:it∈fp
 obj:∀i h,tn i h→∀b∈fp,∃o,h.get? b=some o∧∀v,o.data≠.cell v
 keep:∀i h h',tn i h→(∀b∈fp,∀o,h.get? b=some o→h'.get? b=some o)→tn i h'
 item:∀(X:Cx),X.prog=P→X.w=w→X.K=K→X.calm=true→∀(i:Nat) (pins:List (Addr×Obj)) (s:Shared) (σ:St) (H:Hp) (E:Value→Shared→Prop),Inv X pins σ H s→(∀b∈fp,cI X pins H b)→tn i s.heap→J.go i H→
  wpAny (model P w) X.A (pyNext (.ref it)) (fun r s1=> ∃u,r=some u∧
   wpAny (model P w) X.A (letOwnedTupleGo tg (.ref it) u) (fun _ s2=> ∃x H',Inv X pins σ H' s2∧RelV x u∧J.nz i H x H'∧tn (i+1) s2.heap∧∀b∈fp,H' b=none) E s1) E s
 done:∀(X:Cx),X.prog=P→X.w=w→X.K=K→X.calm=true→∀(i:Nat) (pins:List (Addr×Obj)) (s:Shared) (σ:St) (H:Hp) (E:Value→Shared→Prop),Inv X pins σ H s→(∀b∈fp,cI X pins H b)→tn i s.heap→J.stop i H→
  wpAny (model P w) X.A (pyNext (.ref it)) (fun r s1=>r=none∧Inv X pins σ H s1) E s
 self:∀(A:Around) (i:Nat) (s:Shared) (Q:Value→Shared→Prop) (E:Value→Shared→Prop),tn i s.heap→Q (.ref it) s→wpAny (model P w) A (pyIter (.ref it)) Q E s
abbrev TI:=St→Hp→(It→Hp→Prop)→Prop
def EU (X:Cx) (pins:List (Addr×Obj)) (σ:St) (tg:Expr) (R:It→Hp→Prop) (lQ:Value) (s2:Shared):Prop:=
 ∃(it:Addr) (fp:List Addr) (tn:Nat→Heap→Prop) (J:It) (H':Hp),lQ=.ref it∧Inv X pins σ H' s2∧Turn X.prog X.w X.K tg J fp it tn∧tn 0 s2.heap∧(∀b∈fp,cI X pins H' b)∧R J H'
def PI (X:Cx) (tg iter:Expr) (wi:TI):Prop:=
 ∀(pins:List (Addr×Obj)) (s:Shared) (σ:St) (H:Hp) (R:It→Hp→Prop),Inv X pins σ H s→wi σ H R→
  wpAny (model X.prog X.w) X.A (eval iter X.env) (fun v s1=>wpAny (model X.prog X.w) X.A (pyIter v) (EU X pins σ tg R) X.xe s1) X.xe s
theorem yH {M:Model}{A:Around}{E:Value→Shared→Prop}{s:Shared}{tg:Expr}{it:Addr}{u:Value}{o:Obj}{n:String}{vs:Array Value}{Q:Unit→Shared→Prop}(ho:s.heap.get? it=some o) (hc:o.cls=.type n) (hd:o.data=.fields vs)
    (hn:["enumerate", "zip", "dict_itemiterator", "dict_reverseitemiterator", "odict_iterator", "itertools.zip_longest", "itertools.pairwise"].contains n=false) (hQ:Q () s):wpAny M A (letOwnedTupleGo tg (.ref it) u) Q E s:=by
  unfold letOwnedTupleGo
  cases tg<;>first
    |exact wpAny_pure hQ
    |(cases u<;>first
        |exact wpAny_pure hQ
        |(refine wpAny_bind (wpAny_load ho ?_)
          rw[hc,hd]
          show wpAny M A (if (["enumerate", "zip", "dict_itemiterator", "dict_reverseitemiterator", "odict_iterator", "itertools.zip_longest", "itertools.pairwise"].contains n&&vs[0]? ==some (rawInt _))=true then _ else _) Q E s
          rw[if_neg (by intro h;rw[hn,Bool.false_and]at h;cases h)]
          exact wpAny_pure hQ))
def oO (K:PySem.W.Frag) (a:Addr):It:=
 ⟨fun i H=> ∃xs x,ag K H a xs∧xs[i]? =some x,fun i H x H'=>H'=H∧∀xs,ag K H a xs→xs[i]? =some x,fun i H=> ∃xs,ag K H a xs∧xs.length≤i⟩
def yX (K:PySem.W.Frag) (a:Addr):It:=
 ⟨fun i H=> ∃xs x,ah K H a xs∧xs[i]? =some x,fun i H x H'=>H'=H∧∀xs,ah K H a xs→xs[i]? =some x,fun i H=> ∃xs,ah K H a xs∧xs.length≤i⟩
def nh (lo:Int) (n:Nat):It:=⟨fun i _=>i<n,fun i H x H'=>H'=H∧x=.int (lo+i),fun i _=>n≤i⟩
theorem Sd {P:Program}{w:World}{K:PySem.W.Frag}{tg:Expr}(a it:Addr):Turn P w K tg (oO K a) [it] it (fun i h=>h.IsListIter it a i) where
 mem:=by simp
 obj:=fun i h st b hb=>by
  have e:b=it:=by simpa using hb
  subst e
  obtain⟨o,e,c,d⟩:=st
  exact⟨o,e,fun v z=>by rw[d]at z;cases z⟩
 keep:=fun i h h' st k=>st.at fun o e=>k it (by simp) o e
 item:=by
  intro X hP hw hK hc i pins s σ H E I hf st hg
  subst hP hw hK
  obtain⟨xs,x,hq,hx⟩:=hg
  obtain⟨its,rv,p,hz⟩:=I.list hq
  obtain⟨u,hu,ru⟩:=rv.get hx
  obtain⟨f0,f1,f2,f3,f4,f5⟩:=hf it (by simp)
  refine wpAny_pyNext_list_item st p.isList (x:=u) (by simpa using hu) fun h' aa sb=> ?_
  have I1:Inv X pins σ H {s with heap:=h'} :=I.turned (t':=s.toks) (fun b o hb e=> (sb.2 b hb).trans e) f0 f1 f3 f4 f5
  obtain⟨o,e,c,d⟩:=id aa
  exact⟨u,rfl,yH (s:= {s with heap:=h'}) e c d (by decide) ⟨x,H,I1,ru,⟨rfl,fun ys hy=>by rw[I.sW hy hq];exact hx⟩,aa,fun b hb=> (hf b hb).1⟩⟩
 done:=by
  intro X hP hw hK hc i pins s σ H E I hf st hg
  subst hP hw hK
  obtain⟨xs,hq,hx⟩:=hg
  obtain⟨its,rv,p,hz⟩:=I.list hq
  obtain⟨f0,f1,f2,f3,f4,f5⟩:=hf it (by simp)
  have hl:=rv.length
  exact wpAny_pyNext_list_end (I.ok.hd hc) st p.isList (by simp;omega) fun h' eb=> ⟨rfl,I.turned (t':=s.toks) (fun b o hb e=>eb b o hb e) f0 f1 f3 f4 f5⟩
 self:=fun _ _ _ _ _ st h=>wpAny_pyIter_listiter st h
theorem Sr {P:Program}{w:World}{K:PySem.W.Frag}{tg:Expr}(a it:Addr):Turn P w K tg (yX K a) [it] it (fun i h=>h.IsTupleIter it a i) where
 mem:=by simp
 obj:=fun i h st b hb=>by
  have e:b=it:=by simpa using hb
  subst e
  obtain⟨o,e,c,d⟩:=st
  exact⟨o,e,fun v z=>by rw[d]at z;cases z⟩
 keep:=fun i h h' st k=>st.at fun o e=>k it (by simp) o e
 item:=by
  intro X hP hw hK hc i pins s σ H E I hf st hg
  subst hP hw hK
  obtain⟨xs,x,hq,hx⟩:=hg
  obtain⟨its,rv,p,hz⟩:=I.tuple hq
  obtain⟨u,hu,ru⟩:=rv.get hx
  obtain⟨f0,f1,f2,f3,f4,f5⟩:=hf it (by simp)
  refine wpAny_pyNext_tuple_item st (show s.heap.IsTuple a its.toArray from p) (x:=u) (by simpa using hu) fun h' aa sb=> ?_
  have I1:Inv X pins σ H {s with heap:=h'} :=I.turned (t':=s.toks) (fun b o hb e=> (sb.2 b hb).trans e) f0 f1 f3 f4 f5
  obtain⟨o,e,c,d⟩:=id aa
  exact⟨u,rfl,yH (s:= {s with heap:=h'}) e c d (by decide) ⟨x,H,I1,ru,⟨rfl,fun ys hy=>by rw[I.rb hy hq];exact hx⟩,aa,fun b hb=> (hf b hb).1⟩⟩
 done:=by
  intro X hP hw hK hc i pins s σ H E I hf st hg
  subst hP hw hK
  obtain⟨xs,hq,hx⟩:=hg
  obtain⟨its,rv,p,hz⟩:=I.tuple hq
  obtain⟨f0,f1,f2,f3,f4,f5⟩:=hf it (by simp)
  have hl:=rv.length
  exact wpAny_pyNext_tuple_end (I.ok.hd hc) st (show s.heap.IsTuple a its.toArray from p) (by simp;omega) fun h' eb=> ⟨rfl,I.turned (t':=s.toks) (fun b o hb e=>eb b o hb e) f0 f1 f3 f4 f5⟩
 self:=fun _ _ _ _ _ st h=>wpAny_pyIter_tupleiter st h
theorem Sq {P:Program}{w:World}{K:PySem.W.Frag}{tg:Expr}(it:Addr) (lo:Int) (n:Nat):Turn P w K tg (nh lo n) [it] it (fun i h=>IsRangeIter h it (lo+(i:Nat)*1) ((n:Int) - (i:Nat)) 1) where
 mem:=by simp
 obj:=fun i h st b hb=>by
  have e:b=it:=by simpa using hb
  subst e
  exact⟨_,st,fun v z=>by
   have z':Data.fields _=Data.cell v:=z
   cases z'⟩
 keep:=fun i h h' st k=>k it (by simp) _ st
 item:=by
  intro X hP hw hK hc i pins s σ H E I hf st hg
  subst hP hw hK
  obtain⟨f0,f1,f2,f3,f4,f5⟩:=hf it (by simp)
  have W:=Walks.range (prog:=X.prog) (w:=X.w) (I.ok.hd hc) it lo 1 n
  refine W.item i s _ _ hg st fun v h' tk hv aa kk=> ?_
  obtain⟨t,rfl⟩:=hv
  have I1:Inv X pins σ H {s with heap:=h',toks:=tk} :=I.turned (fun b o hb e=>kk b o (by simpa using hb) e) f0 f1 f3 f4 f5
  refine⟨_,rfl,yH (s:= {s with heap:=h',toks:=tk}) (n:= "range_iterator") aa rfl rfl (by decide) ⟨.int (lo+i),H,I1,⟨t,?_⟩,⟨rfl,rfl⟩,aa,fun b hb=> (hf b hb).1⟩⟩
  rw[Int.mul_one]
 done:=by
  intro X hP hw hK hc i pins s σ H E I hf st hg
  subst hP hw hK
  obtain⟨f0,f1,f2,f3,f4,f5⟩:=hf it (by simp)
  exact wpAny_pyNext_range_end (I.ok.hd hc) st (by have:n≤i:=hg;omega) fun h' eb=> ⟨rfl,I.turned (t':=s.toks) (fun b o hb e=>eb b o hb e) f0 f1 f3 f4 f5⟩
 self:=fun _ _ _ _ _ st h=>wpAny_pyIter_rangeiter st h
section
variable {X:Cx}{tg:Expr}
def wG (K:PySem.W.Frag) (tl:TE):TI:=fun σ H R=>tl σ H fun x H1=> ∃a,x=.ref a∧(∃xs,ag K H1 a xs)∧R (oO K a) H1
def KZ (K:PySem.W.Frag) (tl:TE):TI:=fun σ H R=>tl σ H fun x H1=> ∃a,x=.ref a∧(∃xs,ah K H1 a xs)∧R (yX K a) H1
theorem Yb {l:Expr}{tl:TE}(hl:PE X l tl):PI X tg l (wG X.K tl):=by
 intro pins s σ H R I h
 refine au (hl pins s σ H _ I h) fun v s1 ⟨x,H1,I1,r1,q1⟩=> ?_
 obtain⟨a,e,⟨xs,hq⟩,q⟩:=q1
 subst e
 cases r1
 obtain⟨its,rv,p,hz⟩:=I1.list hq
 refine wpAny_pyIter_list p.isList ?_
 refine⟨s1.heap.objs.size,[s1.heap.objs.size],_,_,H1,rfl,I1.kept (t':=s1.toks) fun b o e=>Heap.get?_push_of_some _ e,Sd a _,⟨_,Heap.get?_push_size _ rfl,rfl,rfl⟩,fun b hb=> ?_,q⟩
 have e:b=s1.heap.objs.size:=by simpa using hb
 subst e
 exact I1.kI (Nat.le_refl _) (I1.ai.fresh (Nat.le_refl _))
theorem DK {l:Expr}{tl:TE}(hl:PE X l tl):PI X tg l (KZ X.K tl):=by
 intro pins s σ H R I h
 refine au (hl pins s σ H _ I h) fun v s1 ⟨x,H1,I1,r1,q1⟩=> ?_
 obtain⟨a,e,⟨xs,hq⟩,q⟩:=q1
 subst e
 cases r1
 obtain⟨its,rv,p,hz⟩:=I1.tuple hq
 refine wpAny_pyIter_tuple (show s1.heap.IsTuple a its.toArray from p) ?_
 refine⟨s1.heap.objs.size,[s1.heap.objs.size],_,_,H1,rfl,I1.kept (t':=s1.toks) fun b o e=>Heap.get?_push_of_some _ e,Sr a _,⟨_,Heap.get?_push_size _ rfl,rfl,rfl⟩,fun b hb=> ?_,q⟩
 have e:b=s1.heap.objs.size:=by simpa using hb
 subst e
 exact I1.kI (Nat.le_refl _) (I1.ai.fresh (Nat.le_refl _))
theorem QP {pins:List (Addr×Obj)}{σ:St}{H:Hp}{s:Shared}{R:It→Hp→Prop}{E:Value→Shared→Prop}{lo hi:Int}{t u v:Tok}{tk:Nat}(I:Inv X pins σ H s) (h1: -(2^62)≤lo) (h2:lo<2^62) (h3: -(2^62)≤hi) (h4:hi<2^62)
  (q:R (nh lo (hi - lo).toNat) H):wpAny (model X.prog X.w) X.A (pyIter (.ref s.heap.objs.size)) (EU X pins σ tg R) E {s with heap:=s.heap.push {cls:=.type "range",data:=.fields #[.int lo t,.int hi u,.int 1 v]},toks:=tk} :=by
 refine wpAny_pyIter_range (IsRange.new ..) (small_one h1 h2 h3 h4) ?_
 have I1:Inv X pins σ H {s with heap:=s.heap.push {cls:=.type "range",data:=.fields #[.int lo t,.int hi u,.int 1 v]},toks:=tk} :=I.kept fun b o e=>Heap.get?_push_of_some _ e
 refine⟨(s.heap.push {cls:=.type "range",data:=.fields #[.int lo t,.int hi u,.int 1 v]}).objs.size,[(s.heap.push {cls:=.type "range",data:=.fields #[.int lo t,.int hi u,.int 1 v]}).objs.size],_,_,H,rfl,
  I1.kept (t':=tk) fun b o e=>Heap.get?_push_of_some _ e,Sq _ lo (hi - lo).toNat,?_,fun b hb=> ?_,q⟩
 ·have e1:lo+((0:Nat):Int)*1=lo:=by simp
  have e2:(((hi - lo).toNat:Nat):Int) - ((0:Nat):Int)=Builtin.Range.rangeSize lo hi 1:=by rw[rangeSize_one];split<;>omega
  show IsRangeIter _ _ (lo+((0:Nat):Int)*1) ((((hi - lo).toNat:Nat):Int) - ((0:Nat):Int)) 1
  rw[e1,e2]
  exact Heap.get?_push_size _ rfl
 ·have e:b=(s.heap.push {cls:=.type "range",data:=.fields #[.int lo t,.int hi u,.int 1 v]}).objs.size:=by simpa using hb
  subst e
  exact I1.kI (Nat.le_refl _) (I1.ai.fresh (Nat.le_refl _))
def K0 (ta:TA):TI:=fun σ H R=>ta σ H fun vs H1=> ∃j:Int,vs=[.int j]∧ -(2^62)≤j∧j<2^62∧R (nh 0 j.toNat) H1
theorem ZY {a:Expr}{ta:TA}{p pos:Pos}(hg:Gl X "range") (hm:X.mg "range" =none) (ha:PA X [a] ta) (hs:starEach [a] X.env=[(false,eval a X.env)]:=by rfl):PI X tg (.Call (.Name "range" p) [a] [] pos) (K0 ta):=by
 intro pins s σ H R I h
 refine Call_ (Ym I hg hm boot_range (PyProof.Rows.callWith_type1 (au (ha pos pins s σ H _ I h) fun us s1 ⟨vs,H1,I1,r1,q1⟩=> ?_) hs rfl))
 obtain⟨j,e,q1,q2,q⟩:=q1
 subst e
 cases r1 with
 |cons r rr=>
  cases rr
  obtain⟨t,rfl⟩:=r
  exact call_range_1 (QP I1 (by omega) (by omega) q1 q2 (by simpa using q))
def Gi (wi:TI) (g:TG) (tb:TS):TS:=fun D σ H=>wi σ H fun J H1=> ∃W:Nat→Nat→St→Hp→Prop,(∃m,W 0 m σ H1)∧∀i m σ H,W i m σ H→
 (J.stop i H∧D.nx σ H)∨(J.go i H∧∃N:St→Hp→Prop,(∀aj H',N aj H'→∃m',m'<m∧W (i+1) m' aj H')∧∀x H',J.nz i H x H'→g x σ H' fun aR H2=>tb {D with nx:=N,ct:=N,bk:=D.nx} aR H2)
def jK (fp:List Addr) (h:Heap):List (Addr×Obj):=fp.filterMap fun b=> (h.get? b).map fun o=> (b,o)
theorem ZT {fp:List Addr}{h:Heap}{b:Addr}{o:Obj}(hb:b∈fp) (e:h.get? b=some o):(b,o)∈jK fp h:=List.mem_filterMap.mpr ⟨b,hb,by rw[e];rfl⟩
theorem JI {fp:List Addr}{h:Heap}{p:Addr×Obj}(hp:p∈jK fp h):p.1∈fp∧h.get? p.1=some p.2:=by
 obtain⟨b,hb,e⟩:=List.mem_filterMap.mp hp
 cases q:h.get? b with
 |none=>rw[q]at e;cases e
 |some o=>
  rw[q]at e
  have e':(b,o)=p:=Option.some.inj e
  subst e'
  exact⟨hb,q⟩
theorem Inv.pinned {pins:List (Addr×Obj)}{σ:St}{H:Hp}{s:Shared}{fp:List Addr}(I:Inv X pins σ H s) (hf:∀b∈fp,cI X pins H b) (ho:∀b∈fp,∃o,s.heap.get? b=some o∧∀v,o.data≠.cell v):Inv X (pins++jK fp s.heap) σ H s:=
 I.AA fun p hp=> (List.mem_append.mp hp).elim (fun z=>I.pin p (List.mem_append_right _ z)) fun z=>by
  obtain⟨hb,e⟩:=JI z
  obtain⟨f0,f1,f2,_⟩:=hf p.1 hb
  obtain⟨o,e',d⟩:=ho p.1 hb
  rw[e]at e';cases e'
  exact⟨e,f0,f1,f2,d⟩
theorem Inv.i6 {pins pl:List (Addr×Obj)}{σ:St}{H:Hp}{s:Shared}(I:Inv X (pins++pl) σ H s):Inv X pins σ H s:=I.AA fun p hp=>I.pin p (List.mem_append_right _ (List.mem_append_left _ hp))
theorem YE {iter:Expr}{body:List Stmt}{wi:TI}{g:TG}{tb:TS}{pos:Pos}(hp:PassesOwn (model X.prog X.w) X.A X.env X.xe) (hc:X.calm=true) (hi:PI X tg iter wi) (hg:PG X tg g) (hb:eZ X body tb)
  (hs:∀x,foldedSetIterable iter X.env x=pure x:=by intro _;rfl):PS X (.For tg iter body [] pos) (Gi wi g tb):=by
 intro pins s σ H D I h
 refine wpAny_For (au (hi pins s σ H _ I h) fun v s1 h1=>au h1 fun lQ s2 h2=> ?_) hs
 obtain⟨it,fp,tn,J,H2,e,I2,T,ak,f2,W,⟨m0,w0⟩,turn⟩:=h2
 subst e
 have stat:∀{H':Hp},(∀b∈fp,H' b=none)→∀b∈fp,cI X pins H' b:=fun hn b hb=> ⟨hn b hb,(f2 b hb).2⟩
 refine codeAny_forLoop_any (fun n s'=> ∃i aj H',Inv X pins aj H' s'∧tn i s'.heap∧(∀b∈fp,H' b=none)∧W i n aj H') ?_ m0 ⟨0,σ,H2,I2,ak,fun b hb=> (f2 b hb).1,w0⟩
 rintro n s3 ⟨i,eI,H3,I3,aO,uf,w3⟩
 rcases turn i n eI H3 w3 with ⟨stop,qn⟩ |⟨go,N,hN,step⟩
 ·refine wpAny_passesOwn hp (au (T.done X rfl rfl rfl hc i pins s3 eI H3 X.xe I3 (stat uf) aO stop) fun r s4 ⟨hr,I4⟩=> ?_)
  subst hr
  exact wpAny_execs_nil ⟨eI,H3,I4,qn⟩
 ·refine wpAny_passesOwn hp (au (T.item X rfl rfl rfl hc i pins s3 eI H3 X.xe I3 (stat uf) aO go) fun r s4 ⟨u,hr,h4⟩=> ?_)
  subst hr
  refine wpAny_passesOwn hp (au h4 fun _ s5 ⟨x,H5,I5,r5,y5,cM,ya⟩=> ?_)
  have y6:=I5.pinned (stat ya) (T.obj _ _ cM)
  refine wpAny_passesOwn hp (au (hg _ s5 eI H5 x u _ y6 r5 (step x H5 y5)) fun _ s6 ⟨oR,H6,I6,q6⟩=> ?_)
  refine wpAny_passesOwn hp (au (hb _ s6 oR H6 _ I6 q6) fun f s7 q7=> ?_)
  have again:∀{eG:St}{H7:Hp},Inv X (pins++jK fp s5.heap) eG H7 s7→N eG H7→∃m,m<n∧∃i aj H',Inv X pins aj H' s7∧tn i s7.heap∧(∀b∈fp,H' b=none)∧W i m aj H':=fun {eG H7} I7 n7=>by
   obtain⟨m',hm,w7⟩:=hN eG H7 n7
   refine⟨m',hm,i+1,eG,H7,I7.i6,T.keep _ _ _ cM fun b hb o e=> (I7.pin (b,o) (List.mem_append_right _ (List.mem_append_right _ (ZT hb e)))).1,fun b hb=> ?_,w7⟩
   obtain⟨o,e,d⟩:=T.obj _ _ cM b hb
   exact(I7.pin (b,o) (List.mem_append_right _ (List.mem_append_right _ (ZT hb e)))).2.1
  cases f with
  |next=>obtain⟨eG,H7,I7,n7⟩:=q7;exact again I7 n7
  |cont=>obtain⟨eG,H7,I7,n7⟩:=q7;exact again I7 n7
  |brk=>obtain⟨eG,H7,I7,q7⟩:=q7;exact⟨eG,H7,I7.i6,q7⟩
  |ret v=>obtain⟨x7,eG,H7,I7,r7,q7⟩:=q7;exact⟨x7,eG,H7,I7.i6,r7,q7⟩
end
theorem Eo {K:PySem.W.Frag}{a:Addr}{xs:List V}{g:TG}{tb:TS}{D:Ends}{σ:St}{H:Hp}(Pv:Nat→St→Hp→Prop) (h0:Pv 0 σ H) (hl:∀i σ H,i≤xs.length→Pv i σ H→ag K H a xs)
  (hs:∀i x σ H,xs[i]? =some x→Pv i σ H→g x σ H fun aR H2=>tb {D with nx:=Pv (i+1),ct:=Pv (i+1),bk:=D.nx} aR H2) (hd:∀σ H,Pv xs.length σ H→D.nx σ H):
  ∃W:Nat→Nat→St→Hp→Prop,(∃m,W 0 m σ H)∧∀i m σ H,W i m σ H→
   ((oO K a).stop i H∧D.nx σ H)∨((oO K a).go i H∧∃N:St→Hp→Prop,(∀aj H',N aj H'→∃m',m'<m∧W (i+1) m' aj H')∧∀x H',(oO K a).nz i H x H'→g x σ H' fun aR H2=>tb {D with nx:=N,ct:=N,bk:=D.nx} aR H2):=by
 refine⟨fun i m σ H=>m=xs.length - i∧i≤xs.length∧Pv i σ H,⟨xs.length,by simp,Nat.zero_le _,h0⟩,?_⟩
 rintro i m σ H ⟨rfl,hi,p⟩
 have q:=hl i σ H hi p
 by_cases ay:i<xs.length
 ·refine .inr ⟨⟨xs,xs[i],q,by simp[ay]⟩,Pv (i+1),fun aj H' p'=> ⟨xs.length - (i+1),by omega,rfl,ay,p'⟩,fun x H' y=> ?_⟩
  obtain⟨e,y⟩:=y
  subst e
  exact hs i x σ _ (y xs q) p
 ·have e:i=xs.length:=by omega
  subst e
  exact .inl ⟨⟨xs,q,Nat.le_refl _⟩,hd σ H p⟩
theorem Yi {lo:Int}{n:Nat}{g:TG}{tb:TS}{D:Ends}{σ:St}{H:Hp}(Pv:Nat→St→Hp→Prop) (h0:Pv 0 σ H)
  (hs:∀i σ H,i<n→Pv i σ H→g (.int (lo+i)) σ H fun aR H2=>tb {D with nx:=Pv (i+1),ct:=Pv (i+1),bk:=D.nx} aR H2) (hd:∀σ H,Pv n σ H→D.nx σ H):
  ∃W:Nat→Nat→St→Hp→Prop,(∃m,W 0 m σ H)∧∀i m σ H,W i m σ H→
   ((nh lo n).stop i H∧D.nx σ H)∨((nh lo n).go i H∧∃N:St→Hp→Prop,(∀aj H',N aj H'→∃m',m'<m∧W (i+1) m' aj H')∧∀x H',(nh lo n).nz i H x H'→g x σ H' fun aR H2=>tb {D with nx:=N,ct:=N,bk:=D.nx} aR H2):=by
 refine⟨fun i m σ H=>m=n - i∧i≤n∧Pv i σ H,⟨n,by simp,Nat.zero_le _,h0⟩,?_⟩
 rintro i m σ H ⟨rfl,hi,p⟩
 by_cases ay:i<n
 ·refine .inr ⟨ay,Pv (i+1),fun aj H' p'=> ⟨n - (i+1),by omega,rfl,ay,p'⟩,fun x H' y=> ?_⟩
  obtain⟨e,y⟩:=y
  subst e y
  exact hs i σ _ ay p
 ·have e:i=n:=by omega
  subst e
  exact .inl ⟨Nat.le_refl _,hd σ H p⟩
abbrev R2:=V→V→Hp→VK→Prop
def bf (X:Cx) (f:Value→Value→Sem Value) (r:R2):Prop:=
 ∀(pins:List (Addr×Obj)) (s:Shared) (σ:St) (H:Hp) (x y:V) (v u:Value) (Q:VK),Inv X pins σ H s→RelV x v→RelV y u→r x y H Q→
  wpAny (model X.prog X.w) X.A (f v u) (EP X pins σ Q) X.xe s
def yP (X:Cx) (f:Value→Sem Value) (r:V→Hp→VK→Prop):Prop:=
 ∀(pins:List (Addr×Obj)) (s:Shared) (σ:St) (H:Hp) (x:V) (v:Value) (Q:VK),Inv X pins σ H s→RelV x v→r x H Q→
  wpAny (model X.prog X.w) X.A (f v) (EP X pins σ Q) X.xe s
def eE (X:Cx) (f:Value) (r:List V→Hp→VK→Prop):Prop:=
 ∀(pins:List (Addr×Obj)) (s:Shared) (σ:St) (H:Hp) (xs:List V) (us:List Value) (Q:VK),Inv X pins σ H s→Vals xs us→r xs H Q→
  wpAny (model X.prog X.w) X.A (call f us) (EP X pins σ Q) X.xe s
def kY (r:R2) (ta tb:TE):TE:=fun σ H Q=>ta σ H fun x H1=>tb σ H1 fun y H2=>r x y H2 Q
def FY (r:V→Hp→VK→Prop) (ta:TE):TE:=fun σ H Q=>ta σ H fun x H1=>r x H1 Q
def rI (C:Int→Int→Prop) (g:Int→Int→V):R2:=fun x y H Q=> ∃i j,x=.int i∧y=.int j∧C i j∧Q (g i j) H
def jI (g:Int→Int→V):R2:=fun x y H Q=> ∃i j,x=.int i∧y=.int j∧Q (g i j) H
def rU (g:Int→V):V→Hp→VK→Prop:=fun x H Q=> ∃i,x=.int i∧Q (g i) H
section
variable {X:Cx}{a b c:Expr}{ta tb tc:TE}{pos:Pos}
theorem yx (ha:PE X a ta) (hb:PE X b tb) {pins:List (Addr×Obj)}{s:Shared}{σ:St}{H:Hp}{R:V→V→Hp→Prop}(I:Inv X pins σ H s)
  (h:ta σ H fun x H1=>tb σ H1 fun y H2=>R x y H2) {Q:Value→Shared→Prop}{f:Value→Value→Sem Value}
  (hf:∀v u s2 x y H2,Inv X pins σ H2 s2→RelV x v→RelV y u→R x y H2→wpAny (model X.prog X.w) X.A (f v u) Q X.xe s2):
  wpAny (model X.prog X.w) X.A (eval a X.env) (fun v aI=>wpAny (model X.prog X.w) X.A (eval b X.env) (fun u nE=>wpAny (model X.prog X.w) X.A (f v u) Q X.xe nE) X.xe aI) X.xe s:=by
 refine au (ha pins s σ H _ I h) fun v s1 ⟨x,H1,I1,r1,q1⟩=> ?_
 refine au (hb pins s1 σ H1 _ I1 q1) fun u s2 ⟨y,H2,I2,r2,q2⟩=> ?_
 exact hf v u s2 x y H2 I2 r1 r2 q2
theorem Zr {op:Operator}{r:R2}(ho:bf X (binaryOp op) r) (ha:PE X a ta) (hb:PE X b tb):PE X (.BinOp a op b pos) (kY r ta tb):=by
 intro pins s σ H Q I h
 exact wpAny_BinOp (yx ha hb I h fun v u s2 x y H2 I2 rx ry q=>ho pins s2 σ H2 x y v u Q I2 rx ry q)
theorem Dp {op:UnaryOp}{r:V→Hp→VK→Prop}(ho:yP X (unaryOp op) r) (ha:PE X a ta):PE X (.UnaryOp op a pos) (FY r ta):=by
 intro pins s σ H Q I h
 exact UnaryOp_ (au (ha pins s σ H _ I h) fun v s1 ⟨x,H1,I1,r1,q1⟩=>ho pins s1 σ H1 x v Q I1 r1 q1)
theorem sH {f:Value→Value→Sem Value}{C:Int→Int→Prop}{g:Int→Int→Int}
  (rule:∀(i j:Int) (t u:Tok) (s:Shared) (Q:Value→Shared→Prop) (E:Value→Shared→Prop),C i j→Q (.int (g i j) s.toks) {s with toks:=s.toks+1}→wpAny (model X.prog X.w) X.A (f (.int i t) (.int j u)) Q E s):
  bf X f (rI C fun i j=> .int (g i j)):=by
 intro pins s σ H x y v u Q I rx ry h
 obtain⟨i,j,rfl,rfl,hc,q⟩:=h
 obtain⟨t,rfl⟩:=rx
 obtain⟨t',rfl⟩:=ry
 exact rule i j t t' s _ _ hc ⟨.int (g i j),H,I.tok _,⟨_,rfl⟩,q⟩
theorem AI {f:Value→Value→Sem Value}{g:Int→Int→Int}
  (rule:∀(i j:Int) (t u:Tok) (s:Shared) (Q:Value→Shared→Prop) (E:Value→Shared→Prop),Q (.int (g i j) s.toks) {s with toks:=s.toks+1}→wpAny (model X.prog X.w) X.A (f (.int i t) (.int j u)) Q E s):
  bf X f (jI fun i j=> .int (g i j)):=by
 intro pins s σ H x y v u Q I rx ry h
 obtain⟨i,j,rfl,rfl,q⟩:=h
 obtain⟨t,rfl⟩:=rx
 obtain⟨t',rfl⟩:=ry
 exact rule i j t t' s _ _ ⟨.int (g i j),H,I.tok _,⟨_,rfl⟩,q⟩
theorem sI {f:Value→Value→Sem Value}{g:Int→Int→Bool}
  (rule:∀(i j:Int) (t u:Tok) (s:Shared) (Q:Value→Shared→Prop) (E:Value→Shared→Prop),Q (.bool (g i j)) s→wpAny (model X.prog X.w) X.A (f (.int i t) (.int j u)) Q E s):
  bf X f (jI fun i j=> .bl (g i j)):=by
 intro pins s σ H x y v u Q I rx ry h
 obtain⟨i,j,rfl,rfl,q⟩:=h
 obtain⟨t,rfl⟩:=rx
 obtain⟨t',rfl⟩:=ry
 exact rule i j t t' s _ _ ⟨.bl (g i j),H,I,rfl,q⟩
def T3 (i j:Int):Prop:=0<j∧j<1073741824
def TZ (i j:Int):Prop:=0≤j∧j≤1000000∧i.natAbs<2^64
def zk (i j:Int):Prop:=(-(2^64)<i∧i<2^64)∨(-(2^64)<j∧j<2^64)
theorem zk.ok {i j:Int}(h:zk i j):IntMulOk i j:=by
 rcases h with ⟨h1,h2⟩ |⟨h1,h2⟩
 ·exact .of_left (intBits_le_64 h1 h2)
 ·exact .of_right (intBits_le_64 h1 h2)
theorem Z3:bf X (binaryOp .Add) (jI fun i j=> .int (i+j)):=AI fun _ _ _ _ _ _ _ q=>add_int q
theorem YL:bf X (binaryOp .Sub) (jI fun i j=> .int (i - j)):=AI fun _ _ _ _ _ _ _ q=>sub_int q
theorem Wl:bf X (binaryOp .Mult) (rI zk fun i j=> .int (i*j)):=sH fun _ _ _ _ _ _ _ hc q=>mul_int q hc.ok
theorem UB:bf X (binaryOp .FloorDiv) (rI T3 fun i j=> .int (i/j)):=sH fun i j _ _ _ _ _ hc q=>by
 have h1:(0:Int)<j:=hc.1
 have h2:j<1073741824:=hc.2
 exact floordiv_int (by omega) (by rw[Int.fdiv_eq_ediv_of_nonneg i (by omega)];exact q) (.inl (PyProof.noPylong_small (by omega)))
theorem Ja:bf X (binaryOp .Mod) (rI (fun _ j=>0<j) fun i j=> .int (i%j)):=sH fun i j _ _ _ _ _ hc q=>by
 have h1:(0:Int)<j:=hc
 exact mod_int' (by omega) (by rw[Int.fmod_eq_emod_of_nonneg i (by omega)];exact q)
theorem yN:bf X (binaryOp .Pow) (rI TZ fun i j=> .int (i^j.toNat)):=sH fun _ _ _ _ _ _ _ hc q=>pow_int_small hc.1 hc.2.1 hc.2.2 q
theorem Fv {f:Value→Sem Value}{g:Int→Int}
  (rule:∀(i:Int) (t:Tok) (s:Shared) (Q:Value→Shared→Prop) (E:Value→Shared→Prop),Q (.int (g i) s.toks) {s with toks:=s.toks+1}→wpAny (model X.prog X.w) X.A (f (.int i t)) Q E s):
  yP X f (rU fun i=> .int (g i)):=by
 intro pins s σ H x v Q I rx h
 obtain⟨i,rfl,q⟩:=h
 obtain⟨t,rfl⟩:=rx
 exact rule i t s _ _ ⟨.int (g i),H,I.tok _,⟨_,rfl⟩,q⟩
theorem DE:yP X (unaryOp .USub) (rU fun i=> .int (-i)):=Fv fun _ _ _ _ _ q=>neg_int q
end
def lh:V→V→Bool
 | .ae,.ae=>true | .ae,.int _=>true | .int _,.ae=>true | .ae,.bl _=>true | .bl _,.ae=>true | .ae,.str _=>true | .str _,.ae=>true
 | .int _,.int _=>true | .bl _,.bl _=>true | .str _,.str _=>true | .hX _,.hX _=>true
 | .int _,.str _=>true | .str _,.int _=>true | .bl _,.str _=>true | .str _,.bl _=>true
 |_,_=>false
def Hx:R2:=fun x y H Q=>lh x y=true∧Q (.bl (decide (x=y))) H
def Hs:R2:=fun x y H Q=>lh x y=true∧Q (.bl (!decide (x=y))) H
theorem DU {i j:Int} :decide (V.int i=V.int j)=(i==j):=by
 rw[Bool.eq_iff_iff]
 simp
theorem Dt {i j:Bool} :decide (V.bl i=V.bl j)=(i==j):=by
 rw[Bool.eq_iff_iff]
 simp
theorem DV {i j:Str} :decide (V.str i=V.str j)=(i==j):=by
 rw[Bool.eq_iff_iff]
 simp
theorem DT {i j:Array UInt8} :decide (V.hX i=V.hX j)=(i.toList==j.toList):=by
 rw[Bool.eq_iff_iff]
 cases i
 cases j
 simp
section
variable {X:Cx}{a b c:Expr}{ta tb tc:TE}{pos:Pos}
theorem ZG {pins:List (Addr×Obj)}{σ:St}{H:Hp}{s:Shared}{Q:VK}{k k':Bool}(I:Inv X pins σ H s) (q:Q (.bl k) H) (e:k=k'):EP X pins σ Q (.bool k') s:=by
 subst e
 exact⟨.bl k,H,I,rfl,q⟩
theorem Jo:bf X (compareOp .Eq) Hx:=by
 intro pins s σ H x y v u Q I rx ry h
 obtain⟨hs,q⟩:=h
 cases x with
 |ae=>
  cases rx
  cases y with
  |ae=>cases ry;exact PySem.EqNone.eq_none_none (ZG I q (by simp))
  |bl j=>cases ry;exact PySem.EqNone.eq_none_bool (ZG I q (by simp))
  |int j=>obtain⟨t',rfl⟩:=ry;exact PySem.EqNone.eq_none_int (ZG I q (by simp))
  |str j=>obtain⟨t',rfl⟩:=ry;exact PySem.EqNone.eq_none_str (ZG I q (by simp))
  |_=>exact absurd (show false=true from hs) Bool.false_ne_true
 |bl i=>
  cases rx
  cases y with
  |ae=>cases ry;exact PySem.EqNone.eq_bool_none (ZG I q (by simp))
  |bl j=>cases ry;exact eq_bool (ZG I q Dt)
  |str j=>obtain⟨t',rfl⟩:=ry;exact PySem.EqMixed.eq_bool_str (ZG I q (by simp))
  |_=>exact absurd (show false=true from hs) Bool.false_ne_true
 |int i=>
  obtain⟨t,rfl⟩:=rx
  cases y with
  |ae=>cases ry;exact PySem.EqNone.eq_int_none (ZG I q (by simp))
  |int j=>obtain⟨t',rfl⟩:=ry;exact eq_int (ZG I q DU)
  |str j=>obtain⟨t',rfl⟩:=ry;exact PySem.EqMixed.eq_int_str (ZG I q (by simp))
  |_=>exact absurd (show false=true from hs) Bool.false_ne_true
 |str i=>
  obtain⟨t,rfl⟩:=rx
  cases y with
  |ae=>cases ry;exact PySem.EqNone.eq_str_none (ZG I q (by simp))
  |bl j=>cases ry;exact PySem.EqMixed.eq_str_bool (ZG I q (by simp))
  |int j=>obtain⟨t',rfl⟩:=ry;exact PySem.EqMixed.eq_str_int (ZG I q (by simp))
  |str j=>obtain⟨t',rfl⟩:=ry;exact eq_str (ZG I q DV)
  |_=>exact absurd (show false=true from hs) Bool.false_ne_true
 |hX i=>
  obtain⟨t,rfl⟩:=rx
  cases y with
  |hX j=>obtain⟨t',rfl⟩:=ry;exact PySem.W.eq_bytes (ZG I q DT)
  |_=>exact absurd (show false=true from hs) Bool.false_ne_true
 |_=>cases y<;>exact absurd (show false=true from hs) Bool.false_ne_true
theorem W5:bf X (compareOp .NotEq) Hs:=by
 intro pins s σ H x y v u Q I rx ry h
 obtain⟨hs,q⟩:=h
 cases x with
 |ae=>
  cases rx
  cases y with
  |ae=>cases ry;exact PySem.EqNone.ne_none_none (ZG I q (by simp))
  |bl j=>cases ry;exact PySem.EqNone.ne_none_bool (ZG I q (by simp))
  |int j=>obtain⟨t',rfl⟩:=ry;exact PySem.EqNone.ne_none_int (ZG I q (by simp))
  |str j=>obtain⟨t',rfl⟩:=ry;exact PySem.EqNone.ne_none_str (ZG I q (by simp))
  |_=>exact absurd (show false=true from hs) Bool.false_ne_true
 |bl i=>
  cases rx
  cases y with
  |ae=>cases ry;exact PySem.EqNone.ne_bool_none (ZG I q (by simp))
  |bl j=>cases ry;exact ne_bool (ZG I q (congrArg not Dt))
  |str j=>obtain⟨t',rfl⟩:=ry;exact PySem.EqMixed.ne_bool_str (ZG I q (by simp))
  |_=>exact absurd (show false=true from hs) Bool.false_ne_true
 |int i=>
  obtain⟨t,rfl⟩:=rx
  cases y with
  |ae=>cases ry;exact PySem.EqNone.ne_int_none (ZG I q (by simp))
  |int j=>obtain⟨t',rfl⟩:=ry;exact ne_int (ZG I q (congrArg not DU))
  |str j=>obtain⟨t',rfl⟩:=ry;exact PySem.EqMixed.ne_int_str (ZG I q (by simp))
  |_=>exact absurd (show false=true from hs) Bool.false_ne_true
 |str i=>
  obtain⟨t,rfl⟩:=rx
  cases y with
  |ae=>cases ry;exact PySem.EqNone.ne_str_none (ZG I q (by simp))
  |bl j=>cases ry;exact PySem.EqMixed.ne_str_bool (ZG I q (by simp))
  |int j=>obtain⟨t',rfl⟩:=ry;exact PySem.EqMixed.ne_str_int (ZG I q (by simp))
  |str j=>obtain⟨t',rfl⟩:=ry;exact ne_str (ZG I q (congrArg not DV))
  |_=>exact absurd (show false=true from hs) Bool.false_ne_true
 |hX i=>
  obtain⟨t,rfl⟩:=rx
  cases y with
  |hX j=>obtain⟨t',rfl⟩:=ry;exact PySem.W.ne_bytes (ZG I q (congrArg not DT))
  |_=>exact absurd (show false=true from hs) Bool.false_ne_true
 |_=>cases y<;>exact absurd (show false=true from hs) Bool.false_ne_true
theorem yK:bf X (compareOp .Lt) (jI fun i j=> .bl (decide (i<j))):=sI fun _ _ _ _ _ _ _ q=>lt_int q
theorem Dm:bf X (compareOp .LtE) (jI fun i j=> .bl (decide (i≤j))):=sI fun _ _ _ _ _ _ _ q=>le_int q
theorem Dl:bf X (compareOp .Gt) (jI fun i j=> .bl (decide (j<i))):=sI fun _ _ _ _ _ _ _ q=>gt_int q
theorem Pk:bf X (compareOp .GtE) (jI fun i j=> .bl (decide (j≤i))):=sI fun _ _ _ _ _ _ _ q=>ge_int q
theorem bf.or {f:Value→Value→Sem Value}{r r':R2}(h:bf X f r) (h':bf X f r'):bf X f (fun x y H Q=>r x y H Q∨r' x y H Q):=by
 intro pins s σ H x y v u Q I rx ry q
 rcases q with q |q
 ·exact h pins s σ H x y v u Q I rx ry q
 ·exact h' pins s σ H x y v u Q I rx ry q
theorem bK (b:Expr) {op:CmpOp}(h:op≠.In:=by decide) (h2:op≠.NotIn:=by decide):behindInMarks op b=false:=by
 have e1:(op==CmpOp.In)=false:=by cases op<;>first |rfl |exact absurd rfl h
 have e2:(op==CmpOp.NotIn)=false:=by cases op<;>first |rfl |exact absurd rfl h2
 cases b<;>simp[behindInMarks,e1,e2]
theorem ZV {op:CmpOp}{r:R2}(ho:bf X (compareOp op) r) (ha:PE X a ta) (hb:PE X b tb) (hm:behindInMarks op b=false):PE X (.Compare a [op] [b] pos) (kY r ta tb):=by
 intro pins s σ H Q I h
 exact wpAny_Compare1 (yx ha hb I h fun v u s2 x y H2 I2 rx ry q=>ho pins s2 σ H2 x y v u Q I2 rx ry q) hm
def F1 (t:TE):TT:=fun σ H Q=>t σ H fun x H'=> ∃k,x=.bl k∧Q k H'
theorem ZJ {op:CmpOp}{r:R2}(ho:bf X (compareOp op) r) (ha:PE X a ta) (hb:PE X b tb) (hm:behindInMarks op b=false):PT X (.Compare a [op] [b] pos) (F1 (kY r ta tb)):=by
 intro pins s σ H Q I h
 refine wpAny_isTrue_Compare1 (au (ha pins s σ H _ I h) fun v s1 ⟨x,H1,I1,r1,q1⟩=>au (hb pins s1 σ H1 _ I1 q1) fun u s2 ⟨y,H2,I2,r2,q2⟩=>
  au (ho pins s2 σ H2 x y v u _ I2 r1 r2 q2) fun c s3 ⟨z,H3,I3,r3,k,e,q3⟩=> ?_) hm
 subst e
 cases r3
 exact wpAny_truthy_bool ⟨H3,I3,q3⟩
def Gm (r r':R2) (ta tb tc:TE):TE:=fun σ H Q=>ta σ H fun x H1=>tb σ H1 fun y H2=>r x y H2 fun z H3=> ∃k,z=.bl k∧
 (if k=true then tc σ H3 fun w' H4=>r' y w' H4 Q else Q (.bl false) H3)
theorem Ro {op wo:CmpOp}{r r':R2}(ho:bf X (compareOp op) r) (cF:bf X (compareOp wo) r') (ha:PE X a ta) (hb:PE X b tb) (hc:PE X c tc)
  (hm:lastMarks [op,wo] [b,c]=false:=by with_unfolding_all rfl):PE X (.Compare a [op,wo] [b,c] pos) (Gm r r' ta tb tc):=by
 intro pins s σ H Q I h
 refine Compare_chain (au (ha pins s σ H _ I h) fun v s1 ⟨x,H1,I1,r1,q1⟩=>chain_link (au (hb pins s1 σ H1 _ I1 q1) fun u s2 ⟨y,H2,I2,r2,q2⟩=>
  au (ho pins s2 σ H2 x y v u _ I2 r1 r2 q2) fun d s3 ⟨z,H3,I3,r3,k,e,q3⟩=> ?_)) hm
 subst e
 cases r3
 refine wpAny_truthy_bool ?_
 cases k with
 |false=>exact ite_ff ⟨.bl false,H3,I3,rfl,q3⟩
 |true=>exact ite_tt (chain_last (au (hc pins s3 σ H3 _ I3 q3) fun w' s4 ⟨z',H4,I4,r4,q4⟩=>cF pins s4 σ H4 y z' u w' Q I4 r2 r4 q4))
theorem sX:(sizeLine:Nat)<2^63:=by rw[sizeLine_eq];decide
theorem vals1 {x:V}{us:List Value}(r:Vals [x] us):∃u,us=[u]∧RelV x u:=by
 cases r with
 |cons r1 r2=>cases r2;exact⟨_,rfl,r1⟩
theorem vals2 {x y:V}{us:List Value}(r:Vals [x,y] us):∃u w',us=[u,w']∧RelV x u∧RelV y w':=by
 cases r with
 |cons r1 r2=>
  cases r2 with
  |cons r3 r4=>cases r4;exact⟨_,_,rfl,r1,r3⟩
theorem Ul (hc:X.calm=true):eE X (.builtin "max") (fun xs H Q=> ∃i j,xs=[.int i,.int j]∧Q (.int (if j>i then j else i)) H):=by
 intro pins s σ H xs us Q I r h
 obtain⟨i,j,rfl,q⟩:=h
 obtain⟨u,w',rfl,⟨t,rfl⟩,⟨t',rfl⟩⟩:=vals2 r
 refine max_two_ints (I.ok.hd hc) fun h' tk k=> ⟨_,H,I.kept k,?_,q⟩
 by_cases hj:j>i
 ·rw[if_pos hj,if_pos hj];exact⟨_,rfl⟩
 ·rw[if_neg hj,if_neg hj];exact⟨_,rfl⟩
theorem Uk (hc:X.calm=true):eE X (.builtin "min") (fun xs H Q=> ∃i j,xs=[.int i,.int j]∧Q (.int (if j<i then j else i)) H):=by
 intro pins s σ H xs us Q I r h
 obtain⟨i,j,rfl,q⟩:=h
 obtain⟨u,w',rfl,⟨t,rfl⟩,⟨t',rfl⟩⟩:=vals2 r
 refine min_two_ints (I.ok.hd hc) fun h' tk k=> ⟨_,H,I.kept k,?_,q⟩
 by_cases hj:j<i
 ·rw[if_pos hj,if_pos hj];exact⟨_,rfl⟩
 ·rw[if_neg hj,if_neg hj];exact⟨_,rfl⟩
end
structure yU (h:Heap) (x dx C:Addr) (mA:Str→Option Value):Prop where
 obj:h.get? x=some (PySem.W.instObj C dx)
 ns:h.Ns1 dx mA
 ne:dx≠x
theorem RF {h:Heap}{dx:Addr}{mA:Str→Option Value}(n:h.Ns1 dx mA):∃od,h.get? dx=some od∧∀name,PySem.W.lookIn name od=some (mA name):=by
 obtain⟨o,es,ep,ho,hd,hk,_,hm⟩:=n
 refine⟨o,ho,fun name=> ?_⟩
 have e:=hm name
 unfold nsFind findBy at e
 rw[←Array.find?_toList]at e
 unfold PySem.W.lookIn
 rw[hd]
 dsimp only
 split
 ·rename_i y q
  rw[q]at e
  exact congrArg some e
 ·rename_i q
  rw[q]at e
  have a:es.toList.any (·.refKey)=false:=by
   rw[List.any_eq_false]
   intro y hy
   obtain⟨z,t,Mi⟩:=hk y (Array.mem_toList_iff.mp hy)
   simp[DictEntry.refKey,Mi]
  have a':¬es.toList.any (·.refKey)=true:=by rw[a];exact Bool.false_ne_true
  rw[if_neg a']
  exact congrArg some e
theorem yU.look {h:Heap}{x dx C:Addr}{mA:Str→Option Value}(I:yU h x dx C mA):∃od,PySem.W.InstAt h x (PySem.W.instObj C dx) C (some od)∧∀name,PySem.W.lookIn name od=some (mA name):=
 let ⟨od,ho,hl⟩:=RF I.ns
 ⟨od,⟨I.obj,rfl,rfl,ho⟩,hl⟩
section
variable {P:Program}{w:World}{H H':Hp}{h h':Heap}{a C dx:Addr}{fs qy:List (Str×V)}
theorem QI (ai:bS P w H h) (e:H a=some (.ins C dx fs)):∃mA,yU h a dx C mA∧(∀f,yR (fs.lookup f) (mA f))∧PySem.Within mA (fs.map (·.1))∧fs.length≤1000∧H dx=some (.own a):=by
 obtain⟨d,z,ne,ob,mA,n,r,q⟩:=(show bC P w H h a (.ins C dx fs) from ai a _ e)
 exact⟨mA,⟨ob,n,ne⟩,r,q,z,d⟩
end
structure zj (K:PySem.W.Frag) (C:Addr):Prop where
 pg:PySem.W.plainGet K C Str.empty=true
 hd:PySem.W.hasDictIn K C=true
 po:PySem.W.plainOver K C=true
 sa:PySem.W.findIn K (.ref C) "__setattr__" =some (some (.builtin "object.__setattr__"))
theorem zj.get {K:PySem.W.Frag}{C:Addr}(c:zj K C) (f:Str):PySem.W.plainGet K C f=true:=c.pg
structure V0 (K:PySem.W.Frag) (C:Addr) (f:Str) (v:V) (u:Value):Prop where
 at_:PySem.W.findIn K (.ref C) f=some (some u)
 rel:RelV v u
 get:PySem.W.specialIn K u "__get__" =some none
 cp:PySem.W.copiedNames.contains f=false
structure Meth (K:PySem.W.Frag) (C:Addr) (m:Str) (f:Addr):Prop where
 at_:PySem.W.findIn K (.ref C) m=some (some (.ref f))
 fn:PySem.W.isFn K (.ref f)=true
 kp:PySem.W.keepIn K (.ref f)=true
section
variable {X:Cx}{pins:List (Addr×Obj)}{σ:St}{H:Hp}{s:Shared}{A:Around}{E:Value→Shared→Prop}{Q:Value→Shared→Prop}{c:Value}{b:Bool}
inductive eX (K:PySem.W.Frag) (H:Hp):V→Value→Prop where
 |ae:eX K H .ae (.type "NoneType")
 |bl (x:Bool):eX K H (.bl x) (.type "bool")
 |int (i:Int):eX K H (.int i) (.type "int")
 |str (x:Str):eX K H (.str x) (.type "str")
 |gB (x:UInt64):eX K H (.gB x) (.type "float")
 |lst {a:Addr}{xs:List V} (e:H a=some (.lst xs)):eX K H (.ref a) (.type "list")
 |bU {a:Addr}{o:Obj}{xs:List V} (e:H a=some (.bU o (.lst xs))):eX K H (.ref a) (.type "list")
 |tup {a:Addr}{xs:List V} (e:H a=some (.tup xs)):eX K H (.ref a) (.type "tuple")
 |dK {a:Addr}{cm:List (Key×V)} (e:H a=some (.dK cm)):eX K H (.ref a) (.type "dict")
 |dT {a:Addr}{cm:List (List Key×V)} (e:H a=some (.dT cm)):eX K H (.ref a) (.type "dict")
 |ins {a C dx:Addr}{fs:List (Str×V)} (e:H a=some (.ins C dx fs)) (cl:zj K C) (ha:PySem.W.findIn K (.ref C) "__class__" =some (some (.builtin "object.__class__")))
  (hn:PySem.W.specialIn K (.builtin "object.__class__") "__get__" =some (some (.builtin "getset_descriptor.__get__"))) (Bq:PySem.W.takesIn K (.builtin "object.__class__")=some true)
  (hm:PySem.W.mroIn K C (.type "object")=some true):eX K H (.ref a) (.ref C)
theorem Sn {x:V}{u t:Value}(I:Inv X pins σ H s) (rx:RelV x u) (ty:eX X.K H x t) (e:PySem.W.kitOne X.K t c=some b) (h:∀tk,Q (.bool b) {s with toks:=tk}):
  wpAny (model X.prog X.w) A (call (.builtin "isinstance") [u,c]) Q E s:=by
 cases ty with
 |ae=>cases (show u=Value.none from rx);exact PySem.W.kia_one PySem.W.kitx_none I.bF True.intro e (fun z=>nomatch z) h
 |bl y=>cases (show u=Value.bool y from rx);exact PySem.W.kia_one PySem.W.kitx_bool I.bF True.intro e (fun z=>nomatch z) h
 |int i=>obtain⟨t,q⟩:=(show ∃t,u=Value.int i t from rx);cases q;exact PySem.W.kia_one PySem.W.kitx_int I.bF True.intro e (fun z=>nomatch z) h
 |str y=>obtain⟨t,q⟩:=(show ∃t,u=Value.str y t from rx);cases q;exact PySem.W.kia_one PySem.W.kitx_str I.bF True.intro e (fun z=>nomatch z) h
 |gB y=>obtain⟨t,q⟩:=(show ∃t,u=Value.float y t from rx);cases q;exact PySem.W.kia_one PySem.W.kitx_float I.bF True.intro e (fun z=>nomatch z) h
 | @lst a xs ea=>
  cases (show u=Value.ref a from rx)
  obtain⟨_,_,n,_,h1⟩:=(show bC X.prog X.w H s.heap a (.lst xs) from I.ai a _ ea)
  exact PySem.W.kia_one PySem.W.kitx_list I.bF ⟨_,h1,rfl⟩ e (fun z=>nomatch z) h
 | @bU a ob xs ea=>
  cases (show u=Value.ref a from rx)
  obtain⟨_,_,_,n,_,h1⟩:=(show bC X.prog X.w H s.heap a (.bU ob (.lst xs)) from I.ai a _ ea)
  exact PySem.W.kia_one PySem.W.kitx_list I.bF ⟨_,h1,rfl⟩ e (fun z=>nomatch z) h
 | @tup a xs ea=>
  cases (show u=Value.ref a from rx)
  obtain⟨_,_,_,p,_⟩:=(show bC X.prog X.w H s.heap a (.tup xs) from I.ai a _ ea)
  obtain⟨o,h1,h2,_⟩:=p
  exact PySem.W.kia_one PySem.W.kitx_tuple I.bF ⟨o,h1,h2⟩ e (fun z=>nomatch z) h
 | @dK a cm ea=>
  cases (show u=Value.ref a from rx)
  obtain⟨_,_,vs,_,p⟩:=(show bC X.prog X.w H s.heap a (.dK cm) from I.ai a _ ea)
  obtain⟨o,es,ep,h1,h2,_⟩:=p
  exact PySem.W.kia_one PySem.W.kitx_dict I.bF ⟨o,h1,h2.1⟩ e (fun z=>nomatch z) h
 | @dT a cm ea=>
  cases (show u=Value.ref a from rx)
  obtain⟨_,_,xs,_,o,es,ep,h1,h2,_⟩:=(show bC X.prog X.w H s.heap a (.dT cm) from I.ai a _ ea)
  exact PySem.W.kia_one PySem.W.kitx_dict I.bF ⟨o,h1,h2.1⟩ e (fun z=>nomatch z) h
 | @ins a C dx fs ea cl ha hn Bq hm=>
  cases (show u=Value.ref a from rx)
  obtain⟨mA,O,_⟩:=QI I.ai ea
  obtain⟨od,J,_⟩:=O.look
  exact PySem.W.kia_one (PySem.W.kitx_own (cl.get _) cl.hd ha hn Bq hm) I.bF J e (fun z=>nomatch z) h
end
structure cg (k:Nat) (A:Around):Prop where
 hd:A.handled=none
 dp:A.depth+3*k+5<recursionLimit
 un:A.units+16*k+200<cLine
 gd:A.guards=some []
theorem cg.mono {j k:Nat}{A:Around}(r:cg k A) (h:j≤k):cg j A:=⟨r.hd,by have:=r.dp;omega,by have:=r.un;omega,r.gd⟩
theorem cg.deeper {k:Nat}{A:Around}(r:cg (k+1) A) (env:Env):cg k (A.deeper env):=
 ⟨r.hd,by have:=r.dp;show A.depth+1+3*k+5<_;omega,by have:=r.un;show A.units+3+16*k+200<_;omega,r.gd⟩
theorem cg.depth {k:Nat}{A:Around}(r:cg k A):A.depth<recursionLimit:=by have:=r.dp;omega
theorem cg.units {k:Nat}{A:Around}(r:cg k A):A.units+64<cLine:=by have:=r.un;omega
theorem cg.uR {k:Nat}{A:Around}(r:cg k A):A.units<cLine:=by have:=r.un;omega
def o8:TA:=fun _ H Q=>Q [] H
def nD (ta:TE) (tr:TA):TA:=fun σ H Q=>ta σ H fun x H1=>tr σ H1 fun xs H2=>Q (x::xs) H2
section
variable {X:Cx}{e:Expr}{es:List Expr}{te:TE}{t:TA}{pos:Pos}
theorem Zb:PA X [] o8:=fun _ _ _ _ H Q I h=>Calls.spliced_nil ⟨[],H,I,.nil,h⟩
theorem Za (ha:PE X e te) (hr:PA X es t) (hs:starEach (e::es) X.env=(false,eval e X.env)::starEach es X.env:=by rfl):PA X (e::es) (nD te t):=by
 intro pos pins s σ H Q I h
 rw[hs]
 show wpAny _ _ (spliced ((false,eval e X.env)::backTo pos (starEach es X.env))) _ _ s
 refine Calls.spliced_cons (au (ha pins s σ H _ I h) fun u s1 ⟨x,H1,I1,r1,q1⟩=> ?_)
 exact au (hr pos pins s1 σ H1 _ I1 q1) fun us s2 ⟨xs,H2,I2,r2,q2⟩=> ⟨x::xs,H2,I2,.cons r1 r2,q2⟩
def FZ (t:TA):TE:=fun σ H Q=>t σ H fun xs H1=>xs.length≤sizeLine∧∀p,H1 p=none→Q (.ref p) (upd H1 p (.tup xs))
def zy (t:TA):TE:=fun σ H Q=>t σ H fun xs H1=>xs.length≤sizeLine∧∀p,H1 p=none→Q (.ref p) (upd H1 p (.lst xs))
theorem Zs {x1} (h:PA X es t):PE X (.Tuple es x1 pos) (FZ t):=by
 intro pins s σ H Q I hq
 refine wpAny_Tuple_spliced (au (h pos pins s σ H _ I hq) fun us s1 ⟨xs,H1,I1,r,z,q⟩=> ⟨by rw[←r.length];exact z,?_⟩)
 have hf:H1 s1.heap.objs.size=none:=I1.ai.fresh (Nat.le_refl _)
 refine⟨.ref s1.heap.objs.size,upd H1 s1.heap.objs.size (.tup xs),I1.laid (t':=s1.toks) (fun b u e=>Heap.get?_push_of_some _ e) (Nat.le_refl _) ?_,rfl,q _ hf⟩
 exact⟨z,us,r,⟨_,Heap.get?_push_size _ rfl,rfl,_,rfl⟩,_,Heap.get?_push_size _ rfl,rfl⟩
theorem ZF (h:PA X es t):PE X (.List es pos) (zy t):=by
 intro pins s σ H Q I hq
 refine wpAny_List_spliced (au (h pos pins s σ H _ I hq) fun us s1 ⟨xs,H1,I1,r,z,q⟩=> ⟨by rw[←r.length];exact z,?_⟩)
 have hf:H1 s1.heap.objs.size=none:=I1.ai.fresh (Nat.le_refl _)
 refine⟨.ref s1.heap.objs.size,upd H1 s1.heap.objs.size (.lst xs),I1.laid (t':=s1.toks) (fun b u e=>Heap.get?_push_of_some _ e) (Nat.le_refl _) ?_,rfl,q _ hf⟩
 exact⟨z,us,0,r,Heap.get?_push_size _ rfl⟩
end
abbrev Sp:=List V→Hp→VK→XK→Prop
abbrev i0:=List Env→Hp→Shared→XK→Value→Shared→Prop
structure qP (P:Program) (w:World) (K:PySem.W.Frag) (mg:Str→Option Value) (base:Heap) (A:Around) (outer:List Env) (s:Shared) (H:Hp):Prop where
 frames:A.frames=some outer
 mod:Mod K mg base
 bs:∀b o,base.get? b=some o→s.heap.get? b=some o∧H b=none
 js:base.objs.size≤s.heap.objs.size
 dZ:s.heap.FunFrames base outer
 g9:∀b∈aX outer,H b=none
 ai:bS P w H s.heap
 bare:AllBare s.gens
def CE (outer:List Env) (P:Program) (w:World) (H:Hp) (s:Shared) (Q:VK) (u:Value) (s':Shared):Prop:=
 ∃v H',s'.os=s.os∧AllBare s'.gens∧Un (aX outer) [] H H' s.heap s'.heap∧bS P w H' s'.heap∧RelV v u∧Q v H'
def CR (CX:i0) (outer:List Env) (P:Program) (w:World) (H:Hp) (s:Shared) (Q:VK) (E:XK) (r:Result) (s':Shared):Prop:=
 match r with
 | .ok (.ret u)=>CE outer P w H s Q u s'
 | .ok _=>False
 | .error e=>CX outer H s E e s'
structure az (P:Program) (w:World) (K:PySem.W.Frag) (mg:Str→Option Value) (base:Heap) (CX:i0) (k:Nat) (f:Addr) (fd:FuncData) (ps:List Str) (sp:Sp):Prop where
 len:∀vs H Q E,sp vs H Q E→vs.length=ps.length
 run:∀(A:Around) (outer:List Env) (s:Shared) (H:Hp) (args:Args) (us:List Value) (vs:List V) (Q:VK) (E:XK),cg k A→qP P w K mg base A outer s H→BindsTo s fd args (ps.zip us)→Vals vs us→sp vs H Q E→
  codeAny (model P w) A (.call (.ref f) args) (CR CX outer P w H s Q E) s
section
variable {X:Cx}{pins:List (Addr×Obj)}{σ:St}{H:Hp}{s s':Shared}
theorem Inv.CO (I:Inv X pins σ H s):qP X.prog X.w X.K X.mg X.base X.A X.stack s H:=
 ⟨I.ok.frames,I.ok.mod,I.bs,Nat.le_trans I.ok.js I.sz,I.stack,I.pe,I.ai,I.bare⟩
theorem Inv.after {Q:VK}{u:Value}(I:Inv X pins σ H s) (h:CE X.stack X.prog X.w H s Q u s'):EP X pins σ Q u s':=by
 obtain⟨v,H',os,bare,un,ai,r,q⟩:=h
 obtain⟨hh,g,d,t,wm⟩:=s'
 obtain rfl:wm=s.os:=os
 exact⟨v,H',I.call (h':=hh) (g':=g) (d':=d) (t':=t) (ch:=[]) un ai bare (fun b z=>absurd z (by simp)),r,q⟩
end
def rj (sp:Sp) (iW:List V) (E:XK) (t:TA):TE:=fun σ H Q=>t σ H fun vs H1=>sp (vs++iW) H1 Q E
def Binds (K:PySem.W.Frag) (fd:FuncData) (ps:List Str) (ds:List Value):Prop:=
 ∀(s:Shared) (us:List Value),K.In s.heap→(us++ds).length=ps.length→BindsTo s fd ⟨us,[]⟩ (ps.zip (us++ds))
theorem Binds.all {K:PySem.W.Frag}{fd:FuncData}{ps:List Str}(h:∀us:List Value,us.length=ps.length→bindArgs fd ⟨us,[]⟩=pure (ps.zip us)):Binds K fd ps []:=fun s us _ hl=>by
 rw[List.append_nil]at hl ⊢
 exact .of_eq (h us hl)
def Passes (CX:i0) (X:Cx) (E:XK):Prop:=∀(pins:List (Addr×Obj)) (σ:St) (H:Hp) (s:Shared) (e:Value) (s':Shared),Inv X pins σ H s→CX X.stack H s E e s'→X.xe e s'
section
variable {X:Cx}{CX:i0}{k:Nat}{f C:Addr}{fd:FuncData}{ps:List Str}{sp:Sp}{iW:List V}{ds:List Value}{E:XK}{x m:Str}{p pos apos:Pos}{e o:Expr}{es:List Expr}{ta:TE}{t:TA}
theorem DC {pins:List (Addr×Obj)}{σ:St}{H:Hp}{s:Shared}{Q:VK}{us:List Value}{vs:List V}(F:az X.prog X.w X.K X.mg X.base CX k f fd ps sp) (hr:cg k X.A) (hb:Binds X.K fd ps ds) (hd:Vals iW ds) (hx:Passes CX X E)
  (I:Inv X pins σ H s) (r:Vals vs us) (h:sp (vs++iW) H Q E):wpAny (model X.prog X.w) X.A (call (.ref f) us) (EP X pins σ Q) X.xe s:=by
 have r2:Vals (vs++iW) (us++ds):=r.append hd
 have hl:(us++ds).length=ps.length:=by rw[←r2.length];exact F.len _ _ _ _ h
 refine wpAny_call (codeAny_mono (F.run X.A X.stack s H ⟨us,[]⟩ (us++ds) (vs++iW) Q E hr I.CO (hb s us I.bF hl) r2 h) fun r s' hq=> ?_)
 cases r with
 |error e=>exact hx pins σ H s e s' I hq
 |ok fl=>
  cases fl with
  |ret u=>exact I.after hq
  |next=>exact False.elim hq
  |brk=>exact False.elim hq
  |cont=>exact False.elim hq
theorem EJ (F:az X.prog X.w X.K X.mg X.base CX k f fd ps sp) (hr:cg k X.A) (hg:Gl X x) (hm:X.mg x=some (.ref f)) (hk:PySem.W.keepIn X.K (.ref f)=true) (hb:Binds X.K fd ps ds) (hd:Vals iW ds) (hx:Passes CX X E)
  (ha:PA X (e::es) t) (iQ:(x==("__debug__" :Str))=false:=by decide) (he:starEach (e::es) X.env=(false,eval e X.env)::starEach es X.env:=by rfl) (dX:(backTo pos (starEach es X.env)).any (·.1)=false:=by rfl):
  PE X (.Call (.Name x p) (e::es) [] pos) (rj sp iW E t):=by
 intro pins s σ H Q I h
 refine wpAny_Call_Name_kw (Js I hg hm ?_ iQ)
 refine PySem.W.callWith_K (h₀:=X.base) I.ok.mod.lL hk (au (ha pos pins s σ H _ I h) fun us s1 ⟨vs,H1,I1,r,q⟩=> ⟨I1.bF,?_⟩) he dX
 exact DC F hr hb hd hx I1 r q
structure Mk (K:PySem.W.Frag) (C f:Addr):Prop where
 makes:PySem.W.makesIn K C=true
 init:PySem.W.findIn K (.ref C) "__init__" =some (some (.ref f))
 fn:PySem.W.isFn K (.ref f)=true
 kp:PySem.W.keepIn K (.ref C)=true
end
def PK (X:Cx) (pZ:List Keyword) (t:TA):Prop:=
 ∀(pos:Pos) (pins:List (Addr×Obj)) (s:Shared) (σ:St) (H:Hp) (Q:List V→Hp→Prop),Inv X pins σ H s→t σ H Q→wpAny (model X.prog X.w) X.A (evalAll ((backToKw pos (keywordEach pZ X.env)).map (·.2))) (AP X pins σ Q) X.xe s
section
variable {X:Cx}{CX:i0}{k:Nat}{f C:Addr}{fd:FuncData}{ps ks:List Str}{sp:Sp}{E:XK}{x m:Str}{p pos apos qb:Pos}{e o:Expr}{es:List Expr}{pZ:List Keyword}{te ta:TE}{t tk:TA}{nm:Option Str}
theorem O1:PK X [] o8:=fun _ _ _ _ H Q I h=>wpAny_evalAll_nil ⟨[],H,I,.nil,h⟩
theorem Qy (ha:PE X e te) (hr:PK X pZ t):PK X (⟨nm,e,qb⟩::pZ) (nD te t):=by
 intro pos pins s σ H Q I h
 show wpAny _ _ (evalAll ((do let v ←eval e X.env;standAt pos;pure v)::(backToKw pos (keywordEach pZ X.env)).map (·.2))) _ _ s
 refine wpAny_evalAll_cons (wpAny_bind (au (ha pins s σ H _ I h) fun u s1 ⟨x,H1,I1,r1,q1⟩=>wpAny_bind (wpAny_standAt (wpAny_pure ?_))))
 exact au (hr pos pins s1 σ H1 _ I1 q1) fun us s2 ⟨xs,H2,I2,r2,q2⟩=> ⟨x::xs,H2,I2,.cons r1 r2,q2⟩
structure VU (K:PySem.W.Frag) (fd:FuncData) (ps ks:List Str) (g:List Value→List Value→List Value) (gV:List V→List V→List V):Prop where
 to:∀(s:Shared) (us ws:List Value),K.In s.heap→(g us ws).length=ps.length→BindsTo s fd ⟨us,ks.zip ws⟩ (ps.zip (g us ws))
 rel:∀{vs:List V}{us:List Value}{zs:List V}{ws:List Value},Vals vs us→Vals zs ws→Vals (gV vs zs) (g us ws)
variable {g:List Value→List Value→List Value}{gV:List V→List V→List V}
end
structure bu (N P:List Str) (sc:Scope):Prop where
 kind:sc.kind=.function
 co:sc.isCoroutine=false
 gen:sc.isGenerator=false
 nd:N.Nodup
 pre:N.take P.length=P
 par:∀x∈P,sc.names.lookup x=some .local∨sc.names.lookup x=some .cell
 IB:∀y∈sc.names,y.2≠.free
theorem Um {kindOf:Str→Option NameKind}{x:Str} :∀{binds:List (Str×Value)}{m:Str→Option Value},(∀v,(x,v)∉binds)→bindL kindOf binds m x=m x
 | [],_,_=>rfl
 |(n,v)::r,m,h=>by
  unfold bindL
  rw[Um fun w hw=>h w (List.mem_cons_of_mem _ hw)]
  split
  ·have:x≠n:=by rintro rfl;exact h v List.mem_cons_self
   simp[this]
  ·rfl
theorem Up {kindOf:Str→Option NameKind}{x:Str} :∀{binds:List (Str×Value)}{m:Str→Option Value},(∀v,(x,v)∉binds)→bindC kindOf binds m x=m x
 | [],_,_=>rfl
 |(n,v)::r,m,h=>by
  unfold bindC
  rw[Up fun w hw=>h w (List.mem_cons_of_mem _ hw)]
  split
  ·rfl
  ·have:x≠n:=by rintro rfl;exact h v List.mem_cons_self
   simp[this]
theorem Uo {kindOf:Str→Option NameKind}{x:Str}{v:Value} :∀{P:List Str}{vs:List Value}{i:Nat}{m:Str→Option Value},P.Nodup→P[i]? =some x→vs[i]? =some v→kindOf x=some .local→
  bindL kindOf (P.zip vs) m x=some v
 | [],_,_,_,_,h,_,_=>by simp at h
 |_::_,[],_,_,_,_,h,_=>by simp at h
 |p::P,w::vs,0,m,nd,h1,h2,hk=>by
  simp at h1 h2;subst h1;subst h2
  show bindL kindOf ((p,w)::P.zip vs) m p=_
  unfold bindL
  rw[Um fun v hv=> (List.nodup_cons.mp nd).1 (List.of_mem_zip hv).1,if_pos hk]
  simp
 |p::P,w::vs,i+1,m,nd,h1,h2,hk=>by
  show bindL kindOf ((p,w)::P.zip vs) m x=_
  unfold bindL
  exact Uo (i:=i) (List.nodup_cons.mp nd).2 (by simpa using h1) (by simpa using h2) hk
theorem Uq {kindOf:Str→Option NameKind}{x:Str}{v:Value} :∀{P:List Str}{vs:List Value}{i:Nat}{m:Str→Option Value},P.Nodup→P[i]? =some x→vs[i]? =some v→kindOf x≠some .local→
  bindC kindOf (P.zip vs) m x=some v
 | [],_,_,_,_,h,_,_=>by simp at h
 |_::_,[],_,_,_,_,h,_=>by simp at h
 |p::P,w::vs,0,m,nd,h1,h2,hk=>by
  simp at h1 h2;subst h1;subst h2
  show bindC kindOf ((p,w)::P.zip vs) m p=_
  unfold bindC
  rw[Up fun v hv=> (List.nodup_cons.mp nd).1 (List.of_mem_zip hv).1,if_neg hk]
  simp
 |p::P,w::vs,i+1,m,nd,h1,h2,hk=>by
  show bindC kindOf ((p,w)::P.zip vs) m x=_
  unfold bindC
  exact Uq (i:=i) (List.nodup_cons.mp nd).2 (by simpa using h1) (by simpa using h2) hk
def start (N:List Str) (vs:List V):St:=vs.map some++List.replicate (N.length - vs.length) none
def bV (CX:i0) (P:Program) (w:World) (K:PySem.W.Frag) (mg:Str→Option Value) (base:Heap) (N:List Str) (qual:Str) (scope:Scope) (f:Addr) (cd:Value) (A:Around) (outer:List Env) (s:Shared) (H:Hp) (E:XK):Cx where
 prog:=P
 w:=w
 K:=K
 mg:=mg
 base:=base
 A:=A.deeper (envOfC qual scope s.heap.objs.size f cd)
 N:=N
 cj:=s
 j4:=H
 env:=envOfC qual scope s.heap.objs.size f cd
 outer:=outer
 stack:=envOfC qual scope s.heap.objs.size f cd::outer
 ex:=[]
 calm:=true
 fn:=fun _=>true
 pn:=[]
 xe:=fun e s'=>wpAny (model P w) (A.deeper (envOfC qual scope s.heap.objs.size f cd)) (leaving (envOfC qual scope s.heap.objs.size f cd) e) (fun _ fh=>CX outer H s E e fh) (fun e' fh=>CX outer H s E e' fh) s'
theorem Ej {sc:Scope}{n:Nat}{x:Str}(h:sc.names.lookup x=some .cell):∃c,(cellsFrom n sc.names []).lookup x=some c:=by
 have q:=PySem.W.cellsFrom_some sc.names n [] (.inl h)
 exact Option.isSome_iff_exists.mp q
theorem Sm {CX:i0}{P:Program}{w:World}{K:PySem.W.Frag}{mg:Str→Option Value}{base:Heap}{N ps:List Str}{qual:Str}{scope:Scope}{f:Addr}{cd:Value}{A:Around}{outer:List Env}{s s1:Shared}{H:Hp}{E:XK}{us:List Value}{vs:List V}
  (S:bu N ps scope) (hd:A.handled=none) (e0:qP P w K mg base A outer s H) (hl:vs.length=ps.length) (r:Vals vs us)
  (x:InCallC s s.heap.objs.size (bindL (envOfC qual scope s.heap.objs.size f cd).kindOf (ps.zip us) fun _=>none) (cellsFrom (s.heap.objs.size+1) scope.names []) (bindC (envOfC qual scope s.heap.objs.size f cd).kindOf (ps.zip us) fun _=>none) s1):
  Inv (bV CX P w K mg base N qual scope f cd A outer s H E) [] (start N vs) H s1:=by
 have dX:ps.length≤N.length:=by have:=congrArg List.length S.pre;rw[List.length_take]at this;omega
 obtain⟨h1,tk,rfl,hk⟩:=x.done
 have iD:∀b:Addr,b∉(bV CX P w K mg base N qual scope f cd A outer s H E).ex:=fun b z=>absurd (show b∈([]:List Addr) from z) (by simp)
 refine⟨⟨e0.mod,S.kind,rfl,rfl,Nat.le_refl _,fun y z c h1 h2=> ?_,fun y hy=> ?_,fun y c _ h=> ?_,fun _=>hd,Around.frames_deeper e0.frames,.inr ⟨rfl,rfl⟩,fun b z=>absurd z (iD b),e0.bs,e0.js,fun b _ _=>iD b,fun b z=>absurd z (iD b),e0.dZ,e0.g9⟩,
  rfl,e0.bare,Un.kept hk,⟨_,x.toInCall.ns,fun i y v h1 h2 h3=> ?_⟩,fun y c h=> ⟨_,x.cell y c h⟩,e0.ai.fresh (Nat.le_refl _),fun y c h=> ?_,fun p hp=>absurd (show p∈([]:List (Addr×Obj)) from hp) (by simp),e0.ai.kept hk,?_⟩
 ·exact name_of_addr x.apart (PySem.mem_of_lookup h1) (PySem.mem_of_lookup h2)
 ·have hy:scope.names.lookup y=some .cell∨scope.names.lookup y=some .free:=hy
  rcases hy with hy |hy
  ·exact Ej hy
  ·exact absurd rfl (S.IB _ (PySem.mem_of_lookup hy))
 ·exact Nat.le_of_lt (x.above y c (PySem.mem_of_lookup h))
 ·have hi:i<vs.length:=by
   unfold start at h2
   by_cases hi:i<vs.length
   ·exact hi
   ·rw[List.getElem?_append_right (by simpa using hi)]at h2
    rw[List.getElem?_replicate]at h2
    split at h2<;>cases h2
  have ha:vs[i]? =some v:=by
   unfold start at h2
   rw[List.getElem?_append_left (by simpa using hi),List.getElem?_map]at h2
   cases e:vs[i]? with
   |none=>rw[e]at h2;cases h2
   |some a=>rw[e]at h2;cases h2;rfl
  obtain⟨u,hu,rv⟩:=r.get ha
  have hp:ps[i]? =some y:=by
   rw[←S.pre,List.getElem?_take_of_lt (by omega)];exact h1
  have A0:ps.Nodup:=by rw[←S.pre];exact S.nd.sublist (List.take_sublist _ _)
  refine⟨u,rv,?_⟩
  rcases S.par y (List.mem_of_getElem? hp) with k |k
  ·exact .inl ⟨k,Uo A0 hp hu k⟩
  ·obtain⟨c,e⟩:=Ej (n:=s.heap.objs.size+1) k
   refine .inr ⟨.inl k,c,e,?_⟩
   have q:=x.cell y c e
   rw[Uq A0 hp hu (by show scope.names.lookup y≠_;rw[k];decide)]at q
   exact q
 ·exact e0.ai.fresh (Nat.le_of_lt (x.above y c (PySem.mem_of_lookup h)))
 ·unfold start
  show _=N.length
  rw[List.length_append,List.length_map,List.length_replicate]
  omega
theorem yG {CX:i0}{P:Program}{w:World}{K:PySem.W.Frag}{mg:Str→Option Value}{base:Heap}{k:Nat}{f:Addr}{name qual:Str}{params:Arguments}{body:List Stmt}{scope:Scope}{dV kV doc pm ao ct oc:Value}{an od:Option Addr}
    {fA:Array (Option Value)}{N ps:List Str}{sp:Sp} (lk:K.lookup f=some ⟨oc,od,.func (PySem.W.fnOf name qual params body scope dV kV doc pm an ao ct),fA⟩) (cP:PySem.W.codeIn K ao qual=true) (S:bu N ps scope)
    (len:∀vs H Q E,sp vs H Q E→vs.length=ps.length)
    (xM:∀(A:Around) (outer:List Env) (s:Shared) (H:Hp) (vs:List V) (Q:VK) (E:XK),cg k (A.deeper (envOfC qual scope s.heap.objs.size f ao))→sp vs H Q E→
      ∃t,eZ (bV CX P w K mg base N qual scope f ao A outer s H E) body t∧t {nx:=fun _ H'=>Q .ae H',rt:=Q} (start N vs) H):
    az P w K mg base CX (k+1) f (PySem.W.fnOf name qual params body scope dV kV doc pm an ao ct) ps sp:=by
  refine⟨len,fun A outer s H args us vs Q E hr e0 hb r dI=> ?_⟩
  have hl:=len _ _ _ _ dI
  have KX:K.In s.heap:=e0.mod.lL.keeps fun b o e=> (e0.bs b o e).1
  have lim:s.heap.NoLimit:=e0.mod.nolimit.keeps fun b o e=> (e0.bs b o e).1
  have Mh:∀y∈ps.zip us,scope.names.lookup y.1=some .local∨(scope.names.lookup y.1=some .cell∧((cellsFrom (s.heap.objs.size+1) scope.names []).lookup y.1).isSome=true):=fun⟨n,v⟩ hy=>by
    rcases S.par n (List.of_mem_zip hy).1 with q |q
    · exact .inl q
    · exact .inr ⟨q,PySem.W.cellsFrom_some _ _ _ (.inl q)⟩
  refine codeAny_call_function hr.depth (KX _ _ lk) rfl S.co S.gen rfl (PySem.W.codeRec_of KX cP) (hb _ _ _ _ ?_)
  refine wpAny_newFunctionEnv_cells S.kind Mh fun env he s1 x=> ?_
  subst he
  refine⟨lim.keeps x.toInCall.keep,codeAny_func ?_⟩
  obtain⟨t,ht,hq⟩:=xM A outer s H vs Q E (hr.deeper _) dI
  have I:Inv (bV CX P w K mg base N qual scope f ao A outer s H E) [] (start N vs) H s1:=Sm S hr.hd e0 hl r x
  refine wpAny_mono (ht [] s1 (start N vs) H _ I hq) (fun fl s' hs=> ?_) fun e s' hs=>hs
  have fin:∀{aj:St}{H':Hp}{v:V}{u:Value},Inv (bV CX P w K mg base N qual scope f ao A outer s H E) [] aj H' s'→RelV v u→Q v H'→CE outer P w H s Q u s':=
    fun {aj H' v u} J rv q=> ⟨v,H',J.os,J.bare,J.base,J.ai,rv,q⟩
  cases fl with
  |ret u=>
   obtain⟨v,aj,H',J,rv,q⟩:=hs
   exact fin J rv q
  |next=>
   obtain⟨aj,H',J,q⟩:=hs
   exact fin (v:=V.ae) (u:=Value.none) J rfl q
  |brk=>
   obtain⟨_,_,_,q⟩:=hs
   exact False.elim q
  |cont=>
   obtain⟨_,_,_,q⟩:=hs
   exact False.elim q
section
variable {X:Cx}{x:Str}{p pos:Pos}{e:Expr}{es:List Expr}{t:TA}{id T:String}{r:List V→Hp→VK→Prop}
def zD (r:List V→Hp→VK→Prop) (t:TA):TE:=fun σ H Q=>t σ H fun vs H1=>r vs H1 Q
theorem Zm (hc:eE X (.builtin id) r) (hg:Gl X x) (hm:X.mg x=none) (hv:bootBuiltins x=some (.builtin id)) (ha:PA X (e::es) t) (hn:x≠ "__name__" :=by decide) (iQ:(x==("__debug__" :Str))=false:=by decide)
  (he:starEach (e::es) X.env=(false,eval e X.env)::starEach es X.env:=by rfl) (dX:(backTo pos (starEach es X.env)).any (·.1)=false:=by rfl):PE X (.Call (.Name x p) (e::es) [] pos) (zD r t):=by
 intro pins s σ H Q I h
 refine wpAny_Call_Name_kw (Ym I hg hm hv ?_ hn iQ)
 exact PyProof.Rows.callWith_builtin1 (au (ha pos pins s σ H _ I h) fun us s1 ⟨vs,H1,I1,r1,q1⟩=>hc pins s1 σ H1 vs us Q I1 r1 q1) he dX
theorem Yh (hc:eE X (.type T) r) (hg:Gl X x) (hm:X.mg x=none) (hv:bootBuiltins x=some (.type T)) (ha:PA X (e::es) t) (hn:x≠ "__name__" :=by decide) (iQ:(x==("__debug__" :Str))=false:=by decide)
  (he:starEach (e::es) X.env=(false,eval e X.env)::starEach es X.env:=by rfl) (dX:(backTo pos (starEach es X.env)).any (·.1)=false:=by rfl):PE X (.Call (.Name x p) (e::es) [] pos) (zD r t):=by
 intro pins s σ H Q I h
 refine wpAny_Call_Name_kw (Ym I hg hm hv ?_ hn iQ)
 exact PyProof.Rows.callWith_type1 (au (ha pos pins s σ H _ I h) fun us s1 ⟨vs,H1,I1,r1,q1⟩=>hc pins s1 σ H1 vs us Q I1 r1 q1) he dX
end
end L2
namespace HT
open PySem PyProof.Rows
def lexLt:List Int→List Int→Bool
 | [],[]=>false
 | [],_::_=>true
 |_::_,[]=>false
 |x::xs,y::ys=>if x=y then lexLt xs ys else decide (x<y)
theorem Bc (x y:Int) (xs ys:List Int):lexLt (x::xs) (y::ys)=if x=y then lexLt xs ys else decide (x<y):=rfl
theorem WQ:lexLt [] []=false:=rfl
theorem Wv (y:Int) (ys:List Int):lexLt [] (y::ys)=true:=rfl
theorem Wx (x:Int) (xs:List Int):lexLt (x::xs) []=false:=rfl
theorem P5 (A:Around) (s:Shared) (a:Int) (t:Tok) (c:Int) (u:Tok):∃e,SeqAt.EqAt A s (.int a t) (.int c u) e∧(e=true↔a=c):=
 ⟨(a==c),SeqAt.EqAt.int_int a t c u,by simp⟩
theorem QQ (A:Around) (s:Shared) (a:Int) (t:Tok) (c:Int) (u:Tok) (prog:Program) (w:World) (E:Value→Shared→Prop) (Q:Value→Shared→Prop) (h:Q (.bool (decide (a<c))) s):
  wpAny (model prog w) A (richCompare .Lt (.int a t) (.int c u)) Q E s:=
 (PyProof.Rows.lt_int h:wpAny (model prog w) A (compareOp .Lt (.int a t) (.int c u)) Q E s)
section
open PySem.SeqAt
open PySem.AutoSeq1 (wpAny_loadPart')
open PySem.MeetsSeq PySem.MeetsSeq2 PySem.MeetsSeq3
theorem WM (l b:Addr) (items items2:Array Value) (n n2:Nat) (dd kK:Option Addr) (sl gJ:Array (Option Value)) (ns ms:List Int) (hi:IntsAre items.toList ns) (hj:IntsAre items2.toList ms):
  Meets (Builtin.«tuple.__lt__» ⟨[.ref l,.ref b],[]⟩)
   (fun _ R s=>s.heap.get? l=some {cls:=.type "tuple",dict:=dd,data:=.seq items n,slots:=sl}∧s.heap.get? b=some {cls:=.type "tuple",dict:=kK,data:=.seq items2 n2,slots:=gJ}∧
    R (.ok (.ret (.bool (lexLt ns ms)))) s):=
 .of_wp fun prog w A R s h=>by
  obtain⟨hp,g,d,tk,os⟩:=s;obtain⟨hl,hb,h⟩:=h
  have f2:=AutoSeq1.sub_tuple_tuple
  have z1:items.size=ns.length:=by rw[←hi.length];simp
  have z2:items2.size=ms.length:=by rw[←hj.length];simp
  wp_walk using wpAny_loadPart' hl,wpAny_loadPart' hb,wpAny_forIn_list _ (fun rest b s'=>b.1=none∧s'=⟨hp,g,d,tk,os⟩∧∃(vs ws:List Value) (nY nZ:List Int),rest=vs.zip ws∧
   IntsAre vs nY∧IntsAre ws nZ∧nY.length+items2.size=nZ.length+items.size∧R (.ok (.ret (.bool (lexLt nY nZ)))) ⟨hp,g,d,tk,os⟩) _
  case turn=>
   rintro⟨y,x⟩ rest b s' ⟨dw,rfl,vs,ws,nY,nZ,hz,wM,tf,hlen,hR⟩
   cases wM with
   |nil=>rw[List.zip_nil_left]at hz;cases hz
   |cons a t K7=>
    cases tf with
    |nil=>rw[List.zip_nil_right]at hz;cases hz
    |cons c u K5=>
     rw[List.zip_cons_cons]at hz
     injection hz with K3 Lx
     injection K3 with hy hx
     subst hy hx
     rw[Bc]at hR
     simp only[List.length_cons]at hlen
     obtain⟨e,he,BV⟩:=P5 A.in1 ⟨hp,g,d,tk,os⟩ a t c u
     refine wpAny_bind (he prog w _ _ ?_)
     cases e with
     |true=>
      rw[if_pos (BV.mp rfl)]at hR
      wp_walk
      exact⟨rfl,rfl,_,_,_,_,Lx,K7,K5,by omega,hR⟩
     |false=>
      rw[if_neg (fun q=>absurd (BV.mpr q) Bool.false_ne_true)]at hR
      have Lu:=QQ A.in1 ⟨hp,g,d,tk,os⟩ a t c u prog w
      wp_walk using Lu
      exact⟨_,rfl,by simpa using hR⟩
  case fin=>
   rintro⟨b1,b2⟩ s' ⟨dw,rfl,vs,ws,nY,nZ,hz,wM,tf,hlen,hR⟩
   simp only at dw
   subst dw
   have hv:lexLt nY nZ=decide (items.size<items2.size):=by
    cases wM with
    |nil=>
     cases tf with
     |nil=>
      simp only[List.length_nil]at hlen
      rw[WQ]
      exact(decide_eq_false (by omega)).symm
     |cons c u hw=>
      simp only[List.length_nil,List.length_cons]at hlen
      rw[Wv]
      exact(decide_eq_true (by omega)).symm
    |cons a t hv=>
     cases tf with
     |nil=>
      simp only[List.length_nil,List.length_cons]at hlen
      rw[Wx]
      exact(decide_eq_false (by omega)).symm
     |cons c u hw=>
      rw[List.zip_cons_cons]at hz
      cases hz
   rw[hv]at hR
   wp_walk
   exact⟨_,rfl,by simpa[Builtin.Tuple.tupleCompareSizes] using hR⟩
  case h=>
   exact⟨rfl,rfl,items.toList,items2.toList,ns,ms,rfl,hi,hj,by omega,h⟩
end
section
variable {prog:Program}{w:World}{A:Around}{E:Value→Shared→Prop}{s:Shared}
theorem A9 {l b:Addr}{items items2:Array Value}{ns ms:List Int}{Q:Value→Shared→Prop}(hl:IsTup s.heap l items) (hb:IsTup s.heap b items2) (hi:IntsAre items.toList ns) (hj:IntsAre items2.toList ms)
  (hu:A.units<cLine) (h:Q (.bool (lexLt ns ms)) s):wpAny (model prog w) A (compareOp .Lt (.ref l) (.ref b)) Q E s:=by
 obtain⟨⟨cls,dd,data,sl⟩,ho,hc,n,hd⟩:=id hl
 obtain⟨⟨C9,kK,data2,gJ⟩,jf,iR,n2,hd2⟩:=id hb
 simp only at hc hd iR hd2
 subst hc hd iR hd2
 exact richCompare_meets_room (op:=.Lt) ⟨_,ho,rfl⟩ ⟨_,jf,rfl⟩ PySem.F.slot_tuple_lt PySem.F.entry_tuple_lt (PySem.F.args_tuple_lt_2 _ _) (WM l b items items2 n n2 dd kK sl gJ ns ms hi hj)
  ⟨ho,jf,show Value.bool (lexLt ns ms)≠Value.notImplemented∧Q (.bool (lexLt ns ms)) s from ⟨(fun x=>nomatch x),h⟩⟩ hu
theorem OF {t b:Addr}{vs ws:List Value}{Q:Value→Shared→Prop}(ht:IsTup s.heap t vs.toArray) (hb:IsTup s.heap b ws.toArray) (hv:vs≠[])
  (h1:ws=[]→Q (.ref t) s) (h2:ws≠[]→Q (.ref s.heap.objs.size) {s with heap:=s.heap.push {cls:=.type "tuple",data:=.seq (vs++ws).toArray} })
  (bY:vs.length+ws.length≤sizeLine):wpAny (model prog w) A (binaryOp .Add (.ref t) (.ref b)) Q E s:=by
 obtain⟨⟨cls,dd,data,sl⟩,ho,hc,n,hd⟩:=id ht
 obtain⟨⟨C9,kK,data2,gJ⟩,jf,iR,n2,hd2⟩:=id hb
 simp only at hc hd iR hd2
 subst hc hd iR hd2
 have e:vs.toArray++ws.toArray=(vs++ws).toArray:=by simp
 by_cases hw:ws=[]
 ·exact concat_meets ⟨_,ho,rfl⟩ ⟨_,jf,rfl⟩ noFill_tuple_add seq_tuple_add PySem.F.slot_tuple_add PySem.F.entry_tuple_add (PySem.F.args_tuple_add_2 _ _)
   (tuple_addW1 t b vs.toArray ws.toArray n n2 dd kK sl gJ (by simpa using hv) (by simp[hw])) ⟨ho,jf,h1 hw⟩
 ·refine concat_meets ⟨_,ho,rfl⟩ ⟨_,jf,rfl⟩ noFill_tuple_add seq_tuple_add PySem.F.slot_tuple_add PySem.F.entry_tuple_add (PySem.F.args_tuple_add_2 _ _)
   (tuple_addW2 t b vs.toArray ws.toArray n n2 dd kK sl gJ (by simpa using hv) (by simpa using hw) (by rw[List.size_toArray,List.size_toArray];exact bY)) ⟨ho,jf,?_⟩
  rw[e]
  exact h2 hw
def aF (n d:Nat):Option Int→Nat
 |none=>d
 |some v=>if v<0 then (v+(n:Int)).toNat else min v.toNat n
theorem vN (n d:Nat):aF n d none=d:=rfl
theorem jG (n d k:Nat):aF n d (some (k:Int))=min k n:=by
 show(if (k:Int)<0 then ((k:Int)+(n:Int)).toNat else min (k:Int).toNat n)=min k n
 rw[if_neg (by omega),Int.toNat_natCast]
theorem O6 (n d:Nat) (hd:d≤n) (o:Option Int):aF n d o≤n:=by
 cases o with
 |none=>exact hd
 |some v=>
  show(if v<0 then (v+(n:Int)).toNat else min v.toNat n)≤n
  by_cases hv:v<0
  ·rw[if_pos hv];omega
  ·rw[if_neg hv];exact Nat.min_le_right _ _
theorem DQ (v:Int) (n d:Nat):(if v<0 then max (v+(n:Int)) 0 else min v (n:Int))=((aF n d (some v):Nat):Int):=by
 show(if v<0 then max (v+(n:Int)) 0 else min v (n:Int))=(((if v<0 then (v+(n:Int)).toNat else min v.toNat n):Nat):Int)
 by_cases hv:v<0
 ·simp only[if_pos hv];omega
 ·simp only[if_neg hv];omega
theorem SF (lo hi:Option Int) (n:Nat):Builtin.Slice.sliceAdjust lo hi 1 (n:Int)=(((aF n 0 lo:Nat):Int),((aF n n hi:Nat):Int)):=by
 have h1:¬((1:Int)<0):=by omega
 unfold Builtin.Slice.sliceAdjust
 simp only[h1,if_false]
 refine Prod.ext ?_ ?_
 ·cases lo with
  |none=>rfl
  |some v=>exact DQ v n 0
 ·cases hi with
  |none=>rfl
  |some v=>exact DQ v n n
theorem SW (i j:Nat):Builtin.Slice.slicePlaces (i:Int) (j:Int) 1=j - i:=by
 unfold Builtin.Slice.slicePlaces
 have h1:(1:Int)>0:=by omega
 simp only[h1,if_true,Int.ediv_one]
 split<;>omega
theorem J8 {v:Value}{o:Option Int}{Q:Option Int→Shared→Prop}(p:IsPart v o) (h:Q o s):wpAny (model prog w) A (Builtin.Slice.slicePartIndex v) Q E s:=by
 cases p with
 |none=>exact slicePart_none h
 |int i t=>exact slicePart_int h
theorem zW {sl:Addr}{vl vu:Value}{lo hi:Option Int}{n:Nat}{Q:Int×Int×Nat→Shared→Prop}(hs:s.heap.IsSliceOf sl vl vu .none) (pl:IsPart vl lo) (pu:IsPart vu hi)
  (h:Q (((aF n 0 lo:Nat):Int),1,aF n n hi - aF n 0 lo) s):wpAny (model prog w) A (Builtin.Slice.sliceApplied (.ref sl) (pure (n:Int))) Q E s:=by
 obtain⟨os,md,tZ,qt⟩:=id hs
 unfold Builtin.Slice.sliceApplied Builtin.Slice.sliceFields
 refine wpAny_bind (wpAny_bind (wpAny_field md qt (x:=vl) rfl (wpAny_bind (wpAny_field md qt (x:=vu) rfl (wpAny_bind (wpAny_field md qt (x:=.none) rfl (wpAny_pure ?_)))))))
 refine wpAny_bind (slicePart_none ?_)
 show wpAny _ _ (if ((1:Int)==0)=true then _ else _) _ _ s
 rw[if_neg (by decide)]
 refine wpAny_bind (J8 pl (wpAny_bind (J8 pu (wpAny_bind (wpAny_pure ?_)))))
 show wpAny _ _ (match Builtin.Slice.sliceAdjust lo hi 1 (n:Int) with |(lo,hi)=>pure (lo,(1:Int),Builtin.Slice.slicePlaces lo hi 1)) _ _ s
 rw[SF lo hi n]
 show wpAny _ _ (pure (((aF n 0 lo:Nat):Int),(1:Int),Builtin.Slice.slicePlaces ((aF n 0 lo:Nat):Int) ((aF n n hi:Nat):Int) 1)) _ _ s
 rw[SW]
 exact wpAny_pure h
theorem Rq (xs:Array Value) (i k:Nat):((List.range k).filterMap fun(m:Nat)=>xs[((i:Int)+(m:Int)*1).toNat]?).toArray=((xs.toList.drop i).take k).toArray:=by
 have e:(fun(m:Nat)=>xs[((i:Int)+(m:Int)*1).toNat]?)=fun m=>xs[i+m]? :=by
  funext m
  have:((i:Int)+(m:Int)*1).toNat=i+m:=by omega
  rw[this]
 rw[e]
 have:=pick_run xs i k
 rw[List.filterMap_map]at this
 have e2:((fun x=>xs[x]?)∘fun x=>i+x)=fun m=>xs[i+m]? :=rfl
 rw[e2]at this
 rw[this]
theorem Nl {t sl:Addr}{items:Array Value}{vl vu:Value}{lo hi:Option Int}{Q:Value→Shared→Prop}(ht:IsTup s.heap t items) (hs:s.heap.IsSliceOf sl vl vu .none) (pl:IsPart vl lo) (pu:IsPart vu hi)
  (hw:¬(aF items.size 0 lo=0∧aF items.size items.size hi=items.size))
  (h:Q (.ref s.heap.objs.size) {s with heap:=s.heap.push {cls:=.type "tuple",data:=.seq ((items.toList.drop (aF items.size 0 lo)).take (aF items.size items.size hi - aF items.size 0 lo)).toArray} })
  (bY:items.size≤sizeLine):wpAny (model prog w) A (getItem (.ref t) (.ref sl)) Q E s:=by
 have tj:sizeOk (.seq ((items.toList.drop (aF items.size 0 lo)).take (aF items.size items.size hi - aF items.size 0 lo)).toArray):=by
  show((items.toList.drop (aF items.size 0 lo)).take (aF items.size items.size hi - aF items.size 0 lo)).toArray.size≤sizeLine
  rw[List.size_toArray,List.length_take,List.length_drop,Array.length_toList]
  omega
 have hj:aF items.size items.size hi≤items.size:=O6 _ _ (Nat.le_refl _) hi
 obtain⟨os,md,tZ,qt⟩:=id hs
 have fo:s.TypeIs (.ref sl) "slice" :=⟨os,md,tZ⟩
 unfold getItem
 try with_reducible refine wpAny_holding ?_
 first |refine wpAny_bind (wpAny_pure ?_) |skip
 refine wpAny_bind (wpAny_sequenceKey ht.typeIs (by decide) ?_)
 refine wpAny_bind (wpAny_callSpecial?_slot (name:=Str.ofString "__getitem__") ht.typeIs PyProof.Rows.slot_tuple_getitem
  (wpAny_call_entry PyProof.Rows.slot_tuple_getitem ht.typeIs entry_tuple_getitem ?_ (args_tuple_getitem _ _)))
 show wpAny _ _ (Builtin.Tuple.tupleItemsOf (.ref t) >>=_) _ _ s
 refine wpAny_bind (tupleItemsOf_ ht ?_)
 refine wpAny_bind (wpAny_typeOf fo ?_)
 rw[if_pos (by decide)]
 refine wpAny_bind (zW hs pl pu ?_)
 have xk:¬((((aF items.size 0 lo:Nat):Int)==0&&(1:Int)==1&&(aF items.size items.size hi - aF items.size 0 lo)==items.size)=true):=by
  intro q
  rw[Bool.and_eq_true,Bool.and_eq_true]at q
  have q1:((aF items.size 0 lo:Nat):Int)=0:=eq_of_beq q.1.1
  have q2:aF items.size items.size hi - aF items.size 0 lo=items.size:=eq_of_beq q.2
  exact hw ⟨by omega,by omega⟩
 show wpAny _ _ (if (((aF items.size 0 lo:Nat):Int)==0&&(1:Int)==1&&(aF items.size items.size hi - aF items.size 0 lo)==items.size)=true then _ else _) _ _ s
 rw[if_neg xk,Rq]
 first
  |exact wpAny_bind (m:=Builtin.Tuple.tupleExact _) (wpAny_newObj_type (wpAny_pure ⟨_,rfl,wpAny_pure h⟩) tj)
  |exact wpAny_bind (m:=Builtin.Tuple.tupleExact _) (wpAny_newObj_type (wpAny_bind (wpAny_pure (wpAny_pure ⟨_,rfl,wpAny_pure h⟩))) tj)
  |exact wpAny_bind (wpAny_bind (m:=Builtin.Tuple.tupleExact _) (wpAny_newObj_type (wpAny_pure (wpAny_pure ⟨_,rfl,wpAny_pure h⟩)) tj))
  |exact wpAny_bind (wpAny_bind (m:=Builtin.Tuple.tupleExact _) (wpAny_newObj_type (wpAny_pure ⟨_,rfl,wpAny_pure h⟩) tj))
end
end HT
namespace L2
open PySem PySem.Spec PyProof.Rows
abbrev TO:=St→Hp→(Option Int→Hp→Prop)→Prop
def PO (X:Cx) (e:Option Expr) (t:TO):Prop:=
 ∀(pins:List (Addr×Obj)) (s:Shared) (σ:St) (H:Hp) (Q:Option Int→Hp→Prop),Inv X pins σ H s→t σ H Q→
  wpAny (model X.prog X.w) X.A (evalPart e X.env) (fun u s'=> ∃o H',Inv X pins σ H' s'∧IsPart u o∧Q o H') X.xe s
def uX:TO:=fun _ H Q=>Q none H
def uW (t:TE):TO:=fun σ H Q=>t σ H fun x H1=> ∃i,x=.int i∧Q (some i) H1
theorem Jd {ns:List Int} :∀{us:List Value},Vals (ns.map V.int) us→IntsAre us ns:=by
 induction ns with
 |nil=>intro us r;rw[List.map_nil]at r;cases r;exact .nil
 |cons n ns ih=>
  intro us r
  rw[List.map_cons]at r
  cases r with
  |cons r1 r2=>
   obtain⟨t,e⟩:=r1
   subst e
   exact .cons n t (ih r2)
section
variable {X:Cx}{e:Expr}{te:TE}{lo hi:Option Expr}{tl th:TO}{pos p2:Pos}
theorem Z7:PO X none uX:=by
 intro pins s σ H Q I h
 rw[evalPart_none]
 exact wpAny_pure ⟨none,H,I,.none,h⟩
theorem Z6 (h:PE X e te):PO X (some e) (uW te):=by
 intro pins s σ H Q I hw
 rw[evalPart_some]
 refine au (h pins s σ H _ I hw) fun u s1 ⟨x,H1,I1,r1,q1⟩=> ?_
 obtain⟨i,rfl,q⟩:=q1
 obtain⟨t,rfl⟩:=r1
 exact⟨some i,H1,I1,.int i t,q⟩
def uB (X:Cx) (r:V→Option Int→Option Int→Hp→VK→Prop):Prop:=
 ∀(pins:List (Addr×Obj)) (s:Shared) (σ:St) (H:Hp) (x:V) (v vl vu:Value) (lo hi:Option Int) (sl:Addr) (Q:VK),Inv X pins σ H s→RelV x v→s.heap.IsSliceOf sl vl vu .none→IsPart vl lo→IsPart vu hi→r x lo hi H Q→
  ∃T id,typeLookup (.type T) "__getitem__" =pure (some (.builtin id))∧s.TypeIs v T∧wpAny (model X.prog X.w) X.A (getItem v (.ref sl)) (EP X pins σ Q) X.xe s
def uV (r:V→Option Int→Option Int→Hp→VK→Prop) (te:TE) (tl th:TO):TE:=fun σ H Q=>te σ H fun x H1=>tl σ H1 fun l H2=>th σ H2 fun u H3=>r x l u H3 Q
theorem ZW {r:V→Option Int→Option Int→Hp→VK→Prop}(hr:uB X r) (he:PE X e te) (hl:PO X lo tl) (hu:PO X hi th):PE X (.Subscript e (.Slice lo hi none p2) pos) (uV r te tl th):=by
 intro pins s σ H Q I h
 refine Subscript_ (au (he pins s σ H _ I h) fun v s1 ⟨x,H1,I1,r1,q1⟩=> ?_)
 refine wpAny_Slice (au (hl pins s1 σ H1 _ I1 q1) fun vl s2 ⟨l,H2,I2,pl,q2⟩=>au (hu pins s2 σ H2 _ I2 q2) fun vu s3 ⟨u,H3,I3,pu,q3⟩=> ?_)
 rw[evalPart_none]
 refine wpAny_pure ?_
 have I4:Inv X pins σ H3 {s3 with heap:=s3.heap.push {cls:=.type "slice",data:=.fields #[vl,vu,.none]} } :=I3.kept (t':=s3.toks) fun b ob q=>Heap.get?_push_of_some _ q
 obtain⟨T,id,hT,ht,hg⟩:=hr pins {s3 with heap:=s3.heap.push {cls:=.type "slice",data:=.fields #[vl,vu,.none]} } σ H3 x v vl vu l u s3.heap.objs.size Q I4 r1 (Heap.IsSliceOf.new ..) pl pu q3
 show wpAny (model X.prog X.w) X.A (subscriptTail e (.Slice lo hi none p2) v (.ref s3.heap.objs.size)) (EP X pins σ Q) X.xe {s3 with heap:=s3.heap.push {cls:=.type "slice",data:=.fields #[vl,vu,.none]} }
 exact tail_any (ops:=[.ref s3.heap.objs.size,v]) ht hT hg (by with_unfolding_all rfl)
def aV (xs:List V) (lo hi:Option Int):List V:=(xs.drop (HT.aF xs.length 0 lo)).take (HT.aF xs.length xs.length hi - HT.aF xs.length 0 lo)
theorem Yr (xs:List V) (lo hi:Option Int):(aV xs lo hi).length≤xs.length:=by
 unfold aV
 rw[List.length_take,List.length_drop]
 omega
def Hk (K:PySem.W.Frag):V→Option Int→Option Int→Hp→VK→Prop:=fun x lo hi H Q=> ∃a xs,x=.ref a∧ah K H a xs∧
 ¬(HT.aF xs.length 0 lo=0∧HT.aF xs.length xs.length hi=xs.length)∧∀p,H p=none→Q (.ref p) (upd H p (.tup (aV xs lo hi)))
theorem Y7:uB X (Hk X.K):=by
 intro pins s σ H x v vl vu lo hi sl Q I rx hs pl pu h
 obtain⟨a,xs,rfl,hx,hw,q⟩:=h
 cases rx
 obtain⟨its,r,ht,hz⟩:=I.tuple hx
 have hlen:its.toArray.size=xs.length:=by rw[List.size_toArray];exact r.length.symm
 refine⟨"tuple",_,PyProof.Rows.slot_tuple_getitem.lookup,ht.typeIs,?_⟩
 refine HT.Nl ht hs pl pu (by rw[hlen];exact hw) ?_ (by rw[hlen];exact hz)
 rw[hlen]
 refine⟨.ref s.heap.objs.size,_,I.laid (t':=s.toks) (o:=.tup (aV xs lo hi)) (fun b ob q=>Heap.get?_push_of_some _ q) (Nat.le_refl _) ?_,rfl,q _ (I.ai.fresh (Nat.le_refl _))⟩
 exact⟨Nat.le_trans (Yr xs lo hi) hz,_,(r.drop (HT.aF xs.length 0 lo)).take (HT.aF xs.length xs.length hi - HT.aF xs.length 0 lo),IsTup.new _ _,_,Heap.get?_push_size _ rfl,rfl⟩
def vZ (K:PySem.W.Frag):R2:=fun x y H Q=> ∃a b xs ys,x=.ref a∧y=.ref b∧ah K H a xs∧ah K H b ys∧xs≠[]∧xs.length+ys.length≤sizeLine∧
 (ys=[]→Q (.ref a) H)∧(ys≠[]→∀p,H p=none→Q (.ref p) (upd H p (.tup (xs++ys))))
theorem Vals.wu {xs:List V}{us:List Value}(r:Vals xs us):us=[]↔xs=[]:=by
 cases r with
 |nil=>simp
 |cons _ _=>simp
theorem EF:bf X (binaryOp .Add) (vZ X.K):=by
 intro pins s σ H x y v u Q I rx ry h
 obtain⟨a,b,xs,ys,rfl,rfl,ha,hb,hx,hz,q1,q2⟩:=h
 cases rx
 cases ry
 obtain⟨its,r1,p1,_⟩:=I.tuple ha
 obtain⟨gQ,r2,p2,_⟩:=I.tuple hb
 refine HT.OF p1 p2 (fun z=>hx (r1.wu.mp z)) (fun z=> ⟨.ref a,H,I,rfl,q1 (r2.wu.mp z)⟩) (fun z=> ?_) (by rw[←r1.length,←r2.length];exact hz)
 refine⟨.ref s.heap.objs.size,_,I.laid (t':=s.toks) (o:=.tup (xs++ys)) (fun b ob q=>Heap.get?_push_of_some _ q) (Nat.le_refl _) ?_,rfl,q2 (fun w=>z (r2.wu.mpr w)) _ (I.ai.fresh (Nat.le_refl _))⟩
 exact⟨by rw[List.length_append];exact hz,_,r1.append r2,IsTup.new _ _,_,Heap.get?_push_size _ rfl,rfl⟩
end
def lP (n:Nat) (i:Int):Option Nat:=if 0≤i then (if i<n then some i.toNat else none) else if -(n:Int)≤i then some (i+n).toNat else none
def ft {α:Type} (xs:List α) (i:Int):Option α:=(lP xs.length i).bind fun j=>xs[j]?
theorem DZ {n:Nat}{i:Int}{j:Nat}(h:lP n i=some j):seqIndex? i n=some j∧j<n∧ -(n:Int)≤i∧i<n:=by
 unfold lP at h
 by_cases h0:0≤i
 ·rw[if_pos h0]at h
  by_cases h1:i<n
  ·rw[if_pos h1]at h
   have e:i.toNat=j:=Option.some.inj h
   exact⟨by rw[seqIndex_of h0 h1,e],by omega,by omega,h1⟩
  ·rw[if_neg h1]at h;cases h
 ·rw[if_neg h0]at h
  by_cases h1: -(n:Int)≤i
  ·rw[if_pos h1]at h
   have e:(i+n).toNat=j:=Option.some.inj h
   exact⟨by rw[seqIndex_neg (by omega) h1,e],by omega,h1,by omega⟩
  ·rw[if_neg h1]at h;cases h
theorem DO {α:Type}{xs:List α}{i:Int}{v:α}(h:ft xs i=some v):∃j,seqIndex? i xs.length=some j∧xs[j]? =some v∧j<xs.length∧ -(xs.length:Int)≤i∧i<xs.length:=by
 unfold ft at h
 cases e:lP xs.length i with
 |none=>rw[e]at h;cases h
 |some j=>
  rw[e]at h
  obtain⟨h1,h2,h3,h4⟩:=DZ e
  exact⟨j,h1,h,h2,h3,h4⟩
theorem Yc {α:Type}{xs:List α}{j:Nat}{v:α}(h:xs[j]? =some v):ft xs (j:Int)=some v:=by
 have hj:j<xs.length:=(List.getElem?_eq_some_iff.mp h).1
 have e:lP xs.length (j:Int)=some j:=by
  unfold lP
  rw[if_pos (by omega),if_pos (by omega)];simp
 unfold ft;rw[e];exact h
def Th (b:Expr):Prop:=∀o i,subscripted b false o i=operate [o,i] (getItem o i)
def mZ (X:Cx) (r:R2):Prop:=
 ∀(value slice:Expr) (pins:List (Addr×Obj)) (s:Shared) (σ:St) (H:Hp) (x y:V) (v u:Value) (Q:VK),Inv X pins σ H s→RelV x v→RelV y u→r x y H Q→
  subscripted slice false v u=operate [v,u] (getItem v u)→wpAny (model X.prog X.w) X.A (subscriptTail value slice v u) (EP X pins σ Q) X.xe s
def uH (X:Cx) (id:String) (r:V→List V→Hp→VK→Prop):Prop:=
 ∀(pins:List (Addr×Obj)) (s:Shared) (σ:St) (H:Hp) (x:V) (xs:List V) (v:Value) (us:List Value) (Q:VK),Inv X pins σ H s→RelV x v→Vals xs us→r x xs H Q→
  wpAny (model X.prog X.w) X.A (call (.builtin id) (v::us)) (EP X pins σ Q) X.xe s
section
variable {X:Cx}{a b:Expr}{ta tb:TE}{pos:Pos}
theorem ZI {r:R2}(hr:mZ X r) (ha:PE X a ta) (hb:PE X b tb) (hs:Th b):PE X (.Subscript a b pos) (kY r ta tb):=by
 intro pins s σ H Q I h
 exact Subscript_ (yx ha hb I h fun v u s2 x y H2 I2 rx ry q=>hr a b pins s2 σ H2 x y v u Q I2 rx ry q (hs _ _))
def Hv (K:PySem.W.Frag):R2:=fun x y H Q=> ∃p xs i v,x=.ref p∧y=.int i∧ag K H p xs∧ft xs i=some v∧Q v H
def pN (K:PySem.W.Frag):R2:=fun x y H Q=> ∃p xs i v,x=.ref p∧y=.int i∧ah K H p xs∧ft xs i=some v∧Q v H
theorem ZU:mZ X (Hv X.K):=by
 intro value slice pins s σ H x y v u Q I rx ry h hs
 obtain⟨p,xs,i,z,rfl,rfl,hq,he,q⟩:=h
 cases rx
 obtain⟨t,rfl⟩:=ry
 obtain⟨its,r,pl,hz⟩:=I.list hq
 obtain⟨j,h1,h2,h3,h4,h5⟩:=DO he
 obtain⟨w,ew,jH⟩:=r.get h2
 have hl:=r.length
 have hn:=sX
 have fin:EP X pins σ Q w s:=⟨z,H,I,jH,q⟩
 by_cases h0:0≤i
 ·have hj:i.toNat=j:=by
   rw[seqIndex_of h0 h5]at h1
   exact Option.some.inj h1
  exact item_listR pl.isList h0 (by omega) (by rw[hj];simpa using ew) fin hs
 ·have hj:(i+(its.toArray.size:Int)).toNat=j:=by
   rw[seqIndex_neg (by omega) h4]at h1
   rw[List.size_toArray,←hl]
   exact Option.some.inj h1
  exact subscriptTail_builtinR (x:=w) pl.isList.typeIs slot_list_getitem.lookup
   (wpAny_getItem_list_neg (Q:=fun r s'=>r=w∧EP X pins σ Q r s') pl.isList (by omega) (by rw[List.size_toArray]<;>omega) (by omega) (by rw[hj];simpa using ew) ⟨rfl,fin⟩) hs
theorem ZS:mZ X (pN X.K):=by
 intro value slice pins s σ H x y v u Q I rx ry h hs
 obtain⟨p,xs,i,z,rfl,rfl,hq,he,q⟩:=h
 cases rx
 obtain⟨t,rfl⟩:=ry
 obtain⟨its,r,pl,hz⟩:=I.tuple hq
 obtain⟨j,h1,h2,h3,h4,h5⟩:=DO he
 obtain⟨w,ew,jH⟩:=r.get h2
 have hl:=r.length
 have hn:=sX
 have fin:EP X pins σ Q w s:=⟨z,H,I,jH,q⟩
 exact subscriptTail_builtinR (x:=w) pl.typeIs slot_tuple_getitem.lookup
  (getItem_tuple (j:=j) (Q:=fun r s'=>r=w∧EP X pins σ Q r s') pl (by omega) (by omega) (by rw[List.size_toArray,←hl];exact h1) (by simpa using ew) ⟨rfl,fin⟩) hs
theorem SS (its:List Value) (n j:Nat) (u:Value):Obj.mapSeq (·.setIfInBounds j u) {cls:=.type "list",data:=.seq its.toArray n} = {cls:=.type "list",data:=.seq (its.set j u).toArray n} :=by
 simp[Obj.mapSeq]
theorem Inv.lst {pins:List (Addr×Obj)}{σ:St}{H:Hp}{s:Shared}{p:Addr}{xs:List V}(I:Inv X pins σ H s) (h:H p=some (.lst xs)):
  ∃(its:List Value) (n:Nat),Vals xs its∧s.heap.get? p=some {cls:=.type "list",data:=.seq its.toArray n}∧xs.length≤sizeLine:=by
 obtain⟨z,its,n,r,e⟩:=I.ai p _ h
 exact⟨its,n,r,e,z⟩
theorem Inv.Kq {pins:List (Addr×Obj)}{σ:St}{H:Hp}{s:Shared}{p:Addr}{xs ys:List V}{its its':List Value}{n n':Nat}{f:Obj→Obj}(I:Inv X pins σ H s) (h:H p=some (.lst xs))
  (ho:s.heap.get? p=some {cls:=.type "list",data:=.seq its.toArray n}) (hf:f {cls:=.type "list",data:=.seq its.toArray n} = {cls:=.type "list",data:=.seq its'.toArray n'}) (r:Vals ys its') (hz:ys.length≤sizeLine) (t:Nat):
  Inv X pins σ (upd H p (.lst ys)) {s with heap:=s.heap.update p f,toks:=t} :=by
 have e:(s.heap.update p f).get? p=some {cls:=.type "list",data:=.seq its'.toArray n'} :=by
  rw[Heap.get?_update_self f ho (by rw[hf]<;>rfl),hf]
 refine I.write (x:=p) (e:=p) (by rw[h];trivial) (.inl rfl) (fun b u hb q=> (Heap.get?_update_other _ _ (Ne.symm hb)).trans q) ⟨_,e⟩ ?_
 exact⟨hz,its',n',r,e⟩
def Hm:V→V→V→Hp→(Hp→Prop)→Prop:=fun o i v H Q=> ∃p xs k j,o=.ref p∧i=.int k∧H p=some (.lst xs)∧lP xs.length k=some j∧Q (upd H p (.lst (xs.set j v)))
theorem UU:ET X Hm:=by
 intro pins s σ H o i v ov iv u Q I ro ri rv h
 obtain⟨p,xs,k,j,rfl,rfl,hp,hj,q⟩:=h
 cases ro
 obtain⟨t,rfl⟩:=ri
 obtain⟨its,n,r,ho,hz⟩:=I.lst hp
 obtain⟨h1,h2,h3,h4⟩:=DZ hj
 have hl:=r.length
 have hn:=sX
 have I':Inv X pins σ (upd H p (.lst (xs.set j v))) {s with heap:=s.heap.update p (Obj.mapSeq (·.setIfInBounds j u))} :=
  I.Kq hp ho (SS its n j u) (r.set rv j) (by rw[List.length_set];exact hz) s.toks
 by_cases h0:0≤k
 ·have hk:k.toNat=j:=by
   rw[seqIndex_of h0 h4]at h1
   exact Option.some.inj h1
  exact PySem.W.ki_setAt ho h0 (by omega) (by rw[List.size_toArray,←hl];exact h4) (by rw[hk];exact⟨_,I',q⟩)
 ·have hk:(k+(its.toArray.size:Int)).toNat=j:=by
   rw[seqIndex_neg (by omega) h3]at h1
   rw[List.size_toArray,←hl]
   exact Option.some.inj h1
  exact PySem.W.ki_setBack ho (by omega) (by rw[List.size_toArray,←hl];exact h3) (by omega) (by rw[hk];exact⟨_,I',q⟩)
theorem Ut (lo hi:Option Int) (n:Nat):(sliceBounds lo hi none n).1=((HT.aF n 0 lo:Nat):Int)∧(sliceBounds lo hi none n).2.1=((HT.aF n n hi:Nat):Int)∧(sliceBounds lo hi none n).2.2=1:=by
 refine⟨?_,?_,rfl⟩
 ·cases lo with
  |none=>simp[sliceBounds,HT.aF]
  |some i=>
   simp only[sliceBounds,HT.aF,Option.getD_none,show(1:Int)>0 by decide,if_true]
   by_cases h:i<0
   ·simp only[h,if_true]<;>omega
   ·simp only[h,if_false]<;>omega
 ·cases hi with
  |none=>simp[sliceBounds,HT.aF]
  |some i=>
   simp only[sliceBounds,HT.aF,Option.getD_none,show(1:Int)>0 by decide,if_true]
   by_cases h:i<0
   ·simp only[h,if_true]<;>omega
   ·simp only[h,if_false]<;>omega
theorem WN (its:List Value) (lo hi:Option Int):slicePick its.toArray lo hi none=((its.drop (HT.aF its.length 0 lo)).take (HT.aF its.length its.length hi - HT.aF its.length 0 lo)).toArray:=by
 obtain⟨h1,h2,h3⟩:=Ut lo hi its.toArray.size
 unfold slicePick
 rw[h1,h2,h3]
 simp only[sliceRange_one,pick_run,List.size_toArray]<;>rfl
def Hl (K:PySem.W.Frag):V→Option Int→Option Int→Hp→VK→Prop:=fun x lo hi H Q=> ∃a xs,x=.ref a∧ag K H a xs∧∀p,H p=none→Q (.ref p) (upd H p (.lst (aV xs lo hi)))
theorem ED:uB X (Hl X.K):=by
 intro pins s σ H x v vl vu lo hi sl Q I rx hs pl pu h
 obtain⟨a,xs,rfl,hx,q⟩:=h
 cases rx
 obtain⟨its,r,ht,hz⟩:=I.list hx
 have hlen:=r.length
 refine⟨"list",_,slot_list_getitem.lookup,ht.isList.typeIs,?_⟩
 refine wpAny_getItem_list_slice ht.isList hs pl pu .none (by simp) ?_ (by rw[List.size_toArray]<;>omega)
 rw[WN,←hlen]
 refine⟨.ref s.heap.objs.size,_,I.laid (t':=s.toks) (o:=.lst (aV xs lo hi)) (fun b ob q=>Heap.get?_push_of_some _ q) (Nat.le_refl _) ?_,rfl,q _ (I.ai.fresh (Nat.le_refl _))⟩
 exact⟨Nat.le_trans (Yr xs lo hi) hz,_,0,(r.drop (HT.aF xs.length 0 lo)).take (HT.aF xs.length xs.length hi - HT.aF xs.length 0 lo),Heap.get?_push_size _ rfl⟩
def fq:V→Bool
 | .ae=>true
 | .bl _=>true
 | .int _=>true
 | .str _=>true
 |_=>false
def ee:V→V→Bool
 | .ae,.ae=>true
 | .bl a,.bl b=>a==b
 | .bl a,.int b=> (if a then 1 else 0)==b
 | .int a,.bl b=>a==(if b then 1 else 0)
 | .int a,.int b=>a==b
 | .str a,.str b=>a==b
 |_,_=>false
theorem Py {A:Around}{s:Shared}{y x:V}{u v:Value}(ry:RelV y u) (rx:RelV x v) (fy:fq y=true) (fx:fq x=true):SeqAt.EqAt A s u v (ee y x):=by
 cases y with
 |ae=>
  cases ry
  cases x with
  |ae=>cases rx;exact SeqAt.EqAt.same _
  |bl b=>cases rx;exact SeqAt.EqAt.none_bool b
  |int b=>obtain⟨t,rfl⟩:=rx;exact SeqAt.EqAt.none_int b t
  |str b=>obtain⟨t,rfl⟩:=rx;exact SeqAt.EqAt.none_str b t
  |_=>exact absurd (show false=true from fx) Bool.false_ne_true
 |bl a=>
  cases ry
  cases x with
  |ae=>cases rx;exact SeqAt.EqAt.bool_none a
  |bl b=>cases rx;exact SeqAt.EqAt.bool_bool a b
  |int b=>obtain⟨t,rfl⟩:=rx;exact SeqAt.EqAt.bool_int a b t
  |str b=>obtain⟨t,rfl⟩:=rx;exact SeqAt.EqAt.bool_str a b t
  |_=>exact absurd (show false=true from fx) Bool.false_ne_true
 |int a=>
  obtain⟨t',rfl⟩:=ry
  cases x with
  |ae=>cases rx;exact SeqAt.EqAt.int_none a t'
  |bl b=>cases rx;exact SeqAt.EqAt.int_bool a t' b
  |int b=>obtain⟨t,rfl⟩:=rx;exact SeqAt.EqAt.int_int a t' b t
  |str b=>obtain⟨t,rfl⟩:=rx;exact SeqAt.EqAt.int_str a t' b t
  |_=>exact absurd (show false=true from fx) Bool.false_ne_true
 |str a=>
  obtain⟨t',rfl⟩:=ry
  cases x with
  |ae=>cases rx;exact SeqAt.EqAt.str_none a t'
  |bl b=>cases rx;exact SeqAt.EqAt.str_bool a t' b
  |int b=>obtain⟨t,rfl⟩:=rx;exact SeqAt.EqAt.str_int a t' b t
  |str b=>obtain⟨t,rfl⟩:=rx;exact SeqAt.EqAt.str_str a t' b t
  |_=>exact absurd (show false=true from fx) Bool.false_ne_true
 |_=>exact absurd (show false=true from fy) Bool.false_ne_true
def gD (x:V) (u:Value):Bool:=match u with
 | .none=>ee .ae x
 | .bool b=>ee (.bl b) x
 | .int i _=>ee (.int i) x
 | .str z _=>ee (.str z) x
 |_=>false
theorem UM {x y:V}{u:Value}(r:RelV y u) (f:fq y=true):gD x u=ee y x:=by
 cases y with
 |ae=>cases r;rfl
 |bl b=>cases r;rfl
 |int i=>obtain⟨t,rfl⟩:=r;rfl
 |str z=>obtain⟨t,rfl⟩:=r;rfl
 |_=>exact absurd (show false=true from f) Bool.false_ne_true
theorem UP {x:V} :∀{xs:List V}{us:List Value},Vals xs us→xs.all fq=true→us.any (gD x)=xs.any fun y=>ee y x
 |_,_,.nil,_=>rfl
 |y::xs,u::us,.cons r t,f=>by
  rw[List.all_cons,Bool.and_eq_true]at f
  rw[List.any_cons,List.any_cons,UM r f.1,UP t f.2]
theorem YN {A:Around}{s:Shared}{x:V}{v:Value}(rx:RelV x v) (fx:fq x=true):∀{xs:List V}{us:List Value},Vals xs us→xs.all fq=true→∀u∈us,SeqAt.EqAt A s u v (gD x u)
 |_,_,.nil,_=>fun u hu=>by cases hu
 |y::xs,u::us,.cons r t,f=>fun u' hu=>by
  rw[List.all_cons,Bool.and_eq_true]at f
  rcases List.mem_cons.mp hu with rfl |hu
  ·rw[UM r f.1];exact Py r rx f.1 fx
  ·exact YN rx fx t f.2 u' hu
def dR (x:V) (xs:List V):Bool:=xs.any fun y=>ee y x
def vY (K:PySem.W.Frag) (neg:Bool):R2:=fun x y H Q=> ∃p xs,y=.ref p∧(ag K H p xs∨ah K H p xs)∧fq x=true∧xs.all fq=true∧Q (.bl (if neg then !dR x xs else dR x xs)) H
theorem YH:bf X (compareOp .NotIn) (vY X.K true):=by
 intro pins s σ H x y v u Q I rx ry h
 obtain⟨p,xs,rfl,hq,fx,fs,q⟩:=h
 cases ry
 rcases hq with hq |hq
 ·obtain⟨its,r,pl,hz⟩:=I.list hq
  refine SeqAt.notIn_listAt (gD x) pl.isList (fun w hw=>YN rx fx r fs w (by simpa using hw)) ⟨.bl _,H,I,rfl,?_⟩
  rw[show its.toArray.any (gD x)=its.any (gD x) by simp,UP r fs]
  exact q
 ·obtain⟨its,r,pl,hz⟩:=I.tuple hq
  refine SeqAt.notIn_tupleAt (gD x) pl (fun w hw=>YN rx fx r fs w (by simpa using hw)) ⟨.bl _,H,I,rfl,?_⟩
  rw[show its.toArray.any (gD x)=its.any (gD x) by simp,UP r fs]
  exact q
theorem ZC:eE X (.builtin "len") (fun xs H Q=> ∃p ys,xs=[.ref p]∧(ag X.K H p ys∨ah X.K H p ys)∧Q (.int ys.length) H):=by
 intro pins s σ H xs us Q I r h
 obtain⟨p,ys,rfl,hq,q⟩:=h
 obtain⟨u,rfl,rx⟩:=vals1 r
 cases rx
 have hn:=sX
 rcases hq with hq |hq
 ·obtain⟨its,r',pl,hz⟩:=I.list hq
  have hlen:=r'.length
  exact Calls.call_len_list pl.isList (by simp only[List.size_toArray]<;>omega) ⟨.int ys.length,H,I.tok _,⟨s.toks+1,by rw[List.size_toArray,hlen]⟩,q⟩
 ·obtain⟨its,r',pl,hz⟩:=I.tuple hq
  have hlen:=r'.length
  exact len_tuple pl (by simp only[List.size_toArray]<;>omega) ⟨.int ys.length,H,I.tok _,⟨s.toks+1,by rw[List.size_toArray,hlen]⟩,q⟩
theorem UN:eE X (.type "list") (fun xs H Q=> ∃p ys,xs=[.ref p]∧(ag X.K H p ys∨ah X.K H p ys)∧∀l,H l=none→Q (.ref l) (upd H l (.lst ys))):=by
 intro pins s σ H xs us Q I r h
 obtain⟨p,ys,rfl,hq,q⟩:=h
 obtain⟨u,rfl,rx⟩:=vals1 r
 cases rx
 have fin:∀(its:List Value),Vals ys its→ys.length≤sizeLine→∀(h':Heap) (c':Nat),(∀b o',s.heap.get? b=some o'→h'.get? b=some o')→
   h'.get? s.heap.objs.size=some {cls:=.type "list",dict:=none,data:=.seq its.toArray c',slots:= #[]}→EP X pins σ Q (.ref s.heap.objs.size) {s with heap:=h'} :=fun its r' hz h' c' kp e=>
  ⟨.ref s.heap.objs.size,_,I.laid (t':=s.toks) kp (Nat.le_refl _) (show bC X.prog X.w _ h' _ (.lst ys) from ⟨hz,its,c',r',e⟩),rfl,q _ (I.ai.fresh (Nat.le_refl _))⟩
 rcases hq with hq |hq
 ·obtain⟨its,r',pl,hz⟩:=I.list hq
  have hlen:=r'.length
  obtain⟨o,ho,hc,n,hd⟩:=pl.isList
  exact call_list_seq p (.inl rfl) ho hc hd (fun h' c' kp e=>fin its r' hz h' c' kp e) (by simp only[List.size_toArray]<;>omega)
 ·obtain⟨its,r',pl,hz⟩:=I.tuple hq
  have hlen:=r'.length
  obtain⟨o,ho,hc,n,hd⟩:=pl
  exact call_list_seq p (.inr rfl) ho hc hd (fun h' c' kp e=>fin its r' hz h' c' kp e) (by simp only[List.size_toArray]<;>omega)
def uT (K:PySem.W.Frag) (T:String) (x:V) (H:Hp):Prop:=match x with
 | .str _=>T= "str"
 | .int _=>T= "int"
 | .ref p=> (T= "list" ∧∃xs,ag K H p xs)∨(T= "tuple" ∧((∃o,K.lookup p=some o∧o.cls=.type "tuple" ∧o.dict=none)∨∃xs,H p=some (.tup xs)))∨
   (T= "dict" ∧((∃cm,H p=some (.dK cm))∨∃cm,H p=some (.dT cm)))∨(T= "set" ∧∃S n,H p=some (.set S n))
 |_=>False
theorem DD {pins:List (Addr×Obj)}{σ:St}{H:Hp}{s:Shared}{T:String}{x:V}{v:Value}(I:Inv X pins σ H s) (r:RelV x v) (ty:uT X.K T x H):
  s.TypeIs v T∧∀a,v=.ref a→∃ob,s.heap.get? a=some ob∧ob.dict=none:=by
 cases x with
 |str z=>
  obtain⟨t,rfl⟩:=r
  cases (show T= "str" from ty)
  exact⟨typeIs_str s z t,fun _ e=>nomatch e⟩
 |int i=>
  obtain⟨t,rfl⟩:=r
  cases (show T= "int" from ty)
  exact⟨typeIs_int s i t,fun _ e=>nomatch e⟩
 |ref p=>
  cases r
  rcases ty with ⟨rfl,xs,hq⟩ |⟨rfl,⟨o,hk,hc,hd⟩ |⟨xs,hx⟩⟩ |⟨rfl,hk⟩ |⟨rfl,S,n,hk⟩
  ·obtain⟨its,_,pl,_⟩:=I.list hq
   refine⟨pl.isList.typeIs,fun a e=> ?_⟩
   cases e
   obtain⟨o,n,e,c,hd,_⟩:=pl
   exact⟨o,e,hd⟩
  ·refine⟨⟨o,I.bF p o hk,hc⟩,fun a e=> ?_⟩
   cases e
   exact⟨o,I.bF _ o hk,hd⟩
  ·obtain⟨_,_,_,⟨o,e,c,_⟩,o2,e2,hd⟩:=(show bC X.prog X.w H s.heap p (.tup xs) from I.ai p _ hx)
   refine⟨⟨o,e,c⟩,fun a e3=> ?_⟩
   cases e3
   exact⟨o2,e2,hd⟩
  ·have z:∃o,s.heap.get? p=some o∧o.ExactDict:=by
    rcases hk with ⟨cm,hk⟩ |⟨cm,hk⟩
    ·obtain⟨_,_,_,_,o,_,_,e,ex,_⟩:=I.ai p _ hk
     exact⟨o,e,ex⟩
    ·obtain⟨_,_,_,_,o,_,_,e,ex,_⟩:=I.ai p _ hk
     exact⟨o,e,ex⟩
   obtain⟨o,e,ex⟩:=z
   refine⟨⟨o,e,ex.1⟩,fun a e2=> ?_⟩
   cases e2
   exact⟨o,e,ex.2.1⟩
  ·obtain⟨o,_,_,_,e,ex,_⟩:=I.ai p _ hk
   refine⟨⟨o,e,ex.1⟩,fun a e2=> ?_⟩
   cases e2
   exact⟨o,e,ex.2.1⟩
 |_=>exact False.elim ty
def Gn (K:PySem.W.Frag) (T:String) (r:V→List V→Hp→VK→Prop) (to:TE):TE:=fun σ H Q=>to σ H fun x H1=>uT K T x H1∧r x [] H1 Q
def Gp (K:PySem.W.Frag) (T:String) (r:V→List V→Hp→VK→Prop) (to:TE) (t:TA):TE:=fun σ H Q=>to σ H fun x H1=>uT K T x H1∧t σ H1 fun xs H2=>r x xs H2 Q
variable {o e:Expr}{es:List Expr}{to:TE}{t:TA}{name:Str}{apos cn:Pos}{T id:String}{r:V→List V→Hp→VK→Prop}
theorem OX (pa:PlainAttrs T) (slot:Slot T name id) (wN:typeOf (.builtin id)=pure (.type "method_descriptor")) (hm:uH X id r) (ho:PE X o to)
  (xP:attributeBase o name X.env (eval o X.env)=eval o X.env:=by rfl) (xo:(apos.endLine==cn.line)=true:=by rfl):PE X (.Call (.Attribute o name apos) [] [] cn) (Gn X.K T r to):=by
 intro pins s σ H Q I h
 refine wpAny_Call_method0_late xP xo (au (ho pins s σ H _ I h) fun v s1 ⟨x,H1,I1,r1,ty,q1⟩=> ?_)
 obtain⟨h1,h2⟩:=DD I1 r1 ty
 exact⟨T,id,pa,slot,wN,h1,h2,Calls.callWith_builtin rfl (PySem.evalArgs_none (hm pins s1 σ H1 x [] v [] Q I1 r1 .nil q1))⟩
theorem Jm (pa:PlainAttrs T) (slot:Slot T name id) (wN:typeOf (.builtin id)=pure (.type "method_descriptor")) (hm:uH X id r) (ho:PE X o to) (ha:PA X (e::es) t)
    (xP:attributeBase o name X.env (eval o X.env)=eval o X.env:=by rfl)
    (Mv:((backTo cn (starEach (e::es) X.env)).all (fun x=> !x.1)&&(backToKw cn (keywordEach [] X.env)).all (fun x=>x.1.isSome)
      &&decide ((e::es).length+([]:List Keyword).length+(if ([]:List Keyword).isEmpty then 0 else 1)<30))=true:=by rfl)
    (xo:(apos.endLine==cn.line)=true:=by rfl) (hs:starEach (e::es) X.env=(false,eval e X.env)::starEach es X.env:=by rfl) (LH:(backTo cn (starEach es X.env)).any (·.1)=false:=by rfl):
    PE X (.Call (.Attribute o name apos) (e::es) [] cn) (Gp X.K T r to t):=by
  intro pins s σ H Q I h
  refine wpAny_Call_method_late xP Mv xo rfl (au (ho pins s σ H _ I h) fun v s1 ⟨x,H1,I1,r1,ty,q1⟩=> ?_)
  obtain⟨h1,h2⟩:=DD I1 r1 ty
  refine⟨T,id,pa,slot,wN,h1,h2,?_⟩
  have hA:=ha cn pins s1 σ H1 _ I1 q1
  rw[hs]at hA ⊢
  refine Calls.callWith_builtin (by show(false||(backTo cn (starEach es X.env)).any (·.1))=false;rw[LH]<;>rfl) (Calls.evalArgs_plain ?_)
  exact au hA fun us s2 ⟨vs,H2,I2,r2,q2⟩=>hm pins s2 σ H2 x vs v us Q I2 r1 r2 q2
end
def uI (X:Cx) (id:String) (r:V→List V→Hp→VK→Prop):Prop:=
 ∀(pins:List (Addr×Obj)) (s:Shared) (σ:St) (H:Hp) (x:V) (xs:List V) (v:Value) (us:List Value) (Q:VK),Inv X pins σ H s→RelV x v→Vals xs us→r x xs H Q→
  wpAny (model X.prog X.w) X.A (call (.builtin id) (v::us)) (EP X pins σ Q) X.xe s
theorem Vals.one:∀{x:V}{us:List Value},Vals [x] us→∃u,us=[u]∧RelV x u
 |_,_,.cons r .nil=> ⟨_,rfl,r⟩
theorem Vals.zero:∀{us:List Value},Vals [] us→us=[]
 |_,.nil=>rfl
theorem Vals.eraseIdx:∀{xs:List V}{us:List Value}(i:Nat),Vals xs us→Vals (xs.eraseIdx i) (us.eraseIdx i)
 |_,_,_,.nil=> .nil
 |_,_,0,.cons _ t=>t
 |_,_,i+1,.cons r t=> .cons r (Vals.eraseIdx i t)
theorem Vals.reverse {xs:List V}{us:List Value}(h:Vals xs us):Vals xs.reverse us.reverse:=by
 induction h with
 |nil=>exact .nil
 |cons r t ih=>rw[List.reverse_cons,List.reverse_cons];exact Vals.append ih (.cons r .nil)
theorem Vals.rep {xs:List V}{us:List Value}(h:Vals xs us):∀k:Nat,Vals (List.replicate k xs).flatten (List.replicate k us).flatten
 |0=> .nil
 |k+1=>by
  rw[List.replicate_succ,List.replicate_succ,List.flatten_cons,List.flatten_cons]
  exact Vals.append h (Vals.rep h k)
theorem Ub {α:Type} :∀(l:List α) (i:Nat),(l.eraseIdx i).length≤l.length
 | [],_=>Nat.le_refl _
 |_::_,0=>Nat.le_succ _
 |_::r,i+1=>Nat.succ_le_succ (Ub r i)
theorem Ue (its:List Value):∀(k:Nat) (acc:List Value),
  List.foldl (fun x1 x2=>x1++x2) acc.toArray (List.replicate k its.toArray)=(acc++(List.replicate k its).flatten).toArray
 |0,acc=>by simp
 |k+1,acc=>by
  have e:acc.toArray++its.toArray=(acc++its).toArray:=by simp
  have e2:(acc++its)++(List.replicate k its).flatten=acc++(List.replicate (k+1) its).flatten:=by
   rw[List.replicate_succ,List.flatten_cons,List.append_assoc]
  rw[←e2,←Ue its k (acc++its),←e,List.replicate_succ,List.foldl_cons]
section
variable {X:Cx}{pins:List (Addr×Obj)}{σ:St}{H:Hp}{s:Shared}{l b:Addr}{xs ys zs:List V}
theorem Inv.sU {its its':List Value}{n:Nat}{f:Array Value→Array Value}{t':Nat}(I:Inv X pins σ H s) (hH:H l=some (.lst xs))
  (e:s.heap.get? l=some {cls:=.type "list",data:=.seq its.toArray n}) (hf:f its.toArray=its'.toArray) (hv:Vals ys its') (hz:ys.length≤sizeLine):
  Inv X pins σ (upd H l (.lst ys)) {s with heap:=s.heap.update l (Obj.mapSeq f),toks:=t'} :=by
 have q:=PySem.IsL.update e f
 rw[hf]at q
 refine I.write (x:=l) (e:=l) (by rw[hH];exact trivial) (.inl rfl) (fun b' u hb hu=> (Heap.get?_update_other s.heap (Obj.mapSeq f) (Ne.symm hb)).trans hu) ⟨_,q⟩ ?_
 exact⟨hz,its',_,hv,q⟩
theorem Inv.Ky {its:List Value}{t':Nat}(I:Inv X pins σ H s) (hv:Vals ys its) (hz:ys.length≤sizeLine):
  Inv X pins σ (upd H s.heap.objs.size (.lst ys)) {s with heap:=s.heap.push {cls:=.type "list",data:=.seq its.toArray},toks:=t'} :=
 I.laid (fun _ _ q=>Heap.get?_push_of_some _ q) (Nat.le_refl _) ⟨hz,its,0,hv,Heap.get?_push_size _ rfl⟩
theorem Inv.fresh (I:Inv X pins σ H s):H s.heap.objs.size=none:=I.ai.fresh (Nat.le_refl _)
theorem Inv.lK (I:Inv X pins σ H s) (hH:H l=some (.lst xs)):xs.length≤sizeLine∧∃(its:List Value) (n:Nat),Vals xs its∧xs.length=its.length∧s.heap.get? l=some {cls:=.type "list",data:=.seq its.toArray n} :=by
 obtain⟨z,its,n,r,e⟩:=I.ai l _ hH
 exact⟨z,its,n,r,r.length,e⟩
theorem Iy {n:Nat}(h:n≤sizeLine):Builtin.List.listTooLong n=false:=by
 unfold Builtin.List.listTooLong
 exact decide_eq_false (by omega)
end
section
variable {X:Cx}
def HA:V→List V→Hp→VK→Prop:=fun x vs H Q=> ∃l xs y,x=.ref l∧vs=[y]∧H l=some (.lst xs)∧xs.length<sizeLine∧Q .ae (upd H l (.lst (xs++[y])))
theorem YA:uI X "list.append" HA:=by
 intro pins s σ H x vs v us Q I rx rv h
 obtain⟨l,xs,y,rfl,rfl,hH,hz,q⟩:=h
 cases rx
 obtain⟨u,rfl,ru⟩:=rv.one
 obtain⟨z,its,n,r,hl,e⟩:=I.lK hH
 refine call_meets F.slot_list_append ⟨_,e,rfl⟩ F.entry_list_append (F.args_list_append_2 _ _) (PySem.list_append l its.toArray n u (by rw[List.size_toArray];omega)) ⟨e,?_⟩
 refine⟨.ae,_,I.sU (its':=its++[u]) hH e (by simp) (r.append (.cons ru .nil)) ?_,rfl,q⟩
 rw[List.length_append,List.length_singleton]
 omega
def Hw:V→List V→Hp→VK→Prop:=fun x vs H Q=> ∃l b xs zs,x=.ref l∧vs=[.ref b]∧H l=some (.lst xs)∧H b=some (.lst zs)∧xs.length+zs.length≤sizeLine∧Q .ae (upd H l (.lst (xs++zs)))
theorem RH:uI X "list.extend" Hw:=by
 intro pins s σ H x vs v us Q I rx rv h
 obtain⟨l,b,xs,zs,rfl,rfl,hH,hB,hz,q⟩:=h
 cases rx
 obtain⟨u,rfl,ru⟩:=rv.one
 cases ru
 obtain⟨z,its,n,r,hl,e⟩:=I.lK hH
 obtain⟨z2,gQ,n2,r2,dq,e2⟩:=I.lK hB
 have bY:its.toArray.size+gQ.toArray.size≤sizeLine:=by rw[List.size_toArray,List.size_toArray];omega
 have L8:¬(!its.toArray.isEmpty&&Builtin.List.listTooLong (its.toArray.size+gQ.toArray.size))=true:=by
  rw[Iy bY,Bool.and_false]
  exact Bool.false_ne_true
 refine call_meets F.slot_list_extend ⟨_,e,rfl⟩ F.entry_list_extend (F.args_list_extend_2 _ _)
  (AutoSeq1.list_extend_list_list_0 l its.toArray n b gQ.toArray n2 L8 (by rw[List.size_toArray];omega) (by omega)) ⟨e,e2,?_⟩
 refine⟨.ae,_,I.sU (its':=its++gQ) hH e (by simp) (r.append r2) ?_,rfl,q⟩
 rw[List.length_append]
 omega
def Hr:V→List V→Hp→VK→Prop:=fun x vs H Q=> ∃l xs i k y,x=.ref l∧vs=[.int i]∧H l=some (.lst xs)∧ -(2^63)≤i∧i<2^63∧seqIndex? i xs.length=some k∧xs[k]? =some y∧Q y (upd H l (.lst (xs.eraseIdx k)))
theorem Rc:uI X "list.pop" Hr:=by
 intro pins s σ H x vs v us Q I rx rv h
 obtain⟨l,xs,i,k,y,rfl,rfl,hH,h1,h2,hk,hy,q⟩:=h
 cases rx
 obtain⟨u,rfl,ru⟩:=rv.one
 obtain⟨t,rfl⟩:=ru
 obtain⟨z,its,n,r,hl,e⟩:=I.lK hH
 obtain⟨w,hw,jH⟩:=r.get hy
 refine call_meets F.slot_list_pop ⟨_,e,rfl⟩ F.entry_list_pop (F.args_list_pop_2 _ _)
  (MeetsSeq.list_pop_at l its.toArray n i t k w (fitsIndex_both h1 h2) (by rw[List.size_toArray,←hl];exact hk) (by rw[←Array.getElem?_toList];exact hw) (by rw[List.size_toArray];omega)) ⟨e,?_⟩
 refine⟨y,_,I.sU (its':=its.eraseIdx k) hH e ?_ (r.eraseIdx k) ?_,jH,q⟩
 ·show its.toArray.eraseIdxIfInBounds k=(its.eraseIdx k).toArray
  rw[List.eraseIdxIfInBounds_toArray]
 ·have:=Ub xs k
  omega
def Ho:V→List V→Hp→VK→Prop:=fun x vs H Q=> ∃l xs,x=.ref l∧vs=[]∧H l=some (.lst xs)∧Q .ae (upd H l (.lst xs.reverse))
theorem SU:uI X "list.reverse" Ho:=by
 intro pins s σ H x vs v us Q I rx rv h
 obtain⟨l,xs,rfl,rfl,hH,q⟩:=h
 cases rx
 have Ld:=rv.zero
 subst Ld
 obtain⟨z,its,n,r,hl,e⟩:=I.lK hH
 refine call_meets F.slot_list_reverse ⟨_,e,rfl⟩ F.entry_list_reverse (F.args_list_reverse_1 _) (AutoSeq1.list_reverse_list_0 l its.toArray n (by rw[List.size_toArray];omega)) ⟨e,?_⟩
 refine⟨.ae,_,I.sU (its':=its.reverse) hH e (by simp) r.reverse ?_,rfl,q⟩
 rw[List.length_reverse]
 omega
def Hz:R2:=fun x y H Q=> ∃l b xs zs,x=.ref l∧y=.ref b∧H l=some (.lst xs)∧H b=some (.lst zs)∧xs.length+zs.length≤sizeLine∧∀p,H p=none→Q (.ref p) (upd H p (.lst (xs++zs)))
theorem YM:bf X (binaryOp .Add) Hz:=by
 intro pins s σ H x y v u Q I rx ry h
 obtain⟨l,b,xs,zs,rfl,rfl,hH,hB,hz,q⟩:=h
 cases rx
 cases ry
 obtain⟨z,its,n,r,hl,e⟩:=I.lK hH
 obtain⟨z2,gQ,n2,r2,dq,e2⟩:=I.lK hB
 refine PySem.P.add_list e e2 ?_ (by rw[List.size_toArray,List.size_toArray];omega)
 have ea:its.toArray++gQ.toArray=(its++gQ).toArray:=by simp
 rw[ea]
 exact⟨.ref _,_,I.Ky (t':=s.toks) (r.append r2) (by rw[List.length_append];omega),rfl,q _ I.fresh⟩
theorem Eb {α:Type}(xs:List α) (k:Nat):(List.replicate k xs).flatten.length=k*xs.length:=by
 induction k with
 |zero=>simp
 |succ k ih=>rw[List.replicate_succ,List.flatten_cons,List.length_append,ih,Nat.succ_mul,Nat.add_comm]
end
end L2
namespace Fm
open PySem PySem.W PySem.Calls PyProof.Rows
theorem JV {P:Params}{h:Heap} :∀(ns:List Int) (vs:List Value),WellAll P h vs (ns.map WData.int)→IntsAre vs ns:=by
 intro ns
 induction ns with
 |nil=>
  intro vs w
  rw[List.map_nil]at w
  cases w
  exact .nil
 |cons n ns ih=>
  intro vs w
  rw[List.map_cons]at w
  cases w with
  |cons a b=>
   cases a
   exact .cons _ _ (ih _ b)
theorem RZ {l:OpenLaw}{n:Nat}(hn:l.most=some n) {P:Params}{h:Heap}{args:List WData}{vals:List Value}
  (tF:l.row.toRowW.claim.pre args=true) (wL:WellAll P h vals args):
  ∃a vs ns,vals=[Value.ref a]∧args=[WData.list (ns.map WData.int)]∧h.get? a=some {cls:=.type "list",data:=.seq vs.toArray}∧IntsAre vs ns∧ns.length≤n:=by
 have Lq:WShape.hasAll [] args [.list .int]=true:=(pre_splitW tF).1
 have hc:l.pre.holds [] {args:=args} =true:=(pre_splitW tF).2
 obtain⟨d,r,rfl,h1,h2⟩:=hasAllW_cons Lq
 obtain rfl:=hasAllW_nil h2
 obtain⟨xs,rfl,h3⟩:=hasW_list h1
 obtain⟨ns,rfl⟩:=items_int h3
 have hlen:ns.length≤n:=by
  unfold OpenLaw.pre at hc
  have h4:(WTm.not (.lt (.lit (.int (n:Int))) (.len (.arg 0)))).holds [] {args:=[.list (ns.map .int)]} =true:=by
   have h4:=(holds_andW hc).1
   rw[hn]at h4
   exact h4
  have h5:=condW_of h4 (w_not (w_lt w_lit (w_len_list (w_arg rfl))))
  rw[List.length_map]at h5
  refine Nat.le_of_not_lt fun q=> ?_
  have q':(n:Int)< ((ns.length:Nat):Int):=by omega
  first
   |(rw[decide_eq_true q']at h5;exact absurd h5 (by decide))
   |(simp at h5;omega)
 cases wL with
 |cons w1 w2=>
  cases w2
  cases w1 with
  |list ho cZ=>exact⟨_,_,ns,rfl,rfl,ho,JV ns _ cZ,hlen⟩
theorem RX (l:OpenLaw) (args:List WData):l.row.toRowW.claim.post args (.bool true) args=true:=
 postW_of (r:=l.row.toRowW) (X:=(true==true))
  (show WShape.has [] (.bool true) .bool=true by first |rfl |decide |simp[WShape.has,WShape.arms,WShape.armsAll])
  (show(WTm.eq .res (.lit (.bool true))).value [] {args:=args,res:=some (.bool true),after:=args} =some (.bool (true==true)) from w_eq_bool (w_res rfl) w_lit) rfl
theorem OM {l:OpenLaw}{n:Nat}{q:Program}{loose:List Str}{XP:(Str→Option Value)→Heap→Prop}{YP:World→Heap→Prop}{d:DefRec}
    (hn:l.most=some n) (xG:d.params.defaults=[])
    (call:∀(w:World) (cj aI:Shared) (mg mb:Str→Option Value) (fa:Addr) (o:Obj) (pm cd doc:Value) (a:Addr) (vs:List Value) (ns:List Int),
      Ground q loose [] XP w cj mg mb aI.heap→YP w aI.heap→
      aI.heap.get? fa=some o→o.data=.func (docDef d.name d.params d.body d.scope pm cd doc)→aI.heap.CodeRec cd d.name→mg d.name=some (.ref fa)→
      aI.heap.get? a=some {cls:=.type "list",data:=.seq vs.toArray}→IntsAre vs ns→ns.length≤n→aI.gens= #[]→
      codeAny (model l.prog w) callerA (.call (.ref fa) ⟨[.ref a],[]⟩) (fun r s'=>r=.ok (.ret (.bool true))∧OldK aI.heap s'.heap∧s'.os=aI.os∧AllBare s'.gens) aI):
    WalkO q loose XP YP l.row.toRowW d [] (fun f vs=>PySem.call f vs):=by
  intro w cj aI mg mb G Y fa o pm cd doc dV kV ho hd cP hD hmg hg args vals as tF VG VA wL xn
  obtain rfl:dV=.none:=Dflts.none hD xG
  obtain rfl:kV=.none:=Dflts.noKw hD
  obtain⟨a,vs,ns,rfl,rfl,xf,hints,hlen⟩:=RZ hn tF wL
  refine enter_call (codeAny_mono (call w cj aI mg mb fa o pm cd doc a vs ns G Y ho (fd_plain hd) cP hmg xf hints hlen hg) fun r s' hq=> ?_)
  obtain⟨rfl,h2,h3,h4⟩:=hq
  exact⟨.inl ⟨.bool true,.bool true,[],rfl,fun _=>rfl,.bool true,RX l _,fun _=> ⟨List.Pairwise.nil,fun _ hm=> (nomatch hm)⟩⟩,h2,h3,h4⟩
end Fm
namespace L2
open PySem PySem.Spec PyProof.Rows
theorem WY:∀{vs:List Value}{ns:List Int},IntsAre vs ns→Vals (ns.map V.int) vs
 |_,_,.nil=> .nil
 |_,_,.cons n t h=> .cons ⟨t,rfl⟩ (WY h)
def gE (s:Stmt):Arguments:=match s with
 | .FunctionDef _ a _ _ _ _ _ _ _ _=>a
 |_=> {posonlyargs:=[],args:=[],vararg:=none,kwonlyargs:=[],kw_defaults:=[],kwarg:=none,defaults:=[]}
def dM (s:Stmt):List Stmt:=match s with
 | .FunctionDef _ _ b _ _ _ _ _ _ _=>b
 |_=> []
def aC (s:Stmt):Scope:=match s with
 | .FunctionDef _ _ _ _ _ _ sc _ _ _=>sc
 |_=> {kind:=.function,names:=[],isGenerator:=false,isCoroutine:=false}
abbrev aM:i0:=fun _ _ _ _ _ _=>False
abbrev E0:XK:=fun _ _ _=>False
theorem HG {X:Cx} :Passes aM X E0:=fun _ _ _ _ _ _ _ h=>h.elim
structure aK (K:PySem.W.Frag) (x qual:Str) (st:Stmt) (f:Addr) (fd:FuncData):Prop where
 ex:∃(oc:Value) (od:Option Addr) (kV doc pm:Value) (an:Option Addr) (ao ct:Value) (fA:Array (Option Value)),
  fd=PySem.W.fnOf x qual (gE st) (dM st) (aC st) .none kV doc pm an ao ct∧K.lookup f=some ⟨oc,od,.func fd,fA⟩∧PySem.W.codeIn K ao qual=true
 kp:PySem.W.keepIn K (.ref f)=true
section
variable {P:Program}{w:World}{K:PySem.W.Frag}{mg:Str→Option Value}{base:Heap}
theorem aK.ok {x qual:Str}{st:Stmt}{f:Addr}{fd:FuncData}{N ps:List Str}{k:Nat}{sp:Sp}(F:aK K x qual st f fd) (S:bu N ps (aC st)) (len:∀vs H Q E,sp vs H Q E→vs.length=ps.length)
    (xM:∀(ao:Value) (A:Around) (outer:List Env) (s:Shared) (H:Hp) (vs:List V) (Q:VK) (E:XK),cg k (A.deeper (envOfC qual (aC st) s.heap.objs.size f ao))→sp vs H Q E→
      ∃t,eZ (bV aM P w K mg base N qual (aC st) f ao A outer s H E).fm (dM st) t∧t {nx:=fun _ H'=>Q .ae H',rt:=Q} (start N vs) H):az P w K mg base aM (k+1) f fd ps sp:=by
  obtain⟨oc,od,kV,doc,pm,an,ao,ct,fA,rfl,lk,cP⟩:=F.ex
  refine yG lk cP S len fun A outer s H vs Q E hr dI=> ?_
  obtain⟨t,h,q⟩:=xM ao A outer s H vs Q E hr dI
  exact⟨t,h.fm,q⟩
theorem aK.binds {x qual:Str}{st:Stmt}{f:Addr}{fd:FuncData}{ps:List Str}(F:aK K x qual st f fd)
  (h:∀(kV doc pm:Value) (an:Option Addr) (ao ct:Value) (us:List Value),us.length=ps.length→bindArgs (PySem.W.fnOf x qual (gE st) (dM st) (aC st) .none kV doc pm an ao ct) ⟨us,[]⟩=pure (ps.zip us)):Binds K fd ps []:=by
 obtain⟨oc,od,kV,doc,pm,an,ao,ct,fA,rfl,lk,cP⟩:=F.ex
 exact .all (h kV doc pm an ao ct)
theorem Pz {x qual:Str}{st:Stmt}{f:Addr}{oc:Value}{od an:Option Addr}{fA:Array (Option Value)}{kV doc pm ao ct:Value}(l:K.lookup f=some ⟨oc,od,.func (PySem.W.fnOf x qual (gE st) (dM st) (aC st) .none kV doc pm an ao ct),fA⟩)
  (c:PySem.W.codeIn K ao qual=true) (k:PySem.W.keepIn K (.ref f)=true):aK K x qual st f (PySem.W.fnOf x qual (gE st) (dM st) (aC st) .none kV doc pm an ao ct):=⟨⟨oc,od,kV,doc,pm,an,ao,ct,fA,rfl,l,c⟩,k⟩
end
theorem WA {A:Around}{k:Nat}(hr:cg k A):A.units+1<cLine:=Nat.lt_of_le_of_lt (Nat.add_le_add_left (by decide:1≤64) _) hr.units
theorem zV {n:Nat}(h:n≤1000):n<sizeLine:=Nat.lt_of_le_of_lt h (by decide)
section
variable {X:Cx}
theorem pv (i:Nat) {x:Str}{pos:Pos}(hN:X.N[i]? =some x:=by rfl) (hv:qK X.env.scope x:=by first |exact Or.inl rfl |exact Or.inr (Or.inl rfl) |exact Or.inr (Or.inr rfl)) (hd:(x==("__debug__" :Str))=false:=by decide)
  (cP:(x==("__classdict__" :Str))=false:=by decide):PE X (.Name x pos) (jE i):=YK hN hv hd cP
end
theorem aH {A B:Prop}(h:B):if false=true then A else B:=by
 rw[if_neg Bool.false_ne_true]
 exact h
theorem aW {A B:Prop}(h:A):if true=true then A else B:=by
 rw[if_pos rfl]
 exact h
def af (H H':Hp):Prop:=∀b o,H b=some o→H' b=some o
theorem af.refl (H:Hp):af H H:=fun _ _ h=>h
theorem af.trans {H H1 H2:Hp}(a:af H H1) (b:af H1 H2):af H H2:=fun c o h=>b c o (a c o h)
theorem af.free {H H':Hp}(e:af H H') {l:Addr}(h:H' l=Option.none):H l=Option.none:=by
 cases q:H l with
 |none=>rfl
 |some o=>
  rw[e l o q]at h
  cases h
section
variable {X:Cx}{pins:List (Addr×Obj)}{σ:St}{H:Hp}{s:Shared}{a:Addr}{y v:V}{u r:Value}{o:Option V}{A:Around}{E:Value→Shared→Prop}
theorem Inv.big (I:Inv X pins σ H s):sysModules<s.heap.objs.size:=by
 have h:mainGlobals<s.heap.objs.size:=(I.mod.glob.keeps I.bk).lt
 exact Nat.lt_trans (by decide) h
end
theorem P4 {P:Program}{w:World}{H:Hp}(h:Heap) (hb:sysModules<h.objs.size):bC P w H (h.push {cls:=.type "dict",data:=.dict #[]}) h.objs.size (.dK []):=
 ⟨Nat.zero_le _,beq_eq_false_iff_ne.mpr (Ne.symm (Nat.ne_of_lt hb)),[],.nil,Heap.DictOf.new h⟩
def Gk:TE:=fun _ H Q=> ∀p,H p=none→Q (.ref p) (upd H p (.dK []))
section
variable {X:Cx}{pos:Pos}
theorem U3:PE X (.Dict [] [] pos) Gk:=fun pins s σ H Q I h=>
 wpAny_Dict_empty ⟨.ref s.heap.objs.size,_,I.laid (a:=s.heap.objs.size) (o:=.dK []) (t':=s.toks) (fun _ _ q=>Heap.get?_push_of_some _ q) (Nat.le_refl _) (P4 s.heap I.big),rfl,h _ (I.ai.fresh (Nat.le_refl _))⟩
end
structure M1 (X:Cx) (o:Expr) (m:Str) (apos:Pos) (e:Expr) (cn:Pos):Prop where
 base:attributeBase o m X.env (eval o X.env)=eval o X.env
 NJ:((backTo cn (starEach [e] X.env)).all (fun x=> !x.1)&&(backToKw cn (keywordEach [] X.env)).all (fun x=>x.1.isSome)
  &&decide (([e]:List Expr).length+([]:List Keyword).length+(if ([]:List Keyword).isEmpty then 0 else 1)<30))=true
 line:(apos.endLine==cn.line)=true
 trees:backTo cn (starEach [e] X.env)=[(false,eval e X.env)]
structure M2 (X:Cx) (o:Expr) (m:Str) (apos:Pos) (e f:Expr) (cn:Pos):Prop where
 base:attributeBase o m X.env (eval o X.env)=eval o X.env
 NJ:((backTo cn (starEach [e,f] X.env)).all (fun x=> !x.1)&&(backToKw cn (keywordEach [] X.env)).all (fun x=>x.1.isSome)
  &&decide (([e,f]:List Expr).length+([]:List Keyword).length+(if ([]:List Keyword).isEmpty then 0 else 1)<30))=true
 line:(apos.endLine==cn.line)=true
 trees:backTo cn (starEach [e,f] X.env)=[(false,eval e X.env),(false,eval f X.env)]
def eu (scope:Scope) (env:Env):List (Str×Addr):=scope.names.foldl (fun cs y=>if y.2==.free then (y.1,(env.cells.lookup y.1).getD 0)::cs else cs) []
theorem Yx {scope:Scope}{env:Env}(h:∀y∈scope.names,y.2=.free→∃c,env.cells.lookup y.1=some c):closureFor scope env=pure (eu scope env):=by
 unfold closureFor eu
 have key:∀(l:List (Str×NameKind)) (cs:List (Str×Addr)),(∀y∈l,y.2=.free→∃c,env.cells.lookup y.1=some c)→
   (forIn l cs (fun x r=>match x with |(name,kind)=>if (kind==NameKind.free)=true then do let c ←cellOf env name;pure (ForInStep.yield ((name,c)::r)) else pure (ForInStep.yield r)):Sem (List (Str×Addr)))
    =pure (l.foldl (fun cs y=>if y.2==.free then (y.1,(env.cells.lookup y.1).getD 0)::cs else cs) cs):=by
  intro l
  induction l with
  |nil=>intro cs _;rfl
  |cons y l ih=>
   intro cs hl
   obtain⟨n,k⟩:=y
   rw[List.forIn_cons,List.foldl_cons]
   by_cases hk:k=.free
   ·subst hk
    obtain⟨c,hc⟩:=hl (n,.free) List.mem_cons_self rfl
    have br:env.cells.lookup n=some c:=hc
    have e1:cellOf env n=pure c:=by unfold cellOf;rw[br]
    simp only[beq_self_eq_true,if_true,e1,br,Option.getD_some,pure_bind]
    exact ih _ fun y hy=>hl y (List.mem_cons_of_mem _ hy)
   ·have hb:(k==NameKind.free)=false:=by simpa using hk
    simp only[hb,Bool.false_eq_true,if_false,pure_bind]
    exact ih _ fun y hy=>hl y (List.mem_cons_of_mem _ hy)
 simp only[key scope.names [] h,pure_bind]
 all_goals rfl
theorem YD {scope:Scope}{env:Env}{x:Str}{c:Addr}(h:(eu scope env).lookup x=some c):c=(env.cells.lookup x).getD 0∧(x,NameKind.free)∈scope.names:=by
 unfold eu at h
 have key:∀(l:List (Str×NameKind)) (cs:List (Str×Addr)),(l.foldl (fun cs y=>if y.2==.free then (y.1,(env.cells.lookup y.1).getD 0)::cs else cs) cs).lookup x=some c→
   (c=(env.cells.lookup x).getD 0∧(x,NameKind.free)∈l)∨cs.lookup x=some c:=by
  intro l
  induction l with
  |nil=>intro cs h;exact .inr h
  |cons y l ih=>
   intro cs h
   obtain⟨n,k⟩:=y
   rw[List.foldl_cons]at h
   rcases ih _ h with ⟨h1,h2⟩ |h'
   ·exact .inl ⟨h1,List.mem_cons_of_mem _ h2⟩
   ·by_cases hk:k=.free
    ·subst hk
     simp only[beq_self_eq_true,if_true]at h'
     rw[List.lookup_cons]at h'
     cases hx:x==n with
     |true=>
      rw[hx]at h'
      have e:x=n:=by simpa using hx
      subst e
      have e':(env.cells.lookup x).getD 0=c:=Option.some.inj h'
      exact .inl ⟨e'.symm,List.mem_cons_self⟩
     |false=>rw[hx]at h';exact .inr h'
    ·have hb:(k==NameKind.free)=false:=by simpa using hk
     simp only[hb,Bool.false_eq_true,if_false]at h'
     exact .inr h'
 rcases key _ _ h with h |h
 ·exact h
 ·simp at h
theorem WF {scope:Scope}{env:Env}{x:Str}(h:(x,NameKind.free)∈scope.names):∃c,(eu scope env).lookup x=some c:=by
 unfold eu
 have key:∀(l:List (Str×NameKind)) (cs:List (Str×Addr)),((x,NameKind.free)∈l∨∃c,cs.lookup x=some c)→∃c,(l.foldl (fun cs y=>if y.2==.free then (y.1,(env.cells.lookup y.1).getD 0)::cs else cs) cs).lookup x=some c:=by
  intro l
  induction l with
  |nil=>
   intro cs h
   rcases h with h |h
   ·simp at h
   ·exact h
  |cons y l ih=>
   intro cs h
   obtain⟨n,k⟩:=y
   rw[List.foldl_cons]
   refine ih _ ?_
   by_cases hk:k=.free
   ·subst hk
    simp only[beq_self_eq_true,if_true]
    rw[List.lookup_cons]
    cases hx:x==n with
    |true=>exact .inr ⟨_,rfl⟩
    |false=>
     rcases h with h |h
     ·rcases List.mem_cons.mp h with e |h
      ·have e1:x=n:=congrArg Prod.fst e
       simp[e1]at hx
      ·exact .inl h
     ·exact .inr h
   ·have hb:(k==NameKind.free)=false:=by simpa using hk
    simp only[hb,Bool.false_eq_true,if_false]
    rcases h with h |h
    ·rcases List.mem_cons.mp h with e |h
     ·exact absurd (congrArg Prod.snd e).symm hk
     ·exact .inl h
    ·exact .inr h
 exact key _ _ (.inl h)
def rl (env:Env) (y:Str×NameKind):Str×NameKind:=if (y.2==NameKind.free&&env.scope.kind==.function&&env.kindOf y.1==some .cell) then (y.1,NameKind.cell) else y
theorem DB (env:Env) (y:Str×NameKind):(rl env y).1=y.1:=by unfold rl;split<;>rfl
theorem QD {env:Env}{y:Str×NameKind}(h:y.2=.free):(rl env y).2=.cell∨(rl env y).2=.free:=by
 unfold rl;split
 ·exact .inl rfl
 ·exact .inr h
theorem O4 {env:Env}{y:Str×NameKind}(h:y.2≠.free):rl env y=y:=by
 have hb:(y.2==NameKind.free)=false:=by simpa using h
 unfold rl;rw[hb];simp
theorem Y2 (scope:Scope) (env:Env):(relabel scope env).names=scope.names.map (rl env):=rfl
theorem Uw {scope:Scope}{env:Env}{x:Str}(hc:∀y∈scope.names,y.2≠.cell) (h:(relabel scope env).names.lookup x=some .cell∨(relabel scope env).names.lookup x=some .free):(x,NameKind.free)∈scope.names:=by
 rw[Y2]at h
 have key:∀(l:List (Str×NameKind)),(∀y∈l,y.2≠.cell)→(∃k,(k=NameKind.cell∨k=.free)∧(l.map (rl env)).lookup x=some k)→(x,NameKind.free)∈l:=by
  intro l
  induction l with
  |nil=>rintro _ ⟨k,_,h⟩;simp at h
  |cons y l ih=>
   rintro hl ⟨k',aN,h⟩
   obtain⟨n,k⟩:=y
   have e1:(rl env (n,k))=(n,(rl env (n,k)).2):=Prod.ext (DB env _) rfl
   rw[List.map_cons,e1,List.lookup_cons]at h
   cases hx:x==n with
   |true=>
    have e:x=n:=by simpa using hx
    subst e
    by_cases hk:k=.free
    ·subst hk;exact List.mem_cons_self
    ·rw[hx]at h
     rw[O4 (env:=env) (y:=(x,k)) hk]at h
     have e:k=k':=Option.some.inj h
     subst e
     rcases aN with z |z
     ·exact absurd z (hl _ List.mem_cons_self)
     ·exact absurd z hk
   |false=>
    rw[hx]at h
    exact List.mem_cons_of_mem _ (ih (fun y hy=>hl y (List.mem_cons_of_mem _ hy)) ⟨k',aN,h⟩)
 refine key _ hc ?_
 rcases h with h |h
 ·exact⟨_,.inl rfl,h⟩
 ·exact⟨_,.inr rfl,h⟩
theorem Y1 {scope:Scope}{env:Env}{x:Str}(h:scope.names.lookup x=some .free):(relabel scope env).names.lookup x=some .cell∨(relabel scope env).names.lookup x=some .free:=by
 rw[Y2]
 have key:∀(l:List (Str×NameKind)),l.lookup x=some .free→(l.map (rl env)).lookup x=some .cell∨(l.map (rl env)).lookup x=some .free:=by
  intro l
  induction l with
  |nil=>intro h;simp at h
  |cons y l ih=>
   intro h
   obtain⟨n,k⟩:=y
   have e1:(rl env (n,k))=(n,(rl env (n,k)).2):=Prod.ext (DB env _) rfl
   rw[List.map_cons,e1,List.lookup_cons]
   rw[List.lookup_cons]at h
   cases hx:x==n with
   |true=>
    rw[hx]at h
    have e:k=.free:=Option.some.inj h
    rcases QD (env:=env) (y:=(n,k)) e with z |z
    ·exact .inl (congrArg some z)
    ·exact .inr (congrArg some z)
   |false=>rw[hx]at h;exact ih h
 exact key _ h
def aZ (X:Cx) (N':List Str) (scope:Scope) (C:Addr) (s2:Shared) (H2:Hp) (fp:List Addr):Cx:=
 {X with N:=N',cj:=s2,j4:=H2,env:=compEnvC scope (eu scope X.env) C X.env,outer:=X.stack,stack:=X.stack,ex:=fp,fn:=fun _=>false,pn:=[],xe:=fun _ _=>False}
def uq (so si:Scope) (N N':List Str) (ts:Nat) (bQ:List Nat):Bool:=
 decide (si.kind=.function)&&si.names.all (fun y=>y.2 !=.cell)&&si.names.all (fun y=>y.2 !=.local||si.names.lookup y.1==some .local)
 &&si.names.all (fun y=>y.2 !=.free||so.names.lookup y.1==some .cell||so.names.lookup y.1==some .free)
 &&decide N'.Nodup&&decide (N'.length=ts+bQ.length)
 &&(List.range bQ.length).all (fun k=> (N'[ts+k]? ==(bQ[k]?.bind fun j=>N[j]?))&&(N'[ts+k]?.isSome)&&(N'[ts+k]?.all fun x=>so.names.lookup x !=some .local&&si.names.lookup x==some .free))
def kL (ts:Nat) (bQ:List Nat) (σ:St):St:=List.replicate ts none++bQ.map fun j=> (σ[j]?).join
structure zi (X:Cx) (N':List Str) (ts:Nat) (bQ:List Nat) (scope:Scope):Prop where
 kind:scope.kind=.function
 jc:∀y∈scope.names,y.2≠.cell
 names:∀y∈scope.names,y.2=.local→scope.names.lookup y.1=some .local
 free:∀y∈scope.names,y.2=.free→X.env.kindOf y.1=some .cell∨X.env.kindOf y.1=some .free
 nd:N'.Nodup
 len:N'.length=ts+bQ.length
 OH:∀k j,bQ[k]? =some j→∃x,N'[ts+k]? =some x∧X.N[j]? =some x∧X.env.kindOf x≠some .local∧scope.names.lookup x=some .free
theorem Jc {x:Str}{k:NameKind} :∀{l:List (Str×NameKind)},l.lookup x=some k→(x,k)∈l
 | [],h=>by simp at h
 |(n,j)::l,h=>by
  rw[List.lookup_cons]at h
  cases hx:x==n with
  |true=>
   rw[hx]at h
   have e:x=n:=by simpa using hx
   have e':j=k:=Option.some.inj h
   subst e e'
   exact List.mem_cons_self
  |false=>rw[hx]at h;exact List.mem_cons_of_mem _ (Jc h)
theorem Ek {X:Cx}{N':List Str}{ts:Nat}{bQ:List Nat}{scope:Scope}(h:uq X.env.scope scope X.N N' ts bQ=true):zi X N' ts bQ scope:=by
 unfold uq at h
 simp only[Bool.and_eq_true]at h
 obtain⟨⟨⟨⟨⟨⟨h1,h2⟩,h3⟩,h4⟩,h5⟩,h6⟩,h7⟩:=h
 refine⟨of_decide_eq_true h1,fun y hy z=> ?_,fun y hy z=> ?_,fun y hy z=> ?_,of_decide_eq_true h5,of_decide_eq_true h6,fun k j hk=> ?_⟩
 ·have q:=List.all_eq_true.mp h2 y hy
  rw[z]at q;exact absurd q (by decide)
 ·have q:=List.all_eq_true.mp h3 y hy
  rw[z]at q
  simpa using q
 ·have q:=List.all_eq_true.mp h4 y hy
  rw[z]at q
  simpa[Env.kindOf] using q
 ·have ay:k<bQ.length:=(List.getElem?_eq_some_iff.mp hk).1
  have q:=List.all_eq_true.mp h7 k (List.mem_range.mpr ay)
  simp only[Bool.and_eq_true]at q
  obtain⟨⟨q1,q2⟩,q3⟩:=q
  obtain⟨x,hx⟩:=Option.isSome_iff_exists.mp q2
  rw[hx]at q1 q3
  rw[hk]at q1
  have e1:some x=X.N[j]? :=by simpa using q1
  have wb:(X.env.scope.names.lookup x !=some .local&&scope.names.lookup x==some .free)=true:=q3
  simp only[Bool.and_eq_true]at wb
  refine⟨x,hx,e1.symm,?_,by simpa using wb.2⟩
  have z:=wb.1
  intro e
  have e':X.env.scope.names.lookup x=some .local:=e
  rw[e']at z
  exact absurd z (by decide)
section
variable {X:Cx}{pins:List (Addr×Obj)}{σ:St}{H:Hp}{s:Shared}
theorem QJ {N':List Str}{ts:Nat}{bQ:List Nat}{scope:Scope}{fp:List Addr}{h':Heap}{t':Nat}{m:Str→Option Value}{C:Addr}(S:zi X N' ts bQ scope) (I:Inv X pins σ H s) (hf:∀b∈fp,cI X pins H b)
  (ho:∀b∈fp,∃o,s.heap.get? b=some o) (hC:s.heap.objs.size≤C) (hn:h'.Ns C m) (k:∀b o,s.heap.get? b=some o→h'.get? b=some o):
  Inv (aZ X N' scope C s H fp) [] (kL ts bQ σ) H {s with heap:=h',toks:=t'} :=by
 have sub:∀x c,(eu scope X.env).lookup x=some c→X.env.cells.lookup x=some c:=fun x c e=>by
  obtain⟨e1,e2⟩:=YD e
  obtain⟨c',br⟩:=I.ok.has x (S.free _ e2 rfl)
  rw[br]at e1
  rw[br,e1];rfl
 have gM:∀b o,s.heap.get? b=some o→b≠C:=fun b o e=>Nat.ne_of_lt (Nat.lt_of_lt_of_le (Heap.lt_size e) hC)
 refine⟨⟨I.ok.mod,?_,I.ok.glob,I.ok.blt,hC,fun x y c e1 e2=>I.ok.inj x y c (sub x c e1) (sub y c e2),fun x hx=> ?_,fun x c z _=>absurd z Bool.false_ne_true,I.ok.hd,I.ok.frames,.inl rfl,fun b hb=> ?_,fun b o e=>I.bs b o e,Nat.le_trans I.ok.js I.sz,fun b o e hb=> ?_,fun b hb=> ?_,I.stack,I.pe⟩,
  rfl,I.bare,Un.kept k,⟨m,hn,fun i x v e1 e2 e3=> ?_⟩,fun x c e=> ?_,I.ai.fresh hC,fun x c e=>I.fX x c (sub x c e),fun p hp=>absurd (show p∈([]:List (Addr×Obj)) from hp) (by simp),I.ai.kept k,?_⟩
 ·show(relabel scope X.env).kind=.function
  exact S.kind
 ·exact WF (Uw S.jc hx)
 ·obtain⟨o,e⟩:=ho b hb
  refine⟨gM b o e,fun x c ec=> ?_⟩
  exact(hf b hb).2.2.2.2.1 x c (sub x c ec)
 ·obtain⟨e1,e2⟩:=I.bs b o e
  obtain⟨f0,f1,f2,f3,f4,f5⟩:=hf b hb
  rcases f3 with z |z
  ·exact I.ok.lG b o e z
  ·exact absurd (Nat.lt_of_lt_of_le (Heap.lt_size (I.ok.bs b o e).1) z) (Nat.lt_irrefl _)
 ·intro z
  obtain⟨f0,f1,f2,f3,f4,f5⟩:=hf b hb
  rcases List.mem_cons.mp (I.rp b z) with q |q
  ·exact f1 q
  ·exact f2 q
 ·-- the Vq values
  have hlen:¬i<ts:=fun ay=>by
   unfold kL at e2
   rw[List.getElem?_append_left (by simpa using ay),List.getElem?_replicate]at e2
   split at e2<;>cases e2
  have qF:(bQ.map fun j=> (σ[j]?).join)[i - ts]? =some (some v):=by
   unfold kL at e2
   rw[List.getElem?_append_right (by simpa using hlen),List.length_replicate]at e2
   exact e2
  rw[List.getElem?_map]at qF
  cases hc:bQ[i - ts]? with
  |none=>rw[hc]at qF;cases qF
  |some j=>
   rw[hc]at qF
   have jV:(σ[j]?).join=some v:=Option.some.inj qF
   have e4:σ[j]? =some (some v):=by
    cases q:σ[j]? with
    |none=>rw[q]at jV;cases jV
    |some o=>rw[q]at jV;exact congrArg some jV
   obtain⟨x',n1,n2,n3,n4⟩:=S.OH _ _ hc
   have ei:ts+(i - ts)=i:=by omega
   rw[ei]at n1
   have ex:x=x':=by
    have uk:N'[i]? =some x:=e1
    rw[n1]at uk;exact(Option.some.inj uk).symm
   subst ex
   obtain⟨mX,VF,hl⟩:=I.loc
   have Fq:qK X.env.scope x:=by
    rcases S.free _ (Jc n4) rfl with z |z
    ·exact .inr (.inl z)
    ·exact .inr (.inr z)
   obtain⟨u,ru,lk⟩:=hl j x v n2 e4 Fq
   refine⟨u,ru,?_⟩
   rcases lk with ⟨z,_⟩ |⟨z,c,ec,kH⟩
   ·exact absurd z n3
   ·obtain⟨c',br⟩:=WF (env:=X.env) (Jc n4)
    have:=sub x c' br
    rw[ec]at this
    cases this
    refine .inr ⟨?_,c,br,kH.keeps k⟩
    exact Y1 n4
 ·obtain⟨v,z⟩:=I.cell x c (sub x c e)
  exact⟨v,z.keeps k⟩
 ·show(kL ts bQ σ).length=N'.length
  unfold kL
  rw[List.length_append,List.length_replicate,List.length_map,S.len]
end
def AccAt (h:Heap) (D:Addr) (ys:List V):Prop:=ys.length≤sizeLine∧∃(its:List Value) (n:Nat),Vals ys its∧h.get? D=some {cls:=.type "list",data:=.seq its.toArray n}
theorem AccAt.keep {h h':Heap}{D:Addr}{ys:List V}(a:AccAt h D ys) (k:∀o,h.get? D=some o→h'.get? D=some o):AccAt h' D ys:=by
 obtain⟨z,its,n,r,e⟩:=a
 exact⟨z,its,n,r,k _ e⟩
abbrev TC:=List V→St→Hp→(List V→St→Hp→Prop)→Prop
def mV (Y:Cx) (D:Addr) (m:Sem PySem.Fin→Sem PySem.Fin) (t:TC):Prop:=
 ∀(pins:List (Addr×Obj)) (s:Shared) (σ:St) (H:Hp) (ys:List V) (Q:List V→St→Hp→Prop) (k:Sem PySem.Fin) (R:PySem.Fin→Shared→Prop),Inv Y pins σ H s→cI Y pins H D→AccAt s.heap D ys→t ys σ H Q→
  (∀s' cq aj H',Inv Y pins aj H' s'→cI Y pins H' D→AccAt s'.heap D cq→Q cq aj H'→wpAny (model Y.prog Y.w) Y.A k R (fun _ _=>False) s')→wpAny (model Y.prog Y.w) Y.A (m k) R (fun _ _=>False) s
def zu (ifs:List Expr) (env:Env):Sem Bool:=forIn ifs true fun c r=>if r=true then do let ok ←isTrue c env (eval c env);pure (ForInStep.yield ok) else pure (ForInStep.yield r)
def mU (Y:Cx) (ifs:List Expr) (t:TT):Prop:=
 ∀(pins:List (Addr×Obj)) (s:Shared) (σ:St) (H:Hp) (Q:Bool→Hp→Prop),Inv Y pins σ H s→t σ H Q→wpAny (model Y.prog Y.w) Y.A (zu ifs Y.env) (TP Y pins σ Q) Y.xe s
def rh:TT:=fun _ H Q=>Q true H
section
variable {Y:Cx}{D:Addr}
theorem Ya:mU Y [] rh:=fun pins s σ H Q I h=>wpAny_tests_nil ⟨H,I,h⟩
theorem Yp {c:Expr}{t:TT}(hc:PT Y c t):mU Y [c] t:=fun pins s σ H Q I h=>wpAny_tests_one (hc pins s σ H Q I h)
def zB (te:TE):TC:=fun ys σ H Q=>te σ H fun v H1=>ys.length<sizeLine∧Q (ys++[v]) σ H1
theorem AccAt.jc {h:Heap}{ys:List V}(a:AccAt h D ys):∀b∈[D],∃o,h.get? b=some o∧∀v,o.data≠.cell v:=fun b hb=>by
 have e:b=D:=by simpa using hb
 subst e
 obtain⟨z,its,n,r,e⟩:=a
 exact⟨_,e,fun v z=>by
  have z':Data.seq its.toArray n=Data.cell v:=z
  cases z'⟩
theorem AccAt.through {h:Heap}{pins:List (Addr×Obj)}{aj:St}{H':Hp}{s':Shared}{ys:List V}(a:AccAt h D ys) (I:Inv Y (pins++jK [D] h) aj H' s'):AccAt s'.heap D ys∧H' D=none:=by
 obtain⟨z,its,n,r,e⟩:=a
 have q:=I.pin (D,_) (List.mem_append_right _ (List.mem_append_right _ (ZT (List.mem_singleton.mpr rfl) e)))
 exact⟨⟨z,its,n,r,q.1⟩,q.2.1⟩
theorem ZK {elt:Expr}{te:TE}(hx:Y.xe=fun _ _=>False) (he:PE Y elt te):
    mV Y D (fun k=> (do let _ ←call (.builtin "list.append") [.ref D,←eval elt Y.env]) >>=fun _=>k) (zB te):=by
  intro pins s σ H ys Q k R I f a h hk
  refine wpAny_bind (wpAny_mono (Q:=fun _ s'=> ∃cq aj H',Inv Y pins aj H' s'∧cI Y pins H' D∧AccAt s'.heap D cq∧Q cq aj H') ?_ (fun _ s' ⟨cq,aj,H',q1,q2,q3,q4⟩=>hk s' cq aj H' q1 q2 q3 q4) fun _ _ z=>z)
  have I':=I.pinned (fp:=[D]) (fun b hb=>by have e:b=D:=by simpa using hb
                                            subst e;exact f) a.jc
  refine wpAny_bind (wpAny_mono (he _ s σ H _ I' h) (fun u s1 ⟨v,H1,I1,ru,hz,q⟩=> ?_) fun e s1 z=>by rw[hx]at z;exact z)
  obtain⟨a1,n1⟩:=a.through I1
  have f1:cI Y pins H1 D:=⟨n1,f.2⟩
  obtain⟨z,its,n,r,e⟩:=a1
  have hl:=r.length
  refine wpAny_bind (call_meets F.slot_list_append ⟨_,e,rfl⟩ F.entry_list_append (F.args_list_append_2 _ _) (PySem.list_append D its.toArray n u (by rw[List.size_toArray];omega)) ⟨e,wpAny_pure ?_⟩)
  have q2:=PySem.IsL.update e (·.push u)
  obtain⟨f0,g1,g2,g3,g4,g5⟩:=f1
  have I2:Inv Y pins σ H1 {s1 with heap:=s1.heap.update D (Obj.mapSeq (·.push u))} :=I1.i6.turned (t':=s1.toks) (it:=D) (fun b o hb eb=> (Heap.get?_update_other s1.heap _ (Ne.symm hb)).trans eb) f0 g1 g3 g4 g5
  refine⟨ys++[v],σ,H1,I2,⟨f0,g1,g2,g3,g4,g5⟩,⟨by rw[List.length_append,List.length_singleton];omega,its++[u],(if ((its.toArray.push u).size==its.toArray.size)=true then n else n+1),r.append (.cons ru .nil),?_⟩,q⟩
  have e3:its.toArray.push u=(its++[u]).toArray:=by simp
  rw[←e3]
  exact q2
def inner (elt:Expr) (gens:List Comprehension) (scope:Scope) (pos:Pos) (d:Nat) (acc:Value) (env:Env) (k:Sem PySem.Fin):Sem PySem.Fin:=
 match gens[d+1]? with
 |some g'=>eval g'.iter env >>=fun x=>standAt g'.iter.pos >>=fun _=>foldedSetIterable g'.iter env x >>=fun x=>holding [x] (pyIter x) >>=fun lQ=>
  runOwn (.compStart (.ListComp elt gens scope pos) (d+1) lQ acc env) env >>=fun _=>k
 |none=> (do let _ ←call (.builtin "list.append") [acc,←eval elt env]) >>=fun _=>k
set_option maxHeartbeats 400000 in
theorem Sv (elt tg iter:Expr) (ifs:List Expr) (gens:List Comprehension) (scope:Scope) (pos:Pos) (d:Nat) (it acc:Value) (env:Env) (hg:gens[d]? =some ⟨tg,iter,ifs,0⟩) (h2:∀g',gens[d+1]? =some g'→g'.is_async=0):
  compTurn (.ListComp elt gens scope pos) d it acc env=(standAt iter.pos >>=fun _=>pyNext it >>=fun r=>match r with
   |none=>pure (.done .next)
   |some v=>letOwnedTupleGo tg it v >>=fun _=>assign tg env v >>=fun _=>zu ifs env >>=fun ok=>
    if ok=true then inner elt gens scope pos d acc env (again (.compLoop (.ListComp elt gens scope pos) d it acc env)) else again (.compLoop (.ListComp elt gens scope pos) d it acc env)):=by
 unfold compTurn inner
 dsimp only
 rw[hg]
 generalize hn:gens[d+1]? =o
 cases o with
 |none=>rfl
 |some g'=>
  have e:=h2 g' hn
  obtain⟨t',i',f',a'⟩:=g'
  have e':a'=0:=e
  subst e'
  rfl
def iw (g:TG) (tt:TT) (ti:TC) (J:It):TC:=fun ys σ H Q=> ∃W:Nat→Nat→List V→St→Hp→Prop,(∃m,W 0 m ys σ H)∧∀i m ys σ H,W i m ys σ H→
 (J.stop i H∧Q ys σ H)∨(J.go i H∧∃N:List V→St→Hp→Prop,(∀cq aj H',N cq aj H'→∃m',m'<m∧W (i+1) m' cq aj H')∧
  ∀x H',J.nz i H x H'→g x σ H' fun aR H2=>tt aR H2 fun b H3=>if b=true then ti ys aR H3 N else N ys aR H3)
theorem Uj {elt tg iter:Expr}{ifs:List Expr}{gens:List Comprehension}{scope:Scope}{pos:Pos}{d:Nat}{it:Addr}{fp:List Addr}{tn:Nat→Heap→Prop}{J:It}{g:TG}{tt:TT}{ti:TC}{pins:List (Addr×Obj)}{s:Shared}{σ:St}{H:Hp}{ys:List V}{Q:List V→St→Hp→Prop}
    (hx:Y.xe=fun _ _=>False) (hc:Y.calm=true) (hg:gens[d]? =some ⟨tg,iter,ifs,0⟩) (T:Turn Y.prog Y.w Y.K tg J fp it tn) (hf:∀b∈fp,cI Y pins H b) (st:tn 0 s.heap) (hD:D∉fp)
    (h2:∀g',gens[d+1]? =some g'→g'.is_async=0) (pg:PG Y tg g) (pt:mU Y ifs tt) (pi:mV Y D (inner elt gens scope pos d (.ref D) Y.env) ti)
    (I:Inv Y pins σ H s) (f:cI Y pins H D) (a:AccAt s.heap D ys) (h:iw g tt ti J ys σ H Q):
    codeAny (model Y.prog Y.w) Y.A (.compLoop (.ListComp elt gens scope pos) d (.ref it) (.ref D) Y.env) (fun r s'=>match r with
      | .ok _=> ∃cq aj H',Inv Y pins aj H' s'∧cI Y pins H' D∧AccAt s'.heap D cq∧Q cq aj H'
      | .error _=>False) s:=by
  obtain⟨W,⟨m0,w0⟩,turn⟩:=h
  have stat:∀{H':Hp},(∀b∈fp,H' b=none)→∀b∈fp,cI Y pins H' b:=fun hn b hb=> ⟨hn b hb,(hf b hb).2⟩
  refine codeAny_loop rfl (fun n s'=> ∃i cq aj H',Inv Y pins aj H' s'∧cI Y pins H' D∧AccAt s'.heap D cq∧tn i s'.heap∧(∀b∈fp,H' b=none)∧W i n cq aj H') (fun n s3 hI=> ?_) m0 ⟨0,ys,σ,H,I,f,a,st,fun b hb=> (hf b hb).1,w0⟩
  obtain⟨i,oS,eI,H3,I3,f3,a3,aO,uf,w3⟩:=hI
  show wpAny _ Y.A ((compTurn (.ListComp elt gens scope pos) d (.ref it) (.ref D) Y.env).onRaise (fun x=>do noteFrame x Y.env;theTreesLotGoes x)) _ _ s3
  refine wpAny_noted (wpAny_mono (E:=fun _ _=>False) ?_ (fun _ _ q=>q) fun _ _ z=>z.elim)
  rw[Sv elt tg iter ifs gens scope pos d (.ref it) (.ref D) Y.env hg h2]
  refine wpAny_bind (wpAny_standAt (wpAny_bind ?_))
  have aD:∀{h h':Heap},(∀b o,b∉fp→h.get? b=some o→h'.get? b=some o)→∀{zs},AccAt h D zs→AccAt h' D zs:=fun k _ q=>q.keep fun o e=>k D o hD e
  have EW:=I3.pinned (fp:=[D]) (fun b hb=>by have e:b=D:=by simpa using hb
                                             subst e;exact f3) a3.jc
  have zL:∀b∈fp,cI Y (pins++jK [D] s3.heap) H3 b:=fun b hb=>by
    obtain⟨g0,g1,g2,g3,g4,g5⟩:=stat uf b hb
    refine⟨g0,g1,g2,g3,g4,fun p hp=> ?_⟩
    rcases List.mem_append.mp hp with z |z
    · exact g5 p (List.mem_append_left _ z)
    · rcases List.mem_append.mp z with z |z
      · exact g5 p (List.mem_append_right _ z)
      · intro q
        have e:p.1=D:=by simpa using (JI z).1
        exact hD (by rw[←e,q];exact hb)
  rcases turn i n oS eI H3 w3 with ⟨stop,qn⟩ |⟨go,N,hN,step⟩
  · refine wpAny_mono (T.done Y rfl rfl rfl hc i _ s3 eI H3 (fun _ _=>False) EW zL aO stop) (fun r s4 ⟨hr,I4⟩=> ?_) fun _ _ z=>z
    subst hr
    obtain⟨a4,n4⟩:=a3.through I4
    exact wpAny_pure ⟨oS,eI,H3,I4.i6,f3,a4,qn⟩
  · refine wpAny_mono (T.item Y rfl rfl rfl hc i _ s3 eI H3 (fun _ _=>False) EW zL aO go) (fun r s4 ⟨u,hr,h4⟩=> ?_) fun _ _ z=>z
    subst hr
    refine wpAny_bind (wpAny_mono h4 (fun _ s5 ⟨x,H5,I5,r5,y5,cM,ya⟩=> ?_) fun _ _ z=>z)
    obtain⟨a5,n5⟩:=a3.through I5
    have f5:cI Y pins H5 D:=⟨n5,f3.2⟩
    have LR:∀b∈D::fp,∃o,s5.heap.get? b=some o∧∀v,o.data≠.cell v:=fun b hb=>by
      rcases List.mem_cons.mp hb with e |hb
      · exact a5.jc b (by simp[e])
      · exact T.obj _ _ cM b hb
    have y6:=I5.i6.pinned (fp:=D::fp) (fun b hb=>by
      rcases List.mem_cons.mp hb with e |hb
      · rw[e];exact f5
      · exact stat ya b hb) LR
    refine wpAny_bind (wpAny_mono (pg _ s5 eI H5 x u _ y6 r5 (step x H5 y5)) (fun _ s6 ⟨oR,H6,I6,q6⟩=> ?_) fun _ _ z=>by rw[hx]at z;exact z)
    refine wpAny_bind (wpAny_mono (pt _ s6 oR H6 _ I6 q6) (fun b s7 ⟨H7,I7,q7⟩=> ?_) fun _ _ z=>by rw[hx]at z;exact z)
    have AE:∀{eG:St}{H7:Hp}{s7:Shared},Inv Y (pins++jK (D::fp) s5.heap) eG H7 s7→AccAt s7.heap D oS∧H7 D=none:=fun {eG H7 s7} J=>by
      obtain⟨z,its,n,r,e⟩:=id a5
      have q:=J.pin (D,_) (List.mem_append_right _ (List.mem_append_right _ (ZT List.mem_cons_self e)))
      exact⟨⟨z,its,n,r,q.1⟩,q.2.1⟩
    have AD:∀{eG:St}{H7:Hp}{s7:Shared},Inv Y (pins++jK (D::fp) s5.heap) eG H7 s7→tn (i+1) s7.heap∧∀b∈fp,H7 b=none:=fun {eG H7 s7} J=>by
      refine⟨T.keep _ _ _ cM fun b hb o e=> (J.pin (b,o) (List.mem_append_right _ (List.mem_append_right _ (ZT (List.mem_cons_of_mem _ hb) e)))).1,fun b hb=> ?_⟩
      obtain⟨o,e,dd⟩:=T.obj _ _ cM b hb
      exact(J.pin (b,o) (List.mem_append_right _ (List.mem_append_right _ (ZT (List.mem_cons_of_mem _ hb) e)))).2.1
    cases b with
    |false=>
     simp only[Bool.false_eq_true,if_false]at q7 ⊢
     obtain⟨m',hm,w7⟩:=hN _ _ _ q7
     obtain⟨a7,n7⟩:=AE I7
     obtain⟨t7,r7⟩:=AD I7
     exact wpAny_pure ⟨rfl,m',hm,i+1,oS,oR,H7,I7.i6,⟨n7,f3.2⟩,a7,t7,r7,w7⟩
    |true=>
     simp only[if_true]at q7 ⊢
     obtain⟨a7,n7⟩:=AE I7
     obtain⟨t7,r7⟩:=AD I7
     have Tn:=I7.i6.pinned (fp:=fp) (stat r7) (T.obj _ _ t7)
     have f7:cI Y (pins++jK fp s7.heap) H7 D:=by
       obtain⟨g0,g1,g2,g3,g4,g5⟩:=f3
       refine⟨n7,g1,g2,g3,g4,fun p hp=> ?_⟩
       rcases List.mem_append.mp hp with z |z
       · exact g5 p (List.mem_append_left _ z)
       · rcases List.mem_append.mp z with z |z
         · exact g5 p (List.mem_append_right _ z)
         · intro q
           exact hD (by rw[←q];exact(JI z).1)
     refine pi _ s7 oR H7 oS N _ _ Tn f7 a7 q7 fun s8 Fo qU H8 I8 f8 a8 q8=> ?_
     obtain⟨m',hm,w8⟩:=hN _ _ _ q8
     refine wpAny_pure ⟨rfl,m',hm,i+1,Fo,qU,H8,I8.i6,⟨f8.1,f3.2⟩,a8,T.keep _ _ _ t7 fun b hb o e=> (I8.pin (b,o) (List.mem_append_right _ (List.mem_append_right _ (ZT hb e)))).1,fun b hb=> ?_,w8⟩
     obtain⟨o,e,dd⟩:=T.obj _ _ t7 b hb
     exact(I8.pin (b,o) (List.mem_append_right _ (List.mem_append_right _ (ZT hb e)))).2.1
theorem WD {elt tg iter:Expr}{ifs:List Expr}{gens:List Comprehension}{scope:Scope}{pos:Pos}{d:Nat}{it:Addr}{R:Result→Shared→Prop}{s:Shared}{A:Around}{prog:Program}{w:World}{env:Env}{acc:Value}{fp:List Addr}{tn:Nat→Heap→Prop}{J:It}{K:PySem.W.Frag}
  (hg:gens[d]? =some ⟨tg,iter,ifs,0⟩) (T:Turn prog w K tg J fp it tn) {i:Nat} (st:tn i s.heap) (h:codeAny (model prog w) A (.compLoop (.ListComp elt gens scope pos) d (.ref it) acc env) R s):
  codeAny (model prog w) A (.compStart (.ListComp elt gens scope pos) d (.ref it) acc env) R s:=by
 refine codeAny_of_tree ?_
 show wpAny _ _ ((compStart (.ListComp elt gens scope pos) d (.ref it) acc env).onRaise (fun x=>do noteFrame x env;standAt theWindowsPlace)) _ _ s
 refine wpAny_notedAt ?_
 have Ms:(clausesOf (.ListComp elt gens scope pos))[d]? =some ⟨tg,iter,ifs,0⟩:=hg
 unfold compStart
 rw[Ms]
 show wpAny _ _ (ask >>=_) _ _ s
 refine wpAny_bind (wpAny_askSetting (wpAny_ite ?_))
 split
 ·first
   |exact wpAny_bind (wpAny_pure (wpAny_pure (And.intro rfl h)))
   |exact wpAny_pure (And.intro rfl h)
 ·refine wpAny_bind (wpAny_rule ?_)
  show wpAny _ _ (standAt iter.pos >>=_) _ _ s
  exact wpAny_bind (wpAny_standAt (wpAny_bind (T.self A i s _ _ st (wpAny_pure (And.intro rfl h)))))
def F9 (wi:TI) (g:TG) (tt:TT) (ti:TC):TC:=fun ys σ H Q=>wi σ H fun J H1=>iw g tt ti J ys σ H1 Q
theorem UZ {elt tg iter:Expr}{ifs:List Expr}{gens:List Comprehension}{scope:Scope}{pos:Pos}{d:Nat}{wi:TI}{g:TG}{tt:TT}{ti:TC}
    (hx:Y.xe=fun _ _=>False) (hc:Y.calm=true) (hg:gens[d+1]? =some ⟨tg,iter,ifs,0⟩) (hi:PI Y tg iter wi) (pg:PG Y tg g) (pt:mU Y ifs tt) (pi:mV Y D (inner elt gens scope pos (d+1) (.ref D) Y.env) ti)
    (hs:∀x,foldedSetIterable iter Y.env x=pure x) (h2:∀g',gens[d+1+1]? =some g'→g'.is_async=0):mV Y D (inner elt gens scope pos d (.ref D) Y.env) (F9 wi g tt ti):=by
  intro pins s σ H ys Q k R I f a h hk
  unfold inner
  rw[hg]
  have I':=I.pinned (fp:=[D]) (fun b hb=>by have e:b=D:=by simpa using hb
                                            subst e;exact f) a.jc
  refine wpAny_bind (wpAny_mono (hi _ s σ H _ I' h) (fun v s1 h1=> ?_) fun _ _ z=>by rw[hx]at z;exact z)
  refine wpAny_bind (wpAny_standAt (wpAny_bind (wpAny_of_eq (hs v) (wpAny_bind (wpAny_holding (wpAny_mono h1 (fun lQ s2 h2=> ?_) fun _ _ z=>by rw[hx]at z;exact z))))))
  obtain⟨it,fp,tn,J,H2,e,I2,T,ak,f2,q2⟩:=h2
  subst e
  obtain⟨a2,n2⟩:=a.through I2
  have fD:cI Y pins H2 D:=⟨n2,f.2⟩
  have hD:D∉fp:=fun z=>by
    obtain⟨z1,its,n,r,e⟩:=a
    exact(f2 D z).2.2.2.2.2 (D,_) (List.mem_append_right _ (List.mem_append_right _ (ZT (List.mem_singleton.mpr rfl) e))) rfl
  have CK:∀b∈fp,cI Y pins H2 b:=fun b hb=>by
    obtain⟨g0,g1,g2,g3,g4,g5⟩:=f2 b hb
    exact⟨g0,g1,g2,g3,g4,fun p hp=>g5 p (by
      rcases List.mem_append.mp hp with z |z
      · exact List.mem_append_left _ z
      · exact List.mem_append_right _ (List.mem_append_left _ z))⟩
  refine wpAny_bind (wpAny_runOwn (codeAny_mono (WD hg T ak (Uj (Q:=Q) hx hc hg T CK ak hD h2 pg pt pi I2.i6 fD a2 q2)) fun r s' hr=> ?_))
  cases r with
  |ok fl=>
   obtain⟨cq,aj,H',q1,q2,q3,q4⟩:=hr
   exact hk s' cq aj H' q1 q2 q3 q4
  |error e=>exact hr.elim
end
section
variable {X:Cx}{pins:List (Addr×Obj)}{σ:St}{H H':Hp}{s s':Shared}
theorem Ei {N':List Str}{scope:Scope}{C D:Addr}{fp:List Addr}{aj:St}{ys:List V}{pl:List (Addr×Obj)}{h':Heap}(I:Inv X pins σ H s) (hf:∀b∈fp,cI X pins H b) (hC:s.heap.objs.size≤C) (hD:s.heap.objs.size≤D) (mF:D≠C)
  (J:Inv (aZ X N' scope C s H fp) pl aj H' s') (n:H' D=none) (a:AccAt s'.heap D ys) (sb:Heap.SameBut C s'.heap h'):Inv X pins σ (upd H' D (.lst ys)) {s' with heap:=h'} :=by
 have gM:∀b o,s.heap.get? b=some o→b≠C:=fun b o e=>Nat.ne_of_lt (Nat.lt_of_lt_of_le (Heap.lt_size e) hC)
 have IK:∀b o,s.heap.get? b=some o→b≠D:=fun b o e=>Nat.ne_of_lt (Nat.lt_of_lt_of_le (Heap.lt_size e) hD)
 have wy:∀b o,H b=some o→b≠D:=fun b o e=>Nat.ne_of_lt (Nat.lt_of_lt_of_le (I.ai.lt e) hD)
 have fC:H' C=none:=J.free
 have u:Un (aX X.stack) fp H H' s.heap s'.heap:=J.base
 refine I.De (s':= {s' with heap:=h'}) (ch:=fp) J.os ⟨fun b o e nb hb hx=> (sb.2 b (gM b o e)).trans (u.keep b o e nb hb hx),fun b o e nb hb hx=> ?_,fun b o e nb hx=>by rw[Zf (IK b o e)];exact u.free b o e nb hx,fun b o e hx=> ?_,
  fun b xs e=>by rw[Zf (wy b _ e)];exact u.f9 b xs e,fun b o xs e=>by rw[Zf (wy b _ e)];exact u.fW b o xs e,fun b ps e=>by rw[Zf (wy b _ e)];exact u.fM b ps e⟩ (fun b v e=> ?_) J.bare fun b hb=> ?_
 ·obtain⟨sl,q⟩:=u.slot b o e nb hb hx
  exact⟨sl,(sb.2 b (gM b o e)).trans q⟩
 ·obtain⟨o',q⟩:=u.there b o e hx
  exact⟨o',(sb.2 b (gM b o e)).trans q⟩
 ·by_cases hb:b=D
  ·subst hb
   rw[Zc]at e
   cases e
   obtain⟨z,its,k,r,q⟩:=a
   exact⟨z,its,k,r,(sb.2 b mF).trans q⟩
  ·rw[Zf hb]at e
   refine(J.ai b v e).bI (fun c w hc q=> (sb.2 c ?_).trans q) (fun c q=>by rw[Zf (Zg q n)];exact q) fun c xs q=>by rw[Zf (Zg q n)];exact q
   rcases hc with z |z
   ·rw[z];exact Zg e fC
   ·exact Zg z fC
 ·obtain⟨f0,f1,f2,f3,f4,f5⟩:=hf b hb
  exact⟨f3,f1,f4,f5⟩
theorem WE {elt tg iter:Expr}{ifs:List Expr}{rest:List Comprehension}{scope:Scope}{pos:Pos}{N':List Str}{ts:Nat}{bQ:List Nat}{it:Addr}{fp:List Addr}{tn:Nat→Heap→Prop}{J:It}{g:TG}{tt:TT}{ti:TC}{Q:List V→Hp→Prop}{E:Value→Shared→Prop}{RR:Value→Addr→Result→Shared→Prop}
  (S:zi X N' ts bQ scope) (hc:X.calm=true) (I:Inv X pins σ H s) (T:Turn X.prog X.w X.K tg J fp it tn) (st:tn 0 s.heap) (hf:∀b∈fp,cI X pins H b)
  (h2:∀g',(Comprehension.mk tg iter ifs 0::rest)[0+1]? =some g'→g'.is_async=0)
  (pg:∀C,PG (aZ X N' scope C s H fp) tg g) (pt:∀C,mU (aZ X N' scope C s H fp) ifs tt)
  (pi:∀C D,mV (aZ X N' scope C s H fp) D (inner elt (⟨tg,iter,ifs,0⟩::rest) scope pos 0 (.ref D) (aZ X N' scope C s H fp).env) ti)
  (h:iw g tt ti J [] (kL ts bQ σ) H fun ys _ H2=>Q ys H2)
  (M4:∀C D s' aj H' ys fl,s.heap.objs.size≤C→s.heap.objs.size≤D→D≠C→Inv (aZ X N' scope C s H fp) [] aj H' s'→H' D=none→AccAt s'.heap D ys→Q ys H'→RR (.ref D) C (.ok fl) s'):
  wpAny (model X.prog X.w) X.A (newList []) (fun acc Gv=>wpAny (model X.prog X.w) X.A (newFunctionEnv scope X.env.globals (eu scope X.env) [] X.env.qual none .none (some X.env)) (fun Dc Gu=>
   codeAny (model X.prog X.w) X.A (.compStart (.ListComp elt (⟨tg,iter,ifs,0⟩::rest) scope pos) 0 (.ref it) acc {Dc with scope:=relabel scope X.env}) (RR acc Dc.locals) Gu) E Gv) E s:=by
 refine wpAny_newObj_type (wpAny_newFunctionEnv S.jc (by intro y hy;simp at hy) (fun jN xh tD=> ?_) S.kind)
 dsimp only at xh tD ⊢
 generalize oG:s.heap.push {cls:=.type "list",dict:=none,data:=.seq ([]:List Value).toArray} =h0 at xh tD ⊢
 have hC:h0.objs.size=s.heap.objs.size+1:=by rw[←oG,Heap.size_push]
 have mF:s.heap.objs.size≠h0.objs.size:=by rw[hC];exact Nat.ne_of_lt (Nat.lt_succ_self _)
 have xV:s.heap.objs.size≤h0.objs.size:=by rw[hC];exact Nat.le_succ _
 have gM:∀b o,s.heap.get? b=some o→b≠h0.objs.size:=fun b o e=>Nat.ne_of_lt (Nat.lt_of_lt_of_le (Heap.lt_size e) xV)
 have old:∀b o,s.heap.get? b=some o→jN.get? b=some o:=fun b o e=>tD.extBut b o (gM b o e) (Heap.get?_push_of_some _ (oG▸Heap.get?_push_of_some _ e))
 have fU:jN.get? s.heap.objs.size=some {cls:=.type "list",data:=.seq ([]:List Value).toArray 0} :=tD.extBut _ _ mF (Heap.get?_push_of_some _ (oG▸Heap.get?_push_size _ rfl))
 have ho:∀b∈fp,∃o,s.heap.get? b=some o:=fun b hb=>let ⟨o,e,_⟩:=T.obj _ _ st b hb;⟨o,e⟩
 have I1:Inv (aZ X N' scope h0.objs.size s H fp) [] (kL ts bQ σ) H {s with heap:=jN,toks:=s.toks+([]:List (Str×Value)).length} :=QJ S I hf ho xV xh old
 have fresh:=I.ai.fresh (a:=s.heap.objs.size) (Nat.le_refl _)
 have NF:∀b∈fp,cI (aZ X N' scope h0.objs.size s H fp) [] H b:=fun b hb=>by
  obtain⟨f0,f1,f2,f3,f4,f5⟩:=hf b hb
  refine⟨f0,(I1.ok.oI b hb).1,I1.ok.mJ b hb,.inl hb,(I1.ok.oI b hb).2,fun p hp=>absurd (show p∈([]:List (Addr×Obj)) from hp) (by simp)⟩
 have fD:cI (aZ X N' scope h0.objs.size s H fp) [] H s.heap.objs.size:=by
  refine⟨fresh,mF,fun z=> ?_,.inr (Nat.le_refl _),fun x c e z=> ?_,fun p hp=>absurd (show p∈([]:List (Addr×Obj)) from hp) (by simp)⟩
  ·obtain⟨_,o,cF,_⟩:=I.stack.mem z
   exact absurd (Heap.lt_size cF) (Nat.lt_irrefl _)
  ·obtain⟨e1,e2⟩:=YD e
   obtain⟨c',br⟩:=I.ok.has x (S.free _ e2 rfl)
   obtain⟨v,q⟩:=I.cell x c' br
   rw[br]at e1
   have e3:c=c':=e1
   have l:=q.lt
   rw[←e3,z]at l
   exact absurd l (Nat.lt_irrefl _)
 have aD:AccAt jN s.heap.objs.size []:=⟨Nat.zero_le _,[],0,.nil,fU⟩
 have Nc:s.heap.objs.size∉fp:=fun z=>by obtain⟨o,e⟩:=ho _ z;exact absurd (Heap.lt_size e) (Nat.lt_irrefl _)
 have av:tn 0 jN:=T.keep _ _ _ st fun b _ o e=>old b o e
 have run:=WD (elt:=elt) (gens:=⟨tg,iter,ifs,0⟩::rest) (scope:=scope) (pos:=pos) (d:=0) rfl T av
  (Uj (Y:=aZ X N' scope h0.objs.size s H fp) (D:=s.heap.objs.size) (Q:=fun ys _ H2=>Q ys H2) (elt:=elt) (gens:=⟨tg,iter,ifs,0⟩::rest) (scope:=scope) (pos:=pos) (d:=0) rfl hc rfl T NF av Nc h2 (pg _) (pt _) (pi _ _) I1 fD aD h)
 refine codeAny_mono run fun r s' hr=> ?_
 cases r with
 |error e=>exact hr.elim
 |ok fl=>
  obtain⟨cq,aj,H',q1,q2,q3,q4⟩:=hr
  exact M4 _ _ s' aj H' cq fl xV (Nat.le_refl _) mF q1 q2.1 q3 q4
end
def zC (wi:TI) (ts:Nat) (bQ:List Nat) (g:TG) (tt:TT) (ti:TC):TE:=fun σ H Q=>wi σ H fun J H1=>iw g tt ti J [] (kL ts bQ σ) H1 fun ys _ H2=> ∀p,H2 p=none→Q (.ref p) (upd H2 p (.lst ys))
section
variable {X:Cx}{elt tg iter:Expr}{ifs:List Expr}{rest:List Comprehension}{scope:Scope}{pos:Pos}{wi:TI}{g:TG}{tt:TT}{ti:TC}
theorem Z8 (N':List Str) (ts:Nat) (bQ:List Nat) (hi:PI X tg iter wi) (pg:∀C s H fp,PG (aZ X N' scope C s H fp) tg g) (pt:∀C s H fp,mU (aZ X N' scope C s H fp) ifs tt)
  (pi:∀C s H fp D,mV (aZ X N' scope C s H fp) D (inner elt (⟨tg,iter,ifs,0⟩::rest) scope pos 0 (.ref D) (aZ X N' scope C s H fp).env) ti)
  (ok:uq X.env.scope scope X.N N' ts bQ=true:=by rfl) (hc:X.calm=true:=by rfl) (h2:∀g',(Comprehension.mk tg iter ifs 0::rest)[0+1]? =some g'→g'.is_async=0:=by(intro g' h;cases h<;>rfl))
  (hs:∀x,foldedSetIterable iter X.env x=pure x:=by intro _;rfl):
  PE X (.ListComp elt (⟨tg,iter,ifs,0⟩::rest) scope pos) (zC wi ts bQ g tt ti):=by
 intro pins s σ H Q I h
 have S:=Ek ok
 rw[eval_ListComp]
 refine wpAny_comprehension_free (use:=none) rfl hs (Yx fun y hy e=>I.ok.has _ (S.free y hy e)) S.kind S.names (au (hi pins s σ H _ I h) fun v s1 h1=>au h1 fun lQ s2 xW=> ?_)
 obtain⟨it,fp,tn,J,H2,e,I2,T,ak,f2,q2⟩:=xW
 subst e
 refine WE (RR:=fun acc C=>compPost (model X.prog X.w) X.A X.xe none _ acc C) S hc I2 T ak f2 h2 (fun C=>pg C _ _ _) (fun C=>pt C _ _ _) (fun C D=>pi C _ _ _ D) q2 ?_
 intro C D s' aj H' ys fl hC hD mF J' n a q
 obtain⟨m,hn,_⟩:=J'.loc
 exact⟨m,hn,fun h' sb=> ⟨.ref D,_,Ei I2 f2 hC hD mF J' n a sb,rfl,q D n⟩⟩
theorem Jk (N':List Str) (ts:Nat) (bQ:List Nat) {i:Nat}{x:Str}{px zU:Pos}(hN:X.N.Nodup) (gW:X.N[i]? =some x) (hx:Loc X.env.scope x) (hi:PI X tg iter wi) (pg:∀C s H fp,PG (aZ X N' scope C s H fp) tg g) (pt:∀C s H fp,mU (aZ X N' scope C s H fp) ifs tt)
  (pi:∀C s H fp D,mV (aZ X N' scope C s H fp) D (inner elt (⟨tg,iter,ifs,0⟩::rest) scope pos 0 (.ref D) (aZ X N' scope C s H fp).env) ti)
  (wR:swapsWith (.ListComp elt (⟨tg,iter,ifs,0⟩::rest) scope pos) (some (.Name x px)) zU.line X.env=pure true:=by rfl)
  (ok:uq X.env.scope scope X.N N' ts bQ=true:=by rfl) (hc:X.calm=true:=by rfl) (h2:∀g',(Comprehension.mk tg iter ifs 0::rest)[0+1]? =some g'→g'.is_async=0:=by(intro g' h;cases h<;>rfl))
  (hs:∀x,foldedSetIterable iter X.env x=pure x:=by intro _;rfl) (eW:X.fn x=true∨X.env.scope.names.lookup x=some .local:=by first |exact .inl rfl |exact .inr rfl |assumption):
  PS X (.Assign [.Name x px] (.ListComp elt (⟨tg,iter,ifs,0⟩::rest) scope pos) zU) (rm (zC wi ts bQ g tt ti) (bG i)):=by
 intro pins s σ H D I h
 have S:=Ek ok
 rw[exec_Assign_Name_used _ _ _ _ wR]
 refine wpAny_bind (wpAny_standAt (wpAny_bind ?_))
 show wpAny _ X.A (do let _ ←comprehension (.ListComp elt (⟨tg,iter,ifs,0⟩::rest) scope pos) scope X.env _ (newList []) false (eval iter X.env) (some (assign (.Name x px) X.env))) _ _ s
 refine wpAny_bind (wpAny_mono (wpAny_comprehension_free (use:=some (assign (.Name x px) X.env)) (Q:=fun _ s'=> ∃aj H',Inv X pins aj H' s'∧D.nx aj H') rfl hs (Yx fun y hy e=>I.ok.has _ (S.free y hy e)) S.kind S.names
  (au (hi pins s σ H _ I h) fun v s1 h1=>au h1 fun lQ s2 xW=> ?_)) (fun _ s' hq=>wpAny_pure (wpAny_pure hq)) fun _ _ e=>e)
 obtain⟨it,fp,tn,J,H2,e,I2,T,ak,f2,q2⟩:=xW
 subst e
 refine WE (RR:=fun acc C=>compPost (model X.prog X.w) X.A X.xe (some (assign (.Name x px) X.env)) _ acc C) S hc I2 T ak f2 h2 (fun C=>pg C _ _ _) (fun C=>pt C _ _ _) (fun C D=>pi C _ _ _ D) q2 ?_
 intro C B s' aj H' ys fl hC hB Cs J' n a q
 obtain⟨m,hn,_⟩:=J'.loc
 have IX:Inv X pins σ (upd H' B (.lst ys)) s':=Ei I2 f2 hC hB Cs J' n a (Heap.SameBut.refl C s'.heap)
 have fC:=I2.kI (H':=upd H' B (.lst ys)) (b:=C) hC (by rw[Zf (Ne.symm Cs)];exact J'.free)
 obtain⟨f0,f1,CK,f3,f4,f5⟩:=fC
 show wpAny _ X.A (assign (.Name x px) X.env (.ref B)) _ _ s'
 refine wpAny_assign_Name (WZ (v:=.ref B) (u:=.ref B) IX hN gW hx rfl (fun fh To ⟨c,sb,jn⟩=> ?_) eW)
 have Nf:C≠c:=by
  rcases jn with z |z
  ·rw[z];exact f1
  ·exact(f4 x c z).symm
 refine⟨m,Heap.Ns.sameBut hn sb Nf,fun h' G3=> ?_⟩
 refine⟨σ.set i (some (.ref B)),_,To.turned (t':=fh.toks) (it:=C) (fun b o hb e=> (G3.2 b hb).trans e) f0 f1 f3 f4 f5,q B n⟩
end
section
variable {X:Cx}
theorem ZB {c:String} :eE X (.builtin "isinstance") (fun xs H Q=> ∃x t b,xs=[x,.ty c]∧eX X.K H x t∧PySem.W.kitOne X.K t (.type c)=some b∧Q (.bl b) H):=by
 intro pins s σ H xs us Q I r h
 obtain⟨x,t,b,rfl,ty,e,q⟩:=h
 obtain⟨u,v,rfl,ru,rv⟩:=vals2 r
 cases rv
 exact Sn I ru ty e fun tk=> ⟨.bl b,H,I.tok tk,rfl,q⟩
theorem JC (hc:X.calm=true:=by rfl):eE X (.builtin "all") (fun xs H Q=> ∃(p:Addr) (bs:List Bool),xs=[.ref p]∧ag X.K H p (bs.map V.bl)∧Q (.bl (bs.all id)) H):=by
 intro pins s σ H xs us Q I r h
 obtain⟨p,bs,rfl,hp,q⟩:=h
 obtain⟨u,rfl,ru⟩:=vals1 r
 cases ru
 obtain⟨its,rv,pl,hz⟩:=I.list hp
 have hb:∀(i:Nat) (v:Value),its.toArray[i]? =some v→v=.bool (bs.getD i false):=fun i v e=>by
  have e':its[i]? =some v:=by simpa using e
  have hl:=rv.length
  have hi:i<its.length:=(List.getElem?_eq_some_iff.mp e').1
  have aT:i< (bs.map V.bl).length:=by omega
  obtain⟨u,hu,ru⟩:=rv.get (i:=i) (x:=(bs.map V.bl)[i]) (by simp)
  rw[e']at hu
  cases hu
  rw[List.getElem_map]at ru
  have gw:i<bs.length:=by simpa using aT
  have e2:bs.getD i false=bs[i]:=by simp[List.getD_eq_getElem?_getD,gw]
  rw[e2]
  exact ru
 refine call_all_walk (wpAny_pyIter_list pl.isList ?_)
 have bZ:p≠s.heap.objs.size:=Nat.ne_of_lt (by obtain⟨o,n,e,_⟩:=pl;exact Heap.lt_size e)
 refine⟨s.heap.objs.size,_,_,_,_,_,fun i=>bs.getD i false,rfl,Walks.list (A:=X.A.in1) (show X.A.in1.handled=none from I.ok.hd hc) s.heap.objs.size p bZ its.toArray,⟨⟨_,Heap.get?_push_size _ rfl,rfl,rfl⟩,pl.isList.at fun o e=>Heap.get?_push_of_some _ e⟩,fun i v s' Q' E' hP hQ=> ?_,fun h' tk hk=> ?_⟩
 ·rw[hb i v hP]
  exact wpAny_truthy_bool hQ
 ·have e:(List.range its.toArray.size).all (fun i=>bs.getD i false)=bs.all id:=by
   have hl:its.toArray.size=bs.length:=by have:=rv.length;rw[List.length_map]at this;simpa using this.symm
   rw[hl,Bool.eq_iff_iff,List.all_eq_true,List.all_eq_true]
   constructor
   ·intro h b hb
    obtain⟨i,hi,e⟩:=List.mem_iff_getElem.mp hb
    have:=h i (List.mem_range.mpr hi)
    rw[List.getD_eq_getElem?_getD,List.getElem?_eq_getElem hi,Option.getD_some,e]at this
    exact this
   ·intro h i hi
    have aT:=List.mem_range.mp hi
    rw[List.getD_eq_getElem?_getD,List.getElem?_eq_getElem aT,Option.getD_some]
    exact h _ (List.getElem_mem aT)
  rw[e]
  refine⟨.bl (bs.all id),H,I.kept fun b o eb=>hk b o ?_ (Heap.get?_push_of_some _ eb),rfl,q⟩
  intro z
  have e1:b=s.heap.objs.size:=by simpa using z
  exact absurd (Heap.lt_size eb) (by rw[e1];exact Nat.lt_irrefl _)
def nJ (ns:List Int):Nat:=(PyProof.Rows.firstMet (fun i=>ns.getD i 0) ns.length).length
theorem WS (hc:X.calm=true:=by rfl):eE X (.type "set") (fun xs H Q=> ∃(p:Addr) (ns:List Int),xs=[.ref p]∧ag X.K H p (ns.map V.int)∧ns.length≤1000∧∀q S,H q=none→Q (.ref q) (upd H q (.set S (nJ ns)))):=by
 intro pins s σ H xs us Q I r h
 obtain⟨p,ns,rfl,hp,hn,q⟩:=h
 obtain⟨u,rfl,ru⟩:=vals1 r
 cases ru
 obtain⟨its,rv,pl,hz⟩:=I.list hp
 have hl:=rv.length
 rw[List.length_map]at hl
 refine call_set_list (I.ok.hd hc) pl.isList (Jd rv) (by rw[List.size_toArray,←hl];unfold scanBound;omega) fun h' tk hs hk=> ?_
 have e:its.toArray.size=ns.length:=by simp[hl]
 rw[e]at hs
 exact⟨.ref s.heap.objs.size,_,I.laid (a:=s.heap.objs.size) (o:=.set _ (nJ ns)) (fun b o eb=>hk b o (Heap.lt_size eb) eb) (Nat.le_refl _) hs,rfl,q _ _ I.fresh⟩
theorem WU:eE X (.builtin "len") (fun xs H Q=> ∃p S n,xs=[.ref p]∧H p=some (.set S n)∧Q (.int n) H):=by
 intro pins s σ H xs us Q I r h
 obtain⟨p,S,n,rfl,hp,q⟩:=h
 obtain⟨u,rfl,ru⟩:=vals1 r
 cases ru
 obtain⟨o,es,ep,t,h1,h2,h3,h4,h5,h6,h7,h8⟩:=(show bC X.prog X.w H s.heap p (.set S n) from I.ai p _ hp)
 refine call_len_set h1 h2 h3 h7 (by have:scanBound=4096:=rfl;omega) ⟨.int n,H,I.tok _,⟨_,by rw[h8]⟩,q⟩
theorem JS:eE X (.type "range") (fun xs H Q=> ∃j:Int,xs=[.int j]∧∀q,H q=none→Q (.ref q) (upd H q (.fj 0 j))):=by
 intro pins s σ H xs us Q I r h
 obtain⟨j,rfl,q⟩:=h
 obtain⟨u,rfl,ru⟩:=vals1 r
 obtain⟨t,rfl⟩:=ru
 refine call_range_1 ?_
 exact⟨.ref s.heap.objs.size,_,I.laid (a:=s.heap.objs.size) (o:=.fj 0 j) (fun b o eb=>Heap.get?_push_of_some _ eb) (Nat.le_refl _) ⟨_,_,_,Heap.get?_push_size _ rfl⟩,rfl,q _ I.fresh⟩
def upTo (n:Nat):List V:=(List.range n).map fun(i:Nat)=>V.int (i:Int)
theorem Ju {acc:Array Value}{n:Nat}(h:ItemsOf (fun i v=> ∃t,v=.int (0+i*1) t) acc n):Vals (upTo n) acc.toList:=by
 obtain⟨h1,h2⟩:=h
 obtain⟨l⟩:=acc
 have h1:l.length=n:=h1
 have h2:∀(j:Nat) (v:Value),l[j]? =some v→∃t,v=.int (j:Int) t:=fun j v e=>by
  obtain⟨t,q⟩:=h2 j v (by simpa using e)
  exact⟨t,by rw[q];congr 1;omega⟩
 have key:∀(l:List Value) (k:Nat),(∀(j:Nat) (v:Value),l[j]? =some v→∃t,v=.int ((k+j:Nat):Int) t)→Vals ((List.range' k l.length).map fun(i:Nat)=>V.int (i:Int)) l:=by
  intro l
  induction l with
  |nil=>intro k _;exact .nil
  |cons v l ih=>
   intro k h
   rw[List.length_cons,List.range'_succ,List.map_cons]
   obtain⟨t,e⟩:=h 0 v rfl
   refine .cons ⟨t,by rw[e];simp⟩ (ih (k+1) fun j w q=> ?_)
   obtain⟨t',e'⟩:=h (j+1) w (by simpa using q)
   exact⟨t',by rw[e'];congr 1;omega⟩
 have:=key l 0 (fun j v e=>by simpa using h2 j v e)
 unfold upTo
 rw[←h1,List.range_eq_range']
 exact this
theorem WT (hc:X.calm=true:=by rfl):eE X (.type "list") (fun xs H Q=> ∃(p:Addr) (j:Int),xs=[.ref p]∧H p=some (.fj 0 j)∧0≤j∧j≤1000∧∀q,H q=none→Q (.ref q) (upd H q (.lst (upTo j.toNat)))):=by
 intro pins s σ H xs us Q I r h
 obtain⟨p,j,rfl,hp,h0,h1,q⟩:=h
 obtain⟨u,rfl,ru⟩:=vals1 r
 cases ru
 obtain⟨t,u,v,e⟩:=(show bC X.prog X.w H s.heap p (.fj 0 j) from I.ai p _ hp)
 refine call_list_range (n:=j.toNat) (I.ok.hd hc) e (small_one (by omega) (by omega) (by omega) (by omega)) (by rw[rangeSize_one];split<;>omega) (by omega) fun h' tk acc c' hk hS fU=> ?_
 have r2:=Ju fU
 have hlen:(upTo j.toNat).length≤sizeLine:=by unfold upTo;rw[List.length_map,List.length_range,sizeLine_eq];omega
 exact⟨.ref s.heap.objs.size,_,I.laid (a:=s.heap.objs.size) (o:=.lst (upTo j.toNat)) hk (Nat.le_refl _) ⟨hlen,acc.toList,c',r2,by simpa using hS⟩,rfl,q _ I.fresh⟩
theorem U5:bf X (binaryOp .Add) (fun x y H Q=> ∃a b ys,x=.ref a∧y=.ref b∧ah X.K H a []∧ah X.K H b ys∧Q (.ref b) H):=by
 intro pins s σ H x y u v Q I rx ry h
 obtain⟨a,b,ys,rfl,rfl,ha,hb,q⟩:=h
 cases rx
 cases ry
 obtain⟨its,rv,pl,hz⟩:=I.tuple ha
 obtain⟨gQ,fv,dc,aE⟩:=I.tuple hb
 cases rv
 obtain⟨⟨cls,dd,data,sl⟩,ho,gz,n,hd⟩:=id pl
 obtain⟨⟨C9,kK,data2,gJ⟩,jf,iR,n2,hd2⟩:=id dc
 simp only at gz hd iR hd2
 subst gz hd iR hd2
 exact concat_meets ⟨_,ho,rfl⟩ ⟨_,jf,rfl⟩ noFill_tuple_add seq_tuple_add PySem.F.slot_tuple_add PySem.F.entry_tuple_add (PySem.F.args_tuple_add_2 _ _)
   (tuple_addW0 a b #[] gQ.toArray n n2 dd kK sl gJ rfl) ⟨ho,jf,⟨.ref b,H,I,rfl,q⟩⟩
end
theorem U6 {K:PySem.W.Frag}{a:Addr}{xs:List V}{g:TG}{tt:TT}{ti:TC}{ys:List V}{σ:St}{H:Hp}{Q:List V→St→Hp→Prop}(Pv:Nat→List V→St→Hp→Prop) (h0:Pv 0 ys σ H)
  (hl:∀i ys σ H,i≤xs.length→Pv i ys σ H→ah K H a xs)
  (hs:∀i x ys σ H,xs[i]? =some x→Pv i ys σ H→g x σ H fun aR H2=>tt aR H2 fun b H3=>if b=true then ti ys aR H3 (Pv (i+1)) else Pv (i+1) ys aR H3)
  (hd:∀ys σ H,Pv xs.length ys σ H→Q ys σ H):iw g tt ti (yX K a) ys σ H Q:=by
 refine⟨fun i m ys σ H=>m=xs.length - i∧i≤xs.length∧Pv i ys σ H,⟨xs.length,by simp,Nat.zero_le _,h0⟩,?_⟩
 rintro i m ys σ H ⟨rfl,hi,p⟩
 have q:=hl i ys σ H hi p
 by_cases ay:i<xs.length
 ·refine .inr ⟨⟨xs,xs[i],q,by simp[ay]⟩,Pv (i+1),fun cq aj H' p'=> ⟨xs.length - (i+1),by omega,rfl,ay,p'⟩,fun x H' y=> ?_⟩
  obtain⟨e,y⟩:=y
  subst e
  exact hs i x ys σ _ (y xs q) p
 ·have e:i=xs.length:=by omega
  subst e
  exact .inl ⟨⟨xs,q,Nat.le_refl _⟩,hd ys σ H p⟩
theorem Z9 {K:PySem.W.Frag}{a:Addr}{xs:List V}{g:TG}{tt:TT}{ti:TC}{ys:List V}{σ:St}{H:Hp}{Q:List V→St→Hp→Prop}(Pv:Nat→List V→St→Hp→Prop) (h0:Pv 0 ys σ H)
  (hl:∀i ys σ H,i≤xs.length→Pv i ys σ H→ag K H a xs)
  (hs:∀i x ys σ H,xs[i]? =some x→Pv i ys σ H→g x σ H fun aR H2=>tt aR H2 fun b H3=>if b=true then ti ys aR H3 (Pv (i+1)) else Pv (i+1) ys aR H3)
  (hd:∀ys σ H,Pv xs.length ys σ H→Q ys σ H):iw g tt ti (oO K a) ys σ H Q:=by
 refine⟨fun i m ys σ H=>m=xs.length - i∧i≤xs.length∧Pv i ys σ H,⟨xs.length,by simp,Nat.zero_le _,h0⟩,?_⟩
 rintro i m ys σ H ⟨rfl,hi,p⟩
 have q:=hl i ys σ H hi p
 by_cases ay:i<xs.length
 ·refine .inr ⟨⟨xs,xs[i],q,by simp[ay]⟩,Pv (i+1),fun cq aj H' p'=> ⟨xs.length - (i+1),by omega,rfl,ay,p'⟩,fun x H' y=> ?_⟩
  obtain⟨e,y⟩:=y
  subst e
  exact hs i x ys σ _ (y xs q) p
 ·have e:i=xs.length:=by omega
  subst e
  exact .inl ⟨⟨xs,q,Nat.le_refl _⟩,hd ys σ H p⟩
theorem Jb {lo:Int}{n:Nat}{g:TG}{tt:TT}{ti:TC}{ys:List V}{σ:St}{H:Hp}{Q:List V→St→Hp→Prop}(Pv:Nat→List V→St→Hp→Prop) (h0:Pv 0 ys σ H)
  (hs:∀i ys σ H,i<n→Pv i ys σ H→g (.int (lo+i)) σ H fun aR H2=>tt aR H2 fun b H3=>if b=true then ti ys aR H3 (Pv (i+1)) else Pv (i+1) ys aR H3)
  (hd:∀ys σ H,Pv n ys σ H→Q ys σ H):iw g tt ti (nh lo n) ys σ H Q:=by
 refine⟨fun i m ys σ H=>m=n - i∧i≤n∧Pv i ys σ H,⟨n,by simp,Nat.zero_le _,h0⟩,?_⟩
 rintro i m ys σ H ⟨rfl,hi,p⟩
 by_cases ay:i<n
 ·refine .inr ⟨ay,Pv (i+1),fun cq aj H' p'=> ⟨n - (i+1),by omega,rfl,ay,p'⟩,fun x H' y=> ?_⟩
  obtain⟨e,y⟩:=y
  subst e y
  exact hs i ys σ _ ay p
 ·have e:i=n:=by omega
  subst e
  exact .inl ⟨Nat.le_refl _,hd ys σ H p⟩
theorem pb {X:Cx}{N':List Str}{scope:Scope}{C:Addr}{s:Shared}{H:Hp}{fp:List Addr}(i:Nat) {x:Str}{pos:Pos}(hN:N'.Nodup:=by decide+kernel) (hi:N'[i]? =some x:=by rfl) (hx:(relabel scope X.env).names.lookup x=some .local:=by rfl):
  PG (aZ X N' scope C s H fp) (.Name x pos) (bG i):=ZL (X:=aZ X N' scope C s H fp) hN hi (.inl hx) (.inr hx)
def Def (P:Program) (w:World) (K:PySem.W.Frag) (mg:Str→Option Value) (base:Heap) (k:Nat) (x:Str) (ps:List Str) (sp:Sp):Prop:=
 ∃f fd,az P w K mg base aM k f fd ps sp∧mg x=some (.ref f)∧PySem.W.keepIn K (.ref f)=true∧Binds K fd ps []
section
variable {X:Cx}{k:Nat}{x:Str}{ps:List Str}{sp:Sp}{e:Expr}{es:List Expr}{t:TA}{p pos:Pos}
theorem Zi (d:Def X.prog X.w X.K X.mg X.base k x ps sp) (hr:cg k X.A) (ha:PA X (e::es) t) (hg:Gl X x:=by rfl) (iQ:(x==("__debug__" :Str))=false:=by decide)
  (he:starEach (e::es) X.env=(false,eval e X.env)::starEach es X.env:=by rfl) (dX:(backTo pos (starEach es X.env)).any (·.1)=false:=by rfl):
  PE X (.Call (.Name x p) (e::es) [] pos) (rj sp [] E0 t):=by
 obtain⟨f,fd,F,hm,hk,hb⟩:=d
 exact EJ F hr hg hm hk hb .nil HG ha iQ he dX
end
def cR (K:PySem.W.Frag) (H:Hp) (x:V):Prop:=∃T,eX K H x (.type T)
def whole:V→Bool
 | .int _=>true
 |_=>false
def cw:V→Int→Int→Bool
 | .int i,a,b=>decide (a≤i)&&decide (i≤b)
 |_,_,_=>false
def uU:Option HO→Option (List V)
 |some (.tup xs)=>some xs
 |_=>none
def bh (H:Hp):V→Option (List V)
 | .ref a=>uU (H a)
 |_=>none
theorem Zy {H:Hp}{a:Addr} :bh H (.ref a)=uU (H a):=rfl
theorem Zq {H:Hp}{a:Addr}{xs:List V}(h:H a=some (.tup xs)):bh H (.ref a)=some xs:=by rw[Zy,h];rfl
theorem R4 {o:Option HO}{xs:List V}(h:uU o=some xs):o=some (.tup xs):=by
 cases o with
 |none=>cases h
 |some o=>cases o<;>first |(cases h;rfl) |cases h
theorem ZD {H:Hp}{x:V}{xs:List V}(h:bh H x=some xs):∃a,x=.ref a∧H a=some (.tup xs):=by
 cases x with
 |ref a=>exact⟨a,rfl,R4 h⟩
 |_=>cases h
theorem af.bh {H H':Hp}(s:af H H') {x:V}{xs:List V}(h:L2.bh H x=some xs):L2.bh H' x=some xs:=by
 obtain⟨a,rfl,q⟩:=ZD h
 exact Zq (s _ _ q)
theorem af.lE {K:PySem.W.Frag}{H H':Hp}(s:af H H') {x:V}(h:cR K H x):cR K H' x:=by
 obtain⟨T,t⟩:=h
 cases t with
 |ae=>exact⟨_,.ae⟩
 |bl y=>exact⟨_,.bl y⟩
 |int i=>exact⟨_,.int i⟩
 |str y=>exact⟨_,.str y⟩
 |gB y=>exact⟨_,.gB y⟩
 |lst e=>exact⟨_,.lst (s _ _ e)⟩
 |bU e=>exact⟨_,.bU (s _ _ e)⟩
 |tup e=>exact⟨_,.tup (s _ _ e)⟩
 |dK e=>exact⟨_,.dK (s _ _ e)⟩
 |dT e=>exact⟨_,.dT (s _ _ e)⟩
def wF:V→Bool
 | .int _=>true
 | .bl _=>true
 |_=>false
def Bf:V→Bool
 | .bl _=>true
 |_=>false
theorem QK {K:PySem.W.Frag}{H:Hp}{x:V}{T:String}(t:eX K H x (.type T)):PySem.W.kitOne K (.type T) (.type "int")=some (wF x):=by cases t<;>rfl
theorem Rt {K:PySem.W.Frag}{H:Hp}{x:V}{T:String}(t:eX K H x (.type T)):PySem.W.kitOne K (.type T) (.type "bool")=some (Bf x):=by cases t<;>rfl
theorem So {K:PySem.W.Frag}{H:Hp}{x:V}{T:String}(t:eX K H x (.type T)):PySem.W.kitOne K (.type T) (.type "tuple")=some (bh H x).isSome:=by
 cases t with
 |tup e=>rw[Zq e];rfl
 |lst e=>rw[Zy,e];rfl
 |bU e=>rw[Zy,e];rfl
 |dK e=>rw[Zy,e];rfl
 |dT e=>rw[Zy,e];rfl
 |_=>rfl
theorem Sx (x:V):whole x=(wF x&& !Bf x):=by cases x<;>rfl
def aw (p:Addr) (H H':Hp):Prop:=∀b o,H b=some o→b≠p→H' b=some o
theorem aw.trans {p:Addr}{H H1 H2:Hp}(a:aw p H H1) (b:aw p H1 H2):aw p H H2:=fun c o h n=>b c o (a c o h n) n
theorem af.x {p:Addr}{H H1:Hp}(a:af H H1):aw p H H1:=fun c o h _=>a c o h
theorem aw.upd {p:Addr}{H:Hp}{o:HO} :aw p H (L2.upd H p o):=fun b u h n=>by rw[Zf n];exact h
theorem UC {X:Cx}(hu:X.A.units<cLine):bf X (compareOp .Eq) (fun x y H Q=> ∃(a b:Addr) (xs:List V),x=.ref a∧y=.ref b∧ag X.K H a xs∧ag X.K H b []∧Q (.bl xs.isEmpty) H):=by
 intro pins s σ H x y u v Q I rx ry h
 obtain⟨a,b,xs,rfl,rfl,ha,hb,q⟩:=h
 cases rx
 cases ry
 obtain⟨its,rv,pl,hz⟩:=I.list ha
 obtain⟨gQ,fv,dc,aE⟩:=I.list hb
 cases fv
 cases rv with
 |nil=>exact SeqAt.eq_listAt (e:=fun _=>true) pl.isList dc.isList rfl hu (fun j h1 h2=>absurd h2 (by simp)) ⟨.bl true,H,I,rfl,q⟩
 |cons r t=>exact SeqAt.eq_list_lengthsAt pl.isList dc.isList (by simp) hu ⟨.bl false,H,I,rfl,q⟩
theorem DH {X:Cx}(hu:X.A.units<cLine):bf X (compareOp .NotEq) (fun x y H Q=> ∃(a b:Addr) (xs:List V),x=.ref a∧y=.ref b∧ag X.K H a xs∧ag X.K H b []∧Q (.bl (!xs.isEmpty)) H):=by
 intro pins s σ H x y u v Q I rx ry h
 obtain⟨a,b,xs,rfl,rfl,ha,hb,q⟩:=h
 cases rx
 cases ry
 obtain⟨its,rv,pl,hz⟩:=I.list ha
 obtain⟨gQ,fv,dc,aE⟩:=I.list hb
 cases fv
 cases rv with
 |nil=>exact SeqAt.RcNeAt.lists (e:=fun _=>true) pl.isList dc.isList rfl hu (fun j h1 h2=>absurd h2 (by simp)) _ _ _ _ ⟨.bl false,H,I,rfl,q⟩
 |cons r t=>exact SeqAt.RcNeAt.lists_lengths pl.isList dc.isList (by simp) hu _ _ _ _ ⟨.bl true,H,I,rfl,q⟩
section
variable {prog:Program}{w:World}{A:Around}{E:Value→Shared→Prop}{s:Shared}
theorem SV {j t:Addr}{i:Nat}{its:Array Value}{x:Value}{Q:Value→Shared→Prop}(h1:s.heap.IsTupleIter j t i) (h2:s.heap.IsTuple t its) (hx:its[i]? =some x)
  (k:∀h',h'.IsTupleIter j t (i+1)→Heap.SameBut j s.heap h'→Q x {s with heap:=h'}):wpAny (model prog w) A (Builtin.SmallTypes.nextOf (.ref j)) Q E s:=by
 obtain⟨o,eo,co,dO⟩:=id h1
 obtain⟨ot,et,_,nt,dt⟩:=h2
 unfold Builtin.SmallTypes.nextOf
 refine wpAny_bind (wpAny_callSpecial?_slot (name:=Str.ofString "__next__") h1.typeIs F.slot_tuple_iterator_next (wpAny_call_entry F.slot_tuple_iterator_next h1.typeIs F.entry_tuple_iterator_next ?_ (F.args_tuple_iterator_next_1 _)))
 show wpAny _ _ (field (.ref j) 0 >>=_) _ _ s
 refine wpAny_bind (wpAny_field eo dO (x:=.ref t) rfl ?_)
 show wpAny _ _ (if (Value.ref t==Value.none)=true then _ else _) _ _ s
 rw[if_neg (show ¬((Value.ref t==Value.none)=true) from Bool.false_ne_true)]
 show wpAny _ _ (field (.ref j) 1 >>=_) _ _ s
 refine wpAny_bind (wpAny_field eo dO (x:=.int i 0) rfl ?_)
 show wpAny _ _ (seqItems? (.ref t) >>=_) _ _ s
 refine wpAny_bind (wpAny_seqItems et dt ?_)
 simp only[Int.toNat_natCast,hx]
 refine wpAny_bind (wpAny_setField eo dO (by simp) (wpAny_pure ⟨x,rfl,wpAny_pure (k _ ⟨_,Heap.get?_update_self _ eo (Obj.isFreed_of_fields (Obj.data_mapFields dO _)),(Obj.cls_mapFields ..).trans co,?_⟩ (Heap.SameBut.update ..))⟩))
 rw[Obj.data_mapFields dO]
 simp[rawInt]
theorem RL {j t:Addr}{i:Nat}{its:Array Value}{Q:Value→Shared→Prop}(hh:A.handled=none) (h1:s.heap.IsTupleIter j t i) (h2:s.heap.IsTuple t its) (hx:its[i]? =none)
  (k:∀h' e,Heap.ExtBut j s.heap h'→(∃o,h'.get? e=some o∧o.cls=.type "StopIteration")→E (.ref e) {s with heap:=h'}):wpAny (model prog w) A (Builtin.SmallTypes.nextOf (.ref j)) Q E s:=by
 obtain⟨o,eo,co,dO⟩:=id h1
 obtain⟨ot,et,_,nt,dt⟩:=h2
 unfold Builtin.SmallTypes.nextOf
 refine wpAny_bind (wpAny_callSpecial?_slot (name:=Str.ofString "__next__") h1.typeIs F.slot_tuple_iterator_next (wpAny_call_entry F.slot_tuple_iterator_next h1.typeIs F.entry_tuple_iterator_next ?_ (F.args_tuple_iterator_next_1 _)))
 show wpAny _ _ (field (.ref j) 0 >>=_) _ _ s
 refine wpAny_bind (wpAny_field eo dO (x:=.ref t) rfl ?_)
 show wpAny _ _ (if (Value.ref t==Value.none)=true then _ else _) _ _ s
 rw[if_neg (show ¬((Value.ref t==Value.none)=true) from Bool.false_ne_true)]
 show wpAny _ _ (field (.ref j) 1 >>=_) _ _ s
 refine wpAny_bind (wpAny_field eo dO (x:=.int i 0) rfl ?_)
 show wpAny _ _ (seqItems? (.ref t) >>=_) _ _ s
 refine wpAny_bind (wpAny_seqItems et dt ?_)
 simp only[Int.toNat_natCast,hx]
 refine wpAny_bind (wpAny_rule (wpAny_bind (wpAny_setField eo dO (by simp) ?_)))
 show wpAny _ _ (newExc (.type "StopIteration") [] >>=_) _ _ _
 refine wpAny_bind ?_
 simp only[newExc,newTuple]
 refine wpAny_bind (wpAny_newObj_type ?_ (by size_fits))
 refine wpAny_bind (m:=firstArgMember _ _) (wpAny_of_eq (a:=Value.none) (by first |rfl |(simp only[firstArgMember];rfl)) (wpAny_newObj_type ?_ (by size_fits)))
 simp only[raiseNew]
 refine wpAny_bind (wpAny_handled ?_)
 first |rw[show A.in1.handled=none from hh] |rw[hh]
 exact wpAny_bind (wpAny_pure (wpAny_throw (k _ _ (((Heap.SameBut.update ..).extBut.push _).push _) ⟨_,Heap.get?_push_size _ rfl,rfl⟩)))
end
theorem C1 {prog:Program}{w:World}{A:Around}(hh:A.handled=none) (j t:Addr) (bZ:t≠j) (its:Array Value):
  Draws prog w A j [j,t] its.size (fun i v=>its[i]? =some v) (fun i h=>h.IsTupleIter j t i∧h.IsTuple t its) where
 live:=fun _ _ st=>let ⟨o,ho,_⟩:=st.1;⟨o,ho⟩
 frame:=fun _ _ _ st hk=> ⟨st.1.at fun o e=>hk j (by simp) o e,st.2.at fun o e=>hk t (by simp) o e⟩
 item:=fun i s Q E hi st hQ=>SV st.1 st.2 (x:=its[i]) (by simp[hi]) fun h' a b=>hQ _ h' s.toks (by simp[hi]) ⟨a,st.2.extBut b.extBut bZ⟩ b
 done:=fun s Q E st hE=>RL hh st.1 st.2 (by simp) hE
section
variable {prog:Program}{w:World}{A:Around}{E:Value→Shared→Prop}{s:Shared}
theorem Se (l:Addr) (its:Array Value) (n:Nat) (jr:Option Addr) (sl:Array (Option Value)):
  Meets (Builtin.«enumerate.__new__» ⟨[.type "enumerate",.ref l],[]⟩) (fun _ R s=>s.heap.get? l=some {cls:=.type "tuple",dict:=jr,data:=.seq its n,slots:=sl}∧
   R (.ok (.ret (.ref (s.heap.push {cls:=.type "tuple_iterator",data:=.fields #[.ref l,.int 0 0]}).objs.size)))
    {s with heap:=(s.heap.push {cls:=.type "tuple_iterator",data:=.fields #[.ref l,.int 0 0]}).push {cls:=.type "enumerate",data:=.fields #[.none,.bool false,.ref s.heap.objs.size,rawInt 0,.none,.none]} }):=
 .of_wp fun prog w A R s h=>by
  obtain⟨hp,g,d,tk,os⟩:=s
  obtain⟨hl,h⟩:=h
  have kA:=sub_enumerate
  have hL:Heap.IsTuple (Shared.heap ⟨hp,g,d,tk,os⟩) l its:=⟨_,hl,rfl,n,rfl⟩
  wp_walk using AutoSeq1.wpAny_loadPart' hl
  refine wpAny_stack_any fun st=>wpAny_pure ?_
  split
  ·rename_i c _ _ _ _ _
   cases (c==Value.type "enumerate")<;> (wp_walk using AutoSeq1.wpAny_loadPart' hl,wpAny_pyIter_tuple hL;exact⟨_,rfl,h⟩)
  ·wp_walk using AutoSeq1.wpAny_loadPart' hl,wpAny_pyIter_tuple hL
   exact⟨_,rfl,h⟩
theorem SJ {l:Addr}{its:Array Value}{Q:Value→Shared→Prop}(hL:s.heap.IsTuple l its)
  (h:∀h',IsEnum h' (s.heap.objs.size+1) s.heap.objs.size 0 .none→h'.IsTupleIter s.heap.objs.size l 0→(∀b o,s.heap.get? b=some o→h'.get? b=some o)→Q (.ref (s.heap.objs.size+1)) {s with heap:=h'}):
  wpAny (model prog w) A (call (.type "enumerate") [.ref l]) Q E s:=by
 obtain⟨⟨c,jr,dt,sl⟩,hl,hc,n,hd⟩:=hL
 replace hc:c=.type "tuple" :=hc
 replace hd:dt=.seq its n:=hd
 subst hc hd
 refine callType_new F.called_enumerate (by decide) (F.typeCall_enumerate_1 _) (F.newCall_enumerate_1 _) (fun obj=>F.args_object_init_2 obj _) F.entry_enumerate_new (Se l its n jr sl) ⟨hl,?_⟩
 have hz:(s.heap.push {cls:=.type "tuple_iterator",data:=.fields #[.ref l,.int 0 0]}).objs.size=s.heap.objs.size+1:=Heap.size_push ..
 show _∧_
 rw[hz]
 have he:IsEnum ((s.heap.push {cls:=.type "tuple_iterator",data:=.fields #[.ref l,.int 0 0]}).push {cls:=.type "enumerate",data:=.fields #[.none,.bool false,.ref s.heap.objs.size,rawInt 0,.none,.none]}) (s.heap.objs.size+1) s.heap.objs.size 0 .none:=by
  have q:=Heap.get?_push_size (s.heap.push {cls:=.type "tuple_iterator",data:=.fields #[.ref l,.int 0 0]}) (o:= {cls:=.type "enumerate",data:=.fields #[.none,.bool false,.ref s.heap.objs.size,rawInt 0,.none,.none]}) rfl
  rw[hz]at q
  exact q
 exact⟨⟨_,he,rfl⟩,h _ he ⟨_,Heap.get?_push_of_some _ (Heap.get?_push_size _ rfl),rfl,rfl⟩ fun b o x=>Heap.get?_push_of_some _ (Heap.get?_push_of_some _ x)⟩
end
def yY (K:PySem.W.Frag) (t:Addr):It:=
 ⟨fun i H=> ∃xs x,ah K H t xs∧xs[i]? =some x,fun i H x H'=> ∃(T:Addr) (y:V),x=.ref T∧H T=none∧H'=upd H T (.par [.int (i:Int),y])∧∀xs,ah K H t xs→xs[i]? =some y,fun i H=> ∃xs,ah K H t xs∧xs.length=i⟩
theorem Sb {P:Program}{w:World}{K:PySem.W.Frag}{elts:List Expr}{kk:Nat}{pos:Pos}(t e j:Addr) (jR:e≠j) (qe:t≠e) (qd:t≠j):
  Turn P w K (.Tuple elts kk pos) (yY K t) [e,j] e (fun i h=> (∃old,IsEnum h e j i old)∧h.IsTupleIter j t i) where
 mem:=by simp
 obj:=fun i h st b hb=>by
  obtain⟨⟨old,he⟩,o,ho,hc,hd⟩:=st
  rcases List.mem_cons.mp hb with rfl |hb
  ·exact⟨_,he,fun v z=>by cases z⟩
  ·rw[List.mem_singleton.mp hb]
   exact⟨o,ho,fun v z=>by rw[hd]at z;cases z⟩
 keep:=fun i h h' st k=> ⟨let ⟨old,he⟩:=st.1;⟨old,k e (by simp) _ he⟩,st.2.at fun o q=>k j (by simp) o q⟩
 item:=by
  intro X hP hw hK hc i pins s σ H E I hf st hg
  subst hP hw hK
  obtain⟨xs,x,hq,hx⟩:=hg
  obtain⟨its,rv,p,hz⟩:=I.tuple hq
  obtain⟨u,hu,ru⟩:=rv.get hx
  have hl:=rv.length
  have mn:i<its.toArray.size:=by
   have:=(List.getElem?_eq_some_iff.mp hu).1
   simpa using this
  have W:=WalksT.enumerateD (prog:=X.prog) (w:=X.w) (A:=X.A) (C1 (A:=X.A.in1) (show X.A.in1.handled=none from I.ok.hd hc) j t qd its.toArray) e jR (by simp[jR,qe.symm]) (by simp)
  have hT:s.heap.IsTuple t its.toArray:=p
  refine W.item i s _ _ mn ⟨st.1,st.2,hT⟩ fun T vals h' tk hP fo mC iN hk=> ⟨_,rfl,W.go elts kk pos i T _ _ _ iN fun cH dk eV=> ?_⟩
  obtain⟨kX,x2,jO,rfl⟩:=hP
  have kr:its[i]? =some x2:=by simpa using jO
  rw[hu]at kr
  cases kr
  have iU:H T=none:=I.ai.fresh fo
  have both:∀b o,b∉[e,j]→s.heap.get? b=some o→cH.get? b=some o:=fun b o hb q=>eV b o hb (hk b o hb q)
  have jT:T∉[e,j]:=W.apart _ _ _ iN
  have mD:cH.IsTuple T #[.int i kX,u]:=mC.at fun o q=>eV T o jT q
  have neT:∀b o,s.heap.get? b=some o→b≠T:=fun b o q=>Nat.ne_of_lt (Nat.lt_of_lt_of_le (Heap.lt_size q) fo)
  have cN:∀b o,H b=some o→b≠T:=fun b o q=>Zg q iU
  have bX:∀b o,H b=some o→b∉[e,j]:=fun b o q z=>by
   have:=(hf b z).1
   rw[this]at q;cases q
  refine⟨.ref T,upd H T (.par [.int (i:Int),x]),?_,rfl,⟨T,x,rfl,iU,rfl,fun ys hy=>by rw[I.rb hy hq];exact hx⟩,⟨dk.1,dk.2.1⟩,fun b hb=> ?_⟩
  ·refine(show Inv X pins σ (upd H T (.par [.int (i:Int),x])) {s with heap:=cH,toks:=tk} from ?_)
   refine I.call (g':=s.gens) (d':=s.drawn) (t':=tk) (h':=cH) (ch:=[e,j]) ⟨fun b o q _ _ hx=>both b o hx q,fun b o q _ _ hx=> ⟨o.slots,both b o hx q⟩,fun b o q n hx=>by rw[Zf (neT b o q)];exact n,fun b o q hx=> ⟨o,both b o hx q⟩,
    fun b ys q=>by rw[Zf (cN b _ q)];exact q,fun b o u q=>by rw[Zf (cN b _ q)];exact q,fun b ps q=> ⟨#[],by rw[Zf (cN b _ q),q];simp⟩⟩ (fun b v q=> ?_) I.bare fun b hb=> ?_
   ·by_cases hb:b=T
    ·subst hb
     rw[Zc]at q
     cases q
     exact⟨by show 2≤sizeLine;decide,[.int i kX,u],.cons ⟨kX,rfl⟩ (.cons ru .nil),mD⟩
    ·rw[Zf hb]at q
     refine(I.ai b v q).bI (fun c z br q'=>both c z ?_ q') (fun c q'=>by rw[Zf (cN c _ q')];exact q') fun c ys q'=>by rw[Zf (cN c _ q')];exact q'
     rcases br with z' |z'
     ·rw[z'];exact bX b v q
     ·exact bX c _ z'
   ·obtain⟨f0,f1,f2,f3,f4,f5⟩:=hf b hb
    exact⟨f3,f1,f4,f5⟩
  ·rw[Zf (fun z=>jT (by rw[←z];exact hb))]
   exact(hf b hb).1
 done:=by
  intro X hP hw hK hc i pins s σ H E I hf st hg
  subst hP hw hK
  obtain⟨xs,hq,hx⟩:=hg
  obtain⟨its,rv,p,hz⟩:=I.tuple hq
  have hl:=rv.length
  have W:=WalksT.enumerateD (prog:=X.prog) (w:=X.w) (A:=X.A) (C1 (A:=X.A.in1) (show X.A.in1.handled=none from I.ok.hd hc) j t qd its.toArray) e jR (by simp[jR,qe.symm]) (by simp)
  have hn:i=its.toArray.size:=by rw[List.size_toArray];omega
  have hT:s.heap.IsTuple t its.toArray:=p
  rw[hn]at st
  refine W.done s _ _ ⟨st.1,st.2,hT⟩ fun h' tk hk=> ⟨rfl,?_⟩
  have bX:∀b o,H b=some o→b∉[e,j]:=fun b o q z=>by
   have:=(hf b z).1
   rw[this]at q;cases q
  refine I.call (g':=s.gens) (d':=s.drawn) (t':=tk) (h':=h') (ch:=[e,j]) ⟨fun b o q _ _ hx=>hk b o hx q,fun b o q _ _ hx=> ⟨o.slots,hk b o hx q⟩,fun b o q n hx=>n,fun b o q hx=> ⟨o,hk b o hx q⟩,fun b ys q=>q,fun b o u q=>q,fun b ps q=> ⟨#[],by rw[q];simp⟩⟩ (fun b v q=> ?_) I.bare fun b hb=> ?_
  ·refine(I.ai b v q).bI (fun c z br q'=>hk c z ?_ q') (fun _ q'=>q') fun _ _ q'=>q'
   rcases br with z' |z'
   ·rw[z'];exact bX b v q
   ·exact bX c _ z'
  ·obtain⟨f0,f1,f2,f3,f4,f5⟩:=hf b hb
   exact⟨f3,f1,f4,f5⟩
 self:=fun A i s Q E st h=>let ⟨old,he⟩:=st.1;wpAny_pyIter_enum he h
section
variable {X:Cx}{elts:List Expr}{kk:Nat}{tp:Pos}
def K2 (K:PySem.W.Frag) (ta:TA):TI:=fun σ H R=>ta σ H fun vs H1=> ∃t,vs=[.ref t]∧(∃xs,ah K H1 t xs)∧R (yY K t) H1
theorem EK {a:Expr}{ta:TA}{p pos:Pos}(hg:Gl X "enumerate") (hm:X.mg "enumerate" =none) (ha:PA X [a] ta) (hs:starEach [a] X.env=[(false,eval a X.env)]:=by rfl):PI X (.Tuple elts kk tp) (.Call (.Name "enumerate" p) [a] [] pos) (K2 X.K ta):=by
 intro pins s σ H R I h
 refine Call_ (Ym I hg hm boot_enumerate (PyProof.Rows.callWith_type1 (au (ha pos pins s σ H _ I h) fun us s1 ⟨vs,H1,I1,r1,q1⟩=> ?_) hs rfl))
 obtain⟨t,e,⟨xs,hq⟩,q⟩:=q1
 subst e
 obtain⟨u,rfl,ru⟩:=vals1 r1
 cases ru
 obtain⟨its,rv,pl,hz⟩:=I1.tuple hq
 have hT:s1.heap.IsTuple t its.toArray:=pl
 have ht:t<s1.heap.objs.size:=by obtain⟨o,ho,_⟩:=hT;exact Heap.lt_size ho
 refine SJ hT fun h' he hj hk=>wpAny_pyIter_enum he ?_
 have I2:Inv X pins σ H1 {s1 with heap:=h'} :=I1.kept (t':=s1.toks) hk
 refine⟨s1.heap.objs.size+1,[s1.heap.objs.size+1,s1.heap.objs.size],_,_,H1,rfl,I2,Sb t _ _ (Nat.succ_ne_self _) (Nat.ne_of_lt (Nat.lt_succ_of_lt ht)) (Nat.ne_of_lt ht),⟨⟨_,he⟩,hj⟩,fun b hb=> ?_,q⟩
 have iS:s1.heap.objs.size≤b:=by
  rcases List.mem_cons.mp hb with z |z
  ·rw[z];exact Nat.le_succ _
  ·rw[List.mem_singleton.mp z];exact Nat.le_refl _
 exact I1.kI iS (I1.ai.fresh iS)
end
theorem W9 {K:PySem.W.Frag}{a:Addr}{xs:List V}{g:TG}{tt:TT}{ti:TC}{ys:List V}{σ:St}{H:Hp}{Q:List V→St→Hp→Prop}(Pv:Nat→List V→St→Hp→Prop) (h0:Pv 0 ys σ H)
  (hl:∀i ys σ H,i≤xs.length→Pv i ys σ H→ah K H a xs)
  (hs:∀i x T ys σ H,xs[i]? =some x→H T=none→Pv i ys σ H→g (.ref T) σ (upd H T (.par [.int (i:Int),x])) fun aR H2=>tt aR H2 fun b H3=>if b=true then ti ys aR H3 (Pv (i+1)) else Pv (i+1) ys aR H3)
  (hd:∀ys σ H,Pv xs.length ys σ H→Q ys σ H):iw g tt ti (yY K a) ys σ H Q:=by
 refine⟨fun i m ys σ H=>m=xs.length - i∧i≤xs.length∧Pv i ys σ H,⟨xs.length,by simp,Nat.zero_le _,h0⟩,?_⟩
 rintro i m ys σ H ⟨rfl,hi,p⟩
 have q:=hl i ys σ H hi p
 by_cases ay:i<xs.length
 ·refine .inr ⟨⟨xs,xs[i],q,by simp[ay]⟩,Pv (i+1),fun cq aj H' p'=> ⟨xs.length - (i+1),by omega,rfl,ay,p'⟩,fun x H' y=> ?_⟩
  obtain⟨T,z,e1,e2,e3,e4⟩:=y
  subst e1 e3
  exact hs i z T ys σ H (e4 xs q) e2 p
 ·have e:i=xs.length:=by omega
  subst e
  exact .inl ⟨⟨xs,q,rfl⟩,hd ys σ H p⟩
structure Fl (P:Program) (w:World) (outer:List Env) (H:Hp) (s:Shared) (e C:Addr) (H':Hp) (s':Shared):Prop where
 os:s'.os=s.os
 bare:AllBare s'.gens
 un:Un (aX outer) [] H H' s.heap s'.heap
 ai:bS P w H' s'.heap
 yd:∃B a0,Heap.FlyingW B outer e (.ref C) a0 s'.heap∧(∀b o,s.heap.get? b=some o→b∉aX outer→∃u,B.get? b=some u)∧∀b o,H' b=some o→∃u,B.get? b=some u
def bE (P:Program) (w:World):i0:=fun outer H s E ev s'=> ∃e C H',ev=.ref e∧Fl P w outer H s e C H' s'∧E (.ref e) (some C) H'
section
variable {P:Program}{w:World}{base:Heap}{env:Env}{outer:List Env}{s0 s1 s2:Shared}{H0 H1 H2:Hp}{e C L:Addr}{A:Around}
theorem YY {B h1 h2:Heap}{H:Hp}(x:bS P w H h1) (cf:∀b o,H b=some o→∃u,B.get? b=some u) (k1:B.StaysIn h1) (k2:B.StaysIn h2):bS P w H h2:=fun a o ha=>
  (x a o ha).bI (fun b u hb hq=>by
    have:∃u',B.get? b=some u':=by
      rcases hb with rfl |hb
      · exact cf _ _ ha
      · exact cf _ _ hb
    obtain⟨u',hu⟩:=this
    have e1:=k1 b u' hu
    rw[hq]at e1
    cases e1
    exact k2 b _ hu) (fun _ q=>q) fun _ _ q=>q
theorem J7 {B h':Heap}(u0:Un (aX outer) [] H0 H1 s0.heap s1.heap) (u1:Un (aX (env::outer)) [] H1 H2 s1.heap s2.heap) (hf:env.frame=some L) (ab:s0.heap.objs.size≤L) (fu:s0.heap.FunFrames base outer) (fz:∀b∈aX outer,H0 b=none)
  (cf:∀b o,s1.heap.get? b=some o→b∉aX (env::outer)→∃u,B.get? b=some u) (k1:B.StaysIn s2.heap) (k2:B.StaysIn h') (up:s2.heap.UpToSlots h'):Un (aX outer) [] H0 H2 s0.heap h':=by
 have cG:∀b,b∈aX (env::outer)↔b=L∨b∈aX outer:=fun b=>by
  show b∈(env::outer).filterMap (·.frame)↔_
  rw[List.filterMap_cons_some (f:=fun(x:Env)=>x.frame) (a:=env) (b:=L) hf,List.mem_cons]
  exact Iff.rfl
 have out:∀b o,s0.heap.get? b=some o→b∉aX outer→b∉aX (env::outer):=fun b o hb hn hm=>by
  rcases (cG b).mp hm with q |q
  ·rw[q]at hb
   exact absurd (Nat.lt_of_lt_of_le (Heap.lt_size hb) ab) (Nat.lt_irrefl _)
  ·exact hn q
 have wD:∀b o u,s2.heap.get? b=some o→B.get? b=some u→h'.get? b=some o:=fun b o u hb hu=>by
  have e1:=k1 b u hu
  rw[hb]at e1
  cases e1
  exact k2 b _ hu
 have nH:∀b o,s0.heap.get? b=some o→b∈aX outer→∃sl,h'.get? b=some {o with slots:=sl} :=fun b o hb hm=>by
  obtain⟨_,o',cF,nf⟩:=fu.mem hm
  rw[hb]at cF
  cases cF
  obtain⟨zX,e1⟩:=u0.slot b o hb (fz b hm) hm (by simp)
  have n1:=u0.free b o hb (fz b hm) (by simp)
  obtain⟨gJ,e2⟩:=u1.slot b _ e1 n1 ((cG b).mpr (.inr hm)) (by simp)
  obtain⟨GB,e3⟩:=up b _ e2 nf
  exact⟨GB,e3⟩
 refine⟨fun b o hb hn BC _=> ?_,fun b o hb hn hm _=>nH b o hb hm,fun b o hb hn hx=> ?_,fun b o hb _=> ?_,fun b xs hb=>u1.f9 b xs (u0.f9 b xs hb),fun b o u hb=>u1.fW b o u (u0.fW b o u hb),fun b ps hb=> ?_⟩
 ·have e1:=u0.keep b o hb hn BC (by simp)
  have n1:=u0.free b o hb hn (by simp)
  have dw:=out b o hb BC
  have e2:=u1.keep b o e1 n1 dw (by simp)
  obtain⟨u,hu⟩:=cf b o e1 dw
  exact wD b o u e2 hu
 ·obtain⟨o1,e1⟩:=u0.there b o hb (by simp)
  have n1:=u0.free b o hb hn (by simp)
  exact u1.free b o1 e1 n1 (by simp)
 ·by_cases hm:b∈aX outer
  ·obtain⟨sl,q⟩:=nH b o hb hm
   exact⟨_,q⟩
  ·obtain⟨o1,e1⟩:=u0.there b o hb (by simp)
   obtain⟨u,hu⟩:=cf b o1 e1 (out b o hb hm)
   exact⟨u,k2 b u hu⟩
 ·obtain⟨m1,q1⟩:=u0.fM b ps hb
  obtain⟨m2,q2⟩:=u1.fM b _ q1
  exact⟨m1++m2,by rw[q2,Array.append_assoc]⟩
end
theorem HF {P:Program}{w:World}{K:PySem.W.Frag}{mg:Str→Option Value}{base:Heap}{N:List Str}{qual:Str}{scope:Scope}{f:Addr}{cd:Value}{A:Around}{outer:List Env}{s:Shared}{H:Hp}{E:XK} :
  Passes (bE P w) (bV (bE P w) P w K mg base N qual scope f cd A outer s H E) E:=by
 intro pins σ H1 s1 ev s2 I h
 obtain⟨e,C,H',rfl,F,hE⟩:=h
 obtain⟨B,a0,fl,cf,fZ⟩:=F.yd
 refine wpAny_leaves_onW (L:=s.heap.objs.size) I.ok.frames rfl fl fun h' mG up=> ?_
 refine⟨e,C,H',rfl,⟨F.os.trans I.os,F.bare,J7 (base:=base) (L:=s.heap.objs.size) I.base F.un rfl (Nat.le_refl _) I.ok.dZ I.ok.g9 cf fl.1 mG.1 up,YY F.ai fZ fl.1 mG.1,B,a0,mG,fun b o hb hn=> ?_,fZ⟩,hE⟩
 obtain⟨o1,e1⟩:=I.base.there b o hb (by simp[bV])
 refine cf b o1 e1 fun hm=> ?_
 have dJ:b∈(envOfC qual scope s.heap.objs.size f cd::outer).filterMap (·.frame):=hm
 rw[List.filterMap_cons_some (f:=fun(x:Env)=>x.frame) (a:=envOfC qual scope s.heap.objs.size f cd) (b:=s.heap.objs.size) rfl]at dJ
 rcases List.mem_cons.mp dJ with q |q
 ·rw[q]at hb
  exact absurd (Heap.lt_size hb) (Nat.lt_irrefl _)
 ·exact hn q
theorem QH {K:PySem.W.Frag}{h:Heap}{C:Addr}{qI:List Value}{newId:String}(X:K.In h) (q:PySem.W.excIn K C qI newId=true):
  ∃bm N nm qn bs hdct sn sub ab col dd k0 k1 k2 k3 k5 mN,h.get? C=some (excClassObj nm qn C N bs bm hdct sn sub ab col dd k0 k1 k2 k3 k5 newId)∧h.Ns N mN∧mN "__init__" =none∧OwnTail h qI bm:=by
 unfold PySem.W.excIn at q
 split at q
 ·rename_i dd cd sl lk
  split at q
  ·rename_i c2 bm j0 j1 j2 j3 nn j5 em es
   rw[Bool.and_eq_true,Bool.and_eq_true,Bool.and_eq_true,Bool.and_eq_true,Bool.and_eq_true]at q
   obtain⟨⟨⟨⟨⟨q1,q2⟩,q3⟩,q4⟩,q5⟩,q6⟩:=q
   have z1:=beq_iff_eq.mp q1
   have z2:=beq_iff_eq.mp q2
   have z6:=beq_iff_eq.mp q6
   subst z1 z2
   have ob:=X _ _ lk
   have z3:cd.hasDel=false:=by revert q3;cases cd.hasDel<;>simp
   have zs:sl= #[j0,j1,j2,j3,some (.builtin nn),j5]:=by
    apply Array.toList_inj.mp
    rw[es]
   refine⟨bm,cd.ns,cd.name,cd.qualname,cd.bases,cd.hasDict,cd.slotNames,cd.subclasses,cd.abstract,cd.collection,dd,j0,j1,j2,j3,j5,h.nsMap cd.ns,?_,.of_isNs (PySem.W.isNs_of_in X q5),PySem.W.nsMap_none_of_in X q5 z6,PySem.W.tail_of_in X q4⟩
   rw[ob,zs]
   obtain⟨a1,a2,a3,a4,a5,a6,a7,a8,a9,a10,a11⟩:=cd
   cases em
   cases z3
   rfl
  ·cases q
 ·cases q
def F2 (C:Addr) (E:XK) (ta:TA):TS:=fun _ σ H=>ta σ H fun vs H1=>vs.length≤sizeLine∧∀e,E (.ref e) (some C) H1
theorem U9 {P:Program}{w:World}{K:PySem.W.Frag}{mg:Str→Option Value}{base:Heap}{N:List Str}{qual:Str}{scope:Scope}{f:Addr}{cd:Value}{A:Around}{outer:List Env}{s s1:Shared}{H H1:Hp}{E:XK}
  {pins:List (Addr×Obj)}{σ:St}{h':Heap}{e C:Addr}{vs:List Value} (I:Inv (bV (bE P w) P w K mg base N qual scope f cd A outer s H E) pins σ H1 s1) (mk:Heap.MadeExcOf s1.heap h' e (.ref C) vs) (hE:E (.ref e) (some C) H1):
  (bV (bE P w) P w K mg base N qual scope f cd A outer s H E).xe (.ref e) {s1 with heap:=h'} :=by
 have qp:∀env∈(envOfC qual scope s.heap.objs.size f cd::outer),∀b,env.frame=some b→b∈aX (envOfC qual scope s.heap.objs.size f cd::outer):=fun env he b hb=>List.mem_filterMap.mpr ⟨env,he,hb⟩
 have st:=I.stack
 refine wpAny_leaves_madeW (L:=s.heap.objs.size) (base:=PySem.W.hideAll s1.heap (aX (envOfC qual scope s.heap.objs.size f cd::outer))) (h:=s1.heap) I.ok.frames rfl (fun b o q=>PySem.W.of_hideAll _ q) (PySem.W.funFrames_hide st qp) mk fun h2 t fl tp _ up=> ?_
 have cf:∀b o,s1.heap.get? b=some o→b∉aX (envOfC qual scope s.heap.objs.size f cd::outer)→∃u,(PySem.W.hideAll s1.heap (aX (envOfC qual scope s.heap.objs.size f cd::outer))).get? b=some u:=fun b o hb hn=> ⟨o,PySem.W.hideAll_get _ hb hn⟩
 have fZ:∀b o,H1 b=some o→∃u,(PySem.W.hideAll s1.heap (aX (envOfC qual scope s.heap.objs.size f cd::outer))).get? b=some u:=fun b o hb=>by
  have hl:=I.ai.lt hb
  have hx:∃u,s1.heap.get? b=some u:=by
   have ok:=I.ai b o hb
   cases o with
   |lst xs=>obtain⟨_,_,_,_,q⟩:=ok;exact⟨_,q⟩
   |tup xs=>obtain⟨_,_,_,⟨ob,q,_⟩,_⟩:=ok;exact⟨_,q⟩
   |par xs=>obtain⟨_,_,_,ob,q,_⟩:=ok;exact⟨_,q⟩
   |dK cm=>obtain⟨_,_,_,_,ob,_,_,q,_⟩:=ok;exact⟨_,q⟩
   |dT cm=>obtain⟨_,_,_,_,ob,_,_,q,_⟩:=ok;exact⟨_,q⟩
   |set S n=>obtain⟨ob,_,_,_,q,_⟩:=ok;exact⟨_,q⟩
   |ins C dx fs=>obtain⟨_,_,_,q,_⟩:=ok;exact⟨_,q⟩
   |own y=>exact ok
   |xd fs=>obtain⟨_,⟨_,_,_,q,_⟩,_⟩:=ok;exact⟨_,q⟩
   |fj lo hi=>obtain⟨_,_,_,q⟩:=ok;exact⟨_,q⟩
   |bU ob u=>exact⟨_,ok.1⟩
   |bH ps=>exact⟨_,(show s1.heap.get? b=some _ from ok)⟩
   |met f y=>exact⟨_,(show s1.heap.get? b=some _ from ok)⟩
   |ext φ=>exact ok.2.1
  obtain⟨u,hu⟩:=hx
  exact cf b u hu fun hm=>by
   have:=I.pe b hm
   rw[this]at hb
   cases hb
 have k1:Heap.StaysIn (PySem.W.hideAll s1.heap (aX (envOfC qual scope s.heap.objs.size f cd::outer))) h':=fun b o q=>mk.keeps b o (PySem.W.of_hideAll _ q)
 refine⟨e,C,H1,rfl,⟨I.os,I.bare,J7 (s1:=s1) (s2:= {s1 with heap:=h'}) (base:=base) (L:=s.heap.objs.size) I.base (Un.kept mk.keeps) rfl (Nat.le_refl _) I.ok.dZ I.ok.g9 cf k1 fl.1 up,YY (I.ai.kept mk.keeps) fZ k1 fl.1,_,_,fl,fun b o hb hn=> ?_,fZ⟩,hE⟩
 obtain⟨o1,e1⟩:=I.base.there b o hb (by simp[bV])
 refine cf b o1 e1 fun hm=> ?_
 have dJ:b∈(envOfC qual scope s.heap.objs.size f cd::outer).filterMap (·.frame):=hm
 rw[List.filterMap_cons_some (f:=fun(x:Env)=>x.frame) (a:=envOfC qual scope s.heap.objs.size f cd) (b:=s.heap.objs.size) rfl]at dJ
 rcases List.mem_cons.mp dJ with q |q
 ·rw[q]at hb
  exact absurd (Heap.lt_size hb) (Nat.lt_irrefl _)
 ·exact hn q
theorem Wg {P:Program}{w:World}{K:PySem.W.Frag}{mg:Str→Option Value}{base:Heap}{N:List Str}{qual:Str}{scope:Scope}{f:Addr}{cd:Value}{A:Around}{outer:List Env}{s:Shared}{H:Hp}{E:XK}{x:Str}{C:Addr}{B newId KU:String}{qI:List Value}
  {mH:Expr}{rest:List Expr}{np cn pos:Pos}{ta:TA} (FB:ExcBaseFacts B newId KU qI) (hmg:mg x=some (.ref C)) (hex:PySem.W.excIn K C qI newId=true) (hg:Gl (bV (bE P w) P w K mg base N qual scope f cd A outer s H E) x)
  (ha:PA (bV (bE P w) P w K mg base N qual scope f cd A outer s H E) (mH::rest) ta)
  (he:starEach (mH::rest) (envOfC qual scope s.heap.objs.size f cd)=(false,eval mH (envOfC qual scope s.heap.objs.size f cd))::starEach rest (envOfC qual scope s.heap.objs.size f cd):=by rfl)
  (dX:(backTo cn (starEach rest (envOfC qual scope s.heap.objs.size f cd))).any (·.1)=false:=by rfl) (hd:(x==("__debug__" :Str))=false:=by decide):
  PS (bV (bE P w) P w K mg base N qual scope f cd A outer s H E) (.Raise (some (.Call (.Name x np) (mH::rest) [] cn)) none pos) (F2 C E ta):=by
 intro pins s1 σ H1 D I h
 obtain⟨bm,Nn,nm,qn,bs,hdct,sn,sub,ab,col,dd,k0,k1,k2,k3,k5,mN,hC,hN,LV,T⟩:=QH I.mod.lL hex
 refine wpAny_Raise_call_subT (C:=C) (nm:=nm) (q:=qn) (N:=Nn) (bs:=bs) (bm:=bm) (hdct:=hdct) (sn:=sn) (sub:=sub) (ab:=ab) (col:=col) (dd:=dd) (k0:=k0) (k1:=k1) (k2:=k2) (k3:=k3) (k5:=k5)
  FB (mN:=mN) (T.hasType FB.hasBase) (I.ok.hd rfl) ?_ LV (Js I hg hmg ⟨rfl,?_⟩ hd)
 ·show(backTo cn (starEach (mH::rest) (envOfC qual scope s.heap.objs.size f cd))).any (·.1)=false
  rw[he]
  show(false||(backTo cn (starEach rest (envOfC qual scope s.heap.objs.size f cd))).any (·.1))=false
  rw[dX]
  rfl
 ·have q:=ha cn pins s1 σ H1 _ I h
  show wpAny _ _ (evalArgs (.ref C) true (backTo cn (starEach (mH::rest) (envOfC qual scope s.heap.objs.size f cd))) []) _ _ _
  have q':wpAny (model P w) (A.deeper (envOfC qual scope s.heap.objs.size f cd)) (spliced (backTo cn (starEach (mH::rest) (envOfC qual scope s.heap.objs.size f cd)))) _ _ s1:=q
  rw[he]at q' ⊢
  refine Calls.evalArgs_plain (wpAny_mono q' (fun us s2 h2=> ?_) fun _ _ y=>y)
  obtain⟨vs,H2,I2,r,hz,hE⟩:=h2
  refine⟨rfl,by rw[←r.length];exact hz,I2.bk _ _ hC,hN.keeps I2.bk,T.keeps I2.bk,fun h' e mk=> ?_⟩
  exact U9 I2 mk (hE e)
section
variable {X:Cx}
def Gh (ta tb:TE):TE:=fun σ H Q=>ta σ H fun v H1=> ∃x,v=.str x∧(Str.empty++x).length≤sizeLine∧tb σ H1 fun u H2=> ∃n:Int,u=.int n∧n.natAbs.log2<1920∧(Str.empty++x++(Str.ofString (toString n))).length≤sizeLine∧∀z,Q (.str z) H2
theorem Qv {a b:Expr}{ta tb:TE}{p pos:Pos}(ha:PE X a ta) (hb:PE X b tb):PE X (.JoinedStr [a,.FormattedValue b (-1) none p] pos) (Gh ta tb):=by
 intro pins s σ H Q I h
 refine JoinedStr_many (joinParts_cons (wpAny_mono (ha pins s σ H _ I h) (fun u s1 h1=> ?_) fun _ _ y=>y))
 obtain⟨v,H1,I1,r1,x,rfl,hz,h2⟩:=h1
 obtain⟨t,rfl⟩:=r1
 refine⟨hz,joinParts_cons (FormattedValue_plain (wpAny_mono (hb pins s1 σ H1 _ I1 h2) (fun u s2 h3=> ?_) fun _ _ y=>y))⟩
 obtain⟨v,H2,I2,r2,n,rfl,hn,aE,q⟩:=h3
 obtain⟨t2,rfl⟩:=r2
 refine formatField_int_small hn ⟨aE,?_⟩
 refine joinParts_nil ?_ aE
 exact⟨.str _,H2,(I2.tok _).tok _,⟨_,rfl⟩,q _⟩
end
section
variable {P:Program}{w:World}{K:PySem.W.Frag}{mg:Str→Option Value}{base:Heap}
theorem aK.iB {x qual:Str}{st:Stmt}{f:Addr}{fd:FuncData}{N ps:List Str}{k:Nat}{sp:Sp}(F:aK K x qual st f fd) (S:bu N ps (aC st)) (len:∀vs H Q E,sp vs H Q E→vs.length=ps.length)
    (hb:∀(ao:Value) (A:Around) (outer:List Env) (s:Shared) (H:Hp) (vs:List V) (Q:VK) (E:XK),cg k (A.deeper (envOfC qual (aC st) s.heap.objs.size f ao))→sp vs H Q E→
      ∃t,eZ (bV (bE P w) P w K mg base N qual (aC st) f ao A outer s H E) (dM st) t∧t {nx:=fun _ H'=>Q .ae H',rt:=Q} (start N vs) H):az P w K mg base (bE P w) (k+1) f fd ps sp:=by
  obtain⟨oc,od,kV,doc,pm,an,ao,ct,fA,rfl,lk,cP⟩:=F.ex
  exact yG lk cP S len fun A outer s H vs Q E hr dI=>hb ao A outer s H vs Q E hr dI
def bD (P:Program) (w:World) (K:PySem.W.Frag) (mg:Str→Option Value) (base:Heap) (k:Nat) (x:Str) (ps:List Str) (sp:Sp):Prop:=
 ∃f fd,az P w K mg base (bE P w) k f fd ps sp∧mg x=some (.ref f)∧PySem.W.keepIn K (.ref f)=true∧Binds K fd ps []
theorem Z0 {N:List Str}{qual:Str}{scope:Scope}{f:Addr}{cd:Value}{A:Around}{outer:List Env}{s:Shared}{H:Hp}{E:XK}{k:Nat}{x:Str}{ps:List Str}{sp:Sp}{e:Expr}{es:List Expr}{t:TA}{p pos:Pos}
  (d:bD P w K mg base k x ps sp) (hr:cg k (A.deeper (envOfC qual scope s.heap.objs.size f cd))) (ha:PA (bV (bE P w) P w K mg base N qual scope f cd A outer s H E) (e::es) t) (hg:Gl (bV (bE P w) P w K mg base N qual scope f cd A outer s H E) x:=by rfl)
  (iQ:(x==("__debug__" :Str))=false:=by decide)
  (he:starEach (e::es) (envOfC qual scope s.heap.objs.size f cd)=(false,eval e (envOfC qual scope s.heap.objs.size f cd))::starEach es (envOfC qual scope s.heap.objs.size f cd):=by rfl)
  (dX:(backTo pos (starEach es (envOfC qual scope s.heap.objs.size f cd))).any (·.1)=false:=by rfl):
  PE (bV (bE P w) P w K mg base N qual scope f cd A outer s H E) (.Call (.Name x p) (e::es) [] pos) (rj sp [] E t):=by
 obtain⟨g,fd,F,hm,hk,hb⟩:=d
 exact EJ F hr hg hm hk hb .nil HF ha iQ he dX
end
end L2
namespace L2
open PySem PySem.Spec PyProof.Rows PySem.Builtin PySem.Builtin.ObjectAttr PySem.Builtin.Getset_descriptor
def jq (e C:Addr):HO:=.ext fun h=> ∃o,h.get? e=some o∧o.cls=.ref C
structure kU (K:PySem.W.Frag) (C:Addr):Prop where
 ga:PySem.W.findIn K (.ref C) "__getattribute__" =some (some (.builtin "BaseException.__getattribute__"))
 hook:PySem.W.findIn K (.ref C) "__getattr__" =some none
 cl:PySem.W.findIn K (.ref C) "__class__" =some (some (.builtin "object.__class__"))
 ob:PySem.W.mroIn K C (.type "object")=some true
 bx:PySem.W.mroIn K C (.type "BaseException")=some true
 cls:(PySem.W.clsIn K C).isSome=true
section
variable {prog:Program}{w:World}{A:Around}{E:Value→Shared→Prop}{s:Shared}{K:PySem.W.Frag}{e C:Addr}{o:Obj}{R:Result→Shared→Prop}
theorem JM {M:Model}{h:Heap}(hx:h.get? e=some o) (hc:o.cls=.ref C):PySem.W.Looks M h (typeOf (.ref e)) (.ref C):=hc▸(PySem.W.Looks.ld hx).andThen .now
theorem P9 {tp:Value}(X:K.In s.heap) (hx:s.heap.get? e=some o) (hc:o.cls=.ref C) (Z:kU K C) (h:R (.ok (.ret (.ref C))) s):
  codeAny (model prog w) A (.call (.builtin "getset_descriptor.__get__") ⟨[.builtin "object.__class__",.ref e,tp],[]⟩) R s:=by
 obtain⟨h0,g0,d0,t0,o0⟩:=s
 have LT:=JM (M:=model prog w) hx hc
 have LM:=PySem.W.looks_mroIn (M:=model prog w) X Z.ob
 refine codeAny_call_builtin PySem.W.KF.slot_gs.plain PySem.W.KF.entry_gs (PySem.W.KF.slot_gs.check _ _ _ _ _ _ _ _ PySem.W.KF.type_class (PySem.W.KF.args_gs _ _ _) ?_)
 unfold Builtin.«getset_descriptor.__get__» descrGet
 rw[PySem.W.dga_obj]
 refine wpAny_bind (wpAny_pure ?_)
 unfold descrGetter descrCheckInstance descrNameAndClass isInstance
 simp only[PySem.W.KF.owner_class]
 repeat lk
 refine⟨Code.quiet_builtin _ (by decide+kernel),codeAny_builtin PySem.W.KF.entry_class ?_⟩
 unfold Builtin.«object.__class__» shownTypeOf
 repeat lk
 exact h
theorem Sg {tk:Tok}{Q:PySem.Fin→Shared→Prop}(X:K.In s.heap) (hx:s.heap.get? e=some o) (hc:o.cls=.ref C) (Z:kU K C) (hq:Q (.done (.ret (.ref C))) s):
  wpAny (model prog w) A (Builtin.«object.__getattribute__» ⟨[.ref e,.str "__class__" tk],[]⟩) Q E s:=by
 obtain⟨h0,g0,d0,t0,o0⟩:=s
 have LT:=JM (M:=model prog w) hx hc
 have LC:=PySem.W.looks_findIn (M:=model prog w) X Z.cl
 have VM:(⟨h0,g0,d0,t0,o0⟩:Shared).TypeIs (.builtin "object.__class__") "getset_descriptor" :=F.typeOf_object_class
 have f5:=F.typeOf_object_class
 have f6:=F.slot_gs_get.lookup
 have f7:=F.slot_gs_set.lookup
 repeat (any_goals (first |assumption |with_reducible refine LT.at ?_ |with_reducible refine LC.at ?_ |wp_step))
 refine P9 (s:=⟨h0,g0,d0,t0,o0⟩) X hx hc Z ?_
 exact wpAny_pure hq
theorem P8 {tk:Tok}(X:K.In s.heap) (hx:s.heap.get? e=some o) (hc:o.cls=.ref C) (Z:kU K C) (hq:R (.ok (.ret (.ref C))) s):
  codeAny (model prog w) A (.call (.builtin "BaseException.__getattribute__") ⟨[.ref e,.str "__class__" tk],[]⟩) R s:=by
 refine codeAny_call_builtin F.attr_ValueError.ga.plain F.entry_bexc_ga ?_
 obtain⟨h0,g0,d0,t0,o0⟩:=s
 have LT:=JM (M:=model prog w) hx hc
 have LB:=PySem.W.looks_mroIn (M:=model prog w) X Z.bx
 have hk:builtinKind "BaseException.__getattribute__" =some .slot:=by decide+kernel
 have dI:splitId "BaseException.__getattribute__" =some ("BaseException", "__getattribute__"):=by decide+kernel
 have ha:=F.args_bexc_ga (.ref e) (.str "__class__" tk)
 simp only[checkBuiltinCall,hk,dI]
 have LI:PySem.W.Looks (model prog w) h0 (isInstance (.ref e) (.type "BaseException")) true:=LT.andThen LB
 refine wpAny_bind (LI.at ?_)
 repeat (first |exact Sg (s:=⟨h0,g0,d0,t0,o0⟩) X hx hc Z hq |assumption |wp_step)
theorem P7 {Q:Option Value→Shared→Prop}(X:K.In s.heap) (hx:s.heap.get? e=some o) (hc:o.cls=.ref C) (Z:kU K C) (hq:Q (some (.ref C)) {s with toks:=s.toks+1}):
  wpAny (model prog w) A (getAttr? (.ref e) "__class__") Q E s:=by
 obtain⟨h0,g0,d0,t0,o0⟩:=s
 have LT:=JM (M:=model prog w) hx hc
 have L1:=PySem.W.looks_findIn (M:=model prog w) X Z.ga
 have L2:=PySem.W.looks_findIn (M:=model prog w) X Z.hook
 have f3:=F.attr_ValueError.ga.bind (.ref e)
 have jO:(Value.builtin "BaseException.__getattribute__" ==Value.builtin "object.__getattribute__")=false:=by decide+kernel
 have wK:(onTheHeap (Value.ref C)&&Value.builtin "BaseException.__getattribute__" ==Value.builtin "object.__getattribute__")=false:=by rw[jO];rfl
 unfold getAttr? getAttrBy? getAttrBy
 refine wpAny_bind (wpAny_mkText (wpAny_bind (wpAny_attempt (wpAny_holding (wpAny_bind (LT.at (wpAny_bind (L1.at ?_))))))))
 repeat (any_goals (first |assumption |with_reducible refine L2.at ?_ |wp_step))
 refine P8 (s:=⟨h0,g0,d0,t0+1,o0⟩) X hx hc Z ?_
 repeat (any_goals (first |assumption |wp_step))
theorem Ru (Z:kU K C):PySem.W.KitX K (.ref e) (.ref C) (fun h=> ∃o,h.get? e=some o∧o.cls=.ref C) where
 ty:=fun M h _ ⟨o,hx,hc⟩=>JM hx hc
 it:=fun M h X _=>by
  obtain⟨cd,cP⟩:=Option.isSome_iff_exists.mp Z.cls
  unfold PySem.W.clsIn at cP
  split at cP
  ·rename_i lk
   intro A2 Q2 E2 s2 k q
   unfold isType loadHead
   exact wpAny_bind (wpAny_loadPart (k _ _ (X _ _ lk)) (wpAny_pure q))
  ·cases cP
 ne:=fun h tp dd its n sl X oh=>by
  obtain⟨cd,cP⟩:=Option.isSome_iff_exists.mp Z.cls
  refine Bool.eq_false_iff.mpr fun q=> ?_
  have z:C=tp:=Value.ref.inj (beq_iff_eq.mp q)
  rw[←z]at oh
  unfold PySem.W.clsIn at cP
  split at cP
  ·rename_i lk
   have y:=(X _ _ lk).symm.trans oh
   cases y
  ·cases cP
 ca:=fun X ⟨o,hx,hc⟩ k=>P7 X hx hc Z k
end
section
variable {X:Cx}
theorem JB:eE X (.builtin "isinstance") (fun xs H Q=> ∃e C y c b,xs=[.ref e,y]∧H e=some (jq e C)∧kU X.K C∧(∀u,RelV y u→u=c)∧PySem.W.kitOne X.K (.ref C) c=some b∧Q (.bl b) H):=by
 rintro pins s σ H vs us Q I r ⟨e,C,y,c,b,rfl,he,Z,hy,hk,q⟩
 cases r with
 |cons r1 r2=>
  cases r2 with
  |cons r3 r4=>
   cases r4
   rw[hy _ r3]
   rw[show _=Value.ref e from r1]
   obtain⟨p,_,_⟩:=(show bC X.prog X.w H s.heap e (jq e C) from I.ai e _ he)
   exact PySem.W.kia_one (Ru Z) I.bF p hk (fun z=>nomatch z) fun tk=> ⟨.bl b,H,I.tok _,rfl,q⟩
end
end L2
namespace L2
open PySem PySem.Spec PyProof.Rows
abbrev Cx.jg (X:Cx) (e:Value):Cx:= {X with A:=X.A.mark (some e),calm:=false,xe:=fun _ _=>False}
section
variable {X:Cx}{pins:List (Addr×Obj)}{σ:St}{H H':Hp}{s s':Shared}
theorem Inv.jg (I:Inv X pins σ H s) (e:Value):Inv (X.jg e) pins σ H s:=
 ⟨⟨I.ok.mod,I.ok.kind,I.ok.glob,I.ok.blt,I.ok.above,I.ok.inj,I.ok.has,I.ok.kM,fun h=>Bool.noConfusion h,I.ok.frames,I.ok.nF,I.ok.oI,I.ok.bs,I.ok.js,I.ok.lG,I.ok.mJ,I.ok.dZ,I.ok.g9⟩,I.os,I.bare,I.base,I.loc,I.cell,I.free,I.fX,I.pin,I.ai,I.len⟩
theorem Inv.Fu {e:Value}(I:Inv (X.jg e) pins σ H s) (hd:X.calm=true→X.A.handled=none):Inv X pins σ H s:=
 ⟨⟨I.ok.mod,I.ok.kind,I.ok.glob,I.ok.blt,I.ok.above,I.ok.inj,I.ok.has,I.ok.kM,hd,I.ok.frames,I.ok.nF,I.ok.oI,I.ok.bs,I.ok.js,I.ok.lG,I.ok.mJ,I.ok.dZ,I.ok.g9⟩,I.os,I.bare,I.base,I.loc,I.cell,I.free,I.fX,I.pin,I.ai,I.len⟩
theorem Inv.Dd {e C:Addr}{B h':Heap}{o:Obj}(I:Inv X pins σ H s) (un:Un (aX X.stack) [] H H' s.heap s'.heap) (os:s'.os=s.os) (bare:AllBare s'.gens) (ai:bS X.prog X.w H' s'.heap)
  (cf:∀b o,s.heap.get? b=some o→b∉aX X.stack→∃u,B.get? b=some u) (fZ:∀b o,H' b=some o→∃u,B.get? b=some u) (be:B.get? e=none) (k1:B.StaysIn s'.heap) (k2:B.StaysIn h') (up:s'.heap.UpToSlots h')
  (he:h'.get? e=some o) (hc:o.cls=.ref C) (hd:∃vs,o.data=.fields vs):Inv X pins σ (upd H' e (jq e C)) {s' with heap:=h'}∧H' e=none:=by
 have n0:H' e=none:=by
  cases q:H' e with
  |none=>rfl
  |some u=>
   obtain⟨u',hu⟩:=fZ e u q
   rw[be]at hu
   cases hu
 have nH:∀b o,s.heap.get? b=some o→b∈aX X.stack→∃sl,h'.get? b=some {o with slots:=sl} :=fun b o hb hm=>by
  obtain⟨_,o',cF,nf⟩:=I.stack.mem hm
  rw[hb]at cF
  cases cF
  obtain⟨zX,e1⟩:=un.slot b o hb (I.pe b hm) hm (by simp)
  obtain⟨gJ,e2⟩:=up b _ e1 nf
  exact⟨gJ,e2⟩
 have Iz:∀b u,s.heap.get? b=some u→b≠e:=fun b u hb z=>by
  rw[z]at hb
  by_cases hm:e∈aX X.stack
  ·obtain⟨_,o',cF,nf⟩:=I.stack.mem hm
   rw[hb]at cF
   cases cF
   obtain⟨sl,q⟩:=nH e u hb hm
   rw[he]at q
   cases q
   obtain⟨vs,hv⟩:=hd
   exact nf vs hv
  ·obtain⟨u',hu⟩:=cf e u hb hm
   rw[be]at hu
   cases hu
 have wD:∀b o u,s'.heap.get? b=some o→B.get? b=some u→h'.get? b=some o:=fun b o u hb hu=>by
  have e1:=k1 b u hu
  rw[hb]at e1
  cases e1
  exact k2 b _ hu
 refine⟨I.De (s':= {s' with heap:=h'}) (ch:=[]) os ⟨fun b u hb hn hf _=> ?_,fun b u hb hn hm _=>nH b u hb hm,fun b u hb hn _=> ?_,fun b u hb _=> ?_,fun b xs hb=> ?_,fun b u v hb=> ?_,fun b ps hb=> ?_⟩ ?_ bare (fun b hb=>absurd hb (by simp)),n0⟩
 ·have e1:=un.keep b u hb hn hf (by simp)
  obtain⟨u',hu⟩:=cf b u hb hf
  exact wD b u u' e1 hu
 ·rw[Zf (Iz b u hb)]
  exact un.free b u hb hn (by simp)
 ·by_cases hm:b∈aX X.stack
  ·obtain⟨sl,q⟩:=nH b u hb hm
   exact⟨_,q⟩
  ·obtain⟨u',hu⟩:=cf b u hb hm
   exact⟨u',k2 b u' hu⟩
 ·have q:=un.f9 b xs hb
  rw[Zf (Zg q n0)]
  exact q
 ·have q:=un.fW b u v hb
  rw[Zf (Zg q n0)]
  exact q
 ·obtain⟨m,q⟩:=un.fM b ps hb
  exact⟨m,by rw[Zf (Zg q n0)];exact q⟩
 ·intro b u hb
  by_cases jo:b=e
  ·subst jo
   rw[Zc]at hb
   cases hb
   refine⟨⟨o,he,hc⟩,⟨o,he⟩,fun h1 h2 p k=> ?_⟩
   obtain⟨o1,q1,q2⟩:=p
   exact⟨o1,k _ q1,q2⟩
  ·rw[Zf jo]at hb
   have x:=YY ai fZ k1 k2 b u hb
   refine x.bI (fun c w' jn q=>q) (fun c q=> ?_) fun c xs q=> ?_
   ·rw[Zf (Zg q n0)];exact q
   ·rw[Zf (Zg q n0)];exact q
end
def F0 (X:Cx) (ic ie:Nat) (cS:Addr) (k:Nat) (ts:TS):TS:=fun D σ H=> ∃f fd sp,σ[ic]? =some (some (.ref f))∧(∀s,bS X.prog X.w H s→PySem.W.FnAt f s)∧az X.prog X.w X.K X.mg X.base (bE X.prog X.w) k f fd [] sp∧(∀s,BindsTo s fd ⟨[],[]⟩ [])∧
 sp [] H (fun _ _=>False) fun ev c H'=> ∃e C,ev=.ref e∧c=some C∧PySem.W.exmOne X.K (.ref C) (.ref cS)=some true∧(H' e=none→ts {nx:=fun aj H2=>D.nx (aj.set ie none) H2,rt:=fun _ _=>False} (σ.set ie (some (.ref e))) (upd H' e (jq e C)))
theorem SY {X:Cx}{ic ie k:Nat}{c n S:Str}{cS:Addr}{b0:Stmt}{zK:List Stmt}{ts:TS}{p1 p2 p3 p4 p5 p6:Pos}(B8:X.calm=true) (jP:X.stack=X.env::X.outer) (fI:X.env.frame=some X.env.locals) (hN:X.N.Nodup) (Mm:X.N[ic]? =some c) (K8:qK X.env.scope c)
  (tQ:X.N[ie]? =some n) (ow:X.env.scope.names.lookup n=some .local) (hS:X.mg S=some (.ref cS)) (Mp:Gl X S) (hr:cg k X.A) (Lo:∀e,eZ (X.jg (.ref e)) (b0::zK) ts)
  (MC:(c==("__debug__" :Str))=false:=by decide) (MA:(c==("__classdict__" :Str))=false:=by decide) (MD:(S==("__debug__" :Str))=false:=by decide)
  (wR:swapsWith (.Call (.Name c p1) [] [] p2) none p3.line X.env=pure false:=by rfl):
  PS X (.Try [.Expr (.Call (.Name c p1) [] [] p2) p3] [.ExceptHandler (some (.Name S p4)) (some n) (b0::zK) p5] [] [] p6) (F0 X ic ie cS k ts):=by
 intro pins s σ H D I h
 obtain⟨f,fd,sp,lU,eW,F,hb,dI⟩:=h
 refine wpAny_Try_except ?_
 refine wpAny_execs_cons (wpAny_Expr_any ?_ I.quiet wR)
 refine wpAny_Call_Name_kw ?_
 have nm:=YK (X:=X.gG (fun _ _=>False)) (i:=ic) (x:=c) (pos:=p1) Mm K8 MC MA pins s σ H (fun v H2=>v=.ref f∧H2=H) (I.gG _) ⟨_,lU,rfl,rfl⟩
 refine wpAny_mono nm (fun u s1 h1=> ?_) (fun _ _ z=>z.elim)
 obtain⟨v,H1,I1,r1,rfl,rfl⟩:=h1
 have I1:=I1.jD
 obtain rfl:u=Value.ref f:=r1
 refine PySem.W.callWith_F0 (eW _ I1.ai) ?_
 refine wpAny_call (codeAny_mono (F.run X.A X.stack s1 H1 ⟨[],[]⟩ [] [] _ _ hr I1.CO (hb s1) .nil dI) fun r s2 hq=> ?_)
 cases r with
 |ok fl=>
  cases fl with
  |ret u=>obtain⟨_,_,_,_,_,_,_,z⟩:=hq;exact z.elim
  |next=>exact hq.elim
  |brk=>exact hq.elim
  |cont=>exact hq.elim
 |error ev=>
  obtain⟨e,C,H2,rfl,FL,e',C',q1,q2,hx,hk⟩:=hq
  cases q1
  cases q2
  obtain⟨B,a0,fl,cf,fZ⟩:=FL.yd
  rw[jP]at fl
  show wpAny (model X.prog X.w) X.A (noteFrame (.ref e) X.env) _ X.xe s2
  have yc:X.A.frames=some (X.env::X.outer):=by rw[←jP];exact I.ok.frames
  refine wpAny_looks_onW (L:=X.env.locals) yc fI fl fun h4 held zq=> ?_
  refine wpAny_landsW held fun h5 ye zp=> ?_
  have ON:∃o vs,h5.get? e=some o∧o.cls=.ref C∧o.data=.fields vs:=by
   obtain⟨oe,vs,g1,g2,g3,_⟩:=ye.first
   exact⟨oe,vs,g1,g2,g3⟩
  obtain⟨o5,T8,CH,CG,Nv⟩:=ON
  have c5:=I1.Dd (h':=h5) FL.un FL.os FL.bare FL.ai cf fZ fl.2.1 fl.1 ye.1 (zq.trans zp) CH CG ⟨_,Nv⟩
  have I5:=c5.1.jg (.ref e)
  refine wpAny_handleBy_cons (codeAny_handlers_test ?_) (by intro q;cases q)
  refine Js (X:=X.jg (.ref e)) I5 Mp hS ?_ MD
  have LX:=PySem.W.exm_one (M:=model X.prog X.w) (c:=.ref cS) (e:=e) I5.bF (JM CH CG) hx
  refine LX.at ?_
  refine codeAny_handlers_suite_as ?_
  refine lands_againW (s:= {s2 with heap:=h5}) ye fun h6 CJ Fs=> ?_
  obtain⟨o6,T7,Nt,Nr,Nq,_⟩:=CJ.first
  obtain⟨I6,n6⟩:=I1.Dd (h':=h6) FL.un FL.os FL.bare FL.ai cf fZ fl.2.1 fl.1 CJ.1 ((zq.trans zp).trans Fs) Nt Nr ⟨_,Nq⟩
  have I6:=I6.jg (.ref e)
  have wO:=hk n6
  refine Yz (X:=X.jg (.ref e)) (i:=ie) I6 hN tQ (.inl ow) (v:=.ref e) (u:=.ref e) rfl (fun s7 I7=> ?_) (.inr ow)
  refine wpAny_mono (Lo e pins s7 _ _ _ I7 wO) (fun NG s8 h8=> ?_) fun _ _ z=>z.elim
  cases NG with
  |ret u=>obtain⟨_,_,_,_,_,z⟩:=h8;exact z.elim
  |brk=>obtain⟨_,_,_,z⟩:=h8;exact z.elim
  |cont=>obtain⟨_,_,_,z⟩:=h8;exact z.elim
  |next=>
   obtain⟨qU,H8,I8,q8⟩:=h8
   have I8:=I8.Fu (fun z=>I.ok.hd z)
   obtain⟨m8,BD,Mc⟩:=I8.loc
   have xK:(X.env.scope.kind==.class||(X.env.scope.kind==.module&&X.env.locals !=X.env.globals))=false:=by rw[I8.ok.kind];rfl
   refine wpAny_nameGoes_keeps ow BD xK fun h9 v9 LW l8=> ?_
   have st:=Yz (M:=model X.prog X.w) (A:=X.A) (E:=fun _ _=>False) (X:=X) (i:=ie) I8 hN tQ (.inl ow) (v:=.ae) (u:=.none) rfl (Q:=fun _ _=>True) (fun _ _=>trivial) (.inr ow)
   refine⟨qU.set ie none,H8,?_,q8⟩
   have ay:ie<qU.length:=by rw[I8.len];exact(List.getElem?_eq_some_iff.mp tQ).1
   obtain⟨oL,_,_,hoL,_⟩:=id BD
   have hV:=I8.hV
   refine⟨I8.ok,I8.os,I8.bare,⟨fun b o eb nb hb hx=> ?_,fun b o eb nb hb hx=> ?_,I8.base.free,fun b o eb hx=> ?_,I8.base.f9,I8.base.fW,I8.base.fM⟩,⟨_,LW,fun j y v' e1 e2 e3=> ?_⟩,fun y cc ec=> ?_,I8.free,I8.fX,fun p hp=> ?_,fun b ob eb=> ?_,by simpa using I8.len⟩
   ·exact(l8.2 b (Nat.ne_of_lt (Nat.lt_of_lt_of_le (Heap.lt_size eb) I8.ok.above))).trans (I8.base.keep b o eb nb hb hx)
   ·obtain⟨sl,q⟩:=I8.base.slot b o eb nb hb hx
    exact⟨sl,(l8.2 b (Nat.ne_of_lt (Nat.lt_of_lt_of_le (Heap.lt_size eb) I8.ok.above))).trans q⟩
   ·obtain⟨o',q⟩:=I8.base.there b o eb hx
    exact⟨o',(l8.2 b (Nat.ne_of_lt (Nat.lt_of_lt_of_le (Heap.lt_size eb) I8.ok.above))).trans q⟩
   ·by_cases hj:j=ie
    ·subst hj
     rw[List.getElem?_set_self ay]at e2
     cases e2
    ·rw[List.getElem?_set_ne (Ne.symm hj)]at e2
     obtain⟨u',r',q⟩:=Mc j y v' e1 e2 e3
     refine⟨u',r',?_⟩
     rcases q with ⟨kk,q⟩ |⟨kk,c',ec,z⟩
     ·refine .inl ⟨kk,?_⟩
      have ne:y≠n:=fun z=>hj (Wn hN e1 (z▸tQ))
      simp[ne,q]
     ·exact .inr ⟨kk,c',ec,z.sameBut l8 (hV y c' ec)⟩
   ·obtain⟨w',z⟩:=I8.cell y cc ec
    exact⟨w',z.sameBut l8 (hV y cc ec)⟩
   ·obtain⟨e1,n1,ne1,II,d1⟩:=I8.pin p hp
    exact⟨(l8.2 p.1 ne1).trans e1,n1,ne1,II,d1⟩
   ·refine(I8.ai b ob eb).bI (fun cc w' jn q=> (l8.2 cc ?_).trans q) (fun _ q=>q) fun _ _ q=>q
    rintro rfl
    rcases jn with rfl |jn
    ·rw[I8.free]at eb;cases eb
    ·rw[I8.free]at jn;cases jn
def hJ (c:Addr) (q:Str):HO:=.ext fun h=>h.CodeRec (.ref c) q
def oa (f:Addr) (q:Str) (params:Arguments) (body:Expr) (scope:Scope) (cl:List (Str×Addr)) (pm:Value) (c:Addr) (ct:Value):HO:=.ext fun h=>h.get? f=some (PySem.W.kla_obj "<lambda>" q params body scope cl pm c ct)
def yV (H:Hp) (f:Addr) (q:Str) (params:Arguments) (body:Expr) (scope:Scope) (cl:List (Str×Addr)):Prop:=∃pm c ct,H f=some (oa f q params body scope cl pm c ct)∧H c=some (hJ c q)
def Ta (H:Hp) (q:Str) (ps:Array Value):Prop:=TriplesOk ps.toList∧∀pos cv,codeAmong pos ps.toList=some cv→∃c,cv=.ref c∧H c=some (hJ c q)
def TabAt (H:Hp) (P:Addr) (q:Str):Prop:=∃ps,H P=some (.bH ps)∧Ta H q ps
theorem Jz {h h':Heap}{c:Addr}{q:Str}(x:h.CodeRec (.ref c) q) (k:∀o,h.get? c=some o→h'.get? c=some o):h'.CodeRec (.ref c) q:=by
 obtain⟨c2,oc,vs,tq,e,g1,g2,g3⟩:=x
 cases e
 exact⟨c,oc,vs,tq,rfl,k _ g1,g2,g3⟩
theorem P2 {P:Program}{w:World}{H:Hp}{h:Heap}{c:Addr}{q:Str}(x:h.CodeRec (.ref c) q):bC P w H h c (hJ c q):=by
 obtain⟨c2,oc,vs,tq,e,g1,g2,g3⟩:=id x
 cases e
 exact⟨x,⟨_,g1⟩,fun h1 h2 p k=>Jz p k⟩
theorem Ea {P:Program}{w:World}{H:Hp}{h:Heap}{f:Addr}{q:Str}{params:Arguments}{body:Expr}{scope:Scope}{cl:List (Str×Addr)}{pm:Value}{c:Addr}{ct:Value}(x:h.get? f=some (PySem.W.kla_obj "<lambda>" q params body scope cl pm c ct)):
  bC P w H h f (oa f q params body scope cl pm c ct):=⟨x,⟨_,x⟩,fun h1 h2 p k=>k _ p⟩
theorem WJ {pos p2:Pos}{c cv:Value} :∀(l:List Value),TriplesOk l→codeAmong p2 (l++[rawInt pos.line,rawInt pos.col,c])=some cv→codeAmong p2 l=some cv∨cv=c
 | [],_,h=>by
  have h':(if (pos.line:Int)==(p2.line:Int)&&(pos.col:Int)==(p2.col:Int) then some c else codeAmong p2 [])=some cv:=h
  split at h'
  ·exact .inr (Option.some.inj h').symm
  ·cases h'
 | .int a t:: .int b u::x::r,ht,h=>by
  have h':(if a==p2.line&&b==p2.col then some x else codeAmong p2 (r++[rawInt pos.line,rawInt pos.col,c]))=some cv:=h
  show(if a==p2.line&&b==p2.col then some x else codeAmong p2 r)=some cv∨cv=c
  split at h'
  ·rename_i hq
   rw[if_pos hq]
   exact .inl h'
  ·rename_i hq
   rw[if_neg hq]
   exact WJ r ht h'
theorem Jh {pos:Pos}{c:Value} :∀(l:List Value),TriplesOk l→TriplesOk (l++[rawInt pos.line,rawInt pos.col,c])
 | [],_=>trivial
 | .int _ _:: .int _ _::_::r,h=>Jh r h
structure EV (X:Cx) (c P:Addr):Prop where
 code:X.env.code=.ref c
 hd:PySem.W.CodeHd X.base c P
 bm:∃bm ob,X.mg "__builtins__" =some (.ref bm)∧bm≠builtinsNs∧X.base.get? bm=some ob∧ob.cls=.type "module" ∧ob.dict=some builtinsNs∧ob.data=.plain
def Gd (X:Cx) (P:Addr) (params:Arguments) (body:Expr) (scope:Scope):TE:=fun σ H Q=>TabAt H P (X.env.qual++ "<lambda>")∧∀f H',aw P H H'→H f=none→TabAt H' P (X.env.qual++ "<lambda>")→yV H' f (X.env.qual++ "<lambda>") params body scope (eu scope X.env)→Q (.ref f) H'
theorem OY {X:Cx}{c P:Addr}{params:Arguments}{body:Expr}{scope:Scope}{pos:Pos}(L:EV X c P) (xH:defaultsOf params X.env=([],[])) (fI:∀y∈scope.names,y.2=.free→X.env.kindOf y.1=some .cell∨X.env.kindOf y.1=some .free):
  PE X (.Lambda params body scope pos) (Gd X P params body scope):=by
 intro pins s σ H Q I h
 obtain⟨⟨ps,hP,hT,hC⟩,q⟩:=h
 have oP:s.heap.get? P=some (PySem.W.tabObj ps):=I.ai P _ hP
 have gz:=Yx (scope:=scope) (env:=X.env) fun y hy e=>I.ok.has _ (fI y hy e)
 have ud:s.heap.Ns mainGlobals X.mg:=I.mod.glob.keeps I.bk
 obtain⟨bm,ob,b1,b2,b3,b4,b5,b6⟩:=L.bm
 have Mq:mainGlobals≠P:=fun z=>by
  obtain⟨o,es,ep,e,d,_⟩:=ud
  rw[z,oP]at e
  cases e
  cases d
 have mz:bm≠P:=fun z=>by
  have e:=I.bk _ _ b3
  rw[z,oP]at e
  cases e
  cases b4
 have MO:bm≠mainGlobals:=fun z=>by
  obtain⟨o,es,ep,e,d,_⟩:=ud
  have e2:=I.bk _ _ b3
  rw[z,e]at e2
  cases e2
  rw[d]at b6
  cases b6
 have BA:s.heap.BuiltinsAt X.mg P:=⟨bm,ob,b1,b2,MO,mz,I.bk _ _ b3,b4,b5,b6⟩
 refine PySem.W.kla_eval xH ?_
 cases hf:codeAmong pos ps.toList with
 |some cv=>
  obtain⟨c',rfl,br⟩:=hC pos cv hf
  refine PySem.W.kla_makeFunctionHit gz I.ok.glob ud L.code (L.hd.keeps I.bk) oP hT hf BA fun mM h' tk hk bY=> ?_
  have nf:H h'.objs.size=none:=I.ai.fresh bY
  have s1:af H (upd H h'.objs.size (oa h'.objs.size (X.env.qual++ "<lambda>") params body scope (eu scope X.env) ((X.mg "__name__").getD .none) c' mM)):=fun b o hb=>by rw[Zf (Zg hb nf)];exact hb
  refine⟨.ref h'.objs.size,_,I.laid (t':=tk) (a:=h'.objs.size) (fun b u e=>Heap.get?_push_of_some _ (hk b u e)) bY (Ea (Heap.get?_push_size _ rfl)),rfl,?_⟩
  exact q _ _ (fun b o hb _=>s1 b o hb) nf ⟨ps,s1 _ _ hP,hT,fun p2 yu z=>by obtain⟨c2,e2,h2⟩:=hC p2 yu z;exact⟨c2,e2,s1 _ _ h2⟩⟩ ⟨_,c',mM,Zc,s1 _ _ br⟩
 |none=>
  refine PySem.W.kla_makeFunction gz I.ok.glob ud L.code (L.hd.keeps I.bk) oP hT hf Mq BA fun c' mM h' tk hx bB ay tE qf=> ?_
  have Ko:∀b o,s.heap.get? b=some o→b<c':=fun b o e=>Nat.lt_of_lt_of_le (Heap.lt_size e) bB
  have Vv:∀b o,H b=some o→b<c':=fun b o e=>Nat.lt_of_lt_of_le (I.ai.lt e) bB
  have nc:H c'=none:=I.ai.fresh bB
  have nf:H h'.objs.size=none:=I.ai.fresh (Nat.le_trans bB (Nat.le_of_lt ay))
  have HC:P≠c':=Zg hP nc
  have Az:P≠h'.objs.size:=Zg hP nf
  have cnf:c'≠h'.objs.size:=Nat.ne_of_lt ay
  generalize tR:h'.objs.size=f at nf Az cnf
  generalize wZ:ps++ #[rawInt pos.line,rawInt pos.col,Value.ref c']=lC at qf
  generalize xn:oa f (X.env.qual++ "<lambda>") params body scope (eu scope X.env) ((X.mg "__name__").getD .none) c' mM=lo
  have keep:∀b o,b≠P→s.heap.get? b=some o→(h'.push (PySem.W.kla_obj "<lambda>" (X.env.qual++ "<lambda>") params body scope (eu scope X.env) ((X.mg "__name__").getD .none) c' mM)).get? b=some o:=fun b o hb e=>Heap.get?_push_of_some _ (hx b o hb e)
  have da:∀b o,H b=some o→b≠P→upd (upd (upd H P (.bH lC)) c' (hJ c' (X.env.qual++ "<lambda>"))) f lo b=some o:=fun b o hb bZ=>by
   rw[Zf (Zg hb nf),Zf (Zg hb nc),Zf bZ]
   exact hb
  have yA:upd (upd (upd H P (.bH lC)) c' (hJ c' (X.env.qual++ "<lambda>"))) f lo P=some (.bH lC):=by rw[Zf Az,Zf HC,Zc]
  have atC:upd (upd (upd H P (.bH lC)) c' (hJ c' (X.env.qual++ "<lambda>"))) f lo c'=some (hJ c' (X.env.qual++ "<lambda>")):=by rw[Zf cnf,Zc]
  have Di:upd (upd (upd H P (.bH lC)) c' (hJ c' (X.env.qual++ "<lambda>"))) f lo f=some lo:=Zc
  have J:Inv X pins σ (upd (upd (upd H P (.bH lC)) c' (hJ c' (X.env.qual++ "<lambda>"))) f lo) {s with heap:=h'.push (PySem.W.kla_obj "<lambda>" (X.env.qual++ "<lambda>") params body scope (eu scope X.env) ((X.mg "__name__").getD .none) c' mM),toks:=tk} :=by
   refine I.un (t':=tk) ⟨fun b o e n _ _=>keep b o (fun z=>by rw[z,hP]at n;cases n) e,fun b o e n _ _=> ⟨o.slots,keep b o (fun z=>by rw[z,hP]at n;cases n) e⟩,fun b o e n _=> ?_,fun b o e _=> ?_,fun b xs e=>da b _ e (fun z=>by rw[z,hP]at e;cases e),fun b o u e=>da b _ e (fun z=>by rw[z,hP]at e;cases e),fun b qs e=> ?_⟩ ?_
   ·have hl:=Ko b o e
    rw[Zf (by rw[←tR];exact Nat.ne_of_lt (Nat.lt_trans hl ay)),Zf (Nat.ne_of_lt hl),Zf (fun z=>by rw[z,hP]at n;cases n)]
    exact n
   ·by_cases hb:b=P
    ·rw[hb];exact⟨_,Heap.get?_push_of_some _ qf⟩
    ·exact⟨o,keep b o hb e⟩
   ·by_cases hb:b=P
    ·rw[hb,hP]at e
     cases e
     exact⟨_,by rw[hb,yA,wZ]⟩
    ·exact⟨#[],by rw[da b _ e hb];simp⟩
   ·intro b o hb
    by_cases h1:b=f
    ·rw[h1,Di]at hb
     cases hb
     rw[h1,←xn]
     refine Ea ?_
     rw[←tR]
     exact Heap.get?_push_size _ rfl
    ·by_cases h2:b=c'
     ·rw[h2,atC]at hb
      cases hb
      rw[h2]
      exact P2 (Jz tE fun o e=>Heap.get?_push_of_some _ e)
     ·by_cases h3:b=P
      ·rw[h3,yA]at hb
       cases hb
       rw[h3]
       exact Heap.get?_push_of_some _ qf
      ·have dw:H b=some o:=by rw[Zf h1,Zf h2,Zf h3]at hb;exact hb
       refine(I.ai b o dw).bI (fun z u hz e=>keep z u ?_ e) (fun z e=> ?_) fun z xs e=> ?_
       ·rcases hz with hz |hz
        ·rw[hz];exact h3
        ·intro aE;rw[aE,hP]at hz;cases hz
       ·exact da z _ e fun aE=>by rw[aE,hP]at e;cases e
       ·exact da z _ e fun aE=>by rw[aE,hP]at e;cases e
  refine⟨.ref f,_,J,rfl,?_⟩
  refine q f _ (fun b o hb bZ=>da b o hb bZ) nf ⟨lC,yA,?_,fun p2 yu z=> ?_⟩ ⟨_,c',mM,by rw[Di,←xn],atC⟩
  ·rw[←wZ,Array.toList_append]
   exact Jh _ hT
  ·rw[←wZ,Array.toList_append]at z
   rcases WJ _ hT z with z |z
   ·obtain⟨c2,e2,h2⟩:=hC p2 yu z
    exact⟨c2,e2,da _ _ h2 fun aE=>by rw[aE,hP]at h2;cases h2⟩
   ·exact⟨c',z,atC⟩
theorem AF {X:Cx}{E:XK}(K4:∀e s',wpAny (model X.prog X.w) X.A (leaving X.env e) (fun _ fh=>bE X.prog X.w X.outer X.j4 X.cj E e fh) (fun e' fh=>bE X.prog X.w X.outer X.j4 X.cj E e' fh) s'→X.xe e s')
  (jP:X.stack=X.env::X.outer) (fI:X.env.frame=some X.env.locals) (hex:X.ex=[]):Passes (bE X.prog X.w) X E:=by
 intro pins σ H1 s1 ev s2 I h
 obtain⟨e,C,H',rfl,F,hE⟩:=h
 obtain⟨B,a0,fl,cf,fZ⟩:=F.yd
 have un:=F.un
 rw[jP]at fl cf un
 have ib:Un (aX X.outer) [] X.j4 H1 X.cj.heap s1.heap:=by have:=I.base;rw[hex]at this;exact this
 have yc:X.A.frames=some (X.env::X.outer):=by rw[←jP];exact I.ok.frames
 refine K4 _ _ (wpAny_leaves_onW (L:=X.env.locals) yc fI fl fun h' mG up=> ?_)
 refine⟨e,C,H',rfl,⟨F.os.trans I.os,F.bare,J7 (base:=X.base) (L:=X.env.locals) ib un fI I.ok.above I.ok.dZ I.ok.g9 cf fl.1 mG.1 up,YY F.ai fZ fl.1 mG.1,B,a0,mG,fun b o hb hn=> ?_,fZ⟩,hE⟩
 obtain⟨o1,e1⟩:=ib.there b o hb (by simp)
 refine cf b o1 e1 fun hm=> ?_
 have dJ:b∈(X.env::X.outer).filterMap (·.frame):=hm
 rw[List.filterMap_cons_some (f:=fun(x:Env)=>x.frame) (a:=X.env) (b:=X.env.locals) fI]at dJ
 rcases List.mem_cons.mp dJ with q |q
 ·rw[q]at hb
  exact absurd (Nat.lt_of_lt_of_le (Heap.lt_size hb) I.ok.above) (Nat.lt_irrefl _)
 ·exact hn q
def jW (P:Program) (w:World) (K:PySem.W.Frag) (mg:Str→Option Value) (base:Heap) (N:List Str) (q:Str) (scope:Scope) (f:Addr) (cd:Value) (cl:List (Str×Addr)) (A:Around) (outer:List Env) (s:Shared) (H:Hp) (E:XK):Cx where
 prog:=P
 w:=w
 K:=K
 mg:=mg
 base:=base
 A:=A.deeper (PySem.W.envX q scope s.heap.objs.size f cd cl)
 N:=N
 cj:=s
 j4:=H
 env:=PySem.W.envX q scope s.heap.objs.size f cd cl
 outer:=outer
 stack:=PySem.W.envX q scope s.heap.objs.size f cd cl::outer
 ex:=[]
 calm:=true
 fn:=fun _=>false
 pn:=[]
 xe:=fun e s'=>wpAny (model P w) (A.deeper (PySem.W.envX q scope s.heap.objs.size f cd cl)) (leaving (PySem.W.envX q scope s.heap.objs.size f cd cl) e) (fun _ fh=>bE P w outer H s E e fh) (fun e' fh=>bE P w outer H s E e' fh) s'
structure VT (base:Heap) (scope:Scope) (cl:List (Str×Addr)) (x y:Str) (vx vy:V):Prop where
 kx:scope.names.lookup x=some .free
 ky:scope.names.lookup y=some .free
 only:∀z,scope.names.lookup z=some .cell∨scope.names.lookup z=some .free→z=x∨z=y
 ne:x≠y
 cx:∃c u,cl.lookup x=some c∧base.IsCell c (some u)∧RelV vx u
 cy:∃c u,cl.lookup y=some c∧base.IsCell c (some u)∧RelV vy u
 mem:∀z c,cl.lookup z=some c→z=x∨z=y
 inj:∀c,cl.lookup x=some c→cl.lookup y=some c→False
theorem Jx {h b1 b2:Heap} :∀{l:List Env},h.FunFrames b1 l→(∀b∈aX l,b2.get? b=none)→h.FunFrames b2 l
 | [],_,_=>trivial
 |env::r,⟨hk,⟨L,o,hf,_,ho,hd⟩,hr⟩,hn=> ⟨hk,⟨L,o,hf,hn L (List.mem_filterMap.mpr ⟨env,.head _,hf⟩),ho,hd⟩,Jx hr fun b hb=>hn b (by
  obtain⟨e,he,q⟩:=List.mem_filterMap.mp hb
  exact List.mem_filterMap.mpr ⟨e,.tail _ he,q⟩)⟩
theorem Inv.rebase {X:Cx}{pins:List (Addr×Obj)}{σ:St}{H:Hp}{s:Shared}(I:Inv X pins σ H s):
  ∃dz,X.base.StaysIn dz∧qP X.prog X.w X.K X.mg dz X.A X.stack s H∧∀b o,s.heap.get? b=some o→H b=none→b∉aX X.stack→dz.get? b=some o:=by
 have cf:∀b o,s.heap.get? b=some o→H b=none→b∉aX X.stack→(PySem.W.hideAll (gX s.heap H) (aX X.stack)).get? b=some o:=fun b o e n hf=>PySem.W.hideAll_get _ (Ep e n) hf
 have st:X.base.StaysIn (PySem.W.hideAll (gX s.heap H) (aX X.stack)):=fun b o e=>cf b o (I.bs b o e).1 (I.bs b o e).2 fun hm=>by
  have:=(I.stack.mem hm).1
  rw[e]at this
  cases this
 refine⟨_,st,⟨I.ok.frames,⟨I.mod.lL.keeps st,I.mod.glob.keeps st,?_,I.mod.nolimit.keeps st⟩,fun b o e=>Eh (PySem.W.of_hideAll _ e),?_,Jx I.stack fun b hb=>PySem.W.hideAll_none _ hb,I.pe,I.ai,I.bare⟩,cf⟩
 ·obtain⟨mb,h1,h2⟩:=I.mod.blt
  exact⟨mb,h1.keeps st,h2⟩
 ·rw[PySem.W.hideAll_size,Uc]
  exact Nat.le_refl _
def OE:Const→Option V
 | .int n=>some (.int n)
 | .bool b=>some (.bl b)
 | .str x=>some (.str x)
 | .none=>some .ae
 |_=>none
def pE:Expr→Option V
 | .Constant c _ _=>OE c
 | .UnaryOp .USub (.Constant (.int n) _ _) _=>some (.int (-n))
 | .BinOp (.Constant (.int a) _ _) .Pow (.Constant (.int b) _ _) _=>if 0≤b∧b≤1000000∧a.natAbs<2^64 then some (.int (a^b.toNat)) else none
 |_=>none
def pC:List Expr→Option (List V)
 | []=>some []
 |e::r=>match pE e,pC r with
  |some v,some vs=>some (v::vs)
  |_,_=>none
inductive Lit where
 |sc (v:V)
 |tup (xs:List V)
 |lst (xs:List V)
 |jr
def jy (H:Hp) (v:V):Lit→Prop
 | .sc u=>v=u
 | .tup xs=> ∃a:Addr,v=.ref a∧H a=some (.tup xs)
 | .lst xs=> ∃a:Addr,v=.ref a∧H a=some (.lst xs)
 | .jr=> ∃a:Addr,v=.ref a∧H a=some (.dK [])
theorem jy.same {H H':Hp}{v:V} :∀{l:Lit},jy H v l→af H H'→jy H' v l
 | .sc _,h,_=>h
 | .tup _,⟨a,e,h⟩,s=> ⟨a,e,s _ _ h⟩
 | .lst _,⟨a,e,h⟩,s=> ⟨a,e,s _ _ h⟩
 | .jr,⟨a,e,h⟩,s=> ⟨a,e,s _ _ h⟩
def litOf:Expr→Option Lit
 | .Tuple es _ _=>match pC es with
  |some xs=>if xs.length≤1000 then some (.tup xs) else none
  |none=>none
 | .List es _=>match pC es with
  |some xs=>if xs.length≤1000 then some (.lst xs) else none
  |none=>none
 | .Dict [] [] _=>some .jr
 |e=> (pE e).map .sc
def litsOf:List Expr→Option (List Lit)
 | []=>some []
 |e::r=>match litOf e,litsOf r with
  |some v,some vs=>some (v::vs)
  |_,_=>none
section
variable {X:Cx}
theorem Dn {e:Expr}{v:V}(h:pE e=some v):PE X e (tC v)∧(∀es,starEach (e::es) X.env=(false,eval e X.env)::starEach es X.env)∧∀a:Addr,v≠.ref a:=by
 unfold pE at h
 split at h
 ·rename_i c j p
  cases c with
  |int n=>cases h;exact⟨Zh,fun _=>rfl,fun a z=>by cases z⟩
  |bool b=>cases h;exact⟨W3,fun _=>rfl,fun a z=>by cases z⟩
  |str x=>cases h;exact⟨Yt,fun _=>rfl,fun a z=>by cases z⟩
  |none=>cases h;exact⟨Yv,fun _=>rfl,fun a z=>by cases z⟩
  |_=>cases h
 ·cases h
  refine⟨fun pins s σ H Q I q=>Dp DE Zh pins s σ H Q I ⟨_,rfl,q⟩,fun _=>rfl,fun a z=>by cases z⟩
 ·split at h
  ·rename_i hc
   cases h
   refine⟨fun pins s σ H Q I q=>Zr yN Zh Zh pins s σ H Q I ⟨_,_,rfl,rfl,hc,q⟩,fun _=>rfl,fun a z=>by cases z⟩
  ·cases h
 ·cases h
theorem Wk:∀{es:List Expr}{vs:List V},pC es=some vs→PA X es (fun _ H Q=>Q vs H)
 | [],vs,h=>by cases h;exact Zb
 |e::r,vs,h=>by
  unfold pC at h
  split at h
  ·rename_i v ws h1 h2
   cases h
   obtain⟨p1,p2,_⟩:=Dn (X:=X) h1
   exact fun pos pins s σ H Q I q=>Za p1 (Wk h2) (p2 r) pos pins s σ H Q I q
  ·cases h
theorem OZ {e:Expr}{l:Lit}(h:litOf e=some l):PE X e (fun _ H Q=> ∀v H',af H H'→jy H' v l→(∀a:Addr,v=.ref a→H a=none)→Q v H')∧∀es,starEach (e::es) X.env=(false,eval e X.env)::starEach es X.env:=by
 unfold litOf at h
 split at h
 ·split at h
  ·rename_i xs hx
   split at h
   ·rename_i hl
    cases h
    refine⟨fun pins s σ H Q I q=>Zs (Wk hx) pins s σ H Q I ⟨Nat.le_of_lt (zV hl),fun p hp=>q _ _ (fun b o hb=>by rw[Zf (Zg hb hp)];exact hb) ⟨p,rfl,Zc⟩ fun a z=>by cases z;exact hp⟩,fun _=>rfl⟩
   ·cases h
  ·cases h
 ·split at h
  ·rename_i xs hx
   split at h
   ·rename_i hl
    cases h
    refine⟨fun pins s σ H Q I q=>ZF (Wk hx) pins s σ H Q I ⟨Nat.le_of_lt (zV hl),fun p hp=>q _ _ (fun b o hb=>by rw[Zf (Zg hb hp)];exact hb) ⟨p,rfl,Zc⟩ fun a z=>by cases z;exact hp⟩,fun _=>rfl⟩
   ·cases h
  ·cases h
 ·cases h
  exact⟨fun pins s σ H Q I q=>U3 pins s σ H Q I fun p hp=>q _ _ (fun b o hb=>by rw[Zf (Zg hb hp)];exact hb) ⟨p,rfl,Zc⟩ fun a z=>by cases z;exact hp,fun _=>rfl⟩
 ·rename_i x0 h1 h2 h3
  cases hs:pE e with
  |none=>rw[hs]at h;cases h
  |some v=>
   rw[hs]at h
   cases h
   obtain⟨p1,p2,p3⟩:=Dn (X:=X) hs
   exact⟨fun pins s σ H Q I q=>p1 pins s σ H Q I (q v H (af.refl H) rfl fun a z=>absurd z (p3 a)),p2⟩
theorem EH:∀{es:List Expr}{ls:List Lit},litsOf es=some ls→PA X es (fun _ H Q=> ∀vs H',af H H'→Paired (jy H') vs ls→(∀a,V.ref a∈vs→H a=none)→Q vs H')
 | [],ls,h=>by cases h;exact fun pos pins s σ H Q I q=>Zb pos pins s σ H Q I (q [] H (af.refl H) .nil fun a z=>nomatch z)
 |e::r,ls,h=>by
  unfold litsOf at h
  split at h
  ·rename_i v ws h1 h2
   cases h
   obtain⟨p1,p2⟩:=OZ (X:=X) h1
   exact fun pos pins s σ H Q I q=>Za p1 (EH h2) (p2 r) pos pins s σ H Q I fun v1 H1 s1 l1 n1 vs H2 s2 pr n2=>q (v1::vs) H2 (s1.trans s2) (.cons (l1.same s2) pr) fun a z=>by
    rcases List.mem_cons.mp z with z |z
    ·exact n1 a z.symm
    ·exact s1.free (n2 a z)
  ·cases h
end
theorem WW (n l1 l2:Nat) (h1:l1<n) (h2:l2<n):ZipApart (n+4) (n+2) (n+3) n (n+1) l1 l2:=by
 constructor<;>intro z<;>refine absurd (show @Eq Nat _ _ from z) ?_<;>omega
end L2
namespace L2
open PySem PySem.Spec PyProof.Rows SeqAt
theorem Y3 {α β:Type}{F:α→β→Prop} :∀{kj:List α}{ki:List β}{i:Nat}{x:α},Paired F kj ki→kj[i]? =some x→∃y,ki[i]? =some y∧F x y
 |_,_,_,_,.nil,h=>by simp at h
 |_,_,0,_,.cons r _,h=>by simp at h;subst h;exact⟨_,rfl,r⟩
 |_,_,i+1,_,.cons _ t,h=>by
  obtain⟨y,e,q⟩:=Y3 t (i:=i) (by simpa using h)
  exact⟨y,by simpa using e,q⟩
section
variable {X:Cx}
theorem UO {a b:String} :eE X (.builtin "isinstance") (fun xs H Q=> ∃(x:V) (t:Addr) (T:Value) (r:Bool),xs=[x,.ref t]∧ah X.K H t [.ty a,.ty b]∧((∃i,x=.int i∧T=.type "int")∨∃l ys,x=.ref l∧H l=some (.lst ys)∧T=.type "list")∧
  PySem.W.kitAny X.K T [.type a,.type b]=some r∧Q (.bl r) H):=by
 intro pins s σ H xs us Q I rv h
 obtain⟨x,t,T,r,rfl,hq,hx,hk,q⟩:=h
 obtain⟨u,v,rfl,ru,rv⟩:=vals2 rv
 cases rv
 obtain⟨its,rt,pl,hz⟩:=I.tuple hq
 cases rt with
 |cons r1 r2=>
  cases r2 with
  |cons r3 r4=>
   cases r4
   cases r1
   cases r3
   obtain⟨o,ho,hc,n,hd⟩:=id pl
   obtain⟨cls,dd,dt,sl⟩:=o
   replace hc:cls=.type "tuple" :=hc
   replace hd:dt=.seq [Value.type a,Value.type b].toArray n:=hd
   subst hc hd
   rcases hx with ⟨i,rfl,rfl⟩ |⟨l,ys,rfl,hl,rfl⟩
   ·obtain⟨tk,rfl⟩:=ru
    exact PySem.W.kia_tup PySem.W.kitx_int I.bF True.intro ho hk (fun z=>nomatch z) fun tk=> ⟨.bl r,H,I.tok _,rfl,q⟩
   ·cases ru
    obtain⟨_,_,n,_,h1⟩:=(show bC X.prog X.w H s.heap l (.lst ys) from I.ai l _ hl)
    exact PySem.W.kia_tup PySem.W.kitx_list I.bF ⟨_,h1,rfl⟩ ho hk (fun z=>nomatch z) fun tk=> ⟨.bl r,H,I.tok _,rfl,q⟩
def hG (i:Int) (n:Nat):List Int:=(List.range n).map fun(k:Nat)=>i+(k:Int)
theorem YX {ns:List Int}{us:List Value}(r:Vals (ns.map V.int) us) (j:Nat) (h:j<us.length):∃t,us[j]=.int (ns.getD j 0) t:=by
 have hl:=r.length
 rw[List.length_map]at hl
 have hj:j<ns.length:=by omega
 obtain⟨u,hu,t,ru⟩:=r.get (i:=j) (x:=.int ns[j]) (by rw[List.getElem?_map,List.getElem?_eq_getElem hj];rfl)
 rw[List.getElem?_eq_getElem h]at hu
 cases hu
 exact⟨t,by rw[ru];simp[hj]⟩
theorem Ui {x:V} :∀{xs:List V}{us:List Value},Vals xs us→xs.all fq=true→us.countP (gD x)=xs.countP fun y=>ee y x
 |_,_,.nil,_=>rfl
 |y::xs,u::us,.cons r t,f=>by
  rw[List.all_cons,Bool.and_eq_true]at f
  rw[List.countP_cons,List.countP_cons,UM r f.1,Ui t f.2]
def Hu (K:PySem.W.Frag):V→List V→Hp→VK→Prop:=fun v vs H Q=> ∃(a:Addr) (xs:List V) (x:V),v=.ref a∧vs=[x]∧ag K H a xs∧fq x=true∧xs.all fq=true∧Q (.int ((xs.countP fun y=>ee y x:Nat):Int)) H
theorem Ed {its:List Value}{h:Heap}{a:Addr}(pl:h.IsList a its.toArray):∃dd n sl,h.get? a=some {cls:=.type "list",dict:=dd,data:=.seq its.toArray n,slots:=sl} :=by
 obtain⟨o,ho,hc,n,hd⟩:=pl
 obtain⟨cls,dd,dt,sl⟩:=o
 replace hc:cls=.type "list" :=hc
 replace hd:dt=.seq its.toArray n:=hd
 subst hc hd
 exact⟨_,_,_,ho⟩
theorem Rb:uH X "list.count" (Hu X.K):=by
 intro pins s σ H v vs u us Q I rv vW h
 obtain⟨a,xs,x,rfl,rfl,hq,fx,fs,q⟩:=h
 cases rv
 obtain⟨ux,rfl,rx⟩:=vals1 vW
 obtain⟨its,r,pl,hz⟩:=I.list hq
 obtain⟨dd,n,sl,ho⟩:=Ed pl.isList
 refine call_meets F.slot_list_count ⟨_,ho,rfl⟩ F.entry_list_count (F.args_list_count_2 _ _) (list_countAt a its.toArray n dd sl ux (gD x)) ⟨ho,fun y hy=>YN rx fx r fs y (by simpa using hy),?_⟩
 exact⟨.int _,H,I.tok _,⟨_,by rw[show its.toArray.toList=its by simp,Ui r fs]⟩,q⟩
def Ht (K:PySem.W.Frag):V→List V→Hp→VK→Prop:=fun v vs H Q=> ∃(a:Addr) (xs:List V) (x:V) (j:Nat),v=.ref a∧vs=[x]∧ag K H a xs∧fq x=true∧xs.all fq=true∧(∃y,xs[j]? =some y∧ee y x=true)∧(∀m y,m<j→xs[m]? =some y→ee y x=false)∧Q (.int (j:Int)) H
theorem RI:uH X "list.index" (Ht X.K):=by
 intro pins s σ H v vs u us Q I rv vW h
 obtain⟨a,xs,x,j,rfl,rfl,hq,fx,fs,⟨y,hy,ey⟩,xk,q⟩:=h
 cases rv
 obtain⟨ux,rfl,rx⟩:=vals1 vW
 obtain⟨its,r,pl,hz⟩:=I.list hq
 obtain⟨dd,n,sl,ho⟩:=Ed pl.isList
 have hlen:=r.length
 have Dj:∀k z (hk:k<its.length),xs[k]? =some z→gD x its[k]=ee z x:=fun k z hk bg=>by
  obtain⟨w,hw,jH⟩:=r.get bg
  rw[List.getElem?_eq_getElem hk]at hw
  cases hw
  exact UM jH (List.all_eq_true.mp fs z (List.mem_of_getElem? bg))
 have hj:j<its.length:=by have:=(List.getElem?_eq_some_iff.mp hy).1;omega
 refine call_meets F.slot_list_index ⟨_,ho,rfl⟩ F.entry_list_index (F.args_list_index_2 _ _)
  (list_indexAt a its.toArray n dd sl ux (gD x) j (by simpa using hj) (by rw[sizeLine_eq]at hz;omega) (by simpa[ey] using Dj j y hj hy) (fun m hm LY=> ?_)) ⟨ho,fun y hy=>YN rx fx r fs y (by simpa using hy),?_⟩
 ·have dJ:m<its.length:=by simpa using hm
  have hx:m<xs.length:=by omega
  have e:=Dj m _ dJ (List.getElem?_eq_getElem hx)
  rw[xk m _ LY (List.getElem?_eq_getElem hx)]at e
  simpa using e
 ·exact⟨.int (j:Int),H,I.tok _,⟨_,rfl⟩,q⟩
end
end L2
namespace L2
open PySem PySem.Spec PyProof.Rows
structure One (base:Heap) (scope:Scope) (cl:List (Str×Addr)) (x:Str) (vx:V):Prop where
 kx:scope.names.lookup x=some .free
 only:∀z,scope.names.lookup z=some .cell∨scope.names.lookup z=some .free→z=x
 cx:∃c u,cl.lookup x=some c∧base.IsCell c (some u)∧RelV vx u
 mem:∀z c,cl.lookup z=some c→z=x
structure Src (prog:Program) (w:World) (i l:Addr) (n:Nat) (f:Nat→Value) (S:Nat→Heap→Prop):Prop where
 here:∀k h,S k h→∃o,h.get? i=some o
 bI:∀k h h',S k h→(∀c,c=i∨c=l→∀o,h.get? c=some o→h'.get? c=some o)→S k h'
 item:∀(A:Around) k (s:Shared) (Q:Value→Shared→Prop) (E:Value→Shared→Prop),k<n→S k s.heap→(∀h',S (k+1) h'→Heap.SameBut i s.heap h'→Q (f k) {s with heap:=h'})→wpAny (model prog w) A (Builtin.SmallTypes.nextOf (.ref i)) Q E s
 stop:∀(A:Around) (s:Shared) (Q:Value→Shared→Prop) (E:Value→Shared→Prop),A.handled=none→S n s.heap→(∀h' e,Heap.ExtBut i s.heap h'→(∃o,h'.get? e=some o∧o.cls=.type "StopIteration")→E (.ref e) {s with heap:=h'})→wpAny (model prog w) A (Builtin.SmallTypes.nextOf (.ref i)) Q E s
theorem YT (prog:Program) (w:World) {i l:Addr}(its:Array Value) (bZ:l≠i):Src prog w i l its.size (fun k=>its.getD k .none) (fun k h=>IsTupIter h i l k∧IsTup h l its) where
 here:=fun k h ⟨⟨o,ho,_⟩,_⟩=> ⟨o,ho⟩
 bI:=fun k h h' ⟨⟨o,ho,r⟩,⟨u,hu,r'⟩⟩ st=> ⟨⟨o,st i (.inl rfl) o ho,r⟩,⟨u,st l (.inr rfl) u hu,r'⟩⟩
 item:=fun A k s Q E hk ⟨hi,ht⟩ q=>by
  obtain⟨oi,gi,ci,di⟩:=id hi
  obtain⟨ot,gt,ct,nt,dt⟩:=id ht
  have hx:its[k]? =some (its.getD k .none):=by simp[hk]
  unfold Builtin.SmallTypes.nextOf
  refine wpAny_bind (wpAny_callSpecial?_slot (name:=Str.ofString "__next__") hi.typeIs slot_tupleiter_next (wpAny_call_entry slot_tupleiter_next hi.typeIs entry_tupleiter_next ?_ (args_tupleiter_next _)))
  refine(show wpAny _ _ (field (.ref i) 0 >>=_) _ _ s from wpAny_bind (wpAny_field gi di (x:=.ref l) rfl ?_))
  refine(show wpAny _ _ (if (Value.ref l==Value.none)=true then _ else _) _ _ s from ?_)
  rw[if_neg (by exact Bool.false_ne_true)]
  refine(show wpAny _ _ (field (.ref i) 1 >>=_) _ _ s from wpAny_bind (wpAny_field gi di (x:=.int k 0) rfl ?_))
  refine(show wpAny _ _ (seqItems? (.ref l) >>=_) _ _ s from wpAny_bind (wpAny_seqItems gt dt ?_))
  simp only[Int.toNat_natCast,hx]
  refine wpAny_bind (wpAny_setField gi di (by simp) (wpAny_pure ⟨_,rfl,wpAny_pure (q _ ⟨⟨_,Heap.get?_update_self _ gi (Obj.isFreed_of_fields (Obj.data_mapFields di _)),(Obj.cls_mapFields ..).trans ci,?_⟩,?_⟩ (Heap.SameBut.update ..))⟩))
  ·rw[Obj.data_mapFields di];simp[rawInt]
  ·exact⟨ot,(Heap.SameBut.update ..).extBut _ _ bZ gt,ct,nt,dt⟩
 stop:=fun A s Q E hh ⟨hi,ht⟩ q=>by
  obtain⟨oi,gi,ci,di⟩:=id hi
  obtain⟨ot,gt,ct,nt,dt⟩:=id ht
  have hx:its[its.size]? =none:=by simp
  unfold Builtin.SmallTypes.nextOf
  refine wpAny_bind (wpAny_callSpecial?_slot (name:=Str.ofString "__next__") hi.typeIs slot_tupleiter_next (wpAny_call_entry slot_tupleiter_next hi.typeIs entry_tupleiter_next ?_ (args_tupleiter_next _)))
  refine(show wpAny _ _ (field (.ref i) 0 >>=_) _ _ s from wpAny_bind (wpAny_field gi di (x:=.ref l) rfl ?_))
  refine(show wpAny _ _ (if (Value.ref l==Value.none)=true then _ else _) _ _ s from ?_)
  rw[if_neg (by exact Bool.false_ne_true)]
  refine(show wpAny _ _ (field (.ref i) 1 >>=_) _ _ s from wpAny_bind (wpAny_field gi di (x:=.int its.size 0) rfl ?_))
  refine(show wpAny _ _ (seqItems? (.ref l) >>=_) _ _ s from wpAny_bind (wpAny_seqItems gt dt ?_))
  simp only[Int.toNat_natCast,hx]
  refine wpAny_bind (wpAny_rule (wpAny_bind (wpAny_setField gi di (by simp) ?_)))
  refine(show wpAny _ _ (newExc (.type "StopIteration") [] >>=_) _ _ _ from wpAny_bind ?_)
  simp only[newExc,newTuple]
  refine wpAny_bind (wpAny_newObj_type ?_ (by size_fits))
  refine wpAny_bind (m:=firstArgMember _ _) (wpAny_of_eq (a:=Value.none) (by first |rfl |(simp only[firstArgMember];rfl)) ?_)
  refine wpAny_newObj_type ?_ (by size_fits)
  simp only[raiseNew]
  refine wpAny_bind (wpAny_handled ?_)
  first |rw[show A.in1.handled=none from hh] |rw[hh]
  refine wpAny_bind (wpAny_pure (wpAny_throw ?_))
  exact q _ _ (((Heap.SameBut.update ..).extBut.push _).push _) ⟨_,Heap.get?_push_size _ rfl,rfl⟩
section
variable {prog:Program}{w:World}{A:Around}{E:Value→Shared→Prop}{s:Shared}{z TI TO i1 i2 l1 l2:Addr}{n k:Nat}{f g:Nat→Value}{S1 S2:Nat→Heap→Prop}
theorem P0 {a b:Value}{Q:Value→Shared→Prop}(U1:Src prog w i1 l1 n f S1) (U2:Src prog w i2 l2 n g S2) (D:ZipApart z TI TO i1 i2 l1 l2) (hk:k<n) (hz:IsZip s.heap z TI TO .none) (hI:IsPair s.heap TI (.ref i1) (.ref i2)) (hO:IsPair s.heap TO a b) (h1:S1 k s.heap) (h2:S2 k s.heap)
    (q:∀h',IsZip h' z TI TO (rawInt s.heap.objs.size)→IsPair h' TO (f k) (g k)→S1 (k+1) h'→S2 (k+1) h'→IsPair h' s.heap.objs.size (f k) (g k)→h'.objs.size=s.heap.objs.size+1→
      (∀c o,c≠z→c≠TO→c≠i1→c≠i2→s.heap.get? c=some o→h'.get? c=some o)→Q (.ref s.heap.objs.size) {s with heap:=h'}):
    wpAny (model prog w) A (Builtin.«zip.__next__» ⟨[.ref z],[]⟩) (fun fin s'=> ∃v,fin=.done (.ret v)∧Q v s') E s:=by
  refine(show wpAny _ _ (field (.ref z) 2 >>=_) _ _ _ from wpAny_bind (wpAny_field hz rfl (x:=.bool false) rfl ?_))
  refine(show wpAny _ _ (field (.ref z) 3 >>=_) _ _ _ from wpAny_bind (wpAny_field hz rfl (x:=.ref TI) rfl (wpAny_bind (wpAny_seqItems hI rfl ?_))))
  refine(show wpAny _ _ (Builtin.SmallTypes.ownedTupleIsFree (.ref z) >>=_) _ _ _ from wpAny_bind ?_)
  unfold Builtin.SmallTypes.ownedTupleIsFree
  refine wpAny_bind (wpAny_field hz rfl (x:=.none) rfl (wpAny_pure ?_))
  simp only[if_true]
  refine wpAny_bind (wpAny_rule (wpAny_bind (wpAny_field hz rfl (x:=.ref TO) rfl (wpAny_bind (wpAny_setField_rec hz (by simp) fun m1 kW e1=> ?_)))))
  replace kW:IsZip m1 z TI TO .ellipsis:=kW
  have b1:=e1.extBut
  refine wpAny_bind ?_
  simp only[List.zipIdx_cons,List.zipIdx_nil,List.forIn_cons,List.forIn_nil]
  refine wpAny_bind (wpAny_bind (wpAny_onRaise ?_))
  have av:S1 k m1:=U1.bI _ _ _ h1 fun c hc o ho=>by rcases hc with rfl |rfl<;>first |exact b1 _ _ D.i1z ho |exact b1 _ _ D.l1z ho
  refine(show wpAny _ _ (Builtin.SmallTypes.nextOf (.ref i1) >>=_) _ _ _ from wpAny_bind (U1.item _ k _ _ _ hk av fun m2 ak e2=>wpAny_pure ?_))
  have b2:=e2.extBut
  have o2:IsPair m2 TO a b:=b2 _ _ D.TOi1 (b1 _ _ D.TOz hO)
  refine wpAny_bind (wpAny_seqItems o2 rfl (wpAny_bind (wpAny_updateSeq_pair o2 fun m3 o3 e3=> ?_)))
  replace o3:IsPair m3 TO (f k) b:=o3
  have b3:=e3.extBut
  refine wpAny_bind (wpAny_letGo (wpAny_pure (wpAny_bind (wpAny_bind (wpAny_onRaise ?_)))))
  have w3:S2 k m3:=U2.bI _ _ _ h2 fun c hc o ho=>by
    rcases hc with rfl |rfl
    · exact b3 _ _ D.TOi2.symm (b2 _ _ D.i12.symm (b1 _ _ D.i2z ho))
    · exact b3 _ _ D.l2TO (b2 _ _ D.l2i1 (b1 _ _ D.l2z ho))
  refine(show wpAny _ _ (Builtin.SmallTypes.nextOf (.ref i2) >>=_) _ _ _ from wpAny_bind (U2.item _ k _ _ _ hk w3 fun m4 w4 e4=>wpAny_pure ?_))
  have b4:=e4.extBut
  have o4:IsPair m4 TO (f k) b:=b4 _ _ D.TOi2 o3
  refine wpAny_bind (wpAny_seqItems o4 rfl (wpAny_bind (wpAny_updateSeq_pair o4 fun m5 o5 e5=> ?_)))
  replace o5:IsPair m5 TO (f k) (g k):=o5
  have b5:=e5.extBut
  refine wpAny_bind (wpAny_letGo (wpAny_pure (wpAny_pure (wpAny_bind (wpAny_seqItems o5 rfl (wpAny_bind (wpAny_newTuple ?_)))))))
  have sz:m5.objs.size=s.heap.objs.size:=by rw[e5.1,e4.1,e3.1,e2.1,e1.1]
  have z5:IsZip m5 z TI TO .ellipsis:=b5 _ _ D.TOz.symm (b4 _ _ D.i2z.symm (b3 _ _ D.TOz.symm (b2 _ _ D.i1z.symm kW)))
  have kp:∀c o,c≠z→c≠TO→c≠i1→c≠i2→s.heap.get? c=some o→m5.get? c=some o:=fun c o c1 c2 c3 c4 e=>b5 _ _ c2 (b4 _ _ c4 (b3 _ _ c2 (b2 _ _ c3 (b1 _ _ c1 e))))
  have cM:S1 (k+1) m5:=U1.bI _ _ _ ak fun c hc o ho=>by
    rcases hc with rfl |rfl
    · exact b5 _ _ D.TOi1.symm (b4 _ _ D.i12 (b3 _ _ D.TOi1.symm ho))
    · exact b5 _ _ D.l1TO (b4 _ _ D.l1i2 (b3 _ _ D.l1TO ho))
  have w5:S2 (k+1) m5:=U2.bI _ _ _ w4 fun c hc o ho=>by rcases hc with rfl |rfl<;>first |exact b5 _ _ D.TOi2.symm ho |exact b5 _ _ D.l2TO ho
  have zm:z<m5.objs.size:=Heap.lt_size z5
  refine(show wpAny _ _ (Builtin.SmallTypes.ownedTupleHandOut (.ref z) (.ref m5.objs.size) >>=_) _ _ _ from wpAny_bind ?_)
  unfold Builtin.SmallTypes.ownedTupleHandOut
  have z6:IsZip (m5.push {cls:=.type "tuple",data:=.seq #[f k,g k]}) z TI TO .ellipsis:=Heap.get?_push_of_some _ z5
  refine wpAny_bind (wpAny_setField_rec z6 (by simp) fun m7 z7 e7=> ?_)
  replace z7:IsZip m7 z TI TO (rawInt m5.objs.size):=z7
  refine wpAny_setField_rec z7 (by simp) fun m8 z8 e8=> ?_
  replace z8:IsZip m8 z TI TO (rawInt m5.objs.size):=z8
  have up:∀c o,c≠z→m5.get? c=some o→m8.get? c=some o:=fun c o c1 e=>e8.extBut _ _ c1 (e7.extBut _ _ c1 (Heap.get?_push_of_some _ e))
  have t8:IsPair m8 m5.objs.size (f k) (g k):=e8.extBut _ _ (Nat.ne_of_gt zm) (e7.extBut _ _ (Nat.ne_of_gt zm) (Heap.get?_push_size _ rfl))
  have s8:m8.objs.size=m5.objs.size+1:=by rw[e8.1,e7.1,Heap.size_push]
  rw[sz]at z8 t8 s8
  refine wpAny_pure ⟨_,rfl,?_⟩
  show Q (.ref m5.objs.size) _
  rw[sz]
  refine q m8 z8 (up _ _ D.TOz o5) (U1.bI _ _ _ cM fun c hc o ho=> ?_) (U2.bI _ _ _ w5 fun c hc o ho=> ?_) t8 s8 fun c o c1 c2 c3 c4 e=>up c o c1 (kp c o c1 c2 c3 c4 e)
  · rcases hc with rfl |rfl<;>first |exact up _ _ D.i1z ho |exact up _ _ D.l1z ho
  · rcases hc with rfl |rfl<;>first |exact up _ _ D.i2z ho |exact up _ _ D.l2z ho
theorem Pa {a b:Value}{Q:PySem.Fin→Shared→Prop}(hh:A.handled=none) (U1:Src prog w i1 l1 n f S1) (D:ZipApart z TI TO i1 i2 l1 l2) (hz:IsZip s.heap z TI TO .none) (hI:IsPair s.heap TI (.ref i1) (.ref i2)) (hO:IsPair s.heap TO a b) (h1:S1 n s.heap)
  (q:∀h' e,(∀c o,c≠z→c≠TO→c≠i1→c≠i2→s.heap.get? c=some o→h'.get? c=some o)→(∃o,h'.get? e=some o∧o.cls=.type "StopIteration")→E (.ref e) {s with heap:=h'}):
  wpAny (model prog w) A (Builtin.«zip.__next__» ⟨[.ref z],[]⟩) Q E s:=by
 refine(show wpAny _ _ (field (.ref z) 2 >>=_) _ _ _ from wpAny_bind (wpAny_field hz rfl (x:=.bool false) rfl ?_))
 refine(show wpAny _ _ (field (.ref z) 3 >>=_) _ _ _ from wpAny_bind (wpAny_field hz rfl (x:=.ref TI) rfl (wpAny_bind (wpAny_seqItems hI rfl ?_))))
 refine(show wpAny _ _ (Builtin.SmallTypes.ownedTupleIsFree (.ref z) >>=_) _ _ _ from wpAny_bind ?_)
 unfold Builtin.SmallTypes.ownedTupleIsFree
 refine wpAny_bind (wpAny_field hz rfl (x:=.none) rfl (wpAny_pure ?_))
 simp only[if_true]
 refine wpAny_bind (wpAny_rule (wpAny_bind (wpAny_field hz rfl (x:=.ref TO) rfl (wpAny_bind (wpAny_setField_rec hz (by simp) fun m1 kW e1=> ?_)))))
 replace kW:IsZip m1 z TI TO .ellipsis:=kW
 have b1:=e1.extBut
 refine wpAny_bind ?_
 simp only[List.zipIdx_cons,List.zipIdx_nil,List.forIn_cons,List.forIn_nil]
 refine wpAny_bind (wpAny_bind (wpAny_onRaise ?_))
 have av:S1 n m1:=U1.bI _ _ _ h1 fun c hc o ho=>by rcases hc with rfl |rfl<;>first |exact b1 _ _ D.i1z ho |exact b1 _ _ D.l1z ho
 refine(show wpAny _ _ (Builtin.SmallTypes.nextOf (.ref i1) >>=_) _ _ _ from wpAny_bind (U1.stop _ _ _ _ hh av fun m2 e e2 he=> ?_))
 obtain⟨oe,ge,ce⟩:=he
 have z2:IsZip m2 z TI TO .ellipsis:=e2 _ _ D.i1z.symm kW
 have IJ:e≠z:=fun y=>by subst y;rw[z2]at ge;cases ge;simp at ce
 refine wpAny_setField_rec z2 (by simp) fun m3 _ e3=>q m3 e (fun c o c1 _ c3 _ x=>e3.extBut _ _ c1 (e2 _ _ c3 (b1 _ _ c1 x))) ⟨oe,e3.extBut _ _ IJ ge,ce⟩
end
section
variable {prog:Program}{w:World}{A:Around}{z TI TO i1 i2 l1 l2:Addr}{n:Nat}{f g:Nat→Value}{S1 S2:Nat→Heap→Prop}
theorem UT (hh:A.handled=none) (U1:Src prog w i1 l1 n f S1) (U2:Src prog w i2 l2 n g S2) (D:ZipApart z TI TO i1 i2 l1 l2):
  WalksT prog w A z [z,TI,TO,i1,i2,l1,l2] [z,TO,i1,i2] n (fun k vals=>vals= #[f k,g k])
   (fun k h=>IsZip h z TI TO .none∧IsPair h TI (.ref i1) (.ref i2)∧(∃a b,IsPair h TO a b)∧S1 k h∧S2 k h)
   (fun k T h=>IsZip h z TI TO (rawInt T)∧IsPair h TI (.ref i1) (.ref i2)∧(∃a b,IsPair h TO a b)∧S1 (k+1) h∧S2 (k+1) h∧T∉[z,TO,i1,i2]) where
 sub:=fun c hc=>by
  simp only[List.mem_cons,List.not_mem_nil,or_false]at hc ⊢
  rcases hc with rfl |rfl |rfl |rfl<;>simp
 frame:=fun k h h' ⟨a1,a2,⟨a,b,a3⟩,a4,a5⟩ kp=> ⟨kp z (by simp) _ a1,kp TI (by simp) _ a2,⟨a,b,kp TO (by simp) _ a3⟩,U1.bI _ _ _ a4 fun c hc o=>kp c (by rcases hc with rfl |rfl<;>simp) o,U2.bI _ _ _ a5 fun c hc o=>kp c (by rcases hc with rfl |rfl<;>simp) o⟩
 item:=fun k s Q E hk ⟨a1,a2,⟨a,b,a3⟩,a4,a5⟩ q=>by
  have ty:s.TypeIs (.ref z) "zip" :=⟨_,a1,rfl⟩
  have ne:∀{c o},s.heap.get? c=some o→s.heap.objs.size≠c:=fun e=>Nat.ne_of_gt (Heap.lt_size e)
  obtain⟨o1,g1⟩:=U1.here _ _ a4
  obtain⟨o2,g2⟩:=U2.here _ _ a5
  unfold pyNext
  refine wpAny_bind (wpAny_attempt (wpAny_callSpecial?_slot (name:=Str.ofString "__next__") ty F.slot_zip_next (wpAny_call_entry F.slot_zip_next ty F.entry_zip_next (P0 U1 U2 D hk a1 a2 a3 a4 a5 fun h' c1 c2 c3 c4 c5 c6 c7=>wpAny_pure ?_) (F.args_zip_next_1 _))))
  refine q s.heap.objs.size #[f k,g k] h' s.toks rfl (Nat.le_refl _) ⟨_,c5,rfl,_,rfl⟩ ⟨c1,c7 _ _ D.TIz D.TITO D.TIi1 D.TIi2 a2,⟨_,_,c2⟩,c3,c4,fun m=> ?_⟩ fun c o hc e=>c7 c o (fun x=>hc (by simp[x])) (fun x=>hc (by simp[x])) (fun x=>hc (by simp[x])) (fun x=>hc (by simp[x])) e
  simp only[List.mem_cons,List.not_mem_nil,or_false]at m
  rcases m with m |m |m |m
  ·exact ne a1 m
  ·exact ne a3 m
  ·exact ne g1 m
  ·exact ne g2 m
 go:=fun elts kk pos k T s Q E ⟨a1,a2,⟨a,b,a3⟩,a4,a5,_⟩ q=>wpAny_letOwnedTupleGo_zip a1 fun h' z' s'=>by
  have ex:=s'.extBut
  refine q h' ⟨z',ex _ _ D.TIz a2,⟨a,b,ex _ _ D.TOz a3⟩,U1.bI _ _ _ a4 fun c hc o ho=> ?_,U2.bI _ _ _ a5 fun c hc o ho=> ?_⟩ fun c o hc e=>ex _ _ (fun x=>hc (by simp[x])) e
  ·rcases hc with rfl |rfl<;>first |exact ex _ _ D.i1z ho |exact ex _ _ D.l1z ho
  ·rcases hc with rfl |rfl<;>first |exact ex _ _ D.i2z ho |exact ex _ _ D.l2z ho
 apart:=fun k T h ⟨_,_,_,_,_,t⟩=>t
 done:=fun s Q E ⟨a1,a2,⟨a,b,a3⟩,a4,a5⟩ q=>by
  have ty:s.TypeIs (.ref z) "zip" :=⟨_,a1,rfl⟩
  unfold pyNext
  refine wpAny_bind (wpAny_attempt (wpAny_callSpecial?_slot (name:=Str.ofString "__next__") ty F.slot_zip_next (wpAny_call_entry F.slot_zip_next ty F.entry_zip_next (Pa hh U1 D a1 a2 a3 a4 fun h' e kp he=> ?_) (F.args_zip_next_1 _))))
  obtain⟨o,ho,hc⟩:=he
  refine wpAny_bind (wpAny_isInstance (T:= "StopIteration") (b:=true) ⟨o,ho,hc⟩ isSubtype_stop (wpAny_pure (q _ s.toks fun c o hc e=> ?_)))
  exact kp c o (fun x=>hc (by simp[x])) (fun x=>hc (by simp[x])) (fun x=>hc (by simp[x])) (fun x=>hc (by simp[x])) e
 self:=fun k s Q E st q=>wpAny_pyIter_zip st.1 q
end
abbrev qY (h:Heap) (l1:Addr):Heap:=h.push {cls:=.type "tuple_iterator",data:=.fields #[.ref l1,.int 0 0]}
abbrev qX (h:Heap) (l1 l2:Addr):Heap:=(qY h l1).push {cls:=.type "tuple_iterator",data:=.fields #[.ref l2,.int 0 0]}
abbrev qW (h:Heap) (l1 l2:Addr):Heap:=(qX h l1 l2).push {cls:=.type "tuple",data:=.seq #[.ref h.objs.size,.ref (qY h l1).objs.size]}
abbrev qV (h:Heap) (l1 l2:Addr):Heap:=(qW h l1 l2).push {cls:=.type "tuple",data:=.seq #[.none,.none]}
abbrev nq (h:Heap) (l1 l2:Addr):Heap:=(qV h l1 l2).push {cls:=.type "zip",data:=.fields #[.none,.bool false,.bool false,.ref (qX h l1 l2).objs.size,.ref (qW h l1 l2).objs.size]}
theorem SQ {h:Heap}{l:Addr}{xs:Array Value}(t:IsTup h l xs) (o:Obj):IsTup (h.push o) l xs:=let ⟨u,hu,r⟩:=t;⟨u,Heap.get?_push_of_some _ hu,r⟩
theorem Pb (l1 l2:Addr) (xs ys:Array Value):Meets (Builtin.«zip.__new__» ⟨[.type "zip",.ref l1,.ref l2],[]⟩) (fun _ R s=>IsTup s.heap l1 xs∧IsTup s.heap l2 ys∧R (.ok (.ret (.ref (qV s.heap l1 l2).objs.size))) {s with heap:=nq s.heap l1 l2}):=
 .of_wp fun prog w A R s h=>by
  obtain⟨hp,gg,d,tk,os⟩:=s
  obtain⟨t1,t2,h⟩:=h
  have kA:=sub_zip
  have T1:IsTup (Shared.heap ⟨hp,gg,d,tk,os⟩) l1 xs:=t1
  have T2:IsTup (Shared.heap ⟨hp.push {cls:=.type "tuple_iterator",data:=.fields #[.ref l1,.int 0 0]},gg,d,tk,os⟩) l2 ys:=SQ t2 _
  wp_walk using iter_tuple T1,iter_tuple T2
  exact⟨_,rfl,h⟩
theorem QG {prog:Program}{w:World}{A:Around}{E:Value→Shared→Prop}{s:Shared}{l1 l2:Addr}{xs ys:Array Value}{Q:Value→Shared→Prop}(t1:IsTup s.heap l1 xs) (t2:IsTup s.heap l2 ys)
    (q:∀h',IsZip h' (s.heap.objs.size+4) (s.heap.objs.size+2) (s.heap.objs.size+3) .none→IsPair h' (s.heap.objs.size+2) (.ref s.heap.objs.size) (.ref (s.heap.objs.size+1))→IsPair h' (s.heap.objs.size+3) .none .none→
      IsTupIter h' s.heap.objs.size l1 0→IsTupIter h' (s.heap.objs.size+1) l2 0→(∀c o,s.heap.get? c=some o→h'.get? c=some o)→Q (.ref (s.heap.objs.size+4)) {s with heap:=h'}):
    wpAny (model prog w) A (call (.type "zip") [.ref l1,.ref l2]) Q E s:=by
  refine callType_new F.called_zip (by decide) (F.typeCall_zip_2 _ _) (F.newCall_zip_2 _ _) (fun obj=>F.args_object_init_3 obj _ _) F.entry_zip_new (Pb l1 l2 xs ys) ⟨t1,t2,?_⟩
  have y1:(qY s.heap l1).objs.size=s.heap.objs.size+1:=Heap.size_push ..
  have y2:(qX s.heap l1 l2).objs.size=s.heap.objs.size+2:=by rw[Heap.size_push,y1]
  have y3:(qW s.heap l1 l2).objs.size=s.heap.objs.size+3:=by rw[Heap.size_push,y2]
  have y4:(qV s.heap l1 l2).objs.size=s.heap.objs.size+4:=by rw[Heap.size_push,y3]
  have p:∀{h:Heap}{c:Addr}{o u:Obj},h.get? c=some o→(h.push u).get? c=some o:=fun e=>Heap.get?_push_of_some _ e
  have x5:(nq s.heap l1 l2).get? (qV s.heap l1 l2).objs.size=some _:=Heap.get?_push_size _ rfl
  have x4:(nq s.heap l1 l2).get? (qW s.heap l1 l2).objs.size=some _:=p (Heap.get?_push_size _ rfl)
  have x3:(nq s.heap l1 l2).get? (qX s.heap l1 l2).objs.size=some _:=p (p (Heap.get?_push_size _ rfl))
  have x2:(nq s.heap l1 l2).get? (qY s.heap l1).objs.size=some _:=p (p (p (Heap.get?_push_size _ rfl)))
  have x1:(nq s.heap l1 l2).get? s.heap.objs.size=some _:=p (p (p (p (Heap.get?_push_size _ rfl))))
  show _∧_
  rw[y2,y3,y4]at x5
  rw[y1,y2]at x3
  rw[y3]at x4
  rw[y1]at x2
  rw[y4]
  exact⟨⟨_,x5,rfl⟩,q _ x5 x3 x4 ⟨_,x1,rfl,rfl⟩ ⟨_,x2,rfl,rfl⟩ fun c o x=>p (p (p (p (p x))))⟩
def yW (K:PySem.W.Frag) (l1 l2:Addr):It:=
 ⟨fun i H=> ∃xs ys x y,ah K H l1 xs∧ah K H l2 ys∧xs.length=ys.length∧xs[i]? =some x∧ys[i]? =some y,
  fun i H v H'=> ∃(T:Addr) (x y:V),v=.ref T∧H T=none∧H'=upd H T (.par [x,y])∧∀xs ys,ah K H l1 xs→ah K H l2 ys→xs[i]? =some x∧ys[i]? =some y,
  fun i H=> ∃xs ys,ah K H l1 xs∧ah K H l2 ys∧xs.length=i∧ys.length=i⟩
theorem RA {P:Program}{w:World}{K:PySem.W.Frag}{elts:List Expr}{kk:Nat}{pos:Pos}(z TI TO i1 i2 l1 l2:Addr) (D:ZipApart z TI TO i1 i2 l1 l2):
  Turn P w K (.Tuple elts kk pos) (yW K l1 l2) [z,TI,TO,i1,i2] z (fun i h=>IsZip h z TI TO .none∧IsPair h TI (.ref i1) (.ref i2)∧(∃a b,IsPair h TO a b)∧IsTupIter h i1 l1 i∧IsTupIter h i2 l2 i) where
 mem:=by simp
 obj:=fun i h st b hb=>by
  obtain⟨a1,a2,⟨u,v,a3⟩,⟨o4,h4,_,d4⟩,⟨o5,h5,_,d5⟩⟩:=st
  simp only[List.mem_cons,List.not_mem_nil,or_false]at hb
  rcases hb with rfl |rfl |rfl |rfl |rfl
  ·exact⟨_,a1,fun v z=>by cases z⟩
  ·exact⟨_,a2,fun v z=>by cases z⟩
  ·exact⟨_,a3,fun v z=>by cases z⟩
  ·exact⟨_,h4,fun v z=>by rw[d4]at z;cases z⟩
  ·exact⟨_,h5,fun v z=>by rw[d5]at z;cases z⟩
 keep:=fun i h h' st k=>by
  obtain⟨a1,a2,⟨u,v,a3⟩,a4,a5⟩:=st
  exact⟨k z (by simp) _ a1,k TI (by simp) _ a2,⟨u,v,k TO (by simp) _ a3⟩,(let ⟨o,ho,r⟩:=a4;⟨o,k i1 (by simp) o ho,r⟩),let ⟨o,ho,r⟩:=a5;⟨o,k i2 (by simp) o ho,r⟩⟩
 item:=by
  intro X hP hw hK hc i pins s σ H E I hf st hg
  subst hP hw hK
  obtain⟨xs,ys,x,y,fF,bO,ow,hx,hy⟩:=hg
  obtain⟨eR,i9,dP,bN⟩:=I.tuple fF
  obtain⟨fE,fv,dc,aE⟩:=I.tuple bO
  obtain⟨u,hu,ru⟩:=i9.get hx
  obtain⟨v,hv,rv⟩:=fv.get hy
  have wW:fE.toArray.size=eR.toArray.size:=by
   have e1:=i9.length
   have e2:=fv.length
   simp only[List.size_toArray]
   omega
  have mn:i<eR.toArray.size:=by
   have e1:=(List.getElem?_eq_some_iff.mp hu).1
   simp only[List.size_toArray]
   omega
  have U2:=YT X.prog X.w fE.toArray D.l2i2
  rw[wW]at U2
  have W:=UT (A:=X.A) (I.ok.hd hc) (YT X.prog X.w eR.toArray D.l1i1) U2 D
  obtain⟨a1,a2,a3,a4,a5⟩:=st
  refine W.item i s _ _ mn ⟨a1,a2,a3,⟨a4,dP⟩,⟨a5,dc⟩⟩ fun T vals h' tk hP fo mC iN hk=> ⟨_,rfl,W.go elts kk pos i T _ _ _ iN fun cH dk eV=> ?_⟩
  have jO:eR.toArray.getD i .none=u:=by simp[List.getD_eq_getElem?_getD,hu]
  have aY:fE.toArray.getD i .none=v:=by simp[List.getD_eq_getElem?_getD,hv]
  rw[jO,aY]at hP
  subst hP
  have iU:H T=none:=I.ai.fresh fo
  have both:∀b o,b∉[z,TO,i1,i2]→s.heap.get? b=some o→cH.get? b=some o:=fun b o hb q=>eV b o hb (hk b o hb q)
  have sub:∀b,b∉[z,TI,TO,i1,i2]→b∉[z,TO,i1,i2]:=fun b hb hm=>hb (by
   simp only[List.mem_cons,List.not_mem_nil,or_false]at hm ⊢
   rcases hm with h |h |h |h
   ·exact .inl h
   ·exact .inr (.inr (.inl h))
   ·exact .inr (.inr (.inr (.inl h)))
   ·exact .inr (.inr (.inr (.inr h))))
  have jT:T∉[z,TO,i1,i2]:=W.apart _ _ _ iN
  have mD:cH.IsTuple T #[u,v]:=mC.at fun o q=>eV T o jT q
  have neT:∀b o,s.heap.get? b=some o→b≠T:=fun b o q=>Nat.ne_of_lt (Nat.lt_of_lt_of_le (Heap.lt_size q) fo)
  have cN:∀b o,H b=some o→b≠T:=fun b o q=>Zg q iU
  have bX:∀b o,H b=some o→b∉[z,TI,TO,i1,i2]:=fun b o q hm=>by
   have:=(hf b hm).1
   rw[this]at q;cases q
  refine⟨.ref T,upd H T (.par [x,y]),?_,rfl,⟨T,x,y,rfl,iU,rfl,fun as bs ha hb=>by rw[I.rb ha fF,I.rb hb bO];exact⟨hx,hy⟩⟩,⟨dk.1,dk.2.1,dk.2.2.1,dk.2.2.2.1.1,dk.2.2.2.2.1⟩,fun b hb=> ?_⟩
  ·refine(show Inv X pins σ (upd H T (.par [x,y])) {s with heap:=cH,toks:=tk} from ?_)
   refine I.call (g':=s.gens) (d':=s.drawn) (t':=tk) (h':=cH) (ch:=[z,TI,TO,i1,i2]) ⟨fun b o q _ _ hx=>both b o (sub b hx) q,fun b o q _ _ hx=> ⟨o.slots,both b o (sub b hx) q⟩,fun b o q n hx=>by rw[Zf (neT b o q)];exact n,fun b o q hx=> ⟨o,both b o (sub b hx) q⟩,
    fun b ys q=>by rw[Zf (cN b _ q)];exact q,fun b o u q=>by rw[Zf (cN b _ q)];exact q,fun b ps q=> ⟨#[],by rw[Zf (cN b _ q),q];simp⟩⟩ (fun b o q=> ?_) I.bare fun b hb=> ?_
   ·by_cases hb:b=T
    ·subst hb
     rw[Zc]at q
     cases q
     exact⟨by show 2≤sizeLine;decide,[u,v],.cons ru (.cons rv .nil),mD⟩
    ·rw[Zf hb]at q
     refine(I.ai b o q).bI (fun c ob br q'=>both c ob ?_ q') (fun c q'=>by rw[Zf (cN c _ q')];exact q') fun c ys q'=>by rw[Zf (cN c _ q')];exact q'
     rcases br with z' |z'
     ·rw[z'];exact sub _ (bX b o q)
     ·exact sub _ (bX c _ z')
   ·obtain⟨f0,f1,f2,f3,f4,f5⟩:=hf b hb
    exact⟨f3,f1,f4,f5⟩
  ·have bZ:b≠T:=by
    obtain⟨f0,_⟩:=hf b hb
    have:∃o,s.heap.get? b=some o:=by
     obtain⟨u',v',yF⟩:=a3
     obtain⟨o4,h4,_⟩:=a4
     obtain⟨o5,h5,_⟩:=a5
     simp only[List.mem_cons,List.not_mem_nil,or_false]at hb
     rcases hb with rfl |rfl |rfl |rfl |rfl
     ·exact⟨_,a1⟩
     ·exact⟨_,a2⟩
     ·exact⟨_,yF⟩
     ·exact⟨_,h4⟩
     ·exact⟨_,h5⟩
    obtain⟨o,ho⟩:=this
    exact neT b o ho
   rw[Zf bZ]
   exact(hf b hb).1
 done:=by
  intro X hP hw hK hc i pins s σ H E I hf st hg
  subst hP hw hK
  obtain⟨xs,ys,fF,bO,hx,hy⟩:=hg
  obtain⟨eR,i9,dP,bN⟩:=I.tuple fF
  obtain⟨fE,fv,dc,aE⟩:=I.tuple bO
  have e1:=i9.length
  have e2:=fv.length
  have wW:fE.toArray.size=eR.toArray.size:=by simp only[List.size_toArray];omega
  have U2:=YT X.prog X.w fE.toArray D.l2i2
  rw[wW]at U2
  have W:=UT (A:=X.A) (I.ok.hd hc) (YT X.prog X.w eR.toArray D.l1i1) U2 D
  have hn:i=eR.toArray.size:=by simp only[List.size_toArray];omega
  obtain⟨a1,a2,a3,a4,a5⟩:=st
  rw[hn]at a4 a5
  have sub:∀b,b∉[z,TI,TO,i1,i2]→b∉[z,TO,i1,i2]:=fun b hb hm=>hb (by
   simp only[List.mem_cons,List.not_mem_nil,or_false]at hm ⊢
   rcases hm with h |h |h |h
   ·exact .inl h
   ·exact .inr (.inr (.inl h))
   ·exact .inr (.inr (.inr (.inl h)))
   ·exact .inr (.inr (.inr (.inr h))))
  refine W.done s _ _ ⟨a1,a2,a3,⟨a4,dP⟩,⟨a5,dc⟩⟩ fun h' tk hk=> ⟨rfl,?_⟩
  have bX:∀b o,H b=some o→b∉[z,TI,TO,i1,i2]:=fun b o q hm=>by
   have:=(hf b hm).1
   rw[this]at q;cases q
  refine I.call (g':=s.gens) (d':=s.drawn) (t':=tk) (h':=h') (ch:=[z,TI,TO,i1,i2]) ⟨fun b o q _ _ hx=>hk b o (sub b hx) q,fun b o q _ _ hx=> ⟨o.slots,hk b o (sub b hx) q⟩,fun b o q n hx=>n,fun b o q hx=> ⟨o,hk b o (sub b hx) q⟩,fun b ys q=>q,fun b o u q=>q,fun b ps q=> ⟨#[],by rw[q];simp⟩⟩ (fun b o q=> ?_) I.bare fun b hb=> ?_
  ·refine(I.ai b o q).bI (fun c ob br q'=>hk c ob ?_ q') (fun _ q'=>q') fun _ _ q'=>q'
   rcases br with z' |z'
   ·rw[z'];exact sub _ (bX b o q)
   ·exact sub _ (bX c _ z')
  ·obtain⟨f0,f1,f2,f3,f4,f5⟩:=hf b hb
   exact⟨f3,f1,f4,f5⟩
 self:=fun A i s Q E st h=>wpAny_pyIter_zip st.1 h
section
variable {X:Cx}{elts:List Expr}{kk:Nat}{tp:Pos}
def KW (K:PySem.W.Frag) (ta:TA):TI:=fun σ H R=>ta σ H fun vs H1=> ∃l1 l2,vs=[.ref l1,.ref l2]∧(∃xs ys,ah K H1 l1 xs∧ah K H1 l2 ys)∧R (yW K l1 l2) H1
theorem Qx {a b:Expr}{ta:TA}{p pos:Pos}(hg:Gl X "zip") (hm:X.mg "zip" =none) (ha:PA X [a,b] ta) (hs:starEach [a,b] X.env=[(false,eval a X.env),(false,eval b X.env)]:=by rfl) (kB:starEach [b] X.env=[(false,eval b X.env)]:=by rfl):
  PI X (.Tuple elts kk tp) (.Call (.Name "zip" p) [a,b] [] pos) (KW X.K ta):=by
 intro pins s σ H R I h
 refine Call_ (Ym I hg hm PyProof.Rows.Boot.«zip» (PyProof.Rows.callWith_type1 (au (ha pos pins s σ H _ I h) fun us s1 ⟨vs,H1,I1,r1,q1⟩=> ?_) (by rw[hs,kB]) (by rw[kB];rfl)))
 obtain⟨l1,l2,e,⟨xs,ys,fF,bO⟩,q⟩:=q1
 subst e
 obtain⟨u,v,rfl,ru,rv⟩:=vals2 r1
 cases ru
 cases rv
 obtain⟨eR,i9,dP,bN⟩:=I1.tuple fF
 obtain⟨fE,fv,dc,aE⟩:=I1.tuple bO
 have t1:l1<s1.heap.objs.size:=by obtain⟨o,ho,_⟩:=id dP;exact Heap.lt_size ho
 have t2:l2<s1.heap.objs.size:=by obtain⟨o,ho,_⟩:=id dc;exact Heap.lt_size ho
 have D:=WW s1.heap.objs.size l1 l2 t1 t2
 refine QG dP dc fun h' b1 b2 b3 b4 b5 hk=>wpAny_pyIter_zip b1 ?_
 have I2:Inv X pins σ H1 {s1 with heap:=h'} :=I1.kept (t':=s1.toks) hk
 refine⟨s1.heap.objs.size+4,[s1.heap.objs.size+4,s1.heap.objs.size+2,s1.heap.objs.size+3,s1.heap.objs.size,s1.heap.objs.size+1],_,_,H1,rfl,I2,
  RA _ _ _ _ _ l1 l2 D,⟨b1,b2,⟨_,_,b3⟩,b4,b5⟩,fun b hb=> ?_,q⟩
 have iS:s1.heap.objs.size≤b:=by
  simp only[List.mem_cons,List.not_mem_nil,or_false]at hb
  rcases hb with z |z |z |z |z<;>rw[z]<;>first |exact Nat.le_refl _ |exact Nat.le_add_right _ _
 exact I1.kI iS (I1.ai.fresh iS)
end
theorem RK {K:PySem.W.Frag}{l1 l2:Addr}{xs zs:List V}{g:TG}{tt:TT}{ti:TC}{ys:List V}{σ:St}{H:Hp}{Q:List V→St→Hp→Prop}(hlen:xs.length=zs.length) (Pv:Nat→List V→St→Hp→Prop) (h0:Pv 0 ys σ H)
  (hl:∀i ys σ H,i≤xs.length→Pv i ys σ H→ah K H l1 xs∧ah K H l2 zs)
  (hs:∀i x y T ys σ H,xs[i]? =some x→zs[i]? =some y→H T=none→Pv i ys σ H→g (.ref T) σ (upd H T (.par [x,y])) fun aR H2=>tt aR H2 fun b H3=>if b=true then ti ys aR H3 (Pv (i+1)) else Pv (i+1) ys aR H3)
  (hd:∀ys σ H,Pv xs.length ys σ H→Q ys σ H):iw g tt ti (yW K l1 l2) ys σ H Q:=by
 refine⟨fun i m ys σ H=>m=xs.length - i∧i≤xs.length∧Pv i ys σ H,⟨xs.length,by simp,Nat.zero_le _,h0⟩,?_⟩
 rintro i m ys σ H ⟨rfl,hi,p⟩
 obtain⟨q1,q2⟩:=hl i ys σ H hi p
 by_cases ay:i<xs.length
 ·refine .inr ⟨⟨xs,zs,xs[i],zs[i]'(by omega),q1,q2,hlen,by simp[ay],by simp[hlen▸ay]⟩,Pv (i+1),fun cq aj H' p'=> ⟨xs.length - (i+1),by omega,rfl,ay,p'⟩,fun x H' y=> ?_⟩
  obtain⟨T,a,b,e1,e2,e3,e4⟩:=y
  subst e1 e3
  obtain⟨f1,f2⟩:=e4 xs zs q1 q2
  exact hs i a b T ys σ H f1 f2 e2 p
 ·have e:i=xs.length:=by omega
  subst e
  exact .inl ⟨⟨xs,zs,q1,q2,rfl,hlen.symm⟩,hd ys σ H p⟩
end L2
namespace L2
open PySem PySem.Spec PyProof.Rows SeqAt
section
variable {X:Cx}
theorem Y6 {a b:String} :eE X (.builtin "isinstance") (fun xs H Q=> ∃(x:V) (t:Addr) (T:Value) (r:Bool),xs=[x,.ref t]∧ah X.K H t [.ty a,.ty b]∧((∃i,x=.int i∧T=.type "int")∨(x=.ae∧T=.type "NoneType")∨(∃l ys,x=.ref l∧H l=some (.lst ys)∧T=.type "list")∨∃l ys,x=.ref l∧H l=some (.tup ys)∧T=.type "tuple")∧
  PySem.W.kitAny X.K T [.type a,.type b]=some r∧Q (.bl r) H):=by
 intro pins s σ H xs us Q I rv h
 obtain⟨x,t,T,r,rfl,hq,hx,hk,q⟩:=h
 obtain⟨u,v,rfl,ru,rv⟩:=vals2 rv
 cases rv
 obtain⟨its,rt,pl,hz⟩:=I.tuple hq
 cases rt with
 |cons r1 r2=>
  cases r2 with
  |cons r3 r4=>
   cases r4
   cases r1
   cases r3
   obtain⟨o,ho,hc,n,hd⟩:=id pl
   obtain⟨cls,dd,dt,sl⟩:=o
   replace hc:cls=.type "tuple" :=hc
   replace hd:dt=.seq [Value.type a,Value.type b].toArray n:=hd
   subst hc hd
   rcases hx with ⟨i,rfl,rfl⟩ |⟨rfl,rfl⟩ |⟨l,ys,rfl,hl,rfl⟩ |⟨l,ys,rfl,hl,rfl⟩
   ·obtain⟨tk,rfl⟩:=ru
    exact PySem.W.kia_tup PySem.W.kitx_int I.bF True.intro ho hk (fun z=>nomatch z) fun tk=> ⟨.bl r,H,I.tok _,rfl,q⟩
   ·cases ru
    exact PySem.W.kia_tup PySem.W.kitx_none I.bF True.intro ho hk (fun z=>nomatch z) fun tk=> ⟨.bl r,H,I.tok _,rfl,q⟩
   ·cases ru
    obtain⟨_,_,n,_,h1⟩:=(show bC X.prog X.w H s.heap l (.lst ys) from I.ai l _ hl)
    exact PySem.W.kia_tup PySem.W.kitx_list I.bF ⟨_,h1,rfl⟩ ho hk (fun z=>nomatch z) fun tk=> ⟨.bl r,H,I.tok _,rfl,q⟩
   ·cases ru
    obtain⟨_,_,_,p,_⟩:=(show bC X.prog X.w H s.heap l (.tup ys) from I.ai l _ hl)
    obtain⟨o,h1,h2,_⟩:=p
    exact PySem.W.kia_tup PySem.W.kitx_tuple I.bF ⟨o,h1,h2⟩ ho hk (fun z=>nomatch z) fun tk=> ⟨.bl r,H,I.tok _,rfl,q⟩
theorem Qs (hu:X.A.units<cLine):bf X (compareOp .Eq) (fun x y H Q=> ∃(a b:Addr) (ns ms:List Int),x=.ref a∧y=.ref b∧ah X.K H a (ns.map V.int)∧ah X.K H b (ms.map V.int)∧Q (.bl (decide (ns=ms))) H):=by
 intro pins s σ H x y u v Q I rx ry h
 obtain⟨a,b,ns,ms,rfl,rfl,ha,hb,q⟩:=h
 cases rx
 cases ry
 obtain⟨us,r1,p1,_⟩:=I.tuple ha
 obtain⟨vs,r2,p2,_⟩:=I.tuple hb
 have l1:=r1.length
 have l2:=r2.length
 rw[List.length_map]at l1 l2
 refine eq_tupleAt (e:=fun j=>ns.getD j 0==ms.getD j 0) p1 p2 hu (fun j h1 h2=> ?_) ?_
 ·obtain⟨t1,e1⟩:=YX r1 j (by simpa using h1)
  obtain⟨t2,e2⟩:=YX r2 j (by simpa using h2)
  rw[show us.toArray[j]=us[j]'(by simpa using h1) by simp,show vs.toArray[j]=vs[j]'(by simpa using h2) by simp,e1,e2]
  exact SeqAt.EqAt.int_int _ _ _ _
 ·have e:((List.range (min us.toArray.size vs.toArray.size)).all (fun j=>ns.getD j 0==ms.getD j 0)&&us.toArray.size==vs.toArray.size)=decide (ns=ms):=by
   rw[Bool.eq_iff_iff,Bool.and_eq_true,List.all_eq_true,decide_eq_true_eq,beq_iff_eq,List.size_toArray,List.size_toArray]
   constructor
   ·rintro⟨h,hl⟩
    refine List.ext_getElem (by omega) fun i h1 h2=> ?_
    have:=h i (by rw[List.mem_range];omega)
    simpa[h1,h2] using this
   ·rintro rfl
    exact⟨fun j _=>by simp,by omega⟩
  rw[e]
  exact⟨.bl _,H,I,rfl,q⟩
end
structure Cells (base:Heap) (scope:Scope) (cl:List (Str×Addr)) (N:List Str) (vs:List V):Prop where
 len:vs.length=N.length
 only:∀z,scope.names.lookup z=some .cell∨scope.names.lookup z=some .free→z∈N
 at_:∀(i:Nat) x v,N[i]? =some x→vs[i]? =some v→scope.names.lookup x=some .free∧∃c u,cl.lookup x=some c∧base.IsCell c (some u)∧RelV v u
 mem:∀z c,cl.lookup z=some c→z∈N
 inj:∀x y c,cl.lookup x=some c→cl.lookup y=some c→x=y
theorem QL {P:Program}{w:World}{K:PySem.W.Frag}{mg:Str→Option Value}{base:Heap}{f:Addr}{q:Str}{params:Arguments}{body:Expr}{scope:Scope}{cl:List (Str×Addr)}{pm:Value}{c:Addr}{ct:Value}{k:Nat}{N:List Str}{ws:List V}{sp:Sp}
    (T:Cells base scope cl N ws) (hk:scope.kind=.function) (MJ:scope.isCoroutine=false) (Mo:scope.isGenerator=false) (kH:∀z∈scope.names,z.2≠.cell)
    (dI:∀vs H Q E,sp vs H Q E→vs=[]∧H f=some (oa f q params body scope cl pm c ct)∧H c=some (hJ c q))
    (hb:∀(A:Around) (outer:List Env) (s:Shared) (H:Hp) (Q:VK) (E:XK),cg k (A.deeper (PySem.W.envX q scope s.heap.objs.size f (.ref c) cl))→sp [] H Q E→
      ∃t,PE (jW P w K mg base N q scope f (.ref c) cl A outer s H E) body t∧t (ws.map some) H Q):
    az P w K mg base (bE P w) (k+1) f (PySem.W.kla_fn "<lambda>" q params body scope cl pm (.ref c) ct) [] sp:=by
  refine⟨fun vs H Q E h=>by rw[(dI vs H Q E h).1];rfl,fun A outer s H args us vs Q E hr e0 xO rv h=> ?_⟩
  obtain⟨rfl,hf,hc⟩:=dI _ _ _ _ h
  have of:s.heap.get? f=some (PySem.W.kla_obj "<lambda>" q params body scope cl pm c ct):=(e0.ai f _ hf).1
  have oc:s.heap.CodeRec (.ref c) q:=(e0.ai c _ hc).1
  have lim:s.heap.NoLimit:=e0.mod.nolimit.keeps fun b o e=> (e0.bs b o e).1
  refine PySem.W.kla_callFunE hr.depth of rfl MJ Mo rfl oc (xO _ _ _ _ ?_)
  refine wpAny_newFunctionEnv kH (fun z hz=>by cases rv;exact absurd hz (by simp)) (fun h1 qk Ls=> ?_) hk
  have k1:∀b o,s.heap.get? b=some o→h1.get? b=some o:=fun b o e=>Ls.extBut b o (Nat.ne_of_lt (Heap.lt_size e)) (Heap.get?_push_of_some _ e)
  refine⟨lim.keeps k1,?_⟩
  show codeAny _ A (.expr body (PySem.W.envX q scope s.heap.objs.size f (.ref c) cl)) _ _
  obtain⟨t,ht,hq⟩:=hb A outer s H Q E (hr.deeper _) h
  have yv:∀{a:Addr}{v:Option Value},base.IsCell a v→h1.IsCell a v∧H a=none:=fun {a v} ⟨o,ho,hd⟩=> ⟨⟨o,k1 _ _ (e0.bs _ _ ho).1,hd⟩,(e0.bs _ _ ho).2⟩
  have Dh:∀z,z∈N→∃c u,cl.lookup z=some c∧base.IsCell c (some u):=fun z hz=>by
    obtain⟨i,hi,e⟩:=List.getElem_of_mem hz
    have aT:i<ws.length:=by rw[T.len];exact hi
    obtain⟨_,c,u,h1,h2,_⟩:=T.at_ i z ws[i] (by rw[←e];exact List.getElem?_eq_getElem hi) (List.getElem?_eq_getElem aT)
    exact⟨c,u,h1,h2⟩
  have cells:∀z a,cl.lookup z=some a→∃v,base.IsCell a v:=fun z a hz=>by
    obtain⟨c,u,h1,h2⟩:=Dh z (T.mem z a hz)
    rw[hz]at h1;cases h1;exact⟨_,h2⟩
  have I:Inv (jW P w K mg base N q scope f (.ref c) cl A outer s H E) [] (ws.map some) H {s with heap:=h1,toks:=s.toks+(([]:List Str).zip us).length} :=by
    refine⟨⟨e0.mod,hk,rfl,rfl,Nat.le_refl _,fun a b cc h2 h3=> ?_,fun a ha=> ?_,fun a cc hn=>Bool.noConfusion hn,fun _=>hr.hd,Around.frames_deeper e0.frames,.inr ⟨rfl,rfl⟩,fun b z=>absurd (show b∈([]:List Addr) from z) (by simp),e0.bs,e0.js,fun b _ _ z=>absurd (show b∈([]:List Addr) from z) (by simp),fun b z=>absurd (show b∈([]:List Addr) from z) (by simp),e0.dZ,e0.g9⟩,
      rfl,e0.bare,Un.kept k1,⟨_,qk,fun i z v h2 h3 h4=> ?_⟩,fun z a hz=> ?_,e0.ai.fresh (Nat.le_refl _),fun z a hz=> ?_,fun p hp=>absurd (show p∈([]:List (Addr×Obj)) from hp) (by simp),e0.ai.kept k1,(by rw[List.length_map];exact T.len)⟩
    · have h2:cl.lookup a=some cc:=h2
      have h3:cl.lookup b=some cc:=h3
      exact T.inj _ _ _ h2 h3
    · obtain⟨c,_,h1,_⟩:=Dh a (T.only a ha)
      exact⟨c,h1⟩
    · have Ct:(ws.map some)[i]? =some (some v):=h3
      rw[List.getElem?_map]at Ct
      obtain⟨v',e',Of⟩:=Option.map_eq_some_iff.mp Ct
      cases Of
      obtain⟨kx,c,u,h5,h6,h7⟩:=T.at_ i z v h2 e'
      exact⟨u,h7,.inr ⟨.inr kx,c,h5,(yv h6).1⟩⟩
    · obtain⟨v,b⟩:=cells z a hz
      exact⟨v,(yv b).1⟩
    · obtain⟨v,b⟩:=cells z a hz
      exact(yv b).2
  refine PySem.W.kla_codeExpr (wpAny_mono (ht [] _ _ H _ I hq) (fun u s' hs=> ?_) fun e s' hs=>hs)
  obtain⟨v,H',J,r,z⟩:=hs
  exact⟨v,H',J.os,J.bare,J.base,J.ai,r,z⟩
end L2
namespace L2
open PySem PySem.Spec PyProof.Rows
section
variable {prog:Program}{w:World}{A:Around}{E:Value→Shared→Prop}{s:Shared}
theorem Jw {t sl:Addr}{items:Array Value}{vl vu:Value}{lo hi:Option Int}{Q:Value→Shared→Prop}(ht:IsTup s.heap t items) (hs:s.heap.IsSliceOf sl vl vu .none) (pl:IsPart vl lo) (pu:IsPart vu hi)
  (hw:HT.aF items.size 0 lo=0∧HT.aF items.size items.size hi=items.size) (h:Q (.ref t) s):wpAny (model prog w) A (getItem (.ref t) (.ref sl)) Q E s:=by
 obtain⟨os,md,tZ,qt⟩:=id hs
 have Fx:s.TypeIs (.ref sl) "slice" :=⟨os,md,tZ⟩
 unfold getItem
 try with_reducible refine wpAny_holding ?_
 first |refine wpAny_bind (wpAny_pure ?_) |skip
 refine wpAny_bind (wpAny_sequenceKey ht.typeIs (by decide) (wpAny_bind (wpAny_callSpecial?_slot (name:=Str.ofString "__getitem__") ht.typeIs PyProof.Rows.slot_tuple_getitem (wpAny_call_entry PyProof.Rows.slot_tuple_getitem ht.typeIs entry_tuple_getitem ?_ (args_tuple_getitem _ _)))))
 refine(show wpAny _ _ (Builtin.Tuple.tupleItemsOf (.ref t) >>=_) _ _ s from wpAny_bind (tupleItemsOf_ ht (wpAny_bind (wpAny_typeOf Fx ?_))))
 rw[if_pos (by decide)]
 refine wpAny_bind (HT.zW hs pl pu ?_)
 rw[hw.1,hw.2]
 refine(show wpAny _ _ (if ((((0:Nat):Int)==0&&(1:Int)==1&&(items.size - 0)==items.size)=true) then _ else _) _ _ s from ?_)
 rw[if_pos (by simp)]
 unfold Builtin.Tuple.tupleIsExact
 refine wpAny_bind ?_
 wp_walk using wpAny_typeOf ht.typeIs
 exact⟨_,rfl,wpAny_pure h⟩
end
section
variable {X:Cx}
def vX (K:PySem.W.Frag):V→Option Int→Option Int→Hp→VK→Prop:=fun x lo hi H Q=> ∃a xs,x=.ref a∧H a=some (.tup xs)∧∀(c:Addr) H',af H H'→H' c=some (.tup (aV xs lo hi))→Q (.ref c) H'
theorem Uu:uB X (vX X.K):=by
 intro pins s σ H x v vl vu lo hi sl Q I rx hs pl pu h
 obtain⟨a,xs,rfl,ha,q⟩:=h
 have hx:ah X.K H a xs:=ah.of ha
 by_cases hw:HT.aF xs.length 0 lo=0∧HT.aF xs.length xs.length hi=xs.length
 ·cases rx
  obtain⟨its,r,ht,hz⟩:=I.tuple hx
  have hlen:its.toArray.size=xs.length:=by rw[List.size_toArray];exact r.length.symm
  refine⟨"tuple",_,PyProof.Rows.slot_tuple_getitem.lookup,ht.typeIs,?_⟩
  refine Jw ht hs pl pu (by rw[hlen];exact hw) ⟨.ref a,H,I,rfl,q a H (af.refl _) ?_⟩
  rw[ha]
  unfold aV
  rw[hw.1,hw.2,List.drop_zero,Nat.sub_zero,List.take_length]
 ·exact Y7 pins s σ H (.ref a) v vl vu lo hi sl Q I rx hs pl pu ⟨a,xs,rfl,hx,hw,fun p hp=>q p _ (fun b u hb=>by rw[Zf (Zg hb hp)];exact hb) Zc⟩
end
theorem JJ:fillsNumberSlot (.type "tuple") "mul" =pure false:=
 PySem.fillsNumberSlot_seq (id:= "tuple.__mul__") (r:=some (.builtin "tuple.__rmul__")) PySem.F.slot_tuple_mul.lookup (by decide+kernel) PySem.F.slot_tuple_rmul.lookup (by decide+kernel)
theorem Uv:seqRepeat? (.type "tuple")=pure (some (.builtin "tuple.__mul__")):=by
 unfold seqRepeat?
 rw[PySem.seqSlot_of (T:= "tuple") (name:= "__mul__") (id:= "tuple.__mul__") PySem.F.slot_tuple_mul.lookup (by decide+kernel),PySem.seqSlot_of (T:= "tuple") (name:= "__rmul__") (id:= "tuple.__rmul__") PySem.F.slot_tuple_rmul.lookup (by decide+kernel)]
 rfl
theorem Wd (a:Int) (t:Tok) (l:Addr) (items:Array Value) (n:Nat) (d:Option Addr) (sl:Array (Option Value)):
  Meets (Builtin.«int.__rmul__» ⟨[.int a t,.ref l],[]⟩) (fun _ R s=>s.heap.get? l=some {cls:=.type "tuple",dict:=d,data:=.seq items n,slots:=sl}∧R (.ok (.ret Value.notImplemented)) s):=
 .of_wp fun prog w A R s h=>by obtain⟨hp,g,d,tk,os⟩:=s;obtain⟨hl,h⟩:=h;wp_walk;exact⟨_,rfl,h⟩
theorem WP (l:Addr) (items:Array Value) (n:Nat) (d:Option Addr) (sl:Array (Option Value)) (u:Tok):
  Meets (Builtin.«tuple.__mul__» ⟨[.ref l,.int 1 u],[]⟩) (fun _ R s=>s.heap.get? l=some {cls:=.type "tuple",dict:=d,data:=.seq items n,slots:=sl}∧R (.ok (.ret (.ref l))) s):=
 .of_wp fun prog w A R s h=>by
  obtain⟨hp,g,d,tk,os⟩:=s;obtain⟨hl,h⟩:=h
  wp_walk;exact⟨_,rfl,h⟩
theorem Wo (l:Addr) (items:Array Value) (n:Nat) (d:Option Addr) (sl:Array (Option Value)) (x:Int) (u:Tok) (h0:items.isEmpty=false) (h1:(x==1)=false) (h2:1≤x) (hs:items.size*x.toNat≤1000) (hx:x≤1000) (hz:(List.foldl (fun x1 x2=>x1++x2) #[] (List.replicate x.toNat items)).size≤sizeLine):
  Meets (Builtin.«tuple.__mul__» ⟨[.ref l,.int x u],[]⟩) (fun _ R s=>s.heap.get? l=some {cls:=.type "tuple",dict:=d,data:=.seq items n,slots:=sl}∧R (.ok (.ret (Value.ref s.heap.objs.size))) {s with heap:=s.heap.push {cls:=Value.type "tuple",data:=Data.seq (List.foldl (fun x1 x2=>x1++x2) #[] (List.replicate x.toNat items))},toks:=s.toks}):=
 .of_wp fun prog w A R s h=>by
  obtain⟨hp,g,d,tk,os⟩:=s;obtain⟨hl,h⟩:=h
  have a1:decide (x< -(2^63))=false:=decide_eq_false (by omega)
  have a2:decide (x≥2^63)=false:=decide_eq_false (by omega)
  have a3:decide (x≤0)=false:=decide_eq_false (by omega)
  have hn:(items.size:Int)*x≤1000:=by
   have e:x=(x.toNat:Int):=by omega
   rw[e]
   exact_mod_cast hs
  have a4:¬((items.size:Int)*x> (2^63 - 1)/8):=by omega
  have a5:Builtin.Tuple.tupleTooMany ((items.size:Int)*x)=false:=by
   unfold Builtin.Tuple.tupleTooMany
   have e:=sizeLine_eq
   simp
   omega
  wp_walk
  rw[if_neg (by rw[a1,a2];decide)]
  have ht:IsTup hp l items:=⟨_,hl,rfl,n,rfl⟩
  refine wpAny_bind (tupleItemsOf_ ht ?_)
  dsimp only
  rw[if_neg (by rw[h0,h1];decide),if_neg (by rw[a3,h0];decide),if_neg a4,a5,if_neg Bool.false_ne_true]
  wp_walk;exact⟨_,rfl,h⟩
section
variable {X:Cx}
def Hq:R2:=fun x y H Q=> ∃a k xs,x=.ref a∧y=.int k∧H a=some (.tup xs)∧xs≠[]∧1≤k∧k≤1000∧xs.length*k.toNat≤1000∧∀(c:Addr) H',af H H'→H' c=some (.tup (List.replicate k.toNat xs).flatten)→Q (.ref c) H'
theorem EG:bf X (binaryOp .Mult) Hq:=by
  intro pins s σ H x y v u Q I rx ry h
  obtain⟨l,k,xs,rfl,rfl,hH,bZ,h1,h2,hz,q⟩:=h
  cases rx
  obtain⟨t,rfl⟩:=ry
  obtain⟨its,r,pl,_⟩:=I.tuple (ah.of hH)
  have hl:=r.length
  obtain⟨⟨cls,dd,data,sl⟩,ho,gz,n,hd⟩:=id pl
  simp only at gz hd
  subst gz hd
  have f0:∀m:Nat,List.foldl (fun x1 x2=>x1++x2) #[] (List.replicate m its.toArray)=(List.replicate m its).flatten.toArray:=fun m=>by
    have:=Ue its m []
    rw[List.nil_append]at this
    exact this
  have bY:its.toArray.size*k.toNat≤1000:=by rw[List.size_toArray,←hl];exact hz
  have h0:its.toArray.isEmpty=false:=by
    cases its with
    |nil=>
     cases xs with
     |nil=>exact absurd rfl bZ
     |cons a b=>cases hl
    |cons a b=>rfl
  refine wpAny_binaryOp_repeat_ref (T:= "tuple") (U:= "int") (by decide) ⟨_,ho,rfl⟩ (fun s'=>typeIs_int s' k t) JJ PySem.F.fills_int_mul PySem.F.slot_int_rmul Uv PySem.F.slot_int_index.lookup
    (call_meets PySem.F.slot_int_rmul (typeIs_int s k t) PySem.F.entry_int_rmul (PySem.F.args_int_rmul_2 _ _) (Wd k t l its.toArray n dd sl)
      ⟨ho,rfl,⟨_,ho,rfl⟩,?_⟩)
  by_cases hk:k=1
  · subst hk
    refine call_meets PySem.F.slot_tuple_mul ⟨_,ho,rfl⟩ PySem.F.entry_tuple_mul (PySem.F.args_tuple_mul_2 _ _) (WP l its.toArray n dd sl t) ⟨ho,⟨.ref l,H,I,rfl,q l H (af.refl _) ?_⟩⟩
    rw[hH]
    simp
  · refine call_meets PySem.F.slot_tuple_mul ⟨_,ho,rfl⟩ PySem.F.entry_tuple_mul (PySem.F.args_tuple_mul_2 _ _) (Wo l its.toArray n dd sl k t h0 (by simpa using hk) h1 bY h2 ?_) ⟨ho,?_⟩
    · rw[f0,List.size_toArray,Eb,sizeLine_eq]
      rw[List.size_toArray,Nat.mul_comm]at bY
      omega
    · rw[f0]
      refine⟨.ref s.heap.objs.size,upd H s.heap.objs.size (.tup (List.replicate k.toNat xs).flatten),?_,rfl,q _ _ (fun b o hb=>by rw[Zf (Zg hb I.fresh)];exact hb) Zc⟩
      refine I.laid (t':=s.toks) (fun b o e=>Heap.get?_push_of_some _ e) (Nat.le_refl _) ⟨by rw[Eb,sizeLine_eq,Nat.mul_comm];omega,_,r.rep k.toNat,?_⟩
      exact⟨⟨_,Heap.get?_push_size s.heap rfl,rfl,0,rfl⟩,_,Heap.get?_push_size s.heap rfl,rfl⟩
end
end L2
namespace PyProof.Rows.jt
open PySem
def Nm:Bool→Keyed→Array Keyed→Nat→Nat→Nat→StateT SortSt Sem (Option Nat):=sortPriv%PySem.Builtin.gallop
def uu (left:Bool) (key:Keyed) (arr:Array Keyed) (base:Nat) (i:Nat):StateT SortSt Sem (Option Bool):=
 elem' arr (base+i) >>=fun x=>if left=true then lt' x key else lt' key x >>=fun c=>pure (c.map fun z=> !z)
structure Ord (r:Keyed→Keyed→Bool):Prop where
 bR:∀x y,r x y=true→r y x=false
 df:∀x y z,r y x=false→r z y=false→r z x=false
theorem Ord.ko {r:Keyed→Keyed→Bool}(o:Ord r) (x:Keyed):r x x=false:=by
 cases h:r x x with
 |false=>rfl
 |true=>have:=o.bR x x h;rw[h]at this;cases this
section
variable {prog:Program}{w:World}{A:Around}{E:Value→Shared→Prop}{s:Shared}{κ:SortKind}{a₀:Array Keyed}{r:Keyed→Keyed→Bool}
def iZ (prog:Program) (w:World) (A:Around) (E:Value→Shared→Prop) (s:Shared) (κ:SortKind) (a₀:Array Keyed) (r:Keyed→Keyed→Bool):Prop:=
 ∀(x y:Keyed) (st:SortSt) (Q:Option Bool→SortSt→Prop),x∈a₀.toList→y∈a₀.toList→kindOf st=κ→Q (some (r x y)) st→wpS (model prog w) A E s (lt' x y) Q st
theorem Zk {arr:Array Keyed}{i:Nat}{x:Keyed}{Q:Keyed→SortSt→Prop}{st:SortSt}(hx:arr[i]? =some x) (h:Q x st):wpS (model prog w) A E s (elem' arr i) Q st:=by
 rw[elem'_eq,hx]
 exact wpS_pure h
def bp (r:Keyed→Keyed→Bool) (left:Bool) (key x:Keyed):Bool:=if left=true then r x key else !r key x
theorem Ss {left:Bool}{key:Keyed}{arr:Array Keyed}{base i:Nat}{x:Keyed}{Q:Option Bool→SortSt→Prop}{st:SortSt}(hc:iZ prog w A E s κ a₀ r) (hk:kindOf st=κ) (hx:arr[base+i]? =some x) (mx:x∈a₀.toList) (mk:key∈a₀.toList) (h:Q (some (bp r left key x)) st):
  wpS (model prog w) A E s (uu left key arr base i) Q st:=by
 unfold uu
 refine wpS_bind (Zk hx ?_)
 cases left with
 |true=>
  rw[if_pos rfl]
  exact hc _ _ _ _ mx mk hk h
 |false=>
  rw[if_neg Bool.false_ne_true]
  exact wpS_bind (hc _ _ _ _ mk mx hk (wpS_pure h))
theorem ZH {left:Bool}{key:Keyed}{arr:Array Keyed}{base n hint:Nat}{Q:Option Nat→SortSt→Prop}{st:SortSt}(hc:iZ prog w A E s κ a₀ r) (hk:kindOf st=κ) (p:Nat→Bool)
  (hp:∀i,i<n→∃x,arr[base+i]? =some x∧x∈a₀.toList∧p i=bp r left key x) (mk:key∈a₀.toList) (mono:∀i j,i≤j→j<n→p j=true→p i=true) (hh:hint<n)
  (h:∀k,k≤n→(∀i,i<k→p i=true)→(∀i,k≤i→i<n→p i=false)→Q (some k) st):wpS (model prog w) A E s (Nm left key arr base n hint) Q st:=by
 have jX:∀{i:Nat}{Q:Option Bool→SortSt→Prop},i<n→Q (some (p i)) st→wpS (model prog w) A E s (uu left key arr base i) Q st:=fun {i Q} hi hq=>by
  obtain⟨x,e,m,ep⟩:=hp i hi
  exact Ss hc hk e m mk (by rw[←ep];exact hq)
 have down:∀i j,i≤j→j<n→p i=false→p j=false:=fun i j cb hj hf=>by
  cases hh:p j with
  |false=>rfl
  |true=>rw[mono i j cb hj hh]at hf;cases hf
 show wpS (model prog w) A E s (uu left key arr base hint >>=_) _ _
 dsimp only
 refine wpS_bind (jX hh ?_)
 cases Bv:p hint with
 |true=>
  dsimp only
  rw[if_pos rfl]
  refine wpS_bind (wpS_forRange (I:=fun x c aa=>aa=st∧∃dF de,c=(none,dF,de)∧hint+dF<n∧p (hint+dF)=true∧dF<de∧x+1≤de) ?Gy ?NH ⟨rfl,0,1,rfl,hh,Bv,by omega,by omega⟩)
  case NH=>
   rintro c aa ⟨rfl,dF,de,rfl,q1,q2,q3,q4⟩
   rw[Nat.max_eq_right (Nat.zero_le n)]at q4
   dsimp only
   refine wpS_bind (wpS_forRange (I:=fun x c ak=>ak=aa∧∃lo hi,c=(none,lo,hi)∧lo≤hi∧hi≤n∧(∀i,i<lo→p i=true)∧(∀i,hi≤i→i<n→p i=false)∧hi - lo≤n - x) ?_ ?_ ⟨rfl,_,_,rfl,(by omega),(by omega),(fun i hi=>mono i (hint+dF) (by omega) q1 q2),(fun i h1 h2=>by omega),by omega⟩)
   ·rintro x c ak _ hx ⟨rfl,lo,hi,rfl,h1,h2,h3,h4,h5⟩
    dsimp only
    by_cases bB:lo≥hi
    ·rw[if_pos bB]
     have e:lo=hi:=by omega
     subst e
     exact wpS_pure (wpS_pure (h lo h2 h3 h4))
    ·rw[if_neg bB]
     have hm:lo+(hi - lo)/2<hi:=by omega
     generalize em:lo+(hi - lo)/2=m at hm
     have gr:lo≤m:=by omega
     refine wpS_bind (jX (by omega) ?_)
     cases eT:p m with
     |true=>exact wpS_pure ⟨rfl,m+1,hi,rfl,by omega,h2,fun i aT=>mono i m (by omega) (by omega) eT,h4,by omega⟩
     |false=>exact wpS_pure ⟨rfl,lo,m,rfl,gr,by omega,h3,fun i h1 h2=>down m i h1 h2 eT,by omega⟩
   ·rintro c ak ⟨rfl,lo,hi,rfl,h1,h2,h3,h4,h5⟩
    rw[Nat.max_eq_right (Nat.zero_le n)]at h5
    have e:lo=hi:=by omega
    subst e
    exact wpS_pure (h lo h2 h3 h4)
  case Gy=>
   rintro x c aa _ hx ⟨rfl,dF,de,rfl,q1,q2,q3,q4⟩
   dsimp only
   by_cases bB:de≥n - hint
   ·rw[if_pos bB]
    refine wpS_pure ?_
    dsimp only
    refine wpS_bind (wpS_forRange (I:=fun x c ak=>ak=aa∧∃lo hi,c=(none,lo,hi)∧lo≤hi∧hi≤n∧(∀i,i<lo→p i=true)∧(∀i,hi≤i→i<n→p i=false)∧hi - lo≤n - x) ?_ ?_ ⟨rfl,_,_,rfl,(by omega),(by omega),(fun i hi=>mono i (hint+dF) (by omega) q1 q2),(fun i h1 h2=>by omega),by omega⟩)
    ·rintro x c ak _ hx ⟨rfl,lo,hi,rfl,h1,h2,h3,h4,h5⟩
     dsimp only
     by_cases bB:lo≥hi
     ·rw[if_pos bB]
      have e:lo=hi:=by omega
      subst e
      exact wpS_pure (wpS_pure (h lo h2 h3 h4))
     ·rw[if_neg bB]
      have hm:lo+(hi - lo)/2<hi:=by omega
      generalize em:lo+(hi - lo)/2=m at hm
      have gr:lo≤m:=by omega
      refine wpS_bind (jX (by omega) ?_)
      cases eT:p m with
      |true=>exact wpS_pure ⟨rfl,m+1,hi,rfl,by omega,h2,fun i aT=>mono i m (by omega) (by omega) eT,h4,by omega⟩
      |false=>exact wpS_pure ⟨rfl,lo,m,rfl,gr,by omega,h3,fun i h1 h2=>down m i h1 h2 eT,by omega⟩
    ·rintro c ak ⟨rfl,lo,hi,rfl,h1,h2,h3,h4,h5⟩
     rw[Nat.max_eq_right (Nat.zero_le n)]at h5
     have e:lo=hi:=by omega
     subst e
     exact wpS_pure (h lo h2 h3 h4)
   ·rw[if_neg bB]
    refine wpS_bind (jX (by omega) ?_)
    cases qj:p (hint+de) with
    |true=>exact wpS_pure ⟨rfl,de,2*de+1,rfl,by omega,qj,by omega,by omega⟩
    |false=>
     refine wpS_pure ?_
     dsimp only
     refine wpS_bind (wpS_forRange (I:=fun x c ak=>ak=aa∧∃lo hi,c=(none,lo,hi)∧lo≤hi∧hi≤n∧(∀i,i<lo→p i=true)∧(∀i,hi≤i→i<n→p i=false)∧hi - lo≤n - x) ?_ ?_ ⟨rfl,_,_,rfl,(by omega),(by omega),(fun i hi=>mono i (hint+dF) (by omega) q1 q2),(fun i h1 h2=>down (hint+de) i (by omega) h2 qj),by omega⟩)
     ·rintro x c ak _ hx ⟨rfl,lo,hi,rfl,h1,h2,h3,h4,h5⟩
      dsimp only
      by_cases bB:lo≥hi
      ·rw[if_pos bB]
       have e:lo=hi:=by omega
       subst e
       exact wpS_pure (wpS_pure (h lo h2 h3 h4))
      ·rw[if_neg bB]
       have hm:lo+(hi - lo)/2<hi:=by omega
       generalize em:lo+(hi - lo)/2=m at hm
       have gr:lo≤m:=by omega
       refine wpS_bind (jX (by omega) ?_)
       cases eT:p m with
       |true=>exact wpS_pure ⟨rfl,m+1,hi,rfl,by omega,h2,fun i aT=>mono i m (by omega) (by omega) eT,h4,by omega⟩
       |false=>exact wpS_pure ⟨rfl,lo,m,rfl,gr,by omega,h3,fun i h1 h2=>down m i h1 h2 eT,by omega⟩
     ·rintro c ak ⟨rfl,lo,hi,rfl,h1,h2,h3,h4,h5⟩
      rw[Nat.max_eq_right (Nat.zero_le n)]at h5
      have e:lo=hi:=by omega
      subst e
      exact wpS_pure (h lo h2 h3 h4)
 |false=>
  dsimp only
  rw[if_neg Bool.false_ne_true]
  refine wpS_bind (wpS_forRange (I:=fun x c aa=>aa=st∧∃dF de,c=(none,dF,de)∧dF≤hint∧p (hint - dF)=false∧dF<de∧x+1≤de) ?Gx ?fin2 ⟨rfl,0,1,rfl,by omega,Bv,by omega,by omega⟩)
  case fin2=>
   rintro c aa ⟨rfl,dF,de,rfl,q1,q2,q3,q4⟩
   rw[Nat.max_eq_right (Nat.zero_le n)]at q4
   dsimp only
   refine wpS_bind (wpS_forRange (I:=fun x c ak=>ak=aa∧∃lo hi,c=(none,lo,hi)∧lo≤hi∧hi≤n∧(∀i,i<lo→p i=true)∧(∀i,hi≤i→i<n→p i=false)∧hi - lo≤n - x) ?_ ?_ ⟨rfl,_,_,rfl,(by omega),(by omega),(fun i hi=>by omega),(fun i h1 h2=>down (hint - dF) i (by omega) h2 q2),by omega⟩)
   ·rintro x c ak _ hx ⟨rfl,lo,hi,rfl,h1,h2,h3,h4,h5⟩
    dsimp only
    by_cases bB:lo≥hi
    ·rw[if_pos bB]
     have e:lo=hi:=by omega
     subst e
     exact wpS_pure (wpS_pure (h lo h2 h3 h4))
    ·rw[if_neg bB]
     have hm:lo+(hi - lo)/2<hi:=by omega
     generalize em:lo+(hi - lo)/2=m at hm
     have gr:lo≤m:=by omega
     refine wpS_bind (jX (by omega) ?_)
     cases eT:p m with
     |true=>exact wpS_pure ⟨rfl,m+1,hi,rfl,by omega,h2,fun i aT=>mono i m (by omega) (by omega) eT,h4,by omega⟩
     |false=>exact wpS_pure ⟨rfl,lo,m,rfl,gr,by omega,h3,fun i h1 h2=>down m i h1 h2 eT,by omega⟩
   ·rintro c ak ⟨rfl,lo,hi,rfl,h1,h2,h3,h4,h5⟩
    rw[Nat.max_eq_right (Nat.zero_le n)]at h5
    have e:lo=hi:=by omega
    subst e
    exact wpS_pure (h lo h2 h3 h4)
  case Gx=>
   rintro x c aa _ hx ⟨rfl,dF,de,rfl,q1,q2,q3,q4⟩
   dsimp only
   by_cases bB:de≥hint+1
   ·rw[if_pos bB]
    refine wpS_pure ?_
    dsimp only
    refine wpS_bind (wpS_forRange (I:=fun x c ak=>ak=aa∧∃lo hi,c=(none,lo,hi)∧lo≤hi∧hi≤n∧(∀i,i<lo→p i=true)∧(∀i,hi≤i→i<n→p i=false)∧hi - lo≤n - x) ?_ ?_ ⟨rfl,_,_,rfl,(by omega),(by omega),(fun i hi=>by omega),(fun i h1 h2=>down (hint - dF) i (by omega) h2 q2),by omega⟩)
    ·rintro x c ak _ hx ⟨rfl,lo,hi,rfl,h1,h2,h3,h4,h5⟩
     dsimp only
     by_cases bB:lo≥hi
     ·rw[if_pos bB]
      have e:lo=hi:=by omega
      subst e
      exact wpS_pure (wpS_pure (h lo h2 h3 h4))
     ·rw[if_neg bB]
      have hm:lo+(hi - lo)/2<hi:=by omega
      generalize em:lo+(hi - lo)/2=m at hm
      have gr:lo≤m:=by omega
      refine wpS_bind (jX (by omega) ?_)
      cases eT:p m with
      |true=>exact wpS_pure ⟨rfl,m+1,hi,rfl,by omega,h2,fun i aT=>mono i m (by omega) (by omega) eT,h4,by omega⟩
      |false=>exact wpS_pure ⟨rfl,lo,m,rfl,gr,by omega,h3,fun i h1 h2=>down m i h1 h2 eT,by omega⟩
    ·rintro c ak ⟨rfl,lo,hi,rfl,h1,h2,h3,h4,h5⟩
     rw[Nat.max_eq_right (Nat.zero_le n)]at h5
     have e:lo=hi:=by omega
     subst e
     exact wpS_pure (h lo h2 h3 h4)
   ·rw[if_neg bB]
    refine wpS_bind (jX (by omega) ?_)
    cases qj:p (hint - de) with
    |true=>
     refine wpS_pure ?_
     dsimp only
     refine wpS_bind (wpS_forRange (I:=fun x c ak=>ak=aa∧∃lo hi,c=(none,lo,hi)∧lo≤hi∧hi≤n∧(∀i,i<lo→p i=true)∧(∀i,hi≤i→i<n→p i=false)∧hi - lo≤n - x) ?_ ?_ ⟨rfl,_,_,rfl,(by omega),(by omega),(fun i hi=>mono i (hint - de) (by omega) (by omega) qj),(fun i h1 h2=>down (hint - dF) i (by omega) h2 q2),by omega⟩)
     ·rintro x c ak _ hx ⟨rfl,lo,hi,rfl,h1,h2,h3,h4,h5⟩
      dsimp only
      by_cases bB:lo≥hi
      ·rw[if_pos bB]
       have e:lo=hi:=by omega
       subst e
       exact wpS_pure (wpS_pure (h lo h2 h3 h4))
      ·rw[if_neg bB]
       have hm:lo+(hi - lo)/2<hi:=by omega
       generalize em:lo+(hi - lo)/2=m at hm
       have gr:lo≤m:=by omega
       refine wpS_bind (jX (by omega) ?_)
       cases eT:p m with
       |true=>exact wpS_pure ⟨rfl,m+1,hi,rfl,by omega,h2,fun i aT=>mono i m (by omega) (by omega) eT,h4,by omega⟩
       |false=>exact wpS_pure ⟨rfl,lo,m,rfl,gr,by omega,h3,fun i h1 h2=>down m i h1 h2 eT,by omega⟩
     ·rintro c ak ⟨rfl,lo,hi,rfl,h1,h2,h3,h4,h5⟩
      rw[Nat.max_eq_right (Nat.zero_le n)]at h5
      have e:lo=hi:=by omega
      subst e
      exact wpS_pure (h lo h2 h3 h4)
    |false=>exact wpS_pure ⟨rfl,de,2*de+1,rfl,by omega,qj,by omega,by omega⟩
end
def zY:Nat→StateT SortSt Sem Unit:=sortPriv%PySem.Builtin.setMinGallop
def Kg:Array Keyed→Array Keyed→StateT SortSt Sem (Array Keyed):=sortPriv%PySem.Builtin.mergeLo
theorem JE (g:Nat):zY g=modify fun s=>SortSt.mk' (kindOf s) (arrOf s) (pendingOf s) g (failedOf s):=rfl
abbrev Pw (r:Keyed→Keyed→Bool) (l:List Keyed):Prop:=l.Pairwise fun x y=>r y x=false
def SG (st aa:SortSt):Prop:=kindOf aa=kindOf st∧arrOf aa=arrOf st∧pendingOf aa=pendingOf st∧failedOf aa=failedOf st
theorem SG.refl (st:SortSt):SG st st:=⟨rfl,rfl,rfl,rfl⟩
def Good (r:Keyed→Keyed→Bool) (a b res:Array Keyed):Prop:=res.toList.Perm (a.toList++b.toList)∧Pw r res.toList
structure JW (r:Keyed→Keyed→Bool) (a b out:Array Keyed) (ia ib:Nat):Prop where
 perm:(out.toList++(a.toList.drop ia++b.toList.drop ib)).Perm (a.toList++b.toList)
 jF:Pw r out.toList
 gF:∀x∈out.toList,∀y∈a.toList.drop ia++b.toList.drop ib,r y x=false
structure fc (r:Keyed→Keyed→Bool) (a b:Array Keyed):Prop where
 o:Ord r
 sa:Pw r a.toList
 sb:Pw r b.toList
theorem Y0 {α:Type}{l:List α}{i:Nat}{x:α}(h:l[i]? =some x):l.drop i=x::l.drop (i+1):=by
 obtain⟨hi,e⟩:=List.getElem?_eq_some_iff.mp h
 rw[List.drop_eq_getElem_cons hi,e]
theorem Zx {xs:Array Keyed}{i:Nat}{x:Keyed}(h:xs[i]? =some x):xs.toList[i]? =some x:=by rw[Array.getElem?_toList];exact h
theorem Zd {xs:Array Keyed}{i:Nat}(h:i<xs.size):∃x,xs[i]? =some x:=⟨xs[i],getElem?_pos xs i h⟩
theorem Ji {r:Keyed→Keyed→Bool}{l:List Keyed}{i:Nat}{x:Keyed}(o:Ord r) (p:Pw r l) (h:l[i]? =some x):∀y∈l.drop i,r y x=false:=fun y hy=>by
 rw[Y0 h]at hy
 rcases List.mem_cons.mp hy with rfl |hy
 ·exact o.ko _
 ·have q:Pw r (l.drop i):=List.Pairwise.sublist (List.drop_sublist i l) p
  rw[Y0 h]at q
  exact(List.pairwise_cons.mp q).1 y hy
theorem JL (xs:Array Keyed) (i j:Nat):(xs.extract i j).toList=(xs.toList.drop i).take (j - i):=by
 rw[Array.toList_extract,List.extract_eq_drop_take]
theorem J6 (xs:Array Keyed) (i:Nat):(xs.extract i xs.size).toList=xs.toList.drop i:=by
 rw[JL,List.take_of_length_le (by rw[List.length_drop,Array.length_toList];exact Nat.le_refl _)]
section
variable {r:Keyed→Keyed→Bool}{a b out:Array Keyed}{ia ib:Nat}
theorem JW.cY (C:fc r a b) (J:JW r a b out ia ib) {x:Keyed}(hx:a[ia]? =some x) (h:∀y,b[ib]? =some y→r y x=false):JW r a b (out.push x) (ia+1) ib:=by
 have l6:=Zx hx
 have hd:=Y0 l6
 have low:∀y∈a.toList.drop (ia+1)++b.toList.drop ib,r y x=false:=fun y hy=>by
  rcases List.mem_append.mp hy with hy |hy
  ·exact Ji C.o C.sa l6 y (by rw[hd];exact List.mem_cons_of_mem _ hy)
  ·cases e:b[ib]? with
   |none=>
    rw[←Array.getElem?_toList]at e
    rw[List.drop_eq_nil_of_le (by rw[List.getElem?_eq_none_iff]at e;exact e)]at hy
    cases hy
   |some z=>
    have h1:=Ji C.o C.sb (Zx e) y hy
    exact C.o.df x z y (h z e) h1
 refine⟨?_,?_,fun u hu y hy=> ?_⟩
 ·rw[Array.toList_push,List.append_assoc]
  have:=J.perm
  rw[hd]at this
  exact this
 ·rw[Array.toList_push]
  refine List.pairwise_append.mpr ⟨J.jF,List.pairwise_singleton _ _,fun u hu v hv=> ?_⟩
  rw[List.mem_singleton.mp hv]
  exact J.gF u hu x (List.mem_append_left _ (by rw[hd];exact List.mem_cons_self))
 ·rw[Array.toList_push]at hu
  rcases List.mem_append.mp hu with hu |hu
  ·refine J.gF u hu y ?_
   rcases List.mem_append.mp hy with hy |hy
   ·exact List.mem_append_left _ (by rw[hd];exact List.mem_cons_of_mem _ hy)
   ·exact List.mem_append_right _ hy
  ·rw[List.mem_singleton.mp hu]
   exact low y hy
theorem JW.fP (C:fc r a b) (J:JW r a b out ia ib) {y:Keyed}(hy:b[ib]? =some y) (h:∀x,a[ia]? =some x→r x y=false):JW r a b (out.push y) ia (ib+1):=by
 have iI:=Zx hy
 have hd:=Y0 iI
 have low:∀z∈a.toList.drop ia++b.toList.drop (ib+1),r z y=false:=fun z hz=>by
  rcases List.mem_append.mp hz with hz |hz
  ·cases e:a[ia]? with
   |none=>
    rw[←Array.getElem?_toList]at e
    rw[List.drop_eq_nil_of_le (by rw[List.getElem?_eq_none_iff]at e;exact e)]at hz
    cases hz
   |some x=>
    have h1:=Ji C.o C.sa (Zx e) z hz
    exact C.o.df y x z (h x e) h1
  ·exact Ji C.o C.sb iI z (by rw[hd];exact List.mem_cons_of_mem _ hz)
 refine⟨?_,?_,fun u hu z hz=> ?_⟩
 ·rw[Array.toList_push,List.append_assoc]
  have:=J.perm
  rw[hd]at this
  refine List.Perm.trans (List.Perm.append_left _ ?_) this
  exact(show(y::(a.toList.drop ia++b.toList.drop (ib+1))).Perm _ from List.perm_middle.symm)
 ·rw[Array.toList_push]
  refine List.pairwise_append.mpr ⟨J.jF,List.pairwise_singleton _ _,fun u hu v hv=> ?_⟩
  rw[List.mem_singleton.mp hv]
  exact J.gF u hu y (List.mem_append_right _ (by rw[hd];exact List.mem_cons_self))
 ·rw[Array.toList_push]at hu
  rcases List.mem_append.mp hu with hu |hu
  ·refine J.gF u hu z ?_
   rcases List.mem_append.mp hz with hz |hz
   ·exact List.mem_append_left _ hz
   ·exact List.mem_append_right _ (by rw[hd];exact List.mem_cons_of_mem _ hz)
  ·rw[List.mem_singleton.mp hu]
   exact low z hz
theorem El {xs:Array Keyed}{i k:Nat}{x:Keyed}(hx:xs[i+k]? =some x):xs.extract i (i+(k+1))=(xs.extract i (i+k)).push x:=by
 obtain⟨h,e⟩:=Array.getElem?_eq_some_iff.mp hx
 rw[←e,←Nat.add_assoc,Array.extract_succ_right (by omega) h]
theorem JW.nQ (C:fc r a b) (J:JW r a b out ia ib):∀k,ia+k≤a.size→(∀i,i<k→∀x y,a[ia+i]? =some x→b[ib]? =some y→r y x=false)→JW r a b (out++a.extract ia (ia+k)) (ia+k) ib
 |0,_,_=>by
  rw[Nat.add_zero]
  have e:a.extract ia ia= #[]:=by simp;omega
  rw[e,Array.append_empty]
  exact J
 |k+1,hk,h=>by
  obtain⟨x,hx⟩:=Zd (xs:=a) (i:=ia+k) (by omega)
  have ih:=JW.nQ C J k (by omega) fun i hi=>h i (by omega)
  have:=ih.cY C hx fun y hy=>h k (by omega) x y hx hy
  rw[El hx,Array.append_push]
  exact this
theorem JW.kg (C:fc r a b) (J:JW r a b out ia ib):∀k,ib+k≤b.size→(∀i,i<k→∀y x,b[ib+i]? =some y→a[ia]? =some x→r x y=false)→JW r a b (out++b.extract ib (ib+k)) ia (ib+k)
 |0,_,_=>by
  rw[Nat.add_zero]
  have e:b.extract ib ib= #[]:=by simp;omega
  rw[e,Array.append_empty]
  exact J
 |k+1,hk,h=>by
  obtain⟨y,hy⟩:=Zd (xs:=b) (i:=ib+k) (by omega)
  have ih:=JW.kg C J k (by omega) fun i hi=>h i (by omega)
  have:=ih.fP C hy fun x hx=>h k (by omega) y x hy hx
  rw[El hy,Array.append_push]
  exact this
theorem JW.done (C:fc r a b) (J:JW r a b out ia ib) (h:a.size≤ia∨b.size≤ib):Good r a b (out++a.extract ia a.size++b.extract ib b.size):=by
 unfold Good
 rw[Array.toList_append,Array.toList_append,J6,J6]
 refine⟨by rw[List.append_assoc];exact J.perm,?_⟩
 have pa:Pw r (a.toList.drop ia):=List.Pairwise.sublist (List.drop_sublist _ _) C.sa
 have pb:Pw r (b.toList.drop ib):=List.Pairwise.sublist (List.drop_sublist _ _) C.sb
 rw[List.append_assoc]
 refine List.pairwise_append.mpr ⟨J.jF,?_,J.gF⟩
 rcases h with h |h
 ·rw[List.drop_eq_nil_of_le (by rw[Array.length_toList];exact h),List.nil_append]
  exact pb
 ·rw[List.drop_eq_nil_of_le (as:=b.toList) (by rw[Array.length_toList];exact h),List.append_nil]
  exact pa
theorem JW.last (C:fc r a b) (J:JW r a b out ia ib) (h:ia+1=a.size) (hl:∀x,a[a.size - 1]? =some x→∀y∈b.toList,r x y=false):Good r a b (out++b.extract ib b.size++a.extract ia a.size):=by
 unfold Good
 rw[Array.toList_append,Array.toList_append,J6,J6]
 obtain⟨x,hx⟩:=Zd (xs:=a) (i:=ia) (by omega)
 have ed:a.toList.drop ia=[x]:=by
  rw[Y0 (Zx hx),List.drop_eq_nil_of_le (by rw[Array.length_toList];omega)]
 have P:=J.perm
 have B:=J.gF
 rw[ed]at P B ⊢
 have pb:Pw r (b.toList.drop ib):=List.Pairwise.sublist (List.drop_sublist _ _) C.sb
 refine⟨?_,?_⟩
 ·rw[List.append_assoc]
  exact List.Perm.trans (List.Perm.append_left _ List.perm_append_comm) P
 ·rw[List.append_assoc]
  refine List.pairwise_append.mpr ⟨J.jF,List.pairwise_append.mpr ⟨pb,List.pairwise_singleton _ _,fun y hy z hz=> ?_⟩,fun u hu z hz=>B u hu z ?_⟩
  ·rw[List.mem_singleton.mp hz]
   exact hl x (by rw[show a.size - 1=ia by omega];exact hx) y (List.mem_of_mem_drop hy)
  ·rcases List.mem_append.mp hz with hz |hz
   ·exact List.mem_append_right _ hz
   ·exact List.mem_append_left _ hz
end
theorem Zv {xs:Array Keyed}{i:Nat}{x:Keyed}(h:xs[i]? =some x):x∈xs.toList:=List.mem_of_getElem? (Zx h)
theorem Yd {r:Keyed→Keyed→Bool}{l:List Keyed}{i j:Nat}{x y:Keyed}(o:Ord r) (p:Pw r l) (hx:l[i]? =some x) (hy:l[j]? =some y) (h:i≤j):r y x=false:=by
 refine Ji o p hx y ?_
 have:(l.drop i)[j - i]? =some y:=by rw[List.getElem?_drop,show i+(j - i)=j by omega];exact hy
 exact List.mem_of_getElem? this
theorem Jq {r:Keyed→Keyed→Bool}{x y z:Keyed}(o:Ord r) (h:r y z=true) (h2:r y x=false):r x z=true:=by
 cases e:r x z with
 |true=>rfl
 |false=>
  have:=o.df z x y e h2
  rw[h]at this
  cases this
section
variable {prog:Program}{w:World}{A:Around}{E:Value→Shared→Prop}{s:Shared}{κ:SortKind}{a₀:Array Keyed}{r:Keyed→Keyed→Bool}
theorem Yy {g:Nat}{Q:Unit→SortSt→Prop}{st:SortSt}(h:Q () (SortSt.mk' (kindOf st) (arrOf st) (pendingOf st) g (failedOf st))):wpS (model prog w) A E s (zY g) Q st:=by
 rw[JE]
 exact wpS_modify h
theorem UQ {a b:Array Keyed}{Q:Array Keyed→SortSt→Prop}{st:SortSt}(hc:iZ prog w A E s κ a₀ r) (hk:kindOf st=κ) (C:fc r a b) (ma:∀x∈a.toList,x∈a₀.toList) (mb:∀x∈b.toList,x∈a₀.toList) (na:1≤a.size) (nb:1≤b.size)
  (h0:∀y,b[0]? =some y→∀x∈a.toList,r x y=false) (hl:∀x,a[a.size - 1]? =some x→∀y∈b.toList,r x y=false)
  (h:∀res aa,SG st aa→Good r a b res→Q res aa):wpS (model prog w) A E s (Kg a b) Q st:=by
 show wpS (model prog w) A E s (_ >>=_) _ _
 try dsimp only
 refine wpS_bind (wpS_lift (wpAny_rule ⟨rfl,?_⟩))
 obtain⟨y0,kq⟩:=Zd (xs:=b) (i:=0) (by omega)
 refine wpS_bind (Zk kq ?_)
 have J0:JW r a b #[y0] 0 1:=by
  have e:JW r a b #[] 0 0:=⟨by simp,.nil,fun x hx=>by cases hx⟩
  exact e.fP C kq fun x hx=>h0 y0 kq x (Zv hx)
 by_cases bA:(1==b.size)=true
 ·rw[if_pos bA]
  exact wpS_pure (h _ _ (SG.refl _) (J0.done C (.inr (by have:=beq_iff_eq.mp bA;omega))))
 rw[if_neg bA]
 by_cases bN:(0+1==a.size)=true
 ·rw[if_pos bN]
  exact wpS_pure (h _ _ (SG.refl _) (J0.last C (by have:=beq_iff_eq.mp bN;omega) hl))
 rw[if_neg bN]
 have og:¬(1=b.size):=fun z=>bA (beq_iff_eq.mpr z)
 have td:¬(0+1=a.size):=fun z=>bN (beq_iff_eq.mpr z)
 refine wpS_bind (wpS_get ?_)
 refine wpS_bind (wpS_mono (wpS_forRange (I:=fun x c av=>SG st av∧∃out ia ib g,c=(none,out,ia,ib,g)∧JW r a b out ia ib∧ia+1<a.size∧ib<b.size∧x+1≤ia+ib) (Q:=fun c av=>SG st av∧∃res,c.fst=some res∧Good r a b res) ?step ?fin ⟨SG.refl _,_,_,_,_,rfl,J0,by omega,by omega,by omega⟩) ?post)
 case post=>
  rintro c av ⟨iA,res,ec,gd⟩
  rw[ec]
  exact wpS_pure (h res av iA gd)
 case fin=>
  rintro c av ⟨_,out,ia,ib,g,_,_,i1,i2,i3⟩
  rw[Nat.max_eq_right (Nat.zero_le _)]at i3
  omega
 case step=>
  rintro x c av _ hx ⟨iA,out,ia,ib,g,rfl,J,i1,i2,i3⟩
  dsimp only
  have bP:kindOf av=κ:=by rw[iA.1];exact hk
  refine wpS_bind (wpS_mono (wpS_forRange (I:=fun y c ak=>ak=av∧∃eO dU dS ac bc,c=(none,eO,dU,dS,ac,bc)∧JW r a b eO dU dS∧dU+1<a.size∧dS<b.size∧ia+ib+y≤dU+dS)
   (Q:=fun c ak=>ak=av∧((∃res,c.fst=some res∧Good r a b res)∨∃eO dU dS ac bc,c=(none,eO,dU,dS,ac,bc)∧JW r a b eO dU dS∧dU+1<a.size∧dS<b.size∧ia+ib+1≤dU+dS)) ?_ ?_ ⟨rfl,_,_,_,_,_,rfl,J,i1,i2,by omega⟩) ?_)
  ·rintro y c ak _ hy ⟨rfl,eO,dU,dS,ac,bc,rfl,J',j1,j2,j3⟩
   dsimp only
   obtain⟨yb,iH⟩:=Zd (xs:=b) (i:=dS) (by omega)
   obtain⟨xa,iJ⟩:=Zd (xs:=a) (i:=dU) (by omega)
   refine wpS_bind (Zk iH (wpS_bind (Zk iJ (wpS_bind (hc _ _ _ _ (mb _ (Zv iH)) (ma _ (Zv iJ)) bP ?_)))))
   dsimp only
   cases hr:r yb xa with
   |true=>
    rw[if_pos rfl]
    refine wpS_bind (Zk iH ?_)
    have J2:=J'.fP C iH (fun x hx=>by rw[iJ]at hx;cases hx;exact C.o.bR _ _ hr)
    by_cases hz:(dS+1==b.size)=true
    ·rw[if_pos hz]
     exact wpS_pure ⟨rfl,.inl ⟨_,rfl,J2.done C (.inr (by have:=beq_iff_eq.mp hz;omega))⟩⟩
    rw[if_neg hz]
    have bg:¬(dS+1=b.size):=fun z=>hz (beq_iff_eq.mpr z)
    by_cases hg:bc+1≥g
    ·rw[if_pos hg]
     exact wpS_pure ⟨rfl,.inr ⟨_,_,_,_,_,rfl,J2,by omega,by omega,by omega⟩⟩
    ·rw[if_neg hg]
     exact wpS_pure ⟨rfl,_,_,_,_,_,rfl,J2,by omega,by omega,by omega⟩
   |false=>
    rw[if_neg Bool.false_ne_true]
    refine wpS_bind (Zk iJ ?_)
    have J2:=J'.cY C iJ (fun x hx=>by rw[iH]at hx;cases hx;exact hr)
    by_cases hz:(dU+1+1==a.size)=true
    ·rw[if_pos hz]
     exact wpS_pure ⟨rfl,.inl ⟨_,rfl,J2.last C (by have:=beq_iff_eq.mp hz;omega) hl⟩⟩
    rw[if_neg hz]
    have bg:¬(dU+1+1=a.size):=fun z=>hz (beq_iff_eq.mpr z)
    by_cases hg:ac+1≥g
    ·rw[if_pos hg]
     exact wpS_pure ⟨rfl,.inr ⟨_,_,_,_,_,rfl,J2,by omega,by omega,by omega⟩⟩
    ·rw[if_neg hg]
     exact wpS_pure ⟨rfl,_,_,_,_,_,rfl,J2,by omega,by omega,by omega⟩
  ·rintro c ak ⟨rfl,eO,dU,dS,ac,bc,rfl,J',j1,j2,j3⟩
   rw[Nat.max_eq_right (Nat.zero_le _)]at j3
   omega
  rintro c ak ⟨rfl,⟨res,ec,gd⟩ |⟨eO,dU,dS,ac,bc,rfl,J',j1,j2,j3⟩⟩
  ·rw[ec]
   exact wpS_pure ⟨iA,res,rfl,gd⟩
  dsimp only
  refine wpS_bind (wpS_lift (wpAny_rule ⟨rfl,?_⟩))
  refine wpS_bind (wpS_mono (wpS_forRange (I:=fun y c ak=>SG st ak∧∃out ia ib g ac bc,c=(none,out,ia,ib,g,ac,bc)∧JW r a b out ia ib∧ia+1<a.size∧ib<b.size∧dU+dS+y≤ia+ib)
   (Q:=fun c ak=>SG st ak∧((∃res,c.fst=some res∧Good r a b res)∨∃out ia ib g ac bc,c=(none,out,ia,ib,g,ac,bc)∧JW r a b out ia ib∧ia+1<a.size∧ib<b.size∧dU+dS≤ia+ib)) ?_ ?_ ⟨iA,_,_,_,_,_,_,rfl,J',j1,j2,by omega⟩) ?_)
  ·clear J i1 i2 bP
   rintro y c ak _ hy ⟨gh,out,Bh,Bg,g,ac,bc,rfl,J,i1,i2,i4⟩
   dsimp only
   revert J i1 i2 i4
   have Vy:ia+ib+1≤dU+dS:=j3
   clear j3 i3
   generalize Bh=ia
   generalize Bg=ib
   intro J i1 i2 i4
   by_cases oz:g>1
   ·rw[if_pos oz]
    refine wpS_bind (Yy ?_)
    generalize mq:SortSt.mk' _ _ _ _ _=aO
    have aq:SG st aO:=by rw[←mq];exact gh
    have fH:kindOf aO=κ:=by rw[aq.1];exact hk
    obtain⟨y2,aY⟩:=Zd (xs:=b) (i:=ib) (by omega)
    refine wpS_bind (Zk aY ?_)
    refine wpS_bind (ZH hc fH (fun i=>match a[ia+i]? with |some x=> !r y2 x |none=>false) (fun i hi=> ?_) (mb y2 (Zv aY)) (fun i j cb hj hp=> ?_) (by omega) fun k kn dG cO=> ?_)
    ·obtain⟨x,hx⟩:=Zd (xs:=a) (i:=ia+i) (by omega)
     refine⟨x,hx,ma x (Zv hx),?_⟩
     try dsimp only
     rw[hx]
     rfl
    ·obtain⟨xj,fS⟩:=Zd (xs:=a) (i:=ia+j) (by omega)
     obtain⟨xi,fT⟩:=Zd (xs:=a) (i:=ia+i) (by omega)
     try dsimp only at hp ⊢
     rw[fS]at hp
     rw[fT]
     rw[Bool.not_eq_true']at hp ⊢
     exact C.o.df _ _ _ (Yd C.o C.sa (Zx fT) (Zx fS) (by omega)) hp
    try dsimp only
    by_cases iO:k>0
    ·rw[if_pos iO]
     have J1:=J.nQ C k (by omega) (fun i hi x y hx hy=>by
      rw[aY]at hy
      cases hy
      have:=dG i hi
      try dsimp only at this
      rw[hx,Bool.not_eq_true']at this
      exact this)
     by_cases bA:(ia+k+1==a.size)=true
     ·rw[if_pos bA]
      exact wpS_pure ⟨aq,.inl ⟨_,rfl,J1.last C (by have:=beq_iff_eq.mp bA;omega) hl⟩⟩
     rw[if_neg bA]
     by_cases bN:(ia+k==a.size)=true
     ·rw[if_pos bN]
      exact wpS_pure ⟨aq,.inl ⟨_,rfl,J1.done C (.inl (by have:=beq_iff_eq.mp bN;omega))⟩⟩
     rw[if_neg bN]
     have og:¬(ia+k+1=a.size):=fun z=>bA (beq_iff_eq.mpr z)
     have td:¬(ia+k=a.size):=fun z=>bN (beq_iff_eq.mpr z)
     refine wpS_bind (Zk aY ?_)
     have J2:=J1.fP C aY (fun x hx=>by
      have:=cO k (Nat.le_refl _) (by omega)
      try dsimp only at this
      rw[hx,Bool.not_eq_false']at this
      exact C.o.bR _ _ this)
     by_cases hz:(ib+1==b.size)=true
     ·rw[if_pos hz]
      exact wpS_pure ⟨aq,.inl ⟨_,rfl,J2.done C (.inr (by have:=beq_iff_eq.mp hz;omega))⟩⟩
     rw[if_neg hz]
     have bg:¬(ib+1=b.size):=fun z=>hz (beq_iff_eq.mpr z)
     obtain⟨x3,aS⟩:=Zd (xs:=a) (i:=ia+k) (by omega)
     refine wpS_bind (Zk aS ?_)
     refine wpS_bind (ZH hc fH (fun i=>match b[ib+1+i]? with |some y=>r y x3 |none=>false) (fun i hi=> ?_) (ma x3 (Zv aS)) (fun i j cb hj hp=> ?_) (by omega) fun k1 lO dG cO=> ?_)
     ·obtain⟨y,hy⟩:=Zd (xs:=b) (i:=ib+1+i) (by omega)
      refine⟨y,hy,mb y (Zv hy),?_⟩
      try dsimp only
      rw[hy]
      rfl
     ·obtain⟨yj,cC⟩:=Zd (xs:=b) (i:=ib+1+j) (by omega)
      obtain⟨yi,cD⟩:=Zd (xs:=b) (i:=ib+1+i) (by omega)
      try dsimp only at hp ⊢
      rw[cC]at hp
      rw[cD]
      exact Jq C.o hp (Yd C.o C.sb (Zx cD) (Zx cC) (by omega))
     try dsimp only
     by_cases bP:k1>0
     ·rw[if_pos bP]
      have J3:=J2.kg C k1 (by omega) (fun i hi y x hy hx=>by
       rw[aS]at hx
       cases hx
       have:=dG i hi
       try dsimp only at this
       rw[hy]at this
       exact C.o.bR _ _ this)
      by_cases aE:(ib+1+k1==b.size)=true
      ·rw[if_pos aE]
       exact wpS_pure ⟨aq,.inl ⟨_,rfl,J3.done C (.inr (by have:=beq_iff_eq.mp aE;omega))⟩⟩
      rw[if_neg aE]
      have lV:¬(ib+1+k1=b.size):=fun z=>aE (beq_iff_eq.mpr z)
      obtain⟨x4,ar⟩:=Zd (xs:=a) (i:=ia+k) (by omega)
      refine wpS_bind (Zk ar ?_)
      have J4:=J3.cY C ar (fun y hy=>by
       have:=cO k1 (Nat.le_refl _) (by omega)
       try dsimp only at this
       rw[hy]at this
       have e:x4=x3:=by rw[aS]at ar;exact(Option.some.inj ar).symm
       rw[e]
       exact this)
      by_cases hz:(ia+k+1+1==a.size)=true
      ·rw[if_pos hz]
       exact wpS_pure ⟨aq,.inl ⟨_,rfl,J4.last C (by have:=beq_iff_eq.mp hz;omega) hl⟩⟩
      ·rw[if_neg hz]
       have bg:¬(ia+k+1+1=a.size):=fun z=>hz (beq_iff_eq.mpr z)
       by_cases h7:(decide (k<7)&&decide (k1<7))=true
       ·rw[if_pos h7]
        exact wpS_pure ⟨aq,.inr ⟨_,_,_,_,_,_,rfl,J4,by omega,by omega,by omega⟩⟩
       ·rw[if_neg h7]
        exact wpS_pure ⟨aq,_,_,_,_,_,_,rfl,J4,by omega,by omega,by omega⟩
     ·rw[if_neg bP]
      obtain rfl:k1=0:=by omega
      obtain⟨x4,ar⟩:=Zd (xs:=a) (i:=ia+k) (by omega)
      refine wpS_bind (Zk ar ?_)
      have J4:=J2.cY C ar (fun y hy=>by
       have:=cO 0 (Nat.le_refl _) (by omega)
       try dsimp only at this
       rw[Nat.add_zero,hy]at this
       have e:x4=x3:=by rw[aS]at ar;exact(Option.some.inj ar).symm
       rw[e]
       exact this)
      by_cases hz:(ia+k+1+1==a.size)=true
      ·rw[if_pos hz]
       exact wpS_pure ⟨aq,.inl ⟨_,rfl,J4.last C (by have:=beq_iff_eq.mp hz;omega) hl⟩⟩
      ·rw[if_neg hz]
       have bg:¬(ia+k+1+1=a.size):=fun z=>hz (beq_iff_eq.mpr z)
       by_cases h7:(decide (k<7)&&decide (0<7))=true
       ·rw[if_pos h7]
        exact wpS_pure ⟨aq,.inr ⟨_,_,_,_,_,_,rfl,J4,by omega,by omega,by omega⟩⟩
       ·rw[if_neg h7]
        exact wpS_pure ⟨aq,_,_,_,_,_,_,rfl,J4,by omega,by omega,by omega⟩
    ·rw[if_neg iO]
     obtain rfl:k=0:=by omega
     refine wpS_bind (Zk aY ?_)
     have J2:=J.fP C aY (fun x hx=>by
      have:=cO 0 (Nat.le_refl _) (by omega)
      try dsimp only at this
      rw[Nat.add_zero,hx,Bool.not_eq_false']at this
      exact C.o.bR _ _ this)
     by_cases hz:(ib+1==b.size)=true
     ·rw[if_pos hz]
      exact wpS_pure ⟨aq,.inl ⟨_,rfl,J2.done C (.inr (by have:=beq_iff_eq.mp hz;omega))⟩⟩
     rw[if_neg hz]
     have bg:¬(ib+1=b.size):=fun z=>hz (beq_iff_eq.mpr z)
     obtain⟨x3,aS⟩:=Zd (xs:=a) (i:=ia) (by omega)
     refine wpS_bind (Zk aS ?_)
     refine wpS_bind (ZH hc fH (fun i=>match b[ib+1+i]? with |some y=>r y x3 |none=>false) (fun i hi=> ?_) (ma x3 (Zv aS)) (fun i j cb hj hp=> ?_) (by omega) fun k1 lO dG cO=> ?_)
     ·obtain⟨y,hy⟩:=Zd (xs:=b) (i:=ib+1+i) (by omega)
      refine⟨y,hy,mb y (Zv hy),?_⟩
      try dsimp only
      rw[hy]
      rfl
     ·obtain⟨yj,cC⟩:=Zd (xs:=b) (i:=ib+1+j) (by omega)
      obtain⟨yi,cD⟩:=Zd (xs:=b) (i:=ib+1+i) (by omega)
      try dsimp only at hp ⊢
      rw[cC]at hp
      rw[cD]
      exact Jq C.o hp (Yd C.o C.sb (Zx cD) (Zx cC) (by omega))
     try dsimp only
     by_cases bP:k1>0
     ·rw[if_pos bP]
      have J3:=J2.kg C k1 (by omega) (fun i hi y x hy hx=>by
       rw[aS]at hx
       cases hx
       have:=dG i hi
       try dsimp only at this
       rw[hy]at this
       exact C.o.bR _ _ this)
      by_cases aE:(ib+1+k1==b.size)=true
      ·rw[if_pos aE]
       exact wpS_pure ⟨aq,.inl ⟨_,rfl,J3.done C (.inr (by have:=beq_iff_eq.mp aE;omega))⟩⟩
      rw[if_neg aE]
      have lV:¬(ib+1+k1=b.size):=fun z=>aE (beq_iff_eq.mpr z)
      obtain⟨x4,ar⟩:=Zd (xs:=a) (i:=ia) (by omega)
      refine wpS_bind (Zk ar ?_)
      have J4:=J3.cY C ar (fun y hy=>by
       have:=cO k1 (Nat.le_refl _) (by omega)
       try dsimp only at this
       rw[hy]at this
       have e:x4=x3:=by rw[aS]at ar;exact(Option.some.inj ar).symm
       rw[e]
       exact this)
      by_cases hz:(ia+1+1==a.size)=true
      ·rw[if_pos hz]
       exact wpS_pure ⟨aq,.inl ⟨_,rfl,J4.last C (by have:=beq_iff_eq.mp hz;omega) hl⟩⟩
      ·rw[if_neg hz]
       have bg:¬(ia+1+1=a.size):=fun z=>hz (beq_iff_eq.mpr z)
       by_cases h7:(decide (0<7)&&decide (k1<7))=true
       ·rw[if_pos h7]
        exact wpS_pure ⟨aq,.inr ⟨_,_,_,_,_,_,rfl,J4,by omega,by omega,by omega⟩⟩
       ·rw[if_neg h7]
        exact wpS_pure ⟨aq,_,_,_,_,_,_,rfl,J4,by omega,by omega,by omega⟩
     ·rw[if_neg bP]
      obtain rfl:k1=0:=by omega
      obtain⟨x4,ar⟩:=Zd (xs:=a) (i:=ia) (by omega)
      refine wpS_bind (Zk ar ?_)
      have J4:=J2.cY C ar (fun y hy=>by
       have:=cO 0 (Nat.le_refl _) (by omega)
       try dsimp only at this
       rw[Nat.add_zero,hy]at this
       have e:x4=x3:=by rw[aS]at ar;exact(Option.some.inj ar).symm
       rw[e]
       exact this)
      by_cases hz:(ia+1+1==a.size)=true
      ·rw[if_pos hz]
       exact wpS_pure ⟨aq,.inl ⟨_,rfl,J4.last C (by have:=beq_iff_eq.mp hz;omega) hl⟩⟩
      ·rw[if_neg hz]
       have bg:¬(ia+1+1=a.size):=fun z=>hz (beq_iff_eq.mpr z)
       by_cases h7:(decide (0<7)&&decide (0<7))=true
       ·rw[if_pos h7]
        exact wpS_pure ⟨aq,.inr ⟨_,_,_,_,_,_,rfl,J4,by omega,by omega,by omega⟩⟩
       ·rw[if_neg h7]
        exact wpS_pure ⟨aq,_,_,_,_,_,_,rfl,J4,by omega,by omega,by omega⟩
   ·rw[if_neg oz]
    refine wpS_bind (Yy ?_)
    generalize mq:SortSt.mk' _ _ _ _ _=aO
    have aq:SG st aO:=by rw[←mq];exact gh
    have fH:kindOf aO=κ:=by rw[aq.1];exact hk
    obtain⟨y2,aY⟩:=Zd (xs:=b) (i:=ib) (by omega)
    refine wpS_bind (Zk aY ?_)
    refine wpS_bind (ZH hc fH (fun i=>match a[ia+i]? with |some x=> !r y2 x |none=>false) (fun i hi=> ?_) (mb y2 (Zv aY)) (fun i j cb hj hp=> ?_) (by omega) fun k kn dG cO=> ?_)
    ·obtain⟨x,hx⟩:=Zd (xs:=a) (i:=ia+i) (by omega)
     refine⟨x,hx,ma x (Zv hx),?_⟩
     try dsimp only
     rw[hx]
     rfl
    ·obtain⟨xj,fS⟩:=Zd (xs:=a) (i:=ia+j) (by omega)
     obtain⟨xi,fT⟩:=Zd (xs:=a) (i:=ia+i) (by omega)
     try dsimp only at hp ⊢
     rw[fS]at hp
     rw[fT]
     rw[Bool.not_eq_true']at hp ⊢
     exact C.o.df _ _ _ (Yd C.o C.sa (Zx fT) (Zx fS) (by omega)) hp
    try dsimp only
    by_cases iO:k>0
    ·rw[if_pos iO]
     have J1:=J.nQ C k (by omega) (fun i hi x y hx hy=>by
      rw[aY]at hy
      cases hy
      have:=dG i hi
      try dsimp only at this
      rw[hx,Bool.not_eq_true']at this
      exact this)
     by_cases bA:(ia+k+1==a.size)=true
     ·rw[if_pos bA]
      exact wpS_pure ⟨aq,.inl ⟨_,rfl,J1.last C (by have:=beq_iff_eq.mp bA;omega) hl⟩⟩
     rw[if_neg bA]
     by_cases bN:(ia+k==a.size)=true
     ·rw[if_pos bN]
      exact wpS_pure ⟨aq,.inl ⟨_,rfl,J1.done C (.inl (by have:=beq_iff_eq.mp bN;omega))⟩⟩
     rw[if_neg bN]
     have og:¬(ia+k+1=a.size):=fun z=>bA (beq_iff_eq.mpr z)
     have td:¬(ia+k=a.size):=fun z=>bN (beq_iff_eq.mpr z)
     refine wpS_bind (Zk aY ?_)
     have J2:=J1.fP C aY (fun x hx=>by
      have:=cO k (Nat.le_refl _) (by omega)
      try dsimp only at this
      rw[hx,Bool.not_eq_false']at this
      exact C.o.bR _ _ this)
     by_cases hz:(ib+1==b.size)=true
     ·rw[if_pos hz]
      exact wpS_pure ⟨aq,.inl ⟨_,rfl,J2.done C (.inr (by have:=beq_iff_eq.mp hz;omega))⟩⟩
     rw[if_neg hz]
     have bg:¬(ib+1=b.size):=fun z=>hz (beq_iff_eq.mpr z)
     obtain⟨x3,aS⟩:=Zd (xs:=a) (i:=ia+k) (by omega)
     refine wpS_bind (Zk aS ?_)
     refine wpS_bind (ZH hc fH (fun i=>match b[ib+1+i]? with |some y=>r y x3 |none=>false) (fun i hi=> ?_) (ma x3 (Zv aS)) (fun i j cb hj hp=> ?_) (by omega) fun k1 lO dG cO=> ?_)
     ·obtain⟨y,hy⟩:=Zd (xs:=b) (i:=ib+1+i) (by omega)
      refine⟨y,hy,mb y (Zv hy),?_⟩
      try dsimp only
      rw[hy]
      rfl
     ·obtain⟨yj,cC⟩:=Zd (xs:=b) (i:=ib+1+j) (by omega)
      obtain⟨yi,cD⟩:=Zd (xs:=b) (i:=ib+1+i) (by omega)
      try dsimp only at hp ⊢
      rw[cC]at hp
      rw[cD]
      exact Jq C.o hp (Yd C.o C.sb (Zx cD) (Zx cC) (by omega))
     try dsimp only
     by_cases bP:k1>0
     ·rw[if_pos bP]
      have J3:=J2.kg C k1 (by omega) (fun i hi y x hy hx=>by
       rw[aS]at hx
       cases hx
       have:=dG i hi
       try dsimp only at this
       rw[hy]at this
       exact C.o.bR _ _ this)
      by_cases aE:(ib+1+k1==b.size)=true
      ·rw[if_pos aE]
       exact wpS_pure ⟨aq,.inl ⟨_,rfl,J3.done C (.inr (by have:=beq_iff_eq.mp aE;omega))⟩⟩
      rw[if_neg aE]
      have lV:¬(ib+1+k1=b.size):=fun z=>aE (beq_iff_eq.mpr z)
      obtain⟨x4,ar⟩:=Zd (xs:=a) (i:=ia+k) (by omega)
      refine wpS_bind (Zk ar ?_)
      have J4:=J3.cY C ar (fun y hy=>by
       have:=cO k1 (Nat.le_refl _) (by omega)
       try dsimp only at this
       rw[hy]at this
       have e:x4=x3:=by rw[aS]at ar;exact(Option.some.inj ar).symm
       rw[e]
       exact this)
      by_cases hz:(ia+k+1+1==a.size)=true
      ·rw[if_pos hz]
       exact wpS_pure ⟨aq,.inl ⟨_,rfl,J4.last C (by have:=beq_iff_eq.mp hz;omega) hl⟩⟩
      ·rw[if_neg hz]
       have bg:¬(ia+k+1+1=a.size):=fun z=>hz (beq_iff_eq.mpr z)
       by_cases h7:(decide (k<7)&&decide (k1<7))=true
       ·rw[if_pos h7]
        exact wpS_pure ⟨aq,.inr ⟨_,_,_,_,_,_,rfl,J4,by omega,by omega,by omega⟩⟩
       ·rw[if_neg h7]
        exact wpS_pure ⟨aq,_,_,_,_,_,_,rfl,J4,by omega,by omega,by omega⟩
     ·rw[if_neg bP]
      obtain rfl:k1=0:=by omega
      obtain⟨x4,ar⟩:=Zd (xs:=a) (i:=ia+k) (by omega)
      refine wpS_bind (Zk ar ?_)
      have J4:=J2.cY C ar (fun y hy=>by
       have:=cO 0 (Nat.le_refl _) (by omega)
       try dsimp only at this
       rw[Nat.add_zero,hy]at this
       have e:x4=x3:=by rw[aS]at ar;exact(Option.some.inj ar).symm
       rw[e]
       exact this)
      by_cases hz:(ia+k+1+1==a.size)=true
      ·rw[if_pos hz]
       exact wpS_pure ⟨aq,.inl ⟨_,rfl,J4.last C (by have:=beq_iff_eq.mp hz;omega) hl⟩⟩
      ·rw[if_neg hz]
       have bg:¬(ia+k+1+1=a.size):=fun z=>hz (beq_iff_eq.mpr z)
       by_cases h7:(decide (k<7)&&decide (0<7))=true
       ·rw[if_pos h7]
        exact wpS_pure ⟨aq,.inr ⟨_,_,_,_,_,_,rfl,J4,by omega,by omega,by omega⟩⟩
       ·rw[if_neg h7]
        exact wpS_pure ⟨aq,_,_,_,_,_,_,rfl,J4,by omega,by omega,by omega⟩
    ·rw[if_neg iO]
     obtain rfl:k=0:=by omega
     refine wpS_bind (Zk aY ?_)
     have J2:=J.fP C aY (fun x hx=>by
      have:=cO 0 (Nat.le_refl _) (by omega)
      try dsimp only at this
      rw[Nat.add_zero,hx,Bool.not_eq_false']at this
      exact C.o.bR _ _ this)
     by_cases hz:(ib+1==b.size)=true
     ·rw[if_pos hz]
      exact wpS_pure ⟨aq,.inl ⟨_,rfl,J2.done C (.inr (by have:=beq_iff_eq.mp hz;omega))⟩⟩
     rw[if_neg hz]
     have bg:¬(ib+1=b.size):=fun z=>hz (beq_iff_eq.mpr z)
     obtain⟨x3,aS⟩:=Zd (xs:=a) (i:=ia) (by omega)
     refine wpS_bind (Zk aS ?_)
     refine wpS_bind (ZH hc fH (fun i=>match b[ib+1+i]? with |some y=>r y x3 |none=>false) (fun i hi=> ?_) (ma x3 (Zv aS)) (fun i j cb hj hp=> ?_) (by omega) fun k1 lO dG cO=> ?_)
     ·obtain⟨y,hy⟩:=Zd (xs:=b) (i:=ib+1+i) (by omega)
      refine⟨y,hy,mb y (Zv hy),?_⟩
      try dsimp only
      rw[hy]
      rfl
     ·obtain⟨yj,cC⟩:=Zd (xs:=b) (i:=ib+1+j) (by omega)
      obtain⟨yi,cD⟩:=Zd (xs:=b) (i:=ib+1+i) (by omega)
      try dsimp only at hp ⊢
      rw[cC]at hp
      rw[cD]
      exact Jq C.o hp (Yd C.o C.sb (Zx cD) (Zx cC) (by omega))
     try dsimp only
     by_cases bP:k1>0
     ·rw[if_pos bP]
      have J3:=J2.kg C k1 (by omega) (fun i hi y x hy hx=>by
       rw[aS]at hx
       cases hx
       have:=dG i hi
       try dsimp only at this
       rw[hy]at this
       exact C.o.bR _ _ this)
      by_cases aE:(ib+1+k1==b.size)=true
      ·rw[if_pos aE]
       exact wpS_pure ⟨aq,.inl ⟨_,rfl,J3.done C (.inr (by have:=beq_iff_eq.mp aE;omega))⟩⟩
      rw[if_neg aE]
      have lV:¬(ib+1+k1=b.size):=fun z=>aE (beq_iff_eq.mpr z)
      obtain⟨x4,ar⟩:=Zd (xs:=a) (i:=ia) (by omega)
      refine wpS_bind (Zk ar ?_)
      have J4:=J3.cY C ar (fun y hy=>by
       have:=cO k1 (Nat.le_refl _) (by omega)
       try dsimp only at this
       rw[hy]at this
       have e:x4=x3:=by rw[aS]at ar;exact(Option.some.inj ar).symm
       rw[e]
       exact this)
      by_cases hz:(ia+1+1==a.size)=true
      ·rw[if_pos hz]
       exact wpS_pure ⟨aq,.inl ⟨_,rfl,J4.last C (by have:=beq_iff_eq.mp hz;omega) hl⟩⟩
      ·rw[if_neg hz]
       have bg:¬(ia+1+1=a.size):=fun z=>hz (beq_iff_eq.mpr z)
       by_cases h7:(decide (0<7)&&decide (k1<7))=true
       ·rw[if_pos h7]
        exact wpS_pure ⟨aq,.inr ⟨_,_,_,_,_,_,rfl,J4,by omega,by omega,by omega⟩⟩
       ·rw[if_neg h7]
        exact wpS_pure ⟨aq,_,_,_,_,_,_,rfl,J4,by omega,by omega,by omega⟩
     ·rw[if_neg bP]
      obtain rfl:k1=0:=by omega
      obtain⟨x4,ar⟩:=Zd (xs:=a) (i:=ia) (by omega)
      refine wpS_bind (Zk ar ?_)
      have J4:=J2.cY C ar (fun y hy=>by
       have:=cO 0 (Nat.le_refl _) (by omega)
       try dsimp only at this
       rw[Nat.add_zero,hy]at this
       have e:x4=x3:=by rw[aS]at ar;exact(Option.some.inj ar).symm
       rw[e]
       exact this)
      by_cases hz:(ia+1+1==a.size)=true
      ·rw[if_pos hz]
       exact wpS_pure ⟨aq,.inl ⟨_,rfl,J4.last C (by have:=beq_iff_eq.mp hz;omega) hl⟩⟩
      ·rw[if_neg hz]
       have bg:¬(ia+1+1=a.size):=fun z=>hz (beq_iff_eq.mpr z)
       by_cases h7:(decide (0<7)&&decide (0<7))=true
       ·rw[if_pos h7]
        exact wpS_pure ⟨aq,.inr ⟨_,_,_,_,_,_,rfl,J4,by omega,by omega,by omega⟩⟩
       ·rw[if_neg h7]
        exact wpS_pure ⟨aq,_,_,_,_,_,_,rfl,J4,by omega,by omega,by omega⟩
  ·rintro c ak ⟨gh,out,ia,ib,g,ac,bc,rfl,J,i1,i2,i4⟩
   rw[Nat.max_eq_right (Nat.zero_le _)]at i4
   omega
  rintro c ak ⟨gh,⟨res,ec,gd⟩ |⟨out,Bh,Bg,g,ac,bc,rfl,J2,k1,k2,k3⟩⟩
  ·rw[ec]
   exact wpS_pure ⟨gh,res,rfl,gd⟩
  dsimp only
  refine wpS_bind (Yy (wpS_pure ⟨gh,_,_,_,_,rfl,J2,k1,k2,by omega⟩))
end
def Kh:Array Keyed→Array Keyed→StateT SortSt Sem (Array Keyed):=sortPriv%PySem.Builtin.mergeHi
structure JH (r:Keyed→Keyed→Bool) (a b out:Array Keyed) (na nb:Nat):Prop where
 la:na≤a.size
 lb:nb≤b.size
 perm:((a.toList.take na++b.toList.take nb)++out.toList.reverse).Perm (a.toList++b.toList)
 jF:Pw r out.toList.reverse
 gF:∀y∈a.toList.take na++b.toList.take nb,∀x∈out.toList,r x y=false
theorem Us {α:Type}{l:List α}{i:Nat}{x:α}(h:l[i]? =some x):l.take (i+1)=l.take i++[x]:=by
 rw[List.take_add_one,h]
 rfl
theorem JX {r:Keyed→Keyed→Bool}{l:List Keyed}{i:Nat}{x:Keyed}(o:Ord r) (p:Pw r l) (h:l[i]? =some x):∀y∈l.take (i+1),r x y=false:=fun y hy=>by
 obtain⟨j,hj,e⟩:=List.getElem_of_mem hy
 rw[List.length_take]at hj
 rw[List.getElem_take]at e
 exact Yd (i:=j) o p (by rw[List.getElem?_eq_getElem (by omega),e]) h (by omega)
theorem uy (xs:Array Keyed) (j:Nat):(xs.extract 0 j).toList=xs.toList.take j:=by
 rw[JL,List.drop_zero,Nat.sub_zero]
section
variable {r:Keyed→Keyed→Bool}{a b out:Array Keyed}{na nb:Nat}
theorem JH.cY (C:fc r a b) (J:JH r a b out na nb) {x:Keyed}(h1:1≤na) (hx:a[na - 1]? =some x) (h:1≤nb→∀y,b[nb - 1]? =some y→r x y=false):JH r a b (out.push x) (na - 1) nb:=by
 have la:=J.la
 have lb:=J.lb
 have l6:=Zx hx
 have ht:=Us l6
 rw[Nat.sub_add_cancel h1]at ht
 have mx:x∈a.toList.take na:=by rw[ht];simp
 have low:∀y∈a.toList.take (na - 1)++b.toList.take nb,r x y=false:=fun y hy=>by
  rcases List.mem_append.mp hy with hy |hy
  ·exact JX C.o C.sa l6 y (by rw[Nat.sub_add_cancel h1,ht];exact List.mem_append_left _ hy)
  ·have n1:1≤nb:=by
    rcases Nat.eq_zero_or_pos nb with z |z
    ·rw[z]at hy;cases hy
    ·exact z
   obtain⟨z,e⟩:=Zd (xs:=b) (i:=nb - 1) (by omega)
   have:=JX C.o C.sb (Zx e) y (by rw[Nat.sub_add_cancel n1];exact hy)
   exact C.o.df y z x this (h n1 z e)
 refine⟨by omega,lb,?_,?_,fun y hy u hu=> ?_⟩
 ·rw[Array.toList_push,List.reverse_append]
  have P:=J.perm
  rw[ht]at P
  refine List.Perm.trans ?_ P
  show((a.toList.take (na - 1)++b.toList.take nb)++(x::out.toList.reverse)).Perm (((a.toList.take (na - 1)++[x])++b.toList.take nb)++out.toList.reverse)
  rw[List.append_assoc,List.append_assoc,List.append_assoc]
  refine List.Perm.append_left _ ?_
  show(b.toList.take nb++x::out.toList.reverse).Perm (x::(b.toList.take nb++out.toList.reverse))
  exact List.perm_middle
 ·rw[Array.toList_push,List.reverse_append]
  refine List.pairwise_cons.mpr ⟨fun u hu=> ?_,J.jF⟩
  exact J.gF x (List.mem_append_left _ mx) u (List.mem_reverse.mp hu)
 ·rw[Array.toList_push]at hu
  rcases List.mem_append.mp hu with hu |hu
  ·refine J.gF y ?_ u hu
   rcases List.mem_append.mp hy with hy |hy
   ·exact List.mem_append_left _ (by rw[ht];exact List.mem_append_left _ hy)
   ·exact List.mem_append_right _ hy
  ·rw[List.mem_singleton.mp hu]
   exact low y hy
theorem JH.fP (C:fc r a b) (J:JH r a b out na nb) {y:Keyed}(h1:1≤nb) (hy:b[nb - 1]? =some y) (h:1≤na→∀x,a[na - 1]? =some x→r y x=false):JH r a b (out.push y) na (nb - 1):=by
 have la:=J.la
 have lb:=J.lb
 have iI:=Zx hy
 have ht:=Us iI
 rw[Nat.sub_add_cancel h1]at ht
 have my:y∈b.toList.take nb:=by rw[ht];simp
 have low:∀z∈a.toList.take na++b.toList.take (nb - 1),r y z=false:=fun z hz=>by
  rcases List.mem_append.mp hz with hz |hz
  ·have n1:1≤na:=by
    rcases Nat.eq_zero_or_pos na with q |q
    ·rw[q]at hz;cases hz
    ·exact q
   obtain⟨x,e⟩:=Zd (xs:=a) (i:=na - 1) (by omega)
   have:=JX C.o C.sa (Zx e) z (by rw[Nat.sub_add_cancel n1];exact hz)
   exact C.o.df z x y this (h n1 x e)
  ·exact JX C.o C.sb iI z (by rw[Nat.sub_add_cancel h1,ht];exact List.mem_append_left _ hz)
 refine⟨la,by omega,?_,?_,fun z hz u hu=> ?_⟩
 ·rw[Array.toList_push,List.reverse_append]
  have P:=J.perm
  rw[ht]at P
  refine List.Perm.trans ?_ P
  show((a.toList.take na++b.toList.take (nb - 1))++(y::out.toList.reverse)).Perm ((a.toList.take na++(b.toList.take (nb - 1)++[y]))++out.toList.reverse)
  rw[List.append_assoc,List.append_assoc,List.append_assoc]
  exact .refl _
 ·rw[Array.toList_push,List.reverse_append]
  refine List.pairwise_cons.mpr ⟨fun u hu=> ?_,J.jF⟩
  exact J.gF y (List.mem_append_right _ my) u (List.mem_reverse.mp hu)
 ·rw[Array.toList_push]at hu
  rcases List.mem_append.mp hu with hu |hu
  ·refine J.gF z ?_ u hu
   rcases List.mem_append.mp hz with hz |hz
   ·exact List.mem_append_left _ hz
   ·exact List.mem_append_right _ (by rw[ht];exact List.mem_append_left _ hz)
  ·rw[List.mem_singleton.mp hu]
   exact low z hz
theorem DW {xs:Array Keyed}{i n:Nat}{x:Keyed}(hx:xs[i]? =some x) (h:i<n) (hn:n≤xs.size):(xs.extract i n).reverse=(xs.extract (i+1) n).reverse.push x:=by
 apply Array.toList_inj.mp
 rw[Array.toList_reverse,Array.toList_push,Array.toList_reverse,JL,JL,Y0 (Zx hx),show n - i=(n - (i+1))+1 by omega,List.take_succ_cons,List.reverse_cons]
theorem JH.nQ (C:fc r a b) (J:JH r a b out na nb):∀k,k≤na→(∀i,na - k≤i→i<na→∀x y,a[i]? =some x→b[nb - 1]? =some y→r x y=false)→JH r a b (out++(a.extract (na - k) na).reverse) (na - k) nb
 |0,_,_=>by
  have e:a.extract (na - 0) na= #[]:=by simp;omega
  rw[e]
  simpa using J
 |k+1,hk,h=>by
  have la:=J.la
  obtain⟨x,hx⟩:=Zd (xs:=a) (i:=na - (k+1)) (by omega)
  have ih:=JH.nQ C J k (by omega) fun i h1 h2=>h i (by omega) h2
  have e1:na - k - 1=na - (k+1):=by omega
  have:=ih.cY C (x:=x) (by omega) (by rw[e1];exact hx) fun _ y hy=>h (na - (k+1)) (Nat.le_refl _) (by omega) x y hx hy
  rw[e1]at this
  rw[DW hx (by omega) la,show na - (k+1)+1=na - k by omega,Array.append_push]
  exact this
theorem JH.kg (C:fc r a b) (J:JH r a b out na nb):∀k,k≤nb→(∀i,nb - k≤i→i<nb→∀y x,b[i]? =some y→a[na - 1]? =some x→r y x=false)→JH r a b (out++(b.extract (nb - k) nb).reverse) na (nb - k)
 |0,_,_=>by
  have e:b.extract (nb - 0) nb= #[]:=by simp;omega
  rw[e]
  simpa using J
 |k+1,hk,h=>by
  have lb:=J.lb
  obtain⟨y,hy⟩:=Zd (xs:=b) (i:=nb - (k+1)) (by omega)
  have ih:=JH.kg C J k (by omega) fun i h1 h2=>h i (by omega) h2
  have e1:nb - k - 1=nb - (k+1):=by omega
  have:=ih.fP C (y:=y) (by omega) (by rw[e1];exact hy) fun _ x hx=>h (nb - (k+1)) (Nat.le_refl _) (by omega) y x hy hx
  rw[e1]at this
  rw[DW hy (by omega) lb,show nb - (k+1)+1=nb - k by omega,Array.append_push]
  exact this
theorem JH.Ar (C:fc r a b) (J:JH r a b out na nb) {m:Nat}(hm:m≤na) (h:∀i,m≤i→i<na→∀x y,a[i]? =some x→b[nb - 1]? =some y→r x y=false):JH r a b (out++(a.extract m na).reverse) m nb:=by
 have:=J.nQ C (na - m) (by omega) (fun i h1 h2=>h i (by omega) h2)
 rw[show na - (na - m)=m by omega]at this
 exact this
theorem JH.sy (C:fc r a b) (J:JH r a b out na nb) {m:Nat}(hm:m≤nb) (h:∀i,m≤i→i<nb→∀y x,b[i]? =some y→a[na - 1]? =some x→r y x=false):JH r a b (out++(b.extract m nb).reverse) na m:=by
 have:=J.kg C (nb - m) (by omega) (fun i h1 h2=>h i (by omega) h2)
 rw[show nb - (nb - m)=m by omega]at this
 exact this
theorem JH.done (C:fc r a b) (J:JH r a b out na nb) (h:na=0∨nb=0):Good r a b (a.extract 0 na++b.extract 0 nb++out.reverse):=by
 unfold Good
 rw[Array.toList_append,Array.toList_append,uy,uy,Array.toList_reverse]
 refine⟨J.perm,?_⟩
 have pa:Pw r (a.toList.take na):=List.Pairwise.sublist (List.take_sublist _ _) C.sa
 have pb:Pw r (b.toList.take nb):=List.Pairwise.sublist (List.take_sublist _ _) C.sb
 refine List.pairwise_append.mpr ⟨?_,J.jF,fun y hy x hx=>J.gF y hy x (List.mem_reverse.mp hx)⟩
 rcases h with h |h
 ·rw[h,List.take_zero,List.nil_append]
  exact pb
 ·rw[h,List.take_zero,List.append_nil]
  exact pa
theorem JH.first (C:fc r a b) (J:JH r a b out na nb) (h:nb=1) (h0:∀y,b[0]? =some y→∀x∈a.toList,r x y=false):Good r a b (b.extract 0 nb++a.extract 0 na++out.reverse):=by
 have lb:=J.lb
 subst h
 unfold Good
 obtain⟨y,hy⟩:=Zd (xs:=b) (i:=0) (by omega)
 have et:b.toList.take 1=[y]:=by rw[show(1:Nat)=0+1 from rfl,Us (Zx hy)];rfl
 rw[Array.toList_append,Array.toList_append,uy,uy,Array.toList_reverse,et]
 have P:=J.perm
 have B:=J.gF
 rw[et]at P B
 have pa:Pw r (a.toList.take na):=List.Pairwise.sublist (List.take_sublist _ _) C.sa
 refine⟨List.Perm.trans (List.Perm.append_right _ List.perm_append_comm) P,?_⟩
 refine List.pairwise_append.mpr ⟨?_,J.jF,fun z hz x hx=>B z ?_ x (List.mem_reverse.mp hx)⟩
 ·refine List.pairwise_cons.mpr ⟨fun z hz=>h0 y hy z (List.mem_of_mem_take hz),pa⟩
 ·rcases List.mem_append.mp hz with hz |hz
  ·exact List.mem_append_right _ hz
  ·exact List.mem_append_left _ hz
end
section
variable {prog:Program}{w:World}{A:Around}{E:Value→Shared→Prop}{s:Shared}{κ:SortKind}{a₀:Array Keyed}{r:Keyed→Keyed→Bool}
theorem UR {a b:Array Keyed}{Q:Array Keyed→SortSt→Prop}{st:SortSt}(hc:iZ prog w A E s κ a₀ r) (hk:kindOf st=κ) (C:fc r a b) (ma:∀x∈a.toList,x∈a₀.toList) (mb:∀x∈b.toList,x∈a₀.toList) (IQ:1≤a.size) (Vp:1≤b.size)
  (h0:∀y,b[0]? =some y→∀x∈a.toList,r x y=false) (hl:∀x,a[a.size - 1]? =some x→∀y∈b.toList,r x y=false)
  (h:∀res aa,SG st aa→Good r a b res→Q res aa):wpS (model prog w) A E s (Kh a b) Q st:=by
 show wpS (model prog w) A E s (_ >>=_) _ _
 dsimp only
 refine wpS_bind (wpS_lift (wpAny_rule ⟨rfl,?_⟩))
 obtain⟨x0,lZ⟩:=Zd (xs:=a) (i:=a.size - 1) (by omega)
 refine wpS_bind (Zk lZ ?_)
 have J0:JH r a b #[x0] (a.size - 1) b.size:=by
  have e:JH r a b #[] a.size b.size:=⟨Nat.le_refl _,Nat.le_refl _,by simp[←Array.length_toList],.nil,fun y hy x hx=>by cases hx⟩
  exact e.cY C IQ lZ fun _ y hy=>hl x0 lZ y (Zv hy)
 by_cases bA:(a.size - 1==0)=true
 ·rw[if_pos bA]
  exact wpS_pure (h _ _ (SG.refl _) (J0.done C (.inl (beq_iff_eq.mp bA))))
 rw[if_neg bA]
 by_cases bN:(b.size==1)=true
 ·rw[if_pos bN]
  exact wpS_pure (h _ _ (SG.refl _) (J0.first C (beq_iff_eq.mp bN) h0))
 rw[if_neg bN]
 have og:¬(a.size - 1=0):=fun z=>bA (beq_iff_eq.mpr z)
 have td:¬(b.size=1):=fun z=>bN (beq_iff_eq.mpr z)
 refine wpS_bind (wpS_get ?_)
 refine wpS_bind (wpS_mono (wpS_forRange (I:=fun x c av=>SG st av∧∃na nb out g,c=(none,na,nb,out,g)∧JH r a b out na nb∧1≤na∧2≤nb∧na+nb+x+1≤a.size+b.size) (Q:=fun c av=>SG st av∧∃res,c.fst=some res∧Good r a b res) ?step ?fin ⟨SG.refl _,_,_,_,_,rfl,J0,by omega,by omega,by omega⟩) ?post)
 case post=>
  rintro c av ⟨iA,res,ec,gd⟩
  rw[ec]
  exact wpS_pure (h res av iA gd)
 case fin=>
  rintro c av ⟨_,na,nb,out,g,_,_,i1,i2,i3⟩
  rw[Nat.max_eq_right (Nat.zero_le _)]at i3
  omega
 case step=>
  rintro x c av _ hx ⟨iA,na,nb,out,g,rfl,J,i1,i2,i3⟩
  dsimp only
  have bP:kindOf av=κ:=by rw[iA.1];exact hk
  refine wpS_bind (wpS_mono (wpS_forRange (I:=fun y c ak=>ak=av∧∃eQ eP eO ac bc,c=(none,eQ,eP,eO,ac,bc)∧JH r a b eO eQ eP∧1≤eQ∧2≤eP∧eQ+eP+y≤na+nb)
   (Q:=fun c ak=>ak=av∧((∃res,c.fst=some res∧Good r a b res)∨∃eQ eP eO ac bc,c=(none,eQ,eP,eO,ac,bc)∧JH r a b eO eQ eP∧1≤eQ∧2≤eP∧eQ+eP+1≤na+nb)) ?_ ?_ ⟨rfl,_,_,_,_,_,rfl,J,i1,i2,by omega⟩) ?_)
  ·rintro y c ak _ hy ⟨rfl,eQ,eP,eO,ac,bc,rfl,J',j1,j2,j3⟩
   dsimp only
   have la:=J'.la
   have lb:=J'.lb
   obtain⟨yb,iH⟩:=Zd (xs:=b) (i:=eP - 1) (by omega)
   obtain⟨xa,iJ⟩:=Zd (xs:=a) (i:=eQ - 1) (by omega)
   refine wpS_bind (Zk iH (wpS_bind (Zk iJ (wpS_bind (hc _ _ _ _ (mb _ (Zv iH)) (ma _ (Zv iJ)) bP ?_)))))
   dsimp only
   cases hr:r yb xa with
   |true=>
    rw[if_pos rfl]
    refine wpS_bind (Zk iJ ?_)
    have J2:=J'.cY C j1 iJ (fun _ y hy=>by rw[iH]at hy;cases hy;exact C.o.bR _ _ hr)
    by_cases hz:(eQ - 1==0)=true
    ·rw[if_pos hz]
     exact wpS_pure ⟨rfl,.inl ⟨_,rfl,J2.done C (.inl (beq_iff_eq.mp hz))⟩⟩
    rw[if_neg hz]
    have bg:¬(eQ - 1=0):=fun z=>hz (beq_iff_eq.mpr z)
    by_cases hg:ac+1≥g
    ·rw[if_pos hg]
     exact wpS_pure ⟨rfl,.inr ⟨_,_,_,_,_,rfl,J2,by omega,by omega,by omega⟩⟩
    ·rw[if_neg hg]
     exact wpS_pure ⟨rfl,_,_,_,_,_,rfl,J2,by omega,by omega,by omega⟩
   |false=>
    rw[if_neg Bool.false_ne_true]
    refine wpS_bind (Zk iH ?_)
    have J2:=J'.fP C (by omega) iH (fun _ x hx=>by rw[iJ]at hx;cases hx;exact hr)
    by_cases hz:(eP - 1==1)=true
    ·rw[if_pos hz]
     exact wpS_pure ⟨rfl,.inl ⟨_,rfl,J2.first C (beq_iff_eq.mp hz) h0⟩⟩
    rw[if_neg hz]
    have bg:¬(eP - 1=1):=fun z=>hz (beq_iff_eq.mpr z)
    by_cases hg:bc+1≥g
    ·rw[if_pos hg]
     exact wpS_pure ⟨rfl,.inr ⟨_,_,_,_,_,rfl,J2,by omega,by omega,by omega⟩⟩
    ·rw[if_neg hg]
     exact wpS_pure ⟨rfl,_,_,_,_,_,rfl,J2,by omega,by omega,by omega⟩
  ·rintro c ak ⟨rfl,eQ,eP,eO,ac,bc,rfl,J',j1,j2,j3⟩
   rw[Nat.max_eq_right (Nat.zero_le _)]at j3
   have la:=J.la
   have lb:=J.lb
   omega
  rintro c ak ⟨rfl,⟨res,ec,gd⟩ |⟨eQ,eP,eO,ac,bc,rfl,J',j1,j2,j3⟩⟩
  ·rw[ec]
   exact wpS_pure ⟨iA,res,rfl,gd⟩
  dsimp only
  refine wpS_bind (wpS_lift (wpAny_rule ⟨rfl,?_⟩))
  refine wpS_bind (wpS_mono (wpS_forRange (I:=fun y c ak=>SG st ak∧∃na nb out g ac bc,c=(none,na,nb,out,g,ac,bc)∧JH r a b out na nb∧1≤na∧2≤nb∧na+nb+y≤eQ+eP)
   (Q:=fun c ak=>SG st ak∧((∃res,c.fst=some res∧Good r a b res)∨∃na nb out g ac bc,c=(none,na,nb,out,g,ac,bc)∧JH r a b out na nb∧1≤na∧2≤nb∧na+nb≤eQ+eP)) ?_ ?_ ⟨iA,_,_,_,_,_,_,rfl,J',j1,j2,by omega⟩) ?_)
  ·clear J i1 i2 bP
   rintro y c ak _ hy ⟨gh,pT,A1,out,g,ac,bc,rfl,J,i1,i2,i4⟩
   dsimp only
   revert J i1 i2 i4
   clear j3 i3
   generalize pT=na
   generalize A1=nb
   intro J i1 i2 i4
   have la:=J.la
   have lb:=J.lb
   by_cases oz:g>1
   ·rw[if_pos oz]
    refine wpS_bind (Yy ?_)
    generalize mq:SortSt.mk' _ _ _ _ _=aO
    have aq:SG st aO:=by rw[←mq];exact gh
    have fH:kindOf aO=κ:=by rw[aq.1];exact hk
    obtain⟨y2,aY⟩:=Zd (xs:=b) (i:=nb - 1) (by omega)
    refine wpS_bind (Zk aY ?_)
    refine wpS_bind (ZH hc fH (fun i=>match a[0+i]? with |some x=> !r y2 x |none=>false) (fun i hi=> ?_) (mb y2 (Zv aY)) (fun i j cb hj hp=> ?_) (by omega) fun at_ kn dG cO=> ?_)
    ·obtain⟨x,hx⟩:=Zd (xs:=a) (i:=0+i) (by omega)
     refine⟨x,hx,ma x (Zv hx),?_⟩
     try dsimp only
     rw[hx]
     rfl
    ·obtain⟨xj,fS⟩:=Zd (xs:=a) (i:=0+j) (by omega)
     obtain⟨xi,fT⟩:=Zd (xs:=a) (i:=0+i) (by omega)
     try dsimp only at hp ⊢
     rw[fS]at hp
     rw[fT]
     rw[Bool.not_eq_true']at hp ⊢
     exact C.o.df _ _ _ (Yd C.o C.sa (Zx fT) (Zx fS) (by omega)) hp
    try dsimp only
    by_cases iO:na - at_>0
    ·rw[if_pos iO]
     have J1:=J.Ar C (m:=at_) (by omega) (fun i iP gw x y hx hy=>by
      rw[aY]at hy
      cases hy
      have:=cO i iP gw
      try dsimp only at this
      rw[Nat.zero_add,hx,Bool.not_eq_false']at this
      exact C.o.bR _ _ this)
     by_cases bA:(at_==0)=true
     ·rw[if_pos bA]
      exact wpS_pure ⟨aq,.inl ⟨_,rfl,J1.done C (.inl (beq_iff_eq.mp bA))⟩⟩
     rw[if_neg bA]
     have og:¬(at_=0):=fun z=>bA (beq_iff_eq.mpr z)
     refine wpS_bind (Zk aY ?_)
     have J2:=J1.fP C (by omega) aY (fun _ x hx=>by
      have:=dG (at_ - 1) (by omega)
      try dsimp only at this
      rw[Nat.zero_add,hx,Bool.not_eq_true']at this
      exact this)
     by_cases hz:(nb - 1==1)=true
     ·rw[if_pos hz]
      exact wpS_pure ⟨aq,.inl ⟨_,rfl,J2.first C (beq_iff_eq.mp hz) h0⟩⟩
     rw[if_neg hz]
     have bg:¬(nb - 1=1):=fun z=>hz (beq_iff_eq.mpr z)
     obtain⟨x3,aS⟩:=Zd (xs:=a) (i:=at_ - 1) (by omega)
     refine wpS_bind (Zk aS ?_)
     refine wpS_bind (ZH hc fH (fun i=>match b[0+i]? with |some y=>r y x3 |none=>false) (fun i hi=> ?_) (ma x3 (Zv aS)) (fun i j cb hj hp=> ?_) (by omega) fun k1 lO iG lN=> ?_)
     ·obtain⟨y,hy⟩:=Zd (xs:=b) (i:=0+i) (by omega)
      refine⟨y,hy,mb y (Zv hy),?_⟩
      try dsimp only
      rw[hy]
      rfl
     ·obtain⟨yj,cC⟩:=Zd (xs:=b) (i:=0+j) (by omega)
      obtain⟨yi,cD⟩:=Zd (xs:=b) (i:=0+i) (by omega)
      try dsimp only at hp ⊢
      rw[cC]at hp
      rw[cD]
      exact Jq C.o hp (Yd C.o C.sb (Zx cD) (Zx cC) (by omega))
     try dsimp only
     by_cases bP:nb - 1 - k1>0
     ·rw[if_pos bP]
      have J3:=J2.sy C (m:=k1) (by omega) (fun i iP gw y x hy hx=>by
       rw[aS]at hx
       cases hx
       have:=lN i iP gw
       try dsimp only at this
       rw[Nat.zero_add,hy]at this
       exact this)
      by_cases aE:(k1==1)=true
      ·rw[if_pos aE]
       exact wpS_pure ⟨aq,.inl ⟨_,rfl,J3.first C (beq_iff_eq.mp aE) h0⟩⟩
      rw[if_neg aE]
      by_cases dH:(k1==0)=true
      ·rw[if_pos dH]
       exact wpS_pure ⟨aq,.inl ⟨_,rfl,J3.done C (.inr (beq_iff_eq.mp dH))⟩⟩
      rw[if_neg dH]
      have lV:¬(k1=1):=fun z=>aE (beq_iff_eq.mpr z)
      have wH:¬(k1=0):=fun z=>dH (beq_iff_eq.mpr z)
      obtain⟨x4,ar⟩:=Zd (xs:=a) (i:=at_ - 1) (by omega)
      refine wpS_bind (Zk ar ?_)
      have J4:=J3.cY C (by omega) ar (fun _ y hy=>by
       have:=iG (k1 - 1) (by omega)
       try dsimp only at this
       rw[Nat.zero_add,hy]at this
       have e:x4=x3:=by rw[aS]at ar;exact(Option.some.inj ar).symm
       rw[e]
       exact C.o.bR _ _ this)
      by_cases hz:(at_ - 1==0)=true
      ·rw[if_pos hz]
       exact wpS_pure ⟨aq,.inl ⟨_,rfl,J4.done C (.inl (by have:=beq_iff_eq.mp hz;omega))⟩⟩
      ·rw[if_neg hz]
       have bg:¬(at_ - 1=0):=fun z=>hz (beq_iff_eq.mpr z)
       by_cases h7:(decide (na - at_<7)&&decide (nb - 1 - k1<7))=true
       ·rw[if_pos h7]
        exact wpS_pure ⟨aq,.inr ⟨_,_,_,_,_,_,rfl,J4,by omega,by omega,by omega⟩⟩
       ·rw[if_neg h7]
        exact wpS_pure ⟨aq,_,_,_,_,_,_,rfl,J4,by omega,by omega,by omega⟩
     ·rw[if_neg bP]
      obtain rfl:k1=nb - 1:=by omega
      obtain⟨x4,ar⟩:=Zd (xs:=a) (i:=at_ - 1) (by omega)
      refine wpS_bind (Zk ar ?_)
      have J4:=J2.cY C (by omega) ar (fun _ y hy=>by
       have:=iG (nb - 1 - 1) (by omega)
       try dsimp only at this
       rw[Nat.zero_add,hy]at this
       have e:x4=x3:=by rw[aS]at ar;exact(Option.some.inj ar).symm
       rw[e]
       exact C.o.bR _ _ this)
      by_cases hz:(at_ - 1==0)=true
      ·rw[if_pos hz]
       exact wpS_pure ⟨aq,.inl ⟨_,rfl,J4.done C (.inl (by have:=beq_iff_eq.mp hz;omega))⟩⟩
      ·rw[if_neg hz]
       have bg:¬(at_ - 1=0):=fun z=>hz (beq_iff_eq.mpr z)
       by_cases h7:(decide (na - at_<7)&&decide (nb - 1 - (nb - 1)<7))=true
       ·rw[if_pos h7]
        exact wpS_pure ⟨aq,.inr ⟨_,_,_,_,_,_,rfl,J4,by omega,by omega,by omega⟩⟩
       ·rw[if_neg h7]
        exact wpS_pure ⟨aq,_,_,_,_,_,_,rfl,J4,by omega,by omega,by omega⟩
    ·rw[if_neg iO]
     obtain rfl:at_=na:=by omega
     refine wpS_bind (Zk aY ?_)
     have J2:=J.fP C (by omega) aY (fun _ x hx=>by
      have:=dG (at_ - 1) (by omega)
      try dsimp only at this
      rw[Nat.zero_add,hx,Bool.not_eq_true']at this
      exact this)
     by_cases hz:(nb - 1==1)=true
     ·rw[if_pos hz]
      exact wpS_pure ⟨aq,.inl ⟨_,rfl,J2.first C (beq_iff_eq.mp hz) h0⟩⟩
     rw[if_neg hz]
     have bg:¬(nb - 1=1):=fun z=>hz (beq_iff_eq.mpr z)
     obtain⟨x3,aS⟩:=Zd (xs:=a) (i:=at_ - 1) (by omega)
     refine wpS_bind (Zk aS ?_)
     refine wpS_bind (ZH hc fH (fun i=>match b[0+i]? with |some y=>r y x3 |none=>false) (fun i hi=> ?_) (ma x3 (Zv aS)) (fun i j cb hj hp=> ?_) (by omega) fun k1 lO iG lN=> ?_)
     ·obtain⟨y,hy⟩:=Zd (xs:=b) (i:=0+i) (by omega)
      refine⟨y,hy,mb y (Zv hy),?_⟩
      try dsimp only
      rw[hy]
      rfl
     ·obtain⟨yj,cC⟩:=Zd (xs:=b) (i:=0+j) (by omega)
      obtain⟨yi,cD⟩:=Zd (xs:=b) (i:=0+i) (by omega)
      try dsimp only at hp ⊢
      rw[cC]at hp
      rw[cD]
      exact Jq C.o hp (Yd C.o C.sb (Zx cD) (Zx cC) (by omega))
     try dsimp only
     by_cases bP:nb - 1 - k1>0
     ·rw[if_pos bP]
      have J3:=J2.sy C (m:=k1) (by omega) (fun i iP gw y x hy hx=>by
       rw[aS]at hx
       cases hx
       have:=lN i iP gw
       try dsimp only at this
       rw[Nat.zero_add,hy]at this
       exact this)
      by_cases aE:(k1==1)=true
      ·rw[if_pos aE]
       exact wpS_pure ⟨aq,.inl ⟨_,rfl,J3.first C (beq_iff_eq.mp aE) h0⟩⟩
      rw[if_neg aE]
      by_cases dH:(k1==0)=true
      ·rw[if_pos dH]
       exact wpS_pure ⟨aq,.inl ⟨_,rfl,J3.done C (.inr (beq_iff_eq.mp dH))⟩⟩
      rw[if_neg dH]
      have lV:¬(k1=1):=fun z=>aE (beq_iff_eq.mpr z)
      have wH:¬(k1=0):=fun z=>dH (beq_iff_eq.mpr z)
      obtain⟨x4,ar⟩:=Zd (xs:=a) (i:=at_ - 1) (by omega)
      refine wpS_bind (Zk ar ?_)
      have J4:=J3.cY C (by omega) ar (fun _ y hy=>by
       have:=iG (k1 - 1) (by omega)
       try dsimp only at this
       rw[Nat.zero_add,hy]at this
       have e:x4=x3:=by rw[aS]at ar;exact(Option.some.inj ar).symm
       rw[e]
       exact C.o.bR _ _ this)
      by_cases hz:(at_ - 1==0)=true
      ·rw[if_pos hz]
       exact wpS_pure ⟨aq,.inl ⟨_,rfl,J4.done C (.inl (by have:=beq_iff_eq.mp hz;omega))⟩⟩
      ·rw[if_neg hz]
       have bg:¬(at_ - 1=0):=fun z=>hz (beq_iff_eq.mpr z)
       by_cases h7:(decide (at_ - at_<7)&&decide (nb - 1 - k1<7))=true
       ·rw[if_pos h7]
        exact wpS_pure ⟨aq,.inr ⟨_,_,_,_,_,_,rfl,J4,by omega,by omega,by omega⟩⟩
       ·rw[if_neg h7]
        exact wpS_pure ⟨aq,_,_,_,_,_,_,rfl,J4,by omega,by omega,by omega⟩
     ·rw[if_neg bP]
      obtain rfl:k1=nb - 1:=by omega
      obtain⟨x4,ar⟩:=Zd (xs:=a) (i:=at_ - 1) (by omega)
      refine wpS_bind (Zk ar ?_)
      have J4:=J2.cY C (by omega) ar (fun _ y hy=>by
       have:=iG (nb - 1 - 1) (by omega)
       try dsimp only at this
       rw[Nat.zero_add,hy]at this
       have e:x4=x3:=by rw[aS]at ar;exact(Option.some.inj ar).symm
       rw[e]
       exact C.o.bR _ _ this)
      by_cases hz:(at_ - 1==0)=true
      ·rw[if_pos hz]
       exact wpS_pure ⟨aq,.inl ⟨_,rfl,J4.done C (.inl (by have:=beq_iff_eq.mp hz;omega))⟩⟩
      ·rw[if_neg hz]
       have bg:¬(at_ - 1=0):=fun z=>hz (beq_iff_eq.mpr z)
       by_cases h7:(decide (at_ - at_<7)&&decide (nb - 1 - (nb - 1)<7))=true
       ·rw[if_pos h7]
        exact wpS_pure ⟨aq,.inr ⟨_,_,_,_,_,_,rfl,J4,by omega,by omega,by omega⟩⟩
       ·rw[if_neg h7]
        exact wpS_pure ⟨aq,_,_,_,_,_,_,rfl,J4,by omega,by omega,by omega⟩
   ·rw[if_neg oz]
    refine wpS_bind (Yy ?_)
    generalize mq:SortSt.mk' _ _ _ _ _=aO
    have aq:SG st aO:=by rw[←mq];exact gh
    have fH:kindOf aO=κ:=by rw[aq.1];exact hk
    obtain⟨y2,aY⟩:=Zd (xs:=b) (i:=nb - 1) (by omega)
    refine wpS_bind (Zk aY ?_)
    refine wpS_bind (ZH hc fH (fun i=>match a[0+i]? with |some x=> !r y2 x |none=>false) (fun i hi=> ?_) (mb y2 (Zv aY)) (fun i j cb hj hp=> ?_) (by omega) fun at_ kn dG cO=> ?_)
    ·obtain⟨x,hx⟩:=Zd (xs:=a) (i:=0+i) (by omega)
     refine⟨x,hx,ma x (Zv hx),?_⟩
     try dsimp only
     rw[hx]
     rfl
    ·obtain⟨xj,fS⟩:=Zd (xs:=a) (i:=0+j) (by omega)
     obtain⟨xi,fT⟩:=Zd (xs:=a) (i:=0+i) (by omega)
     try dsimp only at hp ⊢
     rw[fS]at hp
     rw[fT]
     rw[Bool.not_eq_true']at hp ⊢
     exact C.o.df _ _ _ (Yd C.o C.sa (Zx fT) (Zx fS) (by omega)) hp
    try dsimp only
    by_cases iO:na - at_>0
    ·rw[if_pos iO]
     have J1:=J.Ar C (m:=at_) (by omega) (fun i iP gw x y hx hy=>by
      rw[aY]at hy
      cases hy
      have:=cO i iP gw
      try dsimp only at this
      rw[Nat.zero_add,hx,Bool.not_eq_false']at this
      exact C.o.bR _ _ this)
     by_cases bA:(at_==0)=true
     ·rw[if_pos bA]
      exact wpS_pure ⟨aq,.inl ⟨_,rfl,J1.done C (.inl (beq_iff_eq.mp bA))⟩⟩
     rw[if_neg bA]
     have og:¬(at_=0):=fun z=>bA (beq_iff_eq.mpr z)
     refine wpS_bind (Zk aY ?_)
     have J2:=J1.fP C (by omega) aY (fun _ x hx=>by
      have:=dG (at_ - 1) (by omega)
      try dsimp only at this
      rw[Nat.zero_add,hx,Bool.not_eq_true']at this
      exact this)
     by_cases hz:(nb - 1==1)=true
     ·rw[if_pos hz]
      exact wpS_pure ⟨aq,.inl ⟨_,rfl,J2.first C (beq_iff_eq.mp hz) h0⟩⟩
     rw[if_neg hz]
     have bg:¬(nb - 1=1):=fun z=>hz (beq_iff_eq.mpr z)
     obtain⟨x3,aS⟩:=Zd (xs:=a) (i:=at_ - 1) (by omega)
     refine wpS_bind (Zk aS ?_)
     refine wpS_bind (ZH hc fH (fun i=>match b[0+i]? with |some y=>r y x3 |none=>false) (fun i hi=> ?_) (ma x3 (Zv aS)) (fun i j cb hj hp=> ?_) (by omega) fun k1 lO iG lN=> ?_)
     ·obtain⟨y,hy⟩:=Zd (xs:=b) (i:=0+i) (by omega)
      refine⟨y,hy,mb y (Zv hy),?_⟩
      try dsimp only
      rw[hy]
      rfl
     ·obtain⟨yj,cC⟩:=Zd (xs:=b) (i:=0+j) (by omega)
      obtain⟨yi,cD⟩:=Zd (xs:=b) (i:=0+i) (by omega)
      try dsimp only at hp ⊢
      rw[cC]at hp
      rw[cD]
      exact Jq C.o hp (Yd C.o C.sb (Zx cD) (Zx cC) (by omega))
     try dsimp only
     by_cases bP:nb - 1 - k1>0
     ·rw[if_pos bP]
      have J3:=J2.sy C (m:=k1) (by omega) (fun i iP gw y x hy hx=>by
       rw[aS]at hx
       cases hx
       have:=lN i iP gw
       try dsimp only at this
       rw[Nat.zero_add,hy]at this
       exact this)
      by_cases aE:(k1==1)=true
      ·rw[if_pos aE]
       exact wpS_pure ⟨aq,.inl ⟨_,rfl,J3.first C (beq_iff_eq.mp aE) h0⟩⟩
      rw[if_neg aE]
      by_cases dH:(k1==0)=true
      ·rw[if_pos dH]
       exact wpS_pure ⟨aq,.inl ⟨_,rfl,J3.done C (.inr (beq_iff_eq.mp dH))⟩⟩
      rw[if_neg dH]
      have lV:¬(k1=1):=fun z=>aE (beq_iff_eq.mpr z)
      have wH:¬(k1=0):=fun z=>dH (beq_iff_eq.mpr z)
      obtain⟨x4,ar⟩:=Zd (xs:=a) (i:=at_ - 1) (by omega)
      refine wpS_bind (Zk ar ?_)
      have J4:=J3.cY C (by omega) ar (fun _ y hy=>by
       have:=iG (k1 - 1) (by omega)
       try dsimp only at this
       rw[Nat.zero_add,hy]at this
       have e:x4=x3:=by rw[aS]at ar;exact(Option.some.inj ar).symm
       rw[e]
       exact C.o.bR _ _ this)
      by_cases hz:(at_ - 1==0)=true
      ·rw[if_pos hz]
       exact wpS_pure ⟨aq,.inl ⟨_,rfl,J4.done C (.inl (by have:=beq_iff_eq.mp hz;omega))⟩⟩
      ·rw[if_neg hz]
       have bg:¬(at_ - 1=0):=fun z=>hz (beq_iff_eq.mpr z)
       by_cases h7:(decide (na - at_<7)&&decide (nb - 1 - k1<7))=true
       ·rw[if_pos h7]
        exact wpS_pure ⟨aq,.inr ⟨_,_,_,_,_,_,rfl,J4,by omega,by omega,by omega⟩⟩
       ·rw[if_neg h7]
        exact wpS_pure ⟨aq,_,_,_,_,_,_,rfl,J4,by omega,by omega,by omega⟩
     ·rw[if_neg bP]
      obtain rfl:k1=nb - 1:=by omega
      obtain⟨x4,ar⟩:=Zd (xs:=a) (i:=at_ - 1) (by omega)
      refine wpS_bind (Zk ar ?_)
      have J4:=J2.cY C (by omega) ar (fun _ y hy=>by
       have:=iG (nb - 1 - 1) (by omega)
       try dsimp only at this
       rw[Nat.zero_add,hy]at this
       have e:x4=x3:=by rw[aS]at ar;exact(Option.some.inj ar).symm
       rw[e]
       exact C.o.bR _ _ this)
      by_cases hz:(at_ - 1==0)=true
      ·rw[if_pos hz]
       exact wpS_pure ⟨aq,.inl ⟨_,rfl,J4.done C (.inl (by have:=beq_iff_eq.mp hz;omega))⟩⟩
      ·rw[if_neg hz]
       have bg:¬(at_ - 1=0):=fun z=>hz (beq_iff_eq.mpr z)
       by_cases h7:(decide (na - at_<7)&&decide (nb - 1 - (nb - 1)<7))=true
       ·rw[if_pos h7]
        exact wpS_pure ⟨aq,.inr ⟨_,_,_,_,_,_,rfl,J4,by omega,by omega,by omega⟩⟩
       ·rw[if_neg h7]
        exact wpS_pure ⟨aq,_,_,_,_,_,_,rfl,J4,by omega,by omega,by omega⟩
    ·rw[if_neg iO]
     obtain rfl:at_=na:=by omega
     refine wpS_bind (Zk aY ?_)
     have J2:=J.fP C (by omega) aY (fun _ x hx=>by
      have:=dG (at_ - 1) (by omega)
      try dsimp only at this
      rw[Nat.zero_add,hx,Bool.not_eq_true']at this
      exact this)
     by_cases hz:(nb - 1==1)=true
     ·rw[if_pos hz]
      exact wpS_pure ⟨aq,.inl ⟨_,rfl,J2.first C (beq_iff_eq.mp hz) h0⟩⟩
     rw[if_neg hz]
     have bg:¬(nb - 1=1):=fun z=>hz (beq_iff_eq.mpr z)
     obtain⟨x3,aS⟩:=Zd (xs:=a) (i:=at_ - 1) (by omega)
     refine wpS_bind (Zk aS ?_)
     refine wpS_bind (ZH hc fH (fun i=>match b[0+i]? with |some y=>r y x3 |none=>false) (fun i hi=> ?_) (ma x3 (Zv aS)) (fun i j cb hj hp=> ?_) (by omega) fun k1 lO iG lN=> ?_)
     ·obtain⟨y,hy⟩:=Zd (xs:=b) (i:=0+i) (by omega)
      refine⟨y,hy,mb y (Zv hy),?_⟩
      try dsimp only
      rw[hy]
      rfl
     ·obtain⟨yj,cC⟩:=Zd (xs:=b) (i:=0+j) (by omega)
      obtain⟨yi,cD⟩:=Zd (xs:=b) (i:=0+i) (by omega)
      try dsimp only at hp ⊢
      rw[cC]at hp
      rw[cD]
      exact Jq C.o hp (Yd C.o C.sb (Zx cD) (Zx cC) (by omega))
     try dsimp only
     by_cases bP:nb - 1 - k1>0
     ·rw[if_pos bP]
      have J3:=J2.sy C (m:=k1) (by omega) (fun i iP gw y x hy hx=>by
       rw[aS]at hx
       cases hx
       have:=lN i iP gw
       try dsimp only at this
       rw[Nat.zero_add,hy]at this
       exact this)
      by_cases aE:(k1==1)=true
      ·rw[if_pos aE]
       exact wpS_pure ⟨aq,.inl ⟨_,rfl,J3.first C (beq_iff_eq.mp aE) h0⟩⟩
      rw[if_neg aE]
      by_cases dH:(k1==0)=true
      ·rw[if_pos dH]
       exact wpS_pure ⟨aq,.inl ⟨_,rfl,J3.done C (.inr (beq_iff_eq.mp dH))⟩⟩
      rw[if_neg dH]
      have lV:¬(k1=1):=fun z=>aE (beq_iff_eq.mpr z)
      have wH:¬(k1=0):=fun z=>dH (beq_iff_eq.mpr z)
      obtain⟨x4,ar⟩:=Zd (xs:=a) (i:=at_ - 1) (by omega)
      refine wpS_bind (Zk ar ?_)
      have J4:=J3.cY C (by omega) ar (fun _ y hy=>by
       have:=iG (k1 - 1) (by omega)
       try dsimp only at this
       rw[Nat.zero_add,hy]at this
       have e:x4=x3:=by rw[aS]at ar;exact(Option.some.inj ar).symm
       rw[e]
       exact C.o.bR _ _ this)
      by_cases hz:(at_ - 1==0)=true
      ·rw[if_pos hz]
       exact wpS_pure ⟨aq,.inl ⟨_,rfl,J4.done C (.inl (by have:=beq_iff_eq.mp hz;omega))⟩⟩
      ·rw[if_neg hz]
       have bg:¬(at_ - 1=0):=fun z=>hz (beq_iff_eq.mpr z)
       by_cases h7:(decide (at_ - at_<7)&&decide (nb - 1 - k1<7))=true
       ·rw[if_pos h7]
        exact wpS_pure ⟨aq,.inr ⟨_,_,_,_,_,_,rfl,J4,by omega,by omega,by omega⟩⟩
       ·rw[if_neg h7]
        exact wpS_pure ⟨aq,_,_,_,_,_,_,rfl,J4,by omega,by omega,by omega⟩
     ·rw[if_neg bP]
      obtain rfl:k1=nb - 1:=by omega
      obtain⟨x4,ar⟩:=Zd (xs:=a) (i:=at_ - 1) (by omega)
      refine wpS_bind (Zk ar ?_)
      have J4:=J2.cY C (by omega) ar (fun _ y hy=>by
       have:=iG (nb - 1 - 1) (by omega)
       try dsimp only at this
       rw[Nat.zero_add,hy]at this
       have e:x4=x3:=by rw[aS]at ar;exact(Option.some.inj ar).symm
       rw[e]
       exact C.o.bR _ _ this)
      by_cases hz:(at_ - 1==0)=true
      ·rw[if_pos hz]
       exact wpS_pure ⟨aq,.inl ⟨_,rfl,J4.done C (.inl (by have:=beq_iff_eq.mp hz;omega))⟩⟩
      ·rw[if_neg hz]
       have bg:¬(at_ - 1=0):=fun z=>hz (beq_iff_eq.mpr z)
       by_cases h7:(decide (at_ - at_<7)&&decide (nb - 1 - (nb - 1)<7))=true
       ·rw[if_pos h7]
        exact wpS_pure ⟨aq,.inr ⟨_,_,_,_,_,_,rfl,J4,by omega,by omega,by omega⟩⟩
       ·rw[if_neg h7]
        exact wpS_pure ⟨aq,_,_,_,_,_,_,rfl,J4,by omega,by omega,by omega⟩
  ·rintro c ak ⟨gh,na,nb,out,g,ac,bc,rfl,J,i1,i2,i4⟩
   rw[Nat.max_eq_right (Nat.zero_le _)]at i4
   have la:=J'.la
   have lb:=J'.lb
   omega
  rintro c ak ⟨gh,⟨res,ec,gd⟩ |⟨pT,A1,out,g,ac,bc,rfl,J2,k1,k2,k3⟩⟩
  ·rw[ec]
   exact wpS_pure ⟨gh,res,rfl,gd⟩
  dsimp only
  refine wpS_bind (Yy (wpS_pure ⟨gh,_,_,_,_,rfl,J2,k1,k2,by omega⟩))
end
def SI (r:Keyed→Keyed→Bool) (xs:Array Keyed) (lo hi:Nat):Prop:=∀i j x y,lo≤i→i≤j→j<hi→xs[i]? =some x→xs[j]? =some y→r y x=false
def NI (r:Keyed→Keyed→Bool) (xs:Array Keyed) (lo hi:Nat):Prop:=∀i j x y,lo≤i→i≤j→j<hi→xs[i]? =some x→xs[j]? =some y→r x y=false
def EQ (r:Keyed→Keyed→Bool) (xs:Array Keyed) (lo hi:Nat):Prop:=∀i j x y,lo≤i→i<hi→lo≤j→j<hi→xs[i]? =some x→xs[j]? =some y→r x y=false
section
variable {r:Keyed→Keyed→Bool}{xs:Array Keyed}{lo hi:Nat}
theorem SI.one (o:Ord r):SI r xs lo (lo+1):=fun i j x y h1 h2 h3 hx hy=>by
 obtain rfl:i=j:=by omega
 rw[hx]at hy;cases hy;exact o.ko _
theorem NI.one (o:Ord r):NI r xs lo (lo+1):=fun i j x y h1 h2 h3 hx hy=>by
 obtain rfl:i=j:=by omega
 rw[hx]at hy;cases hy;exact o.ko _
theorem EQ.one (o:Ord r):EQ r xs lo (lo+1):=fun i j x y h1 h2 h3 h4 hx hy=>by
 obtain rfl:i=j:=by omega
 rw[hx]at hy;cases hy;exact o.ko _
theorem SI.snoc (o:Ord r) (h:SI r xs lo hi) {p q:Keyed}(hl:lo<hi) (hp:xs[hi - 1]? =some p) (hq:xs[hi]? =some q) (hr:r q p=false):SI r xs lo (hi+1):=fun i j x y h1 h2 h3 hx hy=>by
 by_cases hj:j<hi
 ·exact h i j x y h1 h2 hj hx hy
 ·obtain rfl:j=hi:=by omega
  rw[hq]at hy;cases hy
  by_cases aT:i=j
  ·subst aT
   rw[hq]at hx;cases hx;exact o.ko _
  ·exact o.df x p q (h i (j - 1) x p h1 (by omega) (by omega) hx hp) hr
theorem NI.snoc (o:Ord r) (h:NI r xs lo hi) {p q:Keyed}(hl:lo<hi) (hp:xs[hi - 1]? =some p) (hq:xs[hi]? =some q) (hr:r p q=false):NI r xs lo (hi+1):=fun i j x y h1 h2 h3 hx hy=>by
 by_cases hj:j<hi
 ·exact h i j x y h1 h2 hj hx hy
 ·obtain rfl:j=hi:=by omega
  rw[hq]at hy;cases hy
  by_cases aT:i=j
  ·subst aT
   rw[hq]at hx;cases hx;exact o.ko _
  ·exact o.df q p x hr (h i (j - 1) x p h1 (by omega) (by omega) hx hp)
theorem EQ.snoc (o:Ord r) (h:EQ r xs lo hi) {p q:Keyed}(hl:lo<hi) (hp:xs[hi - 1]? =some p) (hq:xs[hi]? =some q) (hr:r p q=false) (dg:r q p=false):EQ r xs lo (hi+1):=fun i j x y h1 h2 h3 h4 hx hy=>by
 have one:∀i x,lo≤i→i<hi→xs[i]? =some x→r x q=false∧r q x=false:=fun i x h1 h2 hx=>
  ⟨o.df q p x hr (h i (hi - 1) x p h1 h2 (by omega) (by omega) hx hp),o.df x p q (h (hi - 1) i p x (by omega) (by omega) h1 h2 hp hx) dg⟩
 by_cases hj:j<hi
 ·by_cases aT:i<hi
  ·exact h i j x y h1 aT h3 hj hx hy
  ·obtain rfl:i=hi:=by omega
   rw[hq]at hx;cases hx
   exact(one j y h3 hj hy).2
 ·obtain rfl:j=hi:=by omega
  rw[hq]at hy;cases hy
  by_cases aT:i<j
  ·exact(one i x h1 aT hx).1
  ·obtain rfl:i=j:=by omega
   rw[hq]at hx;cases hx
   exact o.ko _
abbrev bo (xs:Array Keyed) (i j:Nat):Array Keyed:=mirror xs i j ((j - i)/2)
theorem Wq (hh:hi≤xs.size) (k:Nat):(bo xs lo hi)[k]? =if lo≤k∧k<hi then xs[lo+hi - 1 - k]? else xs[k]? :=getElem?_mirror_all hh k
theorem SI.bo (h:SI r xs lo hi) (hh:hi≤xs.size):NI r (bo xs lo hi) lo hi:=fun i j x y h1 h2 h3 hx hy=>by
 rw[Wq hh,if_pos ⟨by omega,by omega⟩]at hx hy
 exact h _ _ y x (by omega) (by omega) (by omega) hy hx
theorem NI.bo (h:NI r xs lo hi) (hh:hi≤xs.size):SI r (bo xs lo hi) lo hi:=fun i j x y h1 h2 h3 hx hy=>by
 rw[Wq hh,if_pos ⟨by omega,by omega⟩]at hx hy
 exact h _ _ y x (by omega) (by omega) (by omega) hy hx
theorem NI.sS {m:Nat}(h:NI r xs lo hi) (e:EQ r xs m hi) (hm:lo≤m) (hh:hi≤xs.size):NI r (PyProof.Rows.jt.bo xs m hi) lo hi:=fun i j x y h1 h2 h3 hx hy=>by
 rw[Wq hh]at hx hy
 by_cases hj:m≤j
 ·rw[if_pos ⟨hj,h3⟩]at hy
  by_cases aT:m≤i
  ·rw[if_pos ⟨aT,by omega⟩]at hx
   exact e _ _ x y (by omega) (by omega) (by omega) (by omega) hx hy
  ·rw[if_neg (by omega)]at hx
   exact h i _ x y h1 (by omega) (by omega) hx hy
 ·rw[if_neg (by omega)]at hx hy
  exact h i j x y h1 h2 h3 hx hy
theorem Wp {m:Nat}(hh:hi≤xs.size) (hm:m<hi) {p:Keyed}(hp:(bo xs m hi)[hi - 1]? =some p):xs[m]? =some p:=by
 rw[Wq hh,if_pos ⟨by omega,by omega⟩,show m+hi - 1 - (hi - 1)=m by omega]at hp
 exact hp
theorem JY (hh:hi≤xs.size) {k:Nat}(h:k<lo∨hi≤k):(bo xs lo hi)[k]? =xs[k]? :=by rw[Wq hh,if_neg (by omega)]
end
structure CB (a₀:Array Keyed) (κ:SortKind) (lo:Nat) (st aa:SortSt):Prop where
 kind:kindOf aa=κ
 pend:pendingOf aa=pendingOf st
 fail:failedOf aa=failedOf st
 perm:(arrOf aa).Perm a₀
 pre:∀k,k<lo→(arrOf aa)[k]? =(arrOf st)[k]?
theorem CB.size {a₀:Array Keyed}{κ:SortKind}{lo:Nat}{st aa:SortSt}(h:CB a₀ κ lo st aa):(arrOf aa).size=a₀.size:=h.perm.size_eq
theorem CB.mem {a₀:Array Keyed}{κ:SortKind}{lo:Nat}{st aa:SortSt}(h:CB a₀ κ lo st aa) {i:Nat}{x:Keyed}(hx:(arrOf aa)[i]? =some x):x∈a₀.toList:=(Array.perm_iff_toList_perm.mp h.perm).mem_iff.mp (Zv hx)
theorem CB.rev {a₀:Array Keyed}{κ:SortKind}{lo m hi:Nat}{st aa:SortSt}(h:CB a₀ κ lo st aa) (hm:lo≤m) (hh:hi≤a₀.size):CB a₀ κ lo st (setArr aa (bo (arrOf aa) m hi)):=
 ⟨h.kind,h.pend,h.fail,(mirror_perm _ _ _ _).trans h.perm,fun k hk=>by
  show(bo (arrOf aa) m hi)[k]? =_
  rw[JY (by rw[h.size];exact hh) (.inl (by omega))]
  exact h.pre k hk⟩
section
variable {prog:Program}{w:World}{A:Around}{E:Value→Shared→Prop}{s:Shared}{κ:SortKind}{a₀:Array Keyed}{r:Keyed→Keyed→Bool}
theorem Z5 {st aa:SortSt}{lo i j:Nat}{x y:Keyed}{Q:Option Bool→SortSt→Prop}(hc:iZ prog w A E s κ a₀ r) (B:CB a₀ κ lo st aa) (hx:(arrOf aa)[i]? =some x) (hy:(arrOf aa)[j]? =some y) (h:Q (some (r x y)) aa):wpS (model prog w) A E s (ltAt' i j) Q aa:=by
 rw[ltAt'_eq]
 exact wpS_bind (wpS_get (wpS_bind (Zk hx (wpS_bind (Zk hy (hc _ _ _ _ (B.mem hx) (B.mem hy) B.kind h))))))
theorem Z4 {st:SortSt}{i j:Nat}{Q:Unit→SortSt→Prop}(h:Q () (setArr st (bo (arrOf st) i j))):wpS (model prog w) A E s (reverseSlice' i j) Q st:=by
 rw[reverseSlice'_eq]
 exact wpS_modify h
theorem EQ.nW {xs:Array Keyed}{lo hi:Nat}(o:Ord r) (h:hi=lo+1):EQ r xs lo hi:=by subst h;exact EQ.one o
theorem WL {st:SortSt}{lo bJ:Nat}{Q:Option Nat→SortSt→Prop}(o:Ord r) (hc:iZ prog w A E s κ a₀ r) (B0:CB a₀ κ lo st st) (h1:1≤bJ) (hz:lo+bJ≤a₀.size)
  (h:∀n aa,CB a₀ κ lo st aa→1≤n→n≤bJ→SI r (arrOf aa) lo (lo+n)→Q (some n) aa):wpS (model prog w) A E s (countRun' lo bJ) Q st:=by
 rw[countRun'_eq]
 dsimp only
 have z0:=B0.size
 refine wpS_bind (wpS_mono (wpS_forRange (I:=fun y c aa=>aa=st∧c=(none,y)∧SI r (arrOf st) lo (lo+y))
  (Q:=fun c aa=>aa=st∧∃n,c=(none,n)∧1≤n∧n≤bJ∧SI r (arrOf st) lo (lo+n)∧(n=bJ∨∃p q,(arrOf st)[lo+n - 1]? =some p∧(arrOf st)[lo+n]? =some q∧r q p=true)) ?_ ?_ ⟨rfl,rfl,SI.one o⟩) ?_)
 ·rintro y c aa je aY ⟨rfl,rfl,S⟩
  dsimp only
  obtain⟨p,hp⟩:=Zd (xs:=arrOf aa) (i:=lo+y - 1) (by omega)
  obtain⟨q,hq⟩:=Zd (xs:=arrOf aa) (i:=lo+y) (by omega)
  refine wpS_bind (Z5 hc B0 hq hp ?_)
  cases hr:r q p with
  |true=>exact wpS_pure ⟨rfl,y,rfl,je,by omega,S,.inr ⟨p,q,hp,hq,hr⟩⟩
  |false=>exact wpS_pure ⟨rfl,rfl,S.snoc (hi:=lo+y) o (by omega) hp hq hr⟩
 ·rintro c aa ⟨rfl,rfl,S⟩
  have e9:max 1 bJ=bJ:=Nat.max_eq_right h1
  rw[e9]at S
  exact⟨rfl,bJ,by rw[e9],h1,Nat.le_refl _,S,.inl rfl⟩
 rintro c aa ⟨rfl,n,rfl,n1,n2,S,hn⟩
 dsimp only
 by_cases gq:(n==bJ)=true
 ·rw[if_pos gq]
  exact wpS_pure (h n aa B0 n1 n2 S)
 rw[if_neg gq]
 have LU:¬(n=bJ):=fun z=>gq (beq_iff_eq.mpr z)
 rcases hn with hn |⟨p,q,hp,hq,hr⟩
 ·exact absurd hn LU
 by_cases tK:n>1
 ·rw[if_pos tK]
  obtain⟨f,hf⟩:=Zd (xs:=arrOf aa) (i:=lo) (by omega)
  refine wpS_bind (Z5 hc B0 hf hp ?_)
  cases Lw:r f p with
  |true=>exact wpS_pure (h n aa B0 n1 n2 S)
  |false=>
   dsimp only
   rw[if_neg Bool.false_ne_true]
   refine wpS_bind (Z4 ?_)
   have B1:=B0.rev (m:=lo) (hi:=lo+n) (Nat.le_refl _) (by omega)
   have N1:NI r (bo (arrOf aa) lo (lo+n)) lo (lo+n):=S.bo (by omega)
   obtain⟨p1,oo⟩:=Zd (xs:=bo (arrOf aa) lo (lo+n)) (i:=lo+n - 1) (by rw[mirror_size];omega)
   have Bx:=Wp (by omega) (by omega) oo
   rw[hf]at Bx
   cases Bx
   have fF:(bo (arrOf aa) lo (lo+n))[lo+n]? =some q:=by rw[JY (by omega) (.inr (Nat.le_refl _))];exact hq
   have uF:NI r (arrOf (setArr aa (bo (arrOf aa) lo (lo+n)))) lo (lo+(n+1)):=N1.snoc (hi:=lo+n) o (by omega) oo fF (o.df q p f (o.bR _ _ hr) Lw)
   generalize setArr aa (bo (arrOf aa) lo (lo+n))=av at B1 uF
   refine wpS_bind (wpS_lift (wpAny_rule ⟨rfl,?_⟩))
   refine wpS_bind (wpS_mono (wpS_forRange (I:=fun y c stx=>CB a₀ κ lo aa stx∧∃aP,c=(none,y,aP)∧NI r (arrOf stx) lo (lo+y)∧aP+1≤y∧EQ r (arrOf stx) (lo+y - (aP+1)) (lo+y))
    (Q:=fun c stx=>CB a₀ κ lo aa stx∧∃m aP,c=(none,m,aP)∧n+1≤m∧m≤bJ∧NI r (arrOf stx) lo (lo+m)∧aP+1≤m∧EQ r (arrOf stx) (lo+m - (aP+1)) (lo+m)) ?_ ?_ ⟨B1,0,rfl,uF,by omega,EQ.nW o (by omega)⟩) ?_)
   ·rintro y c ak je aY ⟨B2,aP,rfl,N2,g1,e2⟩
    dsimp only
    have z2:=B2.size
    obtain⟨p2,cE⟩:=Zd (xs:=arrOf ak) (i:=lo+y - 1) (by omega)
    obtain⟨q2,bO⟩:=Zd (xs:=arrOf ak) (i:=lo+y) (by omega)
    refine wpS_bind (Z5 hc B2 bO cE ?_)
    cases dg:r q2 p2 with
    |true=>
     dsimp only
     rw[if_pos rfl]
     by_cases iM:aP>0
     ·rw[if_pos iM]
      refine wpS_bind (Z4 ?_)
      have B3:=B2.rev (m:=lo+y - (aP+1)) (hi:=lo+y) (by omega) (by omega)
      have N3:NI r (bo (arrOf ak) (lo+y - (aP+1)) (lo+y)) lo (lo+y):=N2.sS e2 (by omega) (by omega)
      obtain⟨p3,kE⟩:=Zd (xs:=bo (arrOf ak) (lo+y - (aP+1)) (lo+y)) (i:=lo+y - 1) (by rw[mirror_size];omega)
      have w9:=Wp (by omega) (by omega) kE
      have om:(bo (arrOf ak) (lo+y - (aP+1)) (lo+y))[lo+y]? =some q2:=by rw[JY (by omega) (.inr (Nat.le_refl _))];exact bO
      have h3:r p3 q2=false:=o.df q2 p2 p3 (o.bR _ _ dg) (e2 _ _ p3 p2 (Nat.le_refl _) (by omega) (by omega) (by omega) w9 cE)
      exact wpS_pure ⟨B3,0,rfl,N3.snoc (hi:=lo+y) o (by omega) kE om h3,by omega,EQ.nW o (by omega)⟩
     ·rw[if_neg iM]
      exact wpS_pure ⟨B2,0,rfl,N2.snoc (hi:=lo+y) o (by omega) cE bO (o.bR _ _ dg),by omega,EQ.nW o (by omega)⟩
    |false=>
     dsimp only
     rw[if_neg Bool.false_ne_true]
     refine wpS_bind (Z5 hc B2 cE bO ?_)
     cases kC:r p2 q2 with
     |true=>exact wpS_pure ⟨B2,y,aP,rfl,by omega,by omega,N2,g1,e2⟩
     |false=>
      refine wpS_pure ⟨B2,aP+1,rfl,N2.snoc (hi:=lo+y) o (by omega) cE bO kC,by omega,?_⟩
      have:=e2.snoc (hi:=lo+y) o (by omega) cE bO kC dg
      rw[show lo+(y+1) - (aP+1+1)=lo+y - (aP+1) by omega]
      exact this
   ·rintro c ak ⟨B2,aP,rfl,N2,g1,e2⟩
    have e9:max (n+1) bJ=bJ:=Nat.max_eq_right (by omega)
    rw[e9]at N2 g1 e2
    exact⟨B2,bJ,aP,by rw[e9],by omega,by omega,N2,g1,e2⟩
   rintro c aO ⟨B3,m,aP,rfl,m1,m2,N3,g3,e3⟩
   dsimp only
   have z3:=B3.size
   by_cases iM:aP>0
   ·rw[if_pos iM]
    refine wpS_bind (Z4 ?_)
    have B4:=B3.rev (m:=lo+m - (aP+1)) (hi:=lo+m) (by omega) (by omega)
    have N4:NI r (arrOf (setArr aO (bo (arrOf aO) (lo+m - (aP+1)) (lo+m)))) lo (lo+m):=N3.sS e3 (by omega) (by omega)
    generalize setArr aO (bo (arrOf aO) (lo+m - (aP+1)) (lo+m))=cT at B4 N4
    refine wpS_bind (Z4 ?_)
    have B9:=B4.rev (m:=lo) (hi:=lo+m) (Nat.le_refl _) (by omega)
    have S9:SI r (arrOf (setArr cT (bo (arrOf cT) lo (lo+m)))) lo (lo+m):=NI.bo N4 (by rw[B4.size];omega)
    generalize setArr cT (bo (arrOf cT) lo (lo+m))=iz at B9 S9
    have z9:=B9.size
    refine wpS_bind (wpS_forRange (I:=fun y c stx=>stx=iz∧c=(none,y)∧SI r (arrOf iz) lo (lo+y)) ?_ ?_ ⟨rfl,rfl,S9⟩)
    ·rintro y c stx je aY ⟨rfl,rfl,S⟩
     dsimp only
     obtain⟨p9,fG⟩:=Zd (xs:=arrOf stx) (i:=lo+y - 1) (by omega)
     obtain⟨q9,iL⟩:=Zd (xs:=arrOf stx) (i:=lo+y) (by omega)
     refine wpS_bind (Z5 hc B9 iL fG ?_)
     cases l9:r q9 p9 with
     |true=>exact wpS_pure (wpS_pure (h y stx B9 (by omega) (by omega) S))
     |false=>exact wpS_pure ⟨rfl,rfl,S.snoc (hi:=lo+y) o (by omega) fG iL l9⟩
    ·rintro c stx ⟨rfl,rfl,S⟩
     rw[Nat.max_eq_right (by omega)]at S
     have e9:max m bJ=bJ:=Nat.max_eq_right (by omega)
     dsimp only
     rw[e9]
     exact wpS_pure (h bJ stx B9 (by omega) (by omega) S)
   ·rw[if_neg iM]
    refine wpS_bind (Z4 ?_)
    have B9:=B3.rev (m:=lo) (hi:=lo+m) (Nat.le_refl _) (by omega)
    have S9:SI r (arrOf (setArr aO (bo (arrOf aO) lo (lo+m)))) lo (lo+m):=NI.bo N3 (by rw[B3.size];omega)
    generalize setArr aO (bo (arrOf aO) lo (lo+m))=iz at B9 S9
    have z9:=B9.size
    refine wpS_bind (wpS_forRange (I:=fun y c stx=>stx=iz∧c=(none,y)∧SI r (arrOf iz) lo (lo+y)) ?_ ?_ ⟨rfl,rfl,S9⟩)
    ·rintro y c stx je aY ⟨rfl,rfl,S⟩
     dsimp only
     obtain⟨p9,fG⟩:=Zd (xs:=arrOf stx) (i:=lo+y - 1) (by omega)
     obtain⟨q9,iL⟩:=Zd (xs:=arrOf stx) (i:=lo+y) (by omega)
     refine wpS_bind (Z5 hc B9 iL fG ?_)
     cases l9:r q9 p9 with
     |true=>exact wpS_pure (wpS_pure (h y stx B9 (by omega) (by omega) S))
     |false=>exact wpS_pure ⟨rfl,rfl,S.snoc (hi:=lo+y) o (by omega) fG iL l9⟩
    ·rintro c stx ⟨rfl,rfl,S⟩
     rw[Nat.max_eq_right (by omega)]at S
     have e9:max m bJ=bJ:=Nat.max_eq_right (by omega)
     dsimp only
     rw[e9]
     exact wpS_pure (h bJ stx B9 (by omega) (by omega) S)
 ·rw[if_neg tK]
  obtain rfl:n=1:=by omega
  have uF:NI r (arrOf aa) lo (lo+(1+1)):=(NI.one o).snoc (hi:=lo+1) o (by omega) hp hq (o.bR _ _ hr)
  refine wpS_bind (wpS_lift (wpAny_rule ⟨rfl,?_⟩))
  refine wpS_bind (wpS_mono (wpS_forRange (I:=fun y c stx=>CB a₀ κ lo aa stx∧∃aP,c=(none,y,aP)∧NI r (arrOf stx) lo (lo+y)∧aP+1≤y∧EQ r (arrOf stx) (lo+y - (aP+1)) (lo+y))
   (Q:=fun c stx=>CB a₀ κ lo aa stx∧∃m aP,c=(none,m,aP)∧1+1≤m∧m≤bJ∧NI r (arrOf stx) lo (lo+m)∧aP+1≤m∧EQ r (arrOf stx) (lo+m - (aP+1)) (lo+m)) ?_ ?_ ⟨B0,0,rfl,uF,by omega,EQ.nW o (by omega)⟩) ?_)
  ·rintro y c ak je aY ⟨B2,aP,rfl,N2,g1,e2⟩
   dsimp only
   have z2:=B2.size
   obtain⟨p2,cE⟩:=Zd (xs:=arrOf ak) (i:=lo+y - 1) (by omega)
   obtain⟨q2,bO⟩:=Zd (xs:=arrOf ak) (i:=lo+y) (by omega)
   refine wpS_bind (Z5 hc B2 bO cE ?_)
   cases dg:r q2 p2 with
   |true=>
    dsimp only
    rw[if_pos rfl]
    by_cases iM:aP>0
    ·rw[if_pos iM]
     refine wpS_bind (Z4 ?_)
     have B3:=B2.rev (m:=lo+y - (aP+1)) (hi:=lo+y) (by omega) (by omega)
     have N3:NI r (bo (arrOf ak) (lo+y - (aP+1)) (lo+y)) lo (lo+y):=N2.sS e2 (by omega) (by omega)
     obtain⟨p3,kE⟩:=Zd (xs:=bo (arrOf ak) (lo+y - (aP+1)) (lo+y)) (i:=lo+y - 1) (by rw[mirror_size];omega)
     have w9:=Wp (by omega) (by omega) kE
     have om:(bo (arrOf ak) (lo+y - (aP+1)) (lo+y))[lo+y]? =some q2:=by rw[JY (by omega) (.inr (Nat.le_refl _))];exact bO
     have h3:r p3 q2=false:=o.df q2 p2 p3 (o.bR _ _ dg) (e2 _ _ p3 p2 (Nat.le_refl _) (by omega) (by omega) (by omega) w9 cE)
     exact wpS_pure ⟨B3,0,rfl,N3.snoc (hi:=lo+y) o (by omega) kE om h3,by omega,EQ.nW o (by omega)⟩
    ·rw[if_neg iM]
     exact wpS_pure ⟨B2,0,rfl,N2.snoc (hi:=lo+y) o (by omega) cE bO (o.bR _ _ dg),by omega,EQ.nW o (by omega)⟩
   |false=>
    dsimp only
    rw[if_neg Bool.false_ne_true]
    refine wpS_bind (Z5 hc B2 cE bO ?_)
    cases kC:r p2 q2 with
    |true=>exact wpS_pure ⟨B2,y,aP,rfl,by omega,by omega,N2,g1,e2⟩
    |false=>
     refine wpS_pure ⟨B2,aP+1,rfl,N2.snoc (hi:=lo+y) o (by omega) cE bO kC,by omega,?_⟩
     have:=e2.snoc (hi:=lo+y) o (by omega) cE bO kC dg
     rw[show lo+(y+1) - (aP+1+1)=lo+y - (aP+1) by omega]
     exact this
  ·rintro c ak ⟨B2,aP,rfl,N2,g1,e2⟩
   have e9:max (1+1) bJ=bJ:=Nat.max_eq_right (by omega)
   rw[e9]at N2 g1 e2
   exact⟨B2,bJ,aP,by rw[e9],by omega,by omega,N2,g1,e2⟩
  rintro c aO ⟨B3,m,aP,rfl,m1,m2,N3,g3,e3⟩
  dsimp only
  have z3:=B3.size
  by_cases iM:aP>0
  ·rw[if_pos iM]
   refine wpS_bind (Z4 ?_)
   have B4:=B3.rev (m:=lo+m - (aP+1)) (hi:=lo+m) (by omega) (by omega)
   have N4:NI r (arrOf (setArr aO (bo (arrOf aO) (lo+m - (aP+1)) (lo+m)))) lo (lo+m):=N3.sS e3 (by omega) (by omega)
   generalize setArr aO (bo (arrOf aO) (lo+m - (aP+1)) (lo+m))=cT at B4 N4
   refine wpS_bind (Z4 ?_)
   have B9:=B4.rev (m:=lo) (hi:=lo+m) (Nat.le_refl _) (by omega)
   have S9:SI r (arrOf (setArr cT (bo (arrOf cT) lo (lo+m)))) lo (lo+m):=NI.bo N4 (by rw[B4.size];omega)
   generalize setArr cT (bo (arrOf cT) lo (lo+m))=iz at B9 S9
   have z9:=B9.size
   refine wpS_bind (wpS_forRange (I:=fun y c stx=>stx=iz∧c=(none,y)∧SI r (arrOf iz) lo (lo+y)) ?_ ?_ ⟨rfl,rfl,S9⟩)
   ·rintro y c stx je aY ⟨rfl,rfl,S⟩
    dsimp only
    obtain⟨p9,fG⟩:=Zd (xs:=arrOf stx) (i:=lo+y - 1) (by omega)
    obtain⟨q9,iL⟩:=Zd (xs:=arrOf stx) (i:=lo+y) (by omega)
    refine wpS_bind (Z5 hc B9 iL fG ?_)
    cases l9:r q9 p9 with
    |true=>exact wpS_pure (wpS_pure (h y stx B9 (by omega) (by omega) S))
    |false=>exact wpS_pure ⟨rfl,rfl,S.snoc (hi:=lo+y) o (by omega) fG iL l9⟩
   ·rintro c stx ⟨rfl,rfl,S⟩
    rw[Nat.max_eq_right (by omega)]at S
    have e9:max m bJ=bJ:=Nat.max_eq_right (by omega)
    dsimp only
    rw[e9]
    exact wpS_pure (h bJ stx B9 (by omega) (by omega) S)
  ·rw[if_neg iM]
   refine wpS_bind (Z4 ?_)
   have B9:=B3.rev (m:=lo) (hi:=lo+m) (Nat.le_refl _) (by omega)
   have S9:SI r (arrOf (setArr aO (bo (arrOf aO) lo (lo+m)))) lo (lo+m):=NI.bo N3 (by rw[B3.size];omega)
   generalize setArr aO (bo (arrOf aO) lo (lo+m))=iz at B9 S9
   have z9:=B9.size
   refine wpS_bind (wpS_forRange (I:=fun y c stx=>stx=iz∧c=(none,y)∧SI r (arrOf iz) lo (lo+y)) ?_ ?_ ⟨rfl,rfl,S9⟩)
   ·rintro y c stx je aY ⟨rfl,rfl,S⟩
    dsimp only
    obtain⟨p9,fG⟩:=Zd (xs:=arrOf stx) (i:=lo+y - 1) (by omega)
    obtain⟨q9,iL⟩:=Zd (xs:=arrOf stx) (i:=lo+y) (by omega)
    refine wpS_bind (Z5 hc B9 iL fG ?_)
    cases l9:r q9 p9 with
    |true=>exact wpS_pure (wpS_pure (h y stx B9 (by omega) (by omega) S))
    |false=>exact wpS_pure ⟨rfl,rfl,S.snoc (hi:=lo+y) o (by omega) fG iL l9⟩
   ·rintro c stx ⟨rfl,rfl,S⟩
    rw[Nat.max_eq_right (by omega)]at S
    have e9:max m bJ=bJ:=Nat.max_eq_right (by omega)
    dsimp only
    rw[e9]
    exact wpS_pure (h bJ stx B9 (by omega) (by omega) S)
theorem PN {x y z:Keyed}(o:Ord r) (h:r z x=true) (h2:r y x=false):r z y=true:=by
 cases e:r z y with
 |true=>rfl
 |false=>
  have:=o.df x y z h2 e
  rw[h]at this
  cases this
theorem RC {st:SortSt}{i j:Nat}{Q:Unit→SortSt→Prop}(h:Q () (setArr st (bubble (arrOf st) i (i - j)))):wpS (model prog w) A E s (moveDown' i j) Q st:=by
 rw[moveDown'_eq]
 exact wpS_modify h
theorem SI.put {xs:Array Keyed}{lo k l:Nat}{q:Keyed}(o:Ord r) (S:SI r xs lo (lo+k)) (hq:xs[lo+k]? =some q) (hl:l≤k) (h1:∀i x,i<l→xs[lo+i]? =some x→r q x=false) (h2:∀i x,l≤i→i<k→xs[lo+i]? =some x→r q x=true):SI r (bubble xs (lo+k) (lo+k - (lo+l))) lo (lo+(k+1)):=by
 have hs:lo+k<xs.size:=(Array.getElem?_eq_some_iff.mp hq).1
 intro i j x y g1 g2 g3 hx hy
 rw[getElem?_bubble hs _ (by omega)]at hx hy
 rw[show lo+k - (lo+k - (lo+l))=lo+l by omega]at hx hy
 by_cases ei:i=lo+l
 ·rw[if_pos ei,hq]at hx
  cases hx
  by_cases ej:j=lo+l
  ·rw[if_pos ej,hq]at hy
   cases hy
   exact o.ko _
  ·rw[if_neg ej,if_pos (by omega)]at hy
   exact o.bR _ _ (h2 (j - 1 - lo) y (by omega) (by omega) (by rw[show lo+(j - 1 - lo)=j - 1 by omega];exact hy))
 ·rw[if_neg ei]at hx
  by_cases ej:j=lo+l
  ·rw[if_pos ej,hq]at hy
   cases hy
   rw[if_neg (by omega)]at hx
   exact h1 (i - lo) x (by omega) (by rw[show lo+(i - lo)=i by omega];exact hx)
  ·rw[if_neg ej]at hy
   by_cases gi:lo+l<i
   ·rw[if_pos (by omega)]at hx hy
    exact S (i - 1) (j - 1) x y (by omega) (by omega) (by omega) hx hy
   ·rw[if_neg (by omega)]at hx
    by_cases gj:lo+l<j
    ·rw[if_pos (by omega)]at hy
     exact S i (j - 1) x y (by omega) (by omega) (by omega) hx hy
    ·rw[if_neg (by omega)]at hy
     exact S i j x y (by omega) (by omega) (by omega) hx hy
theorem JT {st eK:SortSt}{lo n ok:Nat}{Q:Bool→SortSt→Prop}(o:Ord r) (hc:iZ prog w A E s κ a₀ r) (B0:CB a₀ κ lo eK st) (h1:1≤ok) (hn:ok≤n) (hz:lo+n≤a₀.size) (S0:SI r (arrOf st) lo (lo+ok))
  (h:∀aa,CB a₀ κ lo eK aa→SI r (arrOf aa) lo (lo+n)→Q true aa):wpS (model prog w) A E s (binarySort' lo n ok) Q st:=by
 rw[binarySort'_eq]
 dsimp only
 rw[Nat.max_eq_left h1]
 refine wpS_bind (wpS_forRange (I:=fun k c aa=>c=(none,())∧CB a₀ κ lo eK aa∧SI r (arrOf aa) lo (lo+k)) ?_ ?_ ⟨rfl,B0,S0⟩)
 ·rintro k c av bP BP ⟨rfl,B1,S1⟩
  try dsimp only
  have z1:=B1.size
  obtain⟨q,hq⟩:=Zd (xs:=arrOf av) (i:=lo+k) (by omega)
  refine wpS_bind (wpS_mono (wpS_forRange (I:=fun y c aa=>aa=av∧∃l u,c=(none,l,u)∧l≤u∧u≤k∧(∀i x,i<l→(arrOf av)[lo+i]? =some x→r q x=false)∧(∀i x,u≤i→i<k→(arrOf av)[lo+i]? =some x→r q x=true)∧u - l≤k - y)
   (Q:=fun c aa=>aa=av∧∃l u,c=(none,l,u)∧l≤k∧(∀i x,i<l→(arrOf av)[lo+i]? =some x→r q x=false)∧(∀i x,l≤i→i<k→(arrOf av)[lo+i]? =some x→r q x=true)) ?_ ?_ ⟨rfl,0,k,rfl,by omega,by omega,fun i x hi=>absurd hi (by omega),fun i x g1 g2=>absurd g2 (by omega),by omega⟩) ?_)
  ·rintro y c aa _ hy ⟨rfl,l,u,rfl,g1,g2,g3,g4,g5⟩
   dsimp only
   by_cases bB:l≥u
   ·rw[if_pos bB]
    exact wpS_pure ⟨rfl,l,u,rfl,by omega,g3,fun i x g6=>g4 i x (by omega)⟩
   ·rw[if_neg bB]
    have hm:(l+u)/2<u:=by omega
    have me:l≤(l+u)/2:=by omega
    generalize (l+u)/2=m at hm me
    obtain⟨p,hp⟩:=Zd (xs:=arrOf aa) (i:=lo+m) (by omega)
    refine wpS_bind (Z5 hc B1 hq hp ?_)
    cases hr:r q p with
    |true=>
     refine wpS_pure ⟨rfl,l,m,rfl,me,by omega,g3,fun i x g6 g7 hx=> ?_,by omega⟩
     exact PN o hr (S1 (lo+m) (lo+i) p x (by omega) (by omega) (by omega) hp hx)
    |false=>
     refine wpS_pure ⟨rfl,m+1,u,rfl,by omega,g2,fun i x g6 hx=> ?_,g4,by omega⟩
     exact o.df x p q (S1 (lo+i) (lo+m) x p (by omega) (by omega) (by omega) hx hp) hr
  ·rintro c aa ⟨rfl,l,u,rfl,g1,g2,g3,g4,g5⟩
   rw[Nat.max_eq_right (Nat.zero_le _)]at g5
   exact⟨rfl,l,u,rfl,by omega,g3,fun i x g6=>g4 i x (by omega)⟩
  rintro c aa ⟨rfl,l,u,rfl,g1,g3,g4⟩
  dsimp only
  refine wpS_bind (RC (wpS_pure ⟨rfl,⟨B1.kind,B1.pend,B1.fail,(bubble_perm _ _ _).trans B1.perm,fun i hi=> ?_⟩,S1.put o hq g1 g3 g4⟩))
  show(bubble (arrOf aa) (lo+k) (lo+k - (lo+l)))[i]? =_
  rw[getElem?_bubble (by omega) _ (by omega),if_neg (by omega),if_neg (by omega)]
  exact B1.pre i hi
 ·rintro c av ⟨rfl,B1,S1⟩
  rw[Nat.max_eq_right hn]at S1
  exact wpS_pure (h av B1 S1)
end
def seg (L:List Keyed) (s n:Nat):List Keyed:=(L.drop s).take n
theorem YJ {L:List Keyed}{s n i:Nat}(h:i<n):(seg L s n)[i]? =L[s+i]? :=by
 unfold seg
 rw[List.getElem?_take_of_lt h,List.getElem?_drop]
theorem EA {L:List Keyed}{s n:Nat}(h:s+n≤L.length):(seg L s n).length=n:=by
 unfold seg
 rw[List.length_take,List.length_drop];omega
theorem SI.pw {r:Keyed→Keyed→Bool}{xs:Array Keyed}{lo n:Nat}(h:SI r xs lo (lo+n)):Pw r (seg xs.toList lo n):=by
 unfold Pw
 rw[List.pairwise_iff_getElem]
 intro i j hi hj cb
 have hn:j<n:=by unfold seg at hj;rw[List.length_take]at hj;omega
 have e1:(seg xs.toList lo n)[i]? =some (seg xs.toList lo n)[i]:=List.getElem?_eq_getElem hi
 have e2:(seg xs.toList lo n)[j]? =some (seg xs.toList lo n)[j]:=List.getElem?_eq_getElem hj
 rw[YJ (by omega),Array.getElem?_toList]at e1
 rw[YJ hn,Array.getElem?_toList]at e2
 exact h (lo+i) (lo+j) _ _ (by omega) (by omega) (by omega) e1 e2
def Runs (r:Keyed→Keyed→Bool) (L:List Keyed):List (Nat×Nat×Nat)→Nat→Nat→Prop
 | [],p,q=>p=q
 |x::rest,p,q=>x.1=p∧1≤x.2.1∧Pw r (seg L x.1 x.2.1)∧Runs r L rest (p+x.2.1) q
section
variable {r:Keyed→Keyed→Bool}{L L':List Keyed}
theorem Runs.le:∀{ps:List (Nat×Nat×Nat)}{p q:Nat},Runs r L ps p q→p+ps.length≤q
 | [],_,_,h=>by cases h;exact Nat.le_refl _
 |x::ps,p,q,h=>by
  have:=Runs.le h.2.2.2
  have:=h.2.1
  rw[List.length_cons]
  omega
theorem Runs.app:∀{l1 l2:List (Nat×Nat×Nat)}{p q:Nat},Runs r L (l1++l2) p q↔∃m,Runs r L l1 p m∧Runs r L l2 m q
 | [],l2,p,q=> ⟨fun h=> ⟨p,rfl,h⟩,fun⟨m,h1,h2⟩=>by cases h1;exact h2⟩
 |x::l1,l2,p,q=>by
  constructor
  ·rintro⟨h1,h2,h3,h4⟩
   obtain⟨m,g1,g2⟩:=Runs.app.mp h4
   exact⟨m,⟨h1,h2,h3,g1⟩,g2⟩
  ·rintro⟨m,⟨h1,h2,h3,g1⟩,g2⟩
   exact⟨h1,h2,h3,Runs.app.mpr ⟨m,g1,g2⟩⟩
theorem Runs.congr:∀{ps:List (Nat×Nat×Nat)}{p q:Nat},Runs r L ps p q→(∀s n,p≤s→s+n≤q→seg L s n=seg L' s n)→Runs r L' ps p q
 | [],_,_,h,_=>h
 |x::ps,p,q,⟨h1,h2,h3,h4⟩,e=>by
  have:=Runs.le h4
  refine⟨h1,h2,?_,Runs.congr h4 fun s n g1 g2=>e s n (by omega) g2⟩
  rw[←e x.1 x.2.1 (by omega) (by omega)]
  exact h3
theorem EB {m s n:Nat}(h:L.take m=L'.take m) (hs:s+n≤m):seg L s n=seg L' s n:=by
 have key:∀M:List Keyed,seg M s n=seg (M.take m) s n:=fun M=>by
  unfold seg
  rw[List.drop_take,List.take_take,Nat.min_eq_left (by omega)]
 rw[key L,key L',h]
theorem J9 {m s n:Nat}(h:L.drop m=L'.drop m) (hs:m≤s):seg L s n=seg L' s n:=by
 have key:∀M:List Keyed,seg M s n=((M.drop m).drop (s - m)).take n:=fun M=>by
  unfold seg
  rw[List.drop_drop,show m+(s - m)=s by omega]
 rw[key L,key L',h]
theorem RG {A B M:List Keyed}{k n:Nat}(o:Ord r) (sA:Pw r A) (sB:Pw r B) (hM:M.Perm (A.drop k++B.take n)) (sM:Pw r M) (h1:∀x∈A.take k,∀y∈B,r y x=false) (h2:∀z∈A,∀w∈B.drop n,r w z=false):Pw r (A.take k++(M++B.drop n)):=by
 have pa:Pw r (A.take k):=List.Pairwise.sublist (List.take_sublist _ _) sA
 have pb:Pw r (B.drop n):=List.Pairwise.sublist (List.drop_sublist _ _) sB
 have G5:Pw r (A.take k++A.drop k):=by rw[List.take_append_drop];exact sA
 have G4:Pw r (B.take n++B.drop n):=by rw[List.take_append_drop];exact sB
 refine List.pairwise_append.mpr ⟨pa,List.pairwise_append.mpr ⟨sM,pb,fun z hz w hw=> ?_⟩,fun x hx z hz=> ?_⟩
 ·rcases List.mem_append.mp (hM.mem_iff.mp hz) with hz |hz
  ·exact h2 z (List.mem_of_mem_drop hz) w hw
  ·exact(List.pairwise_append.mp G4).2.2 z hz w hw
 ·rcases List.mem_append.mp hz with hz |hz
  ·rcases List.mem_append.mp (hM.mem_iff.mp hz) with hz |hz
   ·exact(List.pairwise_append.mp G5).2.2 x hx z hz
   ·exact h1 x hx z (List.mem_of_mem_take hz)
  ·exact h1 x hx z (List.mem_of_mem_drop hz)
theorem EO (off:Nat):∀(M:List Keyed) (j:Nat) (xs:Array Keyed),off+j+M.length≤xs.size→((M.zipIdx j).foldl (fun a x=>a.setIfInBounds (off+x.snd) x.fst) xs).toList=xs.toList.take (off+j)++(M++xs.toList.drop (off+j+M.length))
 | [],j,xs,_=>by
  show xs.toList=_
  rw[List.nil_append,List.length_nil,Nat.add_zero,List.take_append_drop]
 |m::M,j,xs,h=>by
  rw[List.length_cons]at h
  rw[List.zipIdx_cons,List.foldl_cons,EO off M (j+1) _ (by rw[Array.size_setIfInBounds];omega),Array.toList_setIfInBounds]
  have hl:off+j<xs.toList.length:=by rw[Array.length_toList];omega
  rw[List.drop_set_of_lt (by omega),←Nat.add_assoc,List.take_add_one,List.take_set_of_le (Nat.le_refl _),List.getElem?_set_self hl]
  rw[List.append_assoc,List.length_cons,show off+j+1+M.length=off+j+(M.length+1) by omega]
  rfl
end
section
variable {prog:Program}{w:World}{A:Around}{E:Value→Shared→Prop}{s:Shared}{κ:SortKind}{a₀:Array Keyed}{r:Keyed→Keyed→Bool}
theorem PX {st aa:SortSt}{Q:PUnit→SortSt→Prop}(h:Q ⟨⟩ aa):wpS (model prog w) A E s (set aa:StateT SortSt Sem PUnit) Q st:=by
 unfold wpS
 exact wpAny_pure ⟨rfl,h⟩
theorem PV {α:Type}{m:StateT SortSt Sem α}{Q:α→SortSt→Prop}{st:SortSt}(P:SortSt→Prop) (hp:P st) (h:∀eK,P eK→wpS (model prog w) A E s m Q eK):wpS (model prog w) A E s m Q st:=h st hp
theorem US {st:SortSt}{i:Nat}{Q:Bool→SortSt→Prop}(o:Ord r) (hc:iZ prog w A E s κ a₀ r) (hk:kindOf st=κ) (hP:(arrOf st).Perm a₀) (hF:failedOf st=none) {pre post:List (Nat×Nat×Nat)}{sa na pw sb nb sE:Nat}
  (hp:(pendingOf st).toList=pre++(sa,na,pw)::(sb,nb,sE)::post) (hi:pre.length=i) (G2:sb=sa+na) (n1:1≤na) (n2:1≤nb) (hz:sb+nb≤a₀.size) (SA:Pw r (seg (arrOf st).toList sa na)) (SB:Pw r (seg (arrOf st).toList sb nb))
  (h:∀aa,kindOf aa=κ→(arrOf aa).Perm a₀→failedOf aa=none→(pendingOf aa).toList=pre++(sa,na+nb,pw)::post→(arrOf aa).toList.take sa=(arrOf st).toList.take sa→(arrOf aa).toList.drop (sb+nb)=(arrOf st).toList.drop (sb+nb)→Pw r (seg (arrOf aa).toList sa (na+nb))→Q true aa):
  wpS (model prog w) A E s (mergeAt' i) Q st:=by
 have bY:(arrOf st).size=a₀.size:=hP.size_eq
 have e1:(pendingOf st)[i]? =some (sa,na,pw):=by
  rw[←Array.getElem?_toList,hp,←hi]
  simp
 have e2:(pendingOf st)[i+1]? =some (sb,nb,sE):=by
  rw[←Array.getElem?_toList,hp,←hi,List.getElem?_append_right (by omega),show pre.length+1 - pre.length=1 by omega]
  rfl
 have Bw:(((pendingOf st).setIfInBounds i (sa,na+nb,pw)).eraseIdxIfInBounds (i+1)).toList=pre++(sa,na+nb,pw)::post:=by
  rw[Array.toList_eraseIdxIfInBounds,Array.toList_setIfInBounds,hp,←hi,List.set_append_right _ _ (Nat.le_refl _),Nat.sub_self,List.set_cons_zero,List.eraseIdx_append_of_length_le (by omega),show pre.length+1 - pre.length=1 by omega]
  rfl
 show wpS (model prog w) A E s (_ >>=_) _ _
 obtain⟨kd,xs,pd,ga,fl⟩:=st
 refine wpS_bind (wpS_get ?_)
 replace e1:pd[i]? =some (sa,na,pw):=e1
 replace e2:pd[i+1]? =some (sb,nb,sE):=e2
 dsimp only
 rw[e1,e2]
 dsimp only
 refine wpS_bind (PX ?_)
 refine PV (fun eK=>kindOf eK=κ∧arrOf eK=xs∧(pendingOf eK).toList=pre++(sa,na+nb,pw)::post∧failedOf eK=none) ⟨hk,rfl,Bw,hF⟩ ?_
 rintro eK ⟨g1,g2,g3,g4⟩
 clear Bw e1 e2
 replace hP:xs.Perm a₀:=hP
 replace bY:xs.size=a₀.size:=bY
 replace SA:Pw r (seg xs.toList sa na):=SA
 replace SB:Pw r (seg xs.toList sb nb):=SB
 have mm:∀{j:Nat}{x:Keyed},xs[j]? =some x→x∈a₀.toList:=fun hx=> (Array.perm_iff_toList_perm.mp hP).mem_iff.mp (Zv hx)
 have lA:(seg xs.toList sa na).length=na:=EA (by rw[Array.length_toList];omega)
 have lB:(seg xs.toList sb nb).length=nb:=EA (by rw[Array.length_toList];omega)
 have yD:∀{j:Nat}{x:Keyed},j<na→xs[sa+j]? =some x→(seg xs.toList sa na)[j]? =some x:=fun hj hx=>by rw[YJ hj,Array.getElem?_toList];exact hx
 have yC:∀{j:Nat}{x:Keyed},j<nb→xs[sb+j]? =some x→(seg xs.toList sb nb)[j]? =some x:=fun hj hx=>by rw[YJ hj,Array.getElem?_toList];exact hx
 have uw:∀{j:Nat}{x:Keyed},(seg xs.toList sa na)[j]? =some x→j<na∧xs[sa+j]? =some x:=fun {j x} hx=>by
  have hj:j<na:=by have:=(List.getElem?_eq_some_iff.mp hx).1;omega
  exact⟨hj,by rw[YJ hj,Array.getElem?_toList]at hx;exact hx⟩
 have yB:∀{j:Nat}{x:Keyed},(seg xs.toList sb nb)[j]? =some x→j<nb∧xs[sb+j]? =some x:=fun {j x} hx=>by
  have hj:j<nb:=by have:=(List.getElem?_eq_some_iff.mp hx).1;omega
  exact⟨hj,by rw[YJ hj,Array.getElem?_toList]at hx;exact hx⟩
 have fin:∀(k n:Nat) (M:List Keyed) (aa:SortSt),k≤na→n≤nb→kindOf aa=κ→failedOf aa=none→(pendingOf aa).toList=pre++(sa,na+nb,pw)::post→M.Perm ((seg xs.toList sa na).drop k++(seg xs.toList sb nb).take n)→Pw r M→
   (∀x∈(seg xs.toList sa na).take k,∀y∈seg xs.toList sb nb,r y x=false)→(∀z∈seg xs.toList sa na,∀w∈(seg xs.toList sb nb).drop n,r w z=false)→
   (arrOf aa).toList=xs.toList.take (sa+k)++(M++xs.toList.drop (sa+k+M.length))→Q true aa:=fun k n M aa Mf gq f1 f2 f3 f4 f5 f6 f7 f8=>by
  have lM:M.length=(na - k)+n:=by
   rw[f4.length_eq,List.length_append,List.length_drop,List.length_take,lA,lB,Nat.min_eq_left gq]
  have hL:xs.toList.length=a₀.size:=by rw[Array.length_toList];exact bY
  have eA:xs.toList.take (sa+k)=xs.toList.take sa++(seg xs.toList sa na).take k:=by
   rw[List.take_add]
   unfold seg
   rw[List.take_take,Nat.min_eq_left Mf]
  have eB:xs.toList.drop (sa+k+M.length)=(seg xs.toList sb nb).drop n++xs.toList.drop (sb+nb):=by
   rw[lM,show sa+k+(na - k+n)=sb+n by omega,←List.drop_drop]
   have:xs.toList.drop sb=seg xs.toList sb nb++xs.toList.drop (sb+nb):=by
    unfold seg
    rw[←List.drop_drop,List.take_append_drop]
   rw[this,List.drop_append_of_le_length (by rw[lB];exact gq)]
  have Od:xs.toList=xs.toList.take sa++((seg xs.toList sa na++seg xs.toList sb nb)++xs.toList.drop (sb+nb)):=by
   have a1:xs.toList.drop sa=seg xs.toList sa na++xs.toList.drop sb:=by
    unfold seg
    rw[G2,←List.drop_drop,List.take_append_drop]
   have a2:xs.toList.drop sb=seg xs.toList sb nb++xs.toList.drop (sb+nb):=by
    unfold seg
    rw[←List.drop_drop,List.take_append_drop]
   rw[List.append_assoc,←a2,←a1,List.take_append_drop]
  have eN:(arrOf aa).toList=xs.toList.take sa++(((seg xs.toList sa na).take k++(M++(seg xs.toList sb nb).drop n))++xs.toList.drop (sb+nb)):=by
   rw[f8,eA,eB]
   simp only[List.append_assoc]
  have lX:(xs.toList.take sa).length=sa:=by rw[List.length_take];omega
  have lY:((seg xs.toList sa na).take k++(M++(seg xs.toList sb nb).drop n)).length=na+nb:=by
   rw[List.length_append,List.length_append,List.length_take,List.length_drop,lA,lB,lM];omega
  have pY:((seg xs.toList sa na).take k++(M++(seg xs.toList sb nb).drop n)).Perm (seg xs.toList sa na++seg xs.toList sb nb):=by
   refine List.Perm.trans (List.Perm.append_left _ (List.Perm.append_right _ f4)) ?_
   rw[List.append_assoc,List.take_append_drop,←List.append_assoc,List.take_append_drop]
  refine h aa f1 ?_ f2 f3 ?_ ?_ ?_
  ·refine Array.perm_iff_toList_perm.mpr (List.Perm.trans ?_ (Array.perm_iff_toList_perm.mp hP))
   rw[eN]
   refine List.Perm.trans (List.Perm.append_left _ (List.Perm.append_right _ pY)) ?_
   rw[←Od]
  ·rw[eN,List.take_left' lX]
  ·rw[eN,←List.append_assoc,List.drop_left' (by rw[List.length_append,lX,lY];omega)]
  ·have:seg (arrOf aa).toList sa (na+nb)=(seg xs.toList sa na).take k++(M++(seg xs.toList sb nb).drop n):=by
    rw[eN]
    show List.take (na+nb) (List.drop sa (xs.toList.take sa++(((seg xs.toList sa na).take k++(M++(seg xs.toList sb nb).drop n))++xs.toList.drop (sb+nb))))=_
    rw[List.drop_left' lX,List.take_left' lY]
   rw[this]
   exact RG o SA SB f4 f5 f6 f7
 obtain⟨y0,kq⟩:=Zd (xs:=xs) (i:=sb) (by omega)
 refine wpS_bind (Zk kq ?_)
 have Ng:∀y∈seg xs.toList sb nb,r y y0=false:=fun y hy=>by
  obtain⟨j,hj⟩:=List.getElem?_of_mem hy
  exact Yd o SB (yC (j:=0) (by omega) kq) hj (Nat.zero_le _)
 refine wpS_bind (ZH hc g1 (fun i=>match xs[sa+i]? with |some x=> !r y0 x |none=>false) (fun i hi=> ?_) (mm kq) (fun i j cb hj hp=> ?_) (by omega) fun k kn dG cO=> ?_)
 ·obtain⟨x,hx⟩:=Zd (xs:=xs) (i:=sa+i) (by omega)
  refine⟨x,hx,mm hx,?_⟩
  try dsimp only
  rw[hx]
  rfl
 ·obtain⟨xj,fS⟩:=Zd (xs:=xs) (i:=sa+j) (by omega)
  obtain⟨xi,fT⟩:=Zd (xs:=xs) (i:=sa+i) (by omega)
  try dsimp only at hp ⊢
  rw[fS]at hp
  rw[fT]
  rw[Bool.not_eq_true']at hp ⊢
  exact o.df _ _ _ (Yd o SA (yD (by omega) fT) (yD (by omega) fS) cb) hp
 dsimp only
 have low:∀x∈(seg xs.toList sa na).take k,∀y∈seg xs.toList sb nb,r y x=false:=fun x hx y hy=>by
  obtain⟨j,hj⟩:=List.getElem?_of_mem hx
  have BR:j<k:=by have:=(List.getElem?_eq_some_iff.mp hj).1;rw[List.length_take]at this;omega
  rw[List.getElem?_take_of_lt BR]at hj
  obtain⟨qo,mj⟩:=uw hj
  have:=dG j BR
  try dsimp only at this
  rw[mj,Bool.not_eq_true']at this
  exact o.df x y0 y this (Ng y hy)
 by_cases bA:(na - k==0)=true
 ·rw[if_pos bA]
  have ek:k=na:=by have:=beq_iff_eq.mp bA;omega
  subst ek
  refine wpS_pure (fin k 0 [] eK (Nat.le_refl _) (Nat.zero_le _) g1 g4 g3 (by rw[List.drop_eq_nil_of_le (by omega)];exact .refl _) .nil low (fun z hz w hw=> ?_) ?_)
  ·exact low z (by rw[List.take_of_length_le (by omega)];exact hz) w (List.mem_of_mem_drop hw)
  ·rw[g2,List.nil_append,List.length_nil,Nat.add_zero,List.take_append_drop]
 rw[if_neg bA]
 have og:¬(na - k=0):=fun z=>bA (beq_iff_eq.mpr z)
 obtain⟨x0,lZ⟩:=Zd (xs:=xs) (i:=sa+k+(na - k) - 1) (by omega)
 refine wpS_bind (Zk lZ ?_)
 have Bk:xs[sa+(na - 1)]? =some x0:=by rw[←lZ];congr 1;omega
 have Nh:∀x∈seg xs.toList sa na,r x0 x=false:=fun x hx=>by
  obtain⟨j,hj⟩:=List.getElem?_of_mem hx
  exact Yd o SA hj (yD (j:=na - 1) (by omega) Bk) (by have:=(uw hj).1;omega)
 refine wpS_bind (ZH hc g1 (fun i=>match xs[sb+i]? with |some y=>r y x0 |none=>false) (fun i hi=> ?_) (mm lZ) (fun i j cb hj hp=> ?_) (by omega) fun n nn IF IG=> ?_)
 ·obtain⟨y,hy⟩:=Zd (xs:=xs) (i:=sb+i) (by omega)
  refine⟨y,hy,mm hy,?_⟩
  try dsimp only
  rw[hy]
  rfl
 ·obtain⟨yj,cC⟩:=Zd (xs:=xs) (i:=sb+j) (by omega)
  obtain⟨yi,cD⟩:=Zd (xs:=xs) (i:=sb+i) (by omega)
  try dsimp only at hp ⊢
  rw[cC]at hp
  rw[cD]
  exact Jq o hp (Yd o SB (yC (by omega) cD) (yC (by omega) cC) cb)
 dsimp only
 have high:∀z∈seg xs.toList sa na,∀w∈(seg xs.toList sb nb).drop n,r w z=false:=fun z hz w hw=>by
  obtain⟨j,hj⟩:=List.getElem?_of_mem hw
  rw[List.getElem?_drop]at hj
  obtain⟨qo,mj⟩:=yB hj
  have:=IG (n+j) (by omega) qo
  try dsimp only at this
  rw[mj]at this
  exact o.df z x0 w (Nh z hz) this
 by_cases bN:(n==0)=true
 ·rw[if_pos bN]
  have en:n=0:=beq_iff_eq.mp bN
  subst en
  refine wpS_pure (fin na 0 [] eK (Nat.le_refl _) (Nat.zero_le _) g1 g4 g3 (by rw[List.drop_eq_nil_of_le (by omega)];exact .refl _) .nil (fun x hx y hy=> ?_) high ?_)
  ·exact high x (List.mem_of_mem_take hx) y (by rw[List.drop_zero];exact hy)
  ·rw[g2,List.nil_append,List.length_nil,Nat.add_zero,List.take_append_drop]
 rw[if_neg bN]
 have td:¬(n=0):=fun z=>bN (beq_iff_eq.mpr z)
 have xA:(xs.extract (sa+k) sb).toList=(seg xs.toList sa na).drop k:=by
  rw[JL]
  unfold seg
  rw[List.drop_take,List.drop_drop,show sb - (sa+k)=na - k by omega]
 have xB:(xs.extract sb (sb+n)).toList=(seg xs.toList sb nb).take n:=by
  rw[JL,show sb+n - sb=n by omega]
  unfold seg
  rw[List.take_take,Nat.min_eq_left nn]
 have GD:(xs.extract (sa+k) sb).size=na - k:=by rw[←Array.length_toList,xA,List.length_drop,lA]
 have Vd:(xs.extract sb (sb+n)).size=n:=by rw[←Array.length_toList,xB,List.length_take,lB];omega
 have C:fc r (xs.extract (sa+k) sb) (xs.extract sb (sb+n)):=⟨o,by rw[xA];exact List.Pairwise.sublist (List.drop_sublist _ _) SA,by rw[xB];exact List.Pairwise.sublist (List.take_sublist _ _) SB⟩
 have mA:∀x∈(xs.extract (sa+k) sb).toList,x∈a₀.toList:=fun x hx=>by
  rw[xA]at hx
  obtain⟨j,hj⟩:=List.getElem?_of_mem (List.mem_of_mem_drop hx)
  exact mm (uw hj).2
 have mB:∀x∈(xs.extract sb (sb+n)).toList,x∈a₀.toList:=fun x hx=>by
  rw[xB]at hx
  obtain⟨j,hj⟩:=List.getElem?_of_mem (List.mem_of_mem_take hx)
  exact mm (yB hj).2
 have m0:∀y,(xs.extract sb (sb+n))[0]? =some y→∀x∈(xs.extract (sa+k) sb).toList,r x y=false:=fun y hy x hx=>by
  have je:=Zx hy
  rw[xB,List.getElem?_take_of_lt (by omega),YJ (by omega),Nat.add_zero,Array.getElem?_toList,kq]at je
  cases je
  rw[xA]at hx
  obtain⟨j,hj⟩:=List.getElem?_of_mem hx
  rw[List.getElem?_drop]at hj
  obtain⟨qo,mj⟩:=uw hj
  have:=cO (k+j) (by omega) qo
  try dsimp only at this
  rw[mj,Bool.not_eq_false']at this
  exact o.bR _ _ this
 have ml:∀x,(xs.extract (sa+k) sb)[(xs.extract (sa+k) sb).size - 1]? =some x→∀y∈(xs.extract sb (sb+n)).toList,r x y=false:=fun x hx y hy=>by
  have wK:=Zx hx
  rw[GD,xA,List.getElem?_drop,YJ (by omega),Array.getElem?_toList,show sa+(k+(na - k - 1))=sa+(na - 1) by omega,Bk]at wK
  cases wK
  rw[xB]at hy
  obtain⟨j,hj⟩:=List.getElem?_of_mem hy
  have BQ:j<n:=by have:=(List.getElem?_eq_some_iff.mp hj).1;rw[List.length_take]at this;omega
  rw[List.getElem?_take_of_lt BQ]at hj
  obtain⟨qo,mj⟩:=yB hj
  have:=IF j BQ
  try dsimp only at this
  rw[mj]at this
  exact o.bR _ _ this
 have done:∀(res:Array Keyed) (av:SortSt),SG eK av→Good r (xs.extract (sa+k) sb) (xs.extract sb (sb+n)) res→Q true (setArr av (List.foldl (fun a x=>a.setIfInBounds (sa+k+x.snd) x.fst) (arrOf av) res.toList.zipIdx)):=fun res av sg gd=>by
  have p1:=gd.1
  rw[xA,xB]at p1
  have lR:res.toList.length=na - k+n:=by rw[p1.length_eq,List.length_append,List.length_drop,List.length_take,lA,lB];omega
  refine fin k n res.toList _ kn nn (by show kindOf av=κ;rw[sg.1];exact g1) (by show failedOf av=none;rw[sg.2.2.2];exact g4) (by show(pendingOf av).toList=_;rw[sg.2.2.1];exact g3) p1 gd.2 low high ?_
  show(List.foldl (fun a x=>a.setIfInBounds (sa+k+x.snd) x.fst) (arrOf av) res.toList.zipIdx).toList=_
  rw[sg.2.1,g2]
  exact EO (sa+k) res.toList 0 xs (by rw[lR];omega)
 by_cases hle:na - k≤n
 ·rw[if_pos hle]
  refine wpS_bind (UQ hc g1 C mA mB (by omega) (by omega) m0 ml fun res av sg gd=> ?_)
  refine wpS_bind (wpS_modify (wpS_bind (wpS_get ?_)))
  have ef:(failedOf (setArr av (List.foldl (fun a x=>a.setIfInBounds (sa+k+x.snd) x.fst) (arrOf av) res.toList.zipIdx))).isNone=true:=by
   show(failedOf av).isNone=true
   rw[sg.2.2.2,g4]
   rfl
  rw[ef]
  exact wpS_pure (done res av sg gd)
 ·rw[if_neg hle]
  refine wpS_bind (UR hc g1 C mA mB (by omega) (by omega) m0 ml fun res av sg gd=> ?_)
  refine wpS_bind (wpS_modify (wpS_bind (wpS_get ?_)))
  have ef:(failedOf (setArr av (List.foldl (fun a x=>a.setIfInBounds (sa+k+x.snd) x.fst) (arrOf av) res.toList.zipIdx))).isNone=true:=by
   show(failedOf av).isNone=true
   rw[sg.2.2.2,g4]
   rfl
  rw[ef]
  exact wpS_pure (done res av sg gd)
structure RS (a₀:Array Keyed) (κ:SortKind) (r:Keyed→Keyed→Bool) (st:SortSt) (lo:Nat):Prop where
 kind:kindOf st=κ
 perm:(arrOf st).Perm a₀
 fail:failedOf st=none
 runs:Runs r (arrOf st).toList (pendingOf st).toList 0 lo
 le:lo≤a₀.size
theorem OC {α:Type}{l:List α}{i:Nat}(h:i+1<l.length):∃pre a b post,l=pre++a::b::post∧pre.length=i:=by
 refine⟨l.take i,l[i],l[i+1],l.drop (i+2),?_,by rw[List.length_take];omega⟩
 rw[←List.drop_eq_getElem_cons h,←List.drop_eq_getElem_cons (by omega),List.take_append_drop]
theorem RS.merge {st:SortSt}{lo i:Nat}{Q:Bool→SortSt→Prop}(o:Ord r) (hc:iZ prog w A E s κ a₀ r) (R:RS a₀ κ r st lo) (hi:i+1< (pendingOf st).size)
  (h:∀aa,RS a₀ κ r aa lo→(pendingOf aa).size+1=(pendingOf st).size→(arrOf aa).toList.drop lo=(arrOf st).toList.drop lo→Q true aa):wpS (model prog w) A E s (mergeAt' i) Q st:=by
 obtain⟨pre,⟨sa,na,pw⟩,⟨sb,nb,sE⟩,post,hp,hl⟩:=OC (l:=(pendingOf st).toList) (i:=i) (by rw[Array.length_toList];exact hi)
 have hr:=R.runs
 rw[hp]at hr
 obtain⟨m,h1,h2⟩:=Runs.app.mp hr
 obtain⟨a1,a2,a3,h3⟩:=h2
 obtain⟨b1,b2,b3,h4⟩:=h3
 dsimp only at a1 a2 a3 b1 b2 b3 h4
 subst a1
 have l4:=h4.le
 have l1:=h1.le
 have le:=R.le
 refine US o hc R.kind R.perm R.fail hp hl b1 a2 b2 (by omega) a3 b3 fun aa g1 g2 g3 g4 g5 g6 g7=> ?_
 refine h aa ⟨g1,g2,g3,?_,le⟩ ?_ ?_
 ·rw[g4]
  refine Runs.app.mpr ⟨sa,h1.congr fun s n q1 q2=>EB g5.symm q2,rfl,(show 1≤na+nb by omega),g7,?_⟩
  show Runs r (arrOf aa).toList post (sa+(na+nb)) lo
  rw[←Nat.add_assoc]
  exact h4.congr fun s n q1 q2=>J9 (m:=sb+nb) g6.symm (by omega)
 ·rw[←Array.length_toList,←Array.length_toList,g4,hp]
  simp only[List.length_append,List.length_cons]
  omega
 ·have key:∀M:List Keyed,M.drop lo=(M.drop (sb+nb)).drop (lo - (sb+nb)):=fun M=>by
   rw[List.drop_drop]
   congr 1
   omega
  rw[key,key (arrOf st).toList,g6]
theorem RS.push {st:SortSt}{lo n:Nat}(R:RS a₀ κ r st lo) (n1:1≤n) (hz:lo+n≤a₀.size) (S:Pw r (seg (arrOf st).toList lo n)):RS a₀ κ r (setPending st ((pendingOf st).push (lo,n,0))) (lo+n):=by
 refine⟨R.kind,R.perm,R.fail,?_,hz⟩
 show Runs r (arrOf st).toList ((pendingOf st).push (lo,n,0)).toList 0 (lo+n)
 rw[Array.toList_push]
 exact Runs.app.mpr ⟨lo,R.runs,rfl,n1,S,rfl⟩
theorem UW {L:List Keyed}{pw:Nat} :∀{ps:List (Nat×Nat×Nat)}{i p q:Nat},Runs r L ps p q→Runs r L (ps.modify i fun x=> (x.fst,x.2.fst,pw)) p q
 | [],i,p,q,h=>by rw[List.modify_nil];exact h
 |x::ps,0,p,q,h=>by
  rw[List.modify_zero_cons]
  exact h
 |x::ps,i+1,p,q,⟨h1,h2,h3,h4⟩=>by
  rw[List.modify_succ_cons]
  exact⟨h1,h2,h3,UW h4⟩
theorem RS.pow {st:SortSt}{lo i pw:Nat}(R:RS a₀ κ r st lo):RS a₀ κ r (setPending st ((pendingOf st).modify i fun x=> (x.fst,x.2.fst,pw))) lo:=by
 refine⟨R.kind,R.perm,R.fail,?_,R.le⟩
 show Runs r (arrOf st).toList ((pendingOf st).modify i fun x=> (x.fst,x.2.fst,pw)).toList 0 lo
 rw[Array.toList_modify]
 exact UW R.runs
theorem QZ {xs ys:Array Keyed}{lo:Nat}(h:∀k,k<lo→xs[k]? =ys[k]?):xs.toList.take lo=ys.toList.take lo:=by
 refine List.ext_getElem? fun k=> ?_
 by_cases hk:k<lo
 ·rw[List.getElem?_take_of_lt hk,List.getElem?_take_of_lt hk,Array.getElem?_toList,Array.getElem?_toList]
  exact h k hk
 ·rw[List.getElem?_eq_none (by rw[List.length_take];omega),List.getElem?_eq_none (by rw[List.length_take];omega)]
theorem CB.rs {st aa:SortSt}{lo:Nat}(R:RS a₀ κ r st lo) (B:CB a₀ κ lo st aa):RS a₀ κ r aa lo:=by
 refine⟨B.kind,B.perm,B.fail.trans R.fail,?_,R.le⟩
 rw[B.pend]
 exact R.runs.congr fun s n q1 q2=>EB (QZ fun k hk=> (B.pre k hk).symm) q2
theorem WK {st:SortSt}{Q:Unit→SortSt→Prop}(o:Ord r) (hc:iZ prog w A E s κ a₀ r) (h2:2≤a₀.size) (k0:kindOf st=κ) (p0:(arrOf st).Perm a₀) (f0:failedOf st=none) (e0:pendingOf st= #[])
  (h:∀aa,(arrOf aa).Perm a₀→failedOf aa=none→Pw r (arrOf aa).toList→Q () aa):wpS (model prog w) A E s sortRuns' Q st:=by
 rw[sortRuns'_eq]
 dsimp only
 refine wpS_bind (wpS_get ?_)
 have z0:(arrOf st).size=a₀.size:=p0.size_eq
 rw[z0]
 generalize minRun' a₀.size a₀.size 0=mr
 refine wpS_bind (wpS_mono (wpS_forRange (I:=fun x c av=> ∃lo,c=(none,lo)∧RS a₀ κ r av lo∧x≤lo) (Q:=fun c av=>c=(none,a₀.size)∧RS a₀ κ r av a₀.size) ?step ?fin ⟨0,rfl,⟨k0,p0,f0,by rw[e0];exact rfl,Nat.zero_le _⟩,Nat.le_refl _⟩) ?post)
 case fin=>
  rintro c av ⟨lo,rfl,R,hx⟩
  rw[Nat.max_eq_right (Nat.zero_le _)]at hx
  have:=R.le
  obtain rfl:lo=a₀.size:=by omega
  exact⟨rfl,R⟩
 case step=>
  rintro x c av _ hx ⟨lo,rfl,R1,wJ⟩
  dsimp only
  by_cases bB:lo≥a₀.size
  ·rw[if_pos bB]
   have:=R1.le
   obtain rfl:lo=a₀.size:=by omega
   exact wpS_pure ⟨rfl,R1⟩
  rw[if_neg bB]
  refine wpS_bind (WL o hc (st:=av) ⟨R1.kind,rfl,rfl,R1.perm,fun _ _=>rfl⟩ (by omega) (by omega) fun found ak B2 f1 f2 S=> ?_)
  dsimp only
  by_cases ay:found<mr
  ·rw[if_pos ay]
   refine wpS_bind (wpS_lift (wpAny_rule ⟨rfl,?_⟩))
   have eW:found≤min (a₀.size - lo) mr:=by omega
   have Mt:min (a₀.size - lo) mr≤a₀.size - lo:=by omega
   generalize min (a₀.size - lo) mr=n at eW Mt
   refine wpS_bind (JT o hc B2 f1 eW (by omega) S fun aO B3 S3=> ?_)
   rw[if_neg (by decide)]
   have R2:=CB.rs R1 B3
   have S2:=S3.pw
   have n1:1≤n:=by omega
   clear S3 B3 B2 S
   clear ak
   revert R2 S2
   generalize aO=ak
   intro R2 S2
   refine wpS_bind (wpS_get ?_)
   cases hb:(pendingOf ak).back? with
   |none=>
    try dsimp only
    exact wpS_bind (wpS_modify (wpS_pure ⟨_,rfl,R2.push n1 (by omega) S2,by omega⟩))
   |some z=>
    obtain⟨s1,m1,p1⟩:=z
    try dsimp only
    refine wpS_bind (wpS_mono (wpS_forRange (I:=fun _ c aa=>c=(none,())∧RS a₀ κ r aa lo∧(arrOf aa).toList.drop lo=(arrOf ak).toList.drop lo) (Q:=fun c aa=>c=(none,())∧RS a₀ κ r aa lo∧(arrOf aa).toList.drop lo=(arrOf ak).toList.drop lo) ?_ (fun c aa hh=>hh) ⟨rfl,R2,rfl⟩) ?_)
    ·rintro y c aa _ _ ⟨rfl,R,hd⟩
     refine wpS_bind (wpS_get ?_)
     by_cases hs:(pendingOf aa).size>1
     ·rw[if_pos hs]
      cases hq:(pendingOf aa)[(pendingOf aa).size - 2]? with
      |none=>exact wpS_pure ⟨rfl,R,hd⟩
      |some z=>
       obtain⟨z1,z2,HI⟩:=z
       dsimp only
       split
       ·exact wpS_pure ⟨rfl,R,hd⟩
       ·refine wpS_bind (R.merge o hc (by omega) fun dk qL _ xI=> ?_)
        rw[if_neg (by decide)]
        exact wpS_pure ⟨rfl,qL,xI.trans hd⟩
     ·rw[if_neg hs]
      exact wpS_pure ⟨rfl,R,hd⟩
    rintro c aa ⟨rfl,R,hd⟩
    dsimp only
    refine wpS_bind (wpS_modify (wpS_bind (wpS_modify (wpS_pure ⟨_,rfl,R.pow.push n1 (by omega) ?_,by omega⟩))))
    show Pw r (seg (arrOf aa).toList lo _)
    rw[J9 (L':=(arrOf ak).toList) hd (Nat.le_refl _)]
    exact S2
  ·rw[if_neg ay]
   have R2:=CB.rs R1 B2
   have S2:=S.pw
   have n1:=f1
   clear S B2
   clear R1
   refine wpS_bind (wpS_get ?_)
   cases hb:(pendingOf ak).back? with
   |none=>
    try dsimp only
    exact wpS_bind (wpS_modify (wpS_pure ⟨_,rfl,R2.push n1 (by omega) S2,by omega⟩))
   |some z=>
    obtain⟨s1,m1,p1⟩:=z
    try dsimp only
    refine wpS_bind (wpS_mono (wpS_forRange (I:=fun _ c aa=>c=(none,())∧RS a₀ κ r aa lo∧(arrOf aa).toList.drop lo=(arrOf ak).toList.drop lo) (Q:=fun c aa=>c=(none,())∧RS a₀ κ r aa lo∧(arrOf aa).toList.drop lo=(arrOf ak).toList.drop lo) ?_ (fun c aa hh=>hh) ⟨rfl,R2,rfl⟩) ?_)
    ·rintro y c aa _ _ ⟨rfl,R,hd⟩
     refine wpS_bind (wpS_get ?_)
     by_cases hs:(pendingOf aa).size>1
     ·rw[if_pos hs]
      cases hq:(pendingOf aa)[(pendingOf aa).size - 2]? with
      |none=>exact wpS_pure ⟨rfl,R,hd⟩
      |some z=>
       obtain⟨z1,z2,HI⟩:=z
       dsimp only
       split
       ·exact wpS_pure ⟨rfl,R,hd⟩
       ·refine wpS_bind (R.merge o hc (by omega) fun dk qL _ xI=> ?_)
        rw[if_neg (by decide)]
        exact wpS_pure ⟨rfl,qL,xI.trans hd⟩
     ·rw[if_neg hs]
      exact wpS_pure ⟨rfl,R,hd⟩
    rintro c aa ⟨rfl,R,hd⟩
    dsimp only
    refine wpS_bind (wpS_modify (wpS_bind (wpS_modify (wpS_pure ⟨_,rfl,R.pow.push n1 (by omega) ?_,by omega⟩))))
    show Pw r (seg (arrOf aa).toList lo _)
    rw[J9 (L':=(arrOf ak).toList) hd (Nat.le_refl _)]
    exact S2
 case post=>
  rintro c av ⟨rfl,R1⟩
  dsimp only
  refine wpS_bind (wpS_mono (wpS_forRange (I:=fun x c aa=>c=(none,())∧RS a₀ κ r aa a₀.size∧(pendingOf aa).size+x≤a₀.size) (Q:=fun c aa=>c=(none,())∧RS a₀ κ r aa a₀.size∧(pendingOf aa).size≤1) ?_ ?_ ⟨rfl,R1,by have:=R1.runs.le;rw[Array.length_toList]at this;omega⟩) ?_)
  ·rintro x c aa _ _ ⟨rfl,R,hx⟩
   refine wpS_bind (wpS_get ?_)
   by_cases hs:(pendingOf aa).size≤1
   ·rw[if_pos hs]
    exact wpS_pure ⟨rfl,R,hs⟩
   rw[if_neg hs]
   have idx:∀c:Prop,∀_:Decidable c,(if c then (pendingOf aa).size - 2 - 1 else (pendingOf aa).size - 2)+1< (pendingOf aa).size:=fun c _=>by split<;>omega
   refine wpS_bind (R.merge o hc (idx _ _) fun dk qL T5 _=> ?_)
   rw[if_neg (by decide)]
   exact wpS_pure ⟨rfl,qL,by omega⟩
  ·rintro c aa ⟨rfl,R,hx⟩
   rw[Nat.max_eq_right (Nat.zero_le _)]at hx
   exact⟨rfl,R,by omega⟩
  rintro c aa ⟨rfl,R,hs⟩
  refine wpS_pure (h aa R.perm R.fail ?_)
  have hr:=R.runs
  have hl:(pendingOf aa).toList.length≤1:=by rw[Array.length_toList];exact hs
  match hp:(pendingOf aa).toList,hl with
  | [],_=>
   rw[hp]at hr
   have:0=a₀.size:=hr
   omega
  | [x],_=>
   rw[hp]at hr
   obtain⟨q1,q2,q3,q4⟩:=hr
   have Vj:0+x.2.1=a₀.size:=q4
   rw[q1]at q3
   have:seg (arrOf aa).toList 0 x.2.1=(arrOf aa).toList:=by
    unfold seg
    rw[List.drop_zero,List.take_of_length_le (by rw[Array.length_toList,R.perm.size_eq];omega)]
   rw[this]at q3
   exact q3
  |_::_::_,h=>simp at h
end
end PyProof.Rows.jt
namespace PyProof.Rows.jt
open PySem PySem.W
section
variable {prog:Program}{w:World}{A:Around}{E:Value→Shared→Prop}{s:Shared}{κ:SortKind}{r:Keyed→Keyed→Bool}
def zl (prog:Program) (w:World) (A:Around) (E:Value→Shared→Prop) (κ:SortKind) (r:Keyed→Keyed→Bool) (a:Addr) (h:Heap) (vs:List Value):Prop:=
 ∀s6:Shared,(∀b o,b≠a→h.get? b=some o→s6.heap.get? b=some o)→(2≤vs.length→∀Q:SortKind→Shared→Prop,Q κ s6→wpAny (model prog w) A (keyKind' vs.toArray) Q E s6)∧iZ prog w A E s6 κ (pairsOf vs) r
theorem SE (o:Ord r) {a:Addr}{vs:List Value}{n:Nat}{P:PySem.Fin→Shared→Prop}(ho:s.heap.get? a=some (seqObj "list" vs.toArray n)) (hc:zl prog w A E κ r a s.heap vs) (hz:vs.length≤1000)
  (h:∀xs:Array Keyed,xs.Perm (pairsOf vs)→Pw r xs.toList→P (.done (.ret .none)) {s with heap:=sortedHeap s.heap a vs (xs.map (·.2))}):
  wpAny (model prog w) A (Builtin.«list.sort» ⟨[.ref a],[]⟩) P E s:=by
 rw[list_sort_plain]
 have ha:a<s.heap.objs.size:=Heap.lt_size ho
 have qh:vs.toArray.size≤sizeLine:=by rw[List.size_toArray,sizeLine_eq];omega
 refine wpAny_bind (listItems_at ho rfl ?_)
 refine wpAny_bind (listUpdate_at ho rfl ?_ qh)
 obtain⟨e1,BB⟩:∃e1,(s.heap.update a (Obj.mapSeq fun _=> #[])).get? a=some (seqObj "list" #[] e1):=⟨_,get?_update_seq ho (fun _=> #[])⟩
 refine wpAny_bind (seqEpoch_at BB rfl ?_)
 refine wpAny_bind (wpAny_newTuple ?_ (by simpa using qh))
 refine wpAny_bind (wpAny_newList ?_)
 refine wpAny_holding ?_
 have tI:(((s.heap.update a (Obj.mapSeq fun _=> #[])).push (seqObj "tuple" vs.toArray 0)).push (seqObj "list" #[] 0)).get? a=some (seqObj "list" #[] e1):=by
  rw[Heap.get?_push_ne _ _ _ (by rw[size_push',Heap.size_update];exact Nat.ne_of_lt (Nat.lt_succ_of_lt ha)),Heap.get?_push_ne _ _ _ (by rw[Heap.size_update];exact Nat.ne_of_lt ha)]
  exact BB
 show wpAny (model prog w) A _ P E {s with heap:=((s.heap.update a (Obj.mapSeq fun _=> #[])).push (seqObj "tuple" vs.toArray 0)).push (seqObj "list" #[] 0)}
 dsimp only
 have keep:∀b o,b≠a→s.heap.get? b=some o→((((s.heap.update a (Obj.mapSeq fun _=> #[])).push (seqObj "tuple" vs.toArray 0)).push (seqObj "list" #[] 0))).get? b=some o:=fun b ob hb e=>
  Heap.get?_push_of_some _ (Heap.get?_push_of_some _ (by rw[Heap.get?_update_ne _ _ _ _ hb];exact e))
 obtain⟨hk,B8⟩:=hc {s with heap:=((s.heap.update a (Obj.mapSeq fun _=> #[])).push (seqObj "tuple" vs.toArray 0)).push (seqObj "list" #[] 0)} keep
 have bY:vs.toArray.size=vs.length:=by simp
 by_cases h2:vs.toArray.size<2
 ·rw[if_pos h2,if_pos h2]
  refine wpAny_bind (wpAny_pure ?_)
  rw[StateT.run_pure]
  refine wpAny_bind (wpAny_pure ?_)
  dsimp only
  refine wpAny_bind (seqEpoch_at tI rfl ?_)
  refine wpAny_bind (listUpdate_at tI rfl ?_ (hsz2:=by rw[Array.size_map];show(pairsOf vs).size≤_;rw[pairsOf_size,sizeLine_eq];omega))
  simp only[bne_self_eq_false,Bool.false_eq_true,if_false]
  refine wpAny_pure (h (pairsOf vs) (Array.Perm.refl _) ?_)
  have hl:(pairsOf vs).toList.length<2:=by rw[Array.length_toList,pairsOf_size];omega
  match (pairsOf vs).toList,hl with
  | [],_=>exact .nil
  | [x],_=>exact List.pairwise_singleton _ _
  |_::_::_,h=>exact absurd h (by simp)
 ·rw[if_neg h2,if_neg h2]
  refine wpAny_bind (hk (by omega) _ ?_)
  refine wpAny_bind (wpAny_mono (WK (κ:=κ) (r:=r) (a₀:=pairsOf vs) (st:=SortSt.mk' κ (vs.toArray.zip vs.toArray) #[] 7 none)
   (Q:=fun _ aa=> (arrOf aa).Perm (pairsOf vs)∧failedOf aa=none∧Pw r (arrOf aa).toList) o B8 (by rw[pairsOf_size];omega) rfl (Array.Perm.refl _) rfl rfl fun aa a1 a2 a3=> ⟨a1,a2,a3⟩) ?_ fun _ _ e=>e)
  rintro⟨⟨⟩,aa⟩ s' ⟨rfl,hp,hf,hs⟩
  dsimp only
  refine wpAny_bind (seqEpoch_at tI rfl ?_)
  refine wpAny_bind (listUpdate_at tI rfl ?_ (hsz2:=by refine Nat.le_trans (Nat.le_of_eq ((Array.size_map ..).trans (hp.size_eq.trans (pairsOf_size _)))) ?_;rw[sizeLine_eq];omega))
  rw[hf]
  simp only[bne_self_eq_false,Bool.false_eq_true,if_false]
  exact wpAny_pure (h _ hp hs)
theorem QV (o:Ord r) {l:Addr}{vs:List Value}{Q:Value→Shared→Prop}(hl:s.heap.IsList l vs.toArray) (hc:∀h' a,(∀b ob,s.heap.get? b=some ob→h'.get? b=some ob)→(∀b ob,s.heap.get? b=some ob→b≠a)→zl prog w A.in1.in1 (fun _ _=>False) κ r a h' vs) (hz:vs.length≤1000)
  (h:∀xs:Array Keyed,xs.Perm (pairsOf vs)→Pw r xs.toList→Q (.ref (s.heap.objs.size+1)) {s with heap:=sortedAll s.heap vs (xs.map (·.2))}):
  wpAny (model prog w) A (call (.builtin "sorted") [.ref l]) Q E s:=by
 have qh:vs.length≤sizeLine:=by rw[sizeLine_eq];omega
 refine Calls.call_function_entry kind_sorted plain_sorted entry_sorted (args_sorted1 _) ?_
 unfold Builtin.«sorted»
 refine wpAny_bind (m:=checkCount "sorted" 1 1 _) (wpAny_pure ?_)
 refine wpAny_bind (collect_list hl ?_ qh)
 refine wpAny_bind (wpAny_newList ?_ qh)
 have bY:((s.heap.push (seqObj "list" #[] 0)).update s.heap.objs.size (Obj.mapSeq (· ++vs.toArray))).objs.size=s.heap.objs.size+1:=by
  rw[Heap.size_update,size_push']
 have hoL:(((s.heap.push (seqObj "list" #[] 0)).update s.heap.objs.size (Obj.mapSeq (· ++vs.toArray))).push (seqObj "list" vs.toArray 0)).get? (s.heap.objs.size+1)=some (seqObj "list" vs.toArray 0):=by
  rw[←bY];exact Heap.get?_push_size _ rfl
 show wpAny _ _ _ _ _ {s with heap:=((s.heap.push (seqObj "list" #[] 0)).update s.heap.objs.size (Obj.mapSeq (· ++vs.toArray))).push (seqObj "list" vs.toArray 0)}
 rw[bY]
 have asks:=hc (((s.heap.push (seqObj "list" #[] 0)).update s.heap.objs.size (Obj.mapSeq (· ++vs.toArray))).push (seqObj "list" vs.toArray 0)) (s.heap.objs.size+1)
  (fun b ob e=>Heap.get?_push_of_some _ (by rw[Heap.get?_update_ne _ _ _ _ (Nat.ne_of_lt (Heap.lt_size e))];exact Heap.get?_push_of_some _ e)) (fun b ob e=>Nat.ne_of_lt (Nat.lt_succ_of_lt (Heap.lt_size e)))
 have OO:zl prog w A.in1.in1 E κ r (s.heap.objs.size+1) (((s.heap.push (seqObj "list" #[] 0)).update s.heap.objs.size (Obj.mapSeq (· ++vs.toArray))).push (seqObj "list" vs.toArray 0)) vs:=fun s6 h6=>by
  obtain⟨q1,q2⟩:=asks s6 h6
  refine⟨fun g Q hq=>wpAny_mono (q1 g Q hq) (fun _ _ x=>x) fun _ _ x=>x.elim,fun x y st Q m1 m2 hk hq=> ?_⟩
  exact wpAny_mono (q2 x y st Q m1 m2 hk hq) (fun _ _ x=>x) fun _ _ x=>x.elim
 refine wpAny_bind (wpAny_holding (wpAny_call_entry slot_list_sort ⟨_,hoL,rfl⟩ entry_list_sort (SE o hoL OO hz fun xs a1 a2=> ⟨_,rfl,?_⟩) (args_list_sort _)))
 exact wpAny_pure ⟨_,rfl,h xs a1 a2⟩
end
def aG:List Int→List Int→Bool
 | [],[]=>false
 | [],_::_=>true
 |_::_,[]=>false
 |a::l,b::m=>if a=b then aG l m else decide (a<b)
theorem YB:∀x y,aG x y=true→aG y x=false
 | [],[],h=>by cases h
 | [],_::_,_=>rfl
 |_::_,[],h=>by cases h
 |a::l,b::m,h=>by
  unfold aG at h ⊢
  by_cases e:a=b
  ·rw[if_pos e]at h
   rw[if_pos e.symm]
   exact YB l m h
  ·rw[if_neg e]at h
   rw[if_neg (Ne.symm e)]
   have:=of_decide_eq_true h
   exact decide_eq_false (by omega)
theorem YO:∀x y z,aG y x=false→aG z y=false→aG z x=false
 | [],[],[],_,_=>rfl
 | [],[],_::_,_,_=>rfl
 | [],_::_,[],_,h=>by cases h
 | [],_::_,_::_,_,_=>rfl
 |_::_,[],_,h,_=>by cases h
 |_::_,_::_,[],_,h=>by cases h
 |a::l,b::m,c::n,h1,h2=>by
  unfold aG at h1 h2 ⊢
  by_cases e1:b=a
  ·rw[if_pos e1]at h1
   by_cases e2:c=b
   ·rw[if_pos e2]at h2
    rw[if_pos (e2.trans e1)]
    exact YO l m n h1 h2
   ·rw[if_neg e2]at h2
    have:=of_decide_eq_false h2
    rw[if_neg (by omega)]
    exact decide_eq_false (by omega)
  ·rw[if_neg e1]at h1
   have q1:=of_decide_eq_false h1
   by_cases e2:c=b
   ·rw[if_neg (by omega)]
    exact decide_eq_false (by omega)
   ·rw[if_neg e2]at h2
    have q2:=of_decide_eq_false h2
    rw[if_neg (by omega)]
    exact decide_eq_false (by omega)
theorem Ec:∀x y,aG x y=false→aG y x=false→x=y
 | [],[],_,_=>rfl
 | [],_::_,h,_=>by cases h
 |_::_,[],_,h=>by cases h
 |a::l,b::m,h1,h2=>by
  unfold aG at h1 h2
  by_cases e:a=b
  ·rw[if_pos e]at h1
   rw[if_pos e.symm]at h2
   rw[e,Ec l m h1 h2]
  ·rw[if_neg e]at h1
   rw[if_neg (Ne.symm e)]at h2
   have q1:=of_decide_eq_false h1
   have q2:=of_decide_eq_false h2
   omega
theorem Qu (key:Value→List Int):Ord fun x y:Keyed=>aG (key x.1) (key y.1):=⟨fun _ _=>YB _ _,fun _ _ _=>YO _ _ _⟩
section
variable {prog:Program}{w:World}{A:Around}{s:Shared}{b:Bool}{Q:Bool→Shared→Prop}
theorem Qq {c:Bool}{x y:Int}{t u:Tok}(h:Q (decide (x<y)) s):wpAny (model prog w) A (oneLt' c (.int x t) (.int y u)) Q (fun _ _=>False) s:=by
 cases c with
 |true=>exact oneLt_int h
 |false=>exact kat_one _ _ (lt_int (Q:=PySem.W.BoolBack Q) h)
theorem Et {fin:Bool} :∀{us vs:List Value}{xs ys:List Int}{i:Nat},IntsAre us xs→IntsAre vs ys→fin=decide (xs.length<ys.length)→Q (aG xs ys) s→KatLex prog w A b fin Q (us.zip vs) i s
 |_,_,_,_,i,.nil,.nil,hf,h=>by
  subst hf
  exact h
 |_,_,_,_,i,.nil,.cons _ _ _,hf,h=>by
  subst hf
  exact h
 |_,_,_,_,i,.cons _ _ _,.nil,hf,h=>by
  subst hf
  exact h
 |_,_,_,_,i,.cons x t ix,.cons y u iy,hf,h=>by
  rw[List.zip_cons_cons]
  refine kat_cons (SeqAt.EqAt.int_int (A:=A) (s:=s) x t y u _ _ _ _ ?_)
  unfold aG at h
  by_cases e:x=y
  ·rw[if_pos e]at h
   rw[beq_iff_eq.mpr e]
   exact kat_yes (Et ix iy (by rw[hf];exact decide_eq_decide.mpr (by simp only[List.length_cons];omega)) h)
  ·rw[if_neg e]at h
   rw[beq_eq_false_iff_ne.mpr e]
   exact kat_no (Qq h)
end
end PyProof.Rows.jt
namespace L2
open PySem PySem.Spec PyProof.Rows PyProof.Rows.jt
def ba (H:Hp) (v:V) (k:List Int):Prop:=∃t:Addr,v=.ref t∧H t=some (.tup (k.map V.int))
theorem ba.same {H H':Hp}{v:V}{k:List Int}(h:ba H v k) (s:af H H'):ba H' v k:=by
 obtain⟨t,e,h1⟩:=h
 exact⟨t,e,s _ _ h1⟩
def fB (h:Heap):Value→List Int
 | .ref t=>match h.get? t with
  |some o=>match o.data with
   | .seq its _=>its.toList.map numOf
   |_=> []
  |none=> []
 |_=> []
theorem YQ {h:Heap}{t:Addr}{o:Obj}{its:Array Value}{n:Nat}{k:List Int}(e:h.get? t=some o) (d:o.data=.seq its n) (i:IntsAre its.toList k):fB h (.ref t)=k:=by
 unfold fB
 dsimp only
 rw[e]
 dsimp only
 rw[d]
 dsimp only
 clear d e
 generalize its.toList=us at i
 induction i with
 |nil=>rfl
 |cons x t _ ih=>rw[List.map_cons,ih];rfl
def toV:Value→V
 | .ref t=> .ref t
 |_=> .ae
def S8 (h:Heap) (u:Value) (k:List Int):Prop:=∃(t:Addr) (o:Obj) (its:Array Value) (n:Nat),u=.ref t∧h.get? t=some o∧o.cls=.type "tuple" ∧o.data=.seq its n∧IntsAre its.toList k
theorem lF {α β:Type}{R:α→β→Prop} :∀{xs:List α}{ys:List β}{x:α},Paired R xs ys→x∈xs→∃y∈ys,R x y
 |_,_,_,.cons h r,m=>by
  rcases List.mem_cons.mp m with rfl |m
  ·exact⟨_,List.mem_cons_self,h⟩
  ·obtain⟨y,hy,q⟩:=lF r m
   exact⟨y,List.mem_cons_of_mem _ hy,q⟩
theorem Y5 {α β:Type}{R:α→β→Prop}{f:α→β} :∀{xs:List α}{ys:List β},Paired R xs ys→(∀x y,R x y→f x=y)→xs.map f=ys
 |_,_,.nil,_=>rfl
 |_,_,.cons h r,e=>by rw[List.map_cons,e _ _ h,Y5 r e]
theorem JG {vs:List Value}{p:Keyed}(h:p∈(pairsOf vs).toList):p.1∈vs∧p.2=p.1:=by
 unfold pairsOf at h
 rw[Array.toList_zip,List.toList_toArray]at h
 have:∀(l:List Value),p∈l.zip l→p.1∈l∧p.2=p.1:=fun l=>by
  induction l with
  |nil=>intro h;cases h
  |cons a l ih=>
   intro h
   rw[List.zip_cons_cons]at h
   rcases List.mem_cons.mp h with rfl |h
   ·exact⟨List.mem_cons_self,rfl⟩
   ·exact⟨List.mem_cons_of_mem _ (ih h).1,(ih h).2⟩
 exact this vs h
abbrev I4:=Int×Int×Int×Int
def bq (q:I4):List Int:=[q.1,q.2.1,q.2.2.1,q.2.2.2]
theorem Rr {a b:I4}(h:bq a=bq b):a=b:=by
 obtain⟨a1,a2,a3,a4⟩:=a
 obtain⟨b1,b2,b3,b4⟩:=b
 simp only[bq,List.cons.injEq,and_true]at h
 obtain⟨h1,h2,h3,h4⟩:=h
 subst h1 h2 h3 h4
 rfl
def mQ (H:Hp) (v:V) (q:I4):Prop:=∃t t':Addr,v=.ref t∧H t=some (.tup [.ref t',.int q.2.2.1,.int q.2.2.2])∧H t'=some (.tup [.int q.1,.int q.2.1])
def jZ (h:Heap) (u:Value) (k:I4):Prop:=∃(t:Addr) (o:Obj) (n:Nat) (t':Addr) (o':Obj) (n':Nat) (k1 k2 k3 k4:Tok),u=.ref t∧h.get? t=some o∧o.cls=.type "tuple" ∧o.data=.seq #[.ref t',.int k.2.2.1 k3,.int k.2.2.2 k4] n∧
 h.get? t'=some o'∧o'.cls=.type "tuple" ∧o'.data=.seq #[.int k.1 k1,.int k.2.1 k2] n'
theorem jZ.keep {h h':Heap}{u:Value}{k:I4}{a:Addr}(x:jZ h u k) (kp:∀b o,b≠a→h.get? b=some o→h'.get? b=some o) (na:∀b o,h.get? b=some o→b≠a):jZ h' u k:=by
 obtain⟨t,o,n,t',o',n',k1,k2,k3,k4,e,g,c,d,g',c',d'⟩:=x
 exact⟨t,o,n,t',o',n',k1,k2,k3,k4,e,kp t o (na t o g) g,c,d,kp t' o' (na t' o' g') g',c',d'⟩
def jM (h:Heap):Value→List Int
 | .ref t=>match h.get? t with
  |some o=>match o.data with
   | .seq its _=>fB h (its.toList.getD 0 .none)++(its.toList.drop 1).map numOf
   |_=> []
  |none=> []
 |_=> []
theorem J5 {h:Heap}{u:Value}{k:I4}(x:jZ h u k):jM h u=bq k:=by
 obtain⟨t,o,n,t',o',n',k1,k2,k3,k4,rfl,g,c,d,g',c',d'⟩:=x
 have e:=YQ g' d' (k:=[k.1,k.2.1]) (.cons _ _ (.cons _ _ .nil))
 unfold jM
 dsimp only
 rw[g]
 dsimp only
 rw[d]
 dsimp only
 show fB h (.ref t')++_=_
 rw[e]
 rfl
theorem Sa {h:Heap}{us:List Value}{ks:List I4}(p:Paired (jZ h) us ks):∃fs,PySem.W.KatTups h us fs∧fs.length=us.length∧∀f∈fs,∃t o,f=.ref t∧h.get? t=some o∧o.cls=.type "tuple" :=by
 induction p with
 |nil=>exact⟨[],.nil,rfl,fun f hf=>by cases hf⟩
 |cons hh _ ih=>
  obtain⟨fs,h1,h2,h3⟩:=ih
  obtain⟨t,o,n,t',o',n',k1,k2,k3,k4,e,g,c,d,g',c',d'⟩:=hh
  subst e
  refine⟨.ref t'::fs,.cons g c d rfl h1,by rw[List.length_cons,List.length_cons,h2],fun f hf=> ?_⟩
  rcases List.mem_cons.mp hf with rfl |hf
  ·exact⟨_,_,rfl,g',c'⟩
  ·exact h3 f hf
theorem Rw (a b a' b':Int) (l m:List Int):aG (a::b::l) (a'::b'::m)=if [a,b]=[a',b'] then aG l m else HT.lexLt [a,b] [a',b']:=by
 by_cases e1:a=a'
 ·subst e1
  by_cases e2:b=b'
  ·subst e2
   simp[aG]
  ·simp[aG,e2,HT.lexLt]
 ·simp[aG,e1,HT.lexLt]
theorem P6 {A:Around}{s:Shared}{t t':Addr}{o o':Obj}{n n':Nat}{a b a' b':Int}{k1 k2 k3 k4:Tok}(hu:A.units<cLine) (g:s.heap.get? t=some o) (c:o.cls=.type "tuple") (d:o.data=.seq #[.int a k1,.int b k2] n)
  (g':s.heap.get? t'=some o') (c':o'.cls=.type "tuple") (d':o'.data=.seq #[.int a' k3,.int b' k4] n'):SeqAt.EqAt A s (.ref t) (.ref t') (decide ([a,b]=[a',b'])):=by
 by_cases h:t=t'
 ·subst h
  rw[g]at g'
  cases g'
  rw[d]at d'
  have e:a=a'∧b=b':=by
   injection d' with e1 e2
   simp at e1
   exact⟨e1.1.1,e1.2.1⟩
  rw[e.1,e.2]
  have:=SeqAt.EqAt.same (A:=A) (s:=s) (.ref t)
  simpa using this
 ·refine SeqAt.EqAt.of_refs h ?_
  have z:=SeqAt.RcAt.tuples (A:=A) (s:=s) (l:=t) (b:=t') (items:= #[.int a k1,.int b k2]) (items2:= #[.int a' k3,.int b' k4]) (e:=fun j=>if j=0 then a==a' else b==b') ⟨o,g,c,n,d⟩ ⟨o',g',c',n',d'⟩ hu (fun j h1 h2=>by
   have Ni:j<2:=h1
   match j,Ni with
   |0,_=>exact SeqAt.EqAt.int_int _ _ _ _
   |1,_=>exact SeqAt.EqAt.int_int _ _ _ _)
  have e:((List.range (min (#[Value.int a k1,Value.int b k2]:Array Value).size (#[Value.int a' k3,Value.int b' k4]:Array Value).size)).all (fun j=>if j=0 then a==a' else b==b')&&(#[Value.int a k1,Value.int b k2]:Array Value).size==(#[Value.int a' k3,Value.int b' k4]:Array Value).size)=decide ([a,b]=[a',b']):=by
   show((List.range 2).all (fun j=>if j=0 then a==a' else b==b')&&2==2)=_
   rw[Bool.eq_iff_iff]
   simp[List.range_succ]
  rw[e]at z
  exact z
section
variable {X:Cx}
theorem JA (hu:X.A.units+2<cLine):eE X (.builtin "sorted") (fun xs H Q=> ∃(p:Addr) (vs:List V) (ks:List I4),xs=[.ref p]∧ag X.K H p vs∧Paired (mQ H) vs ks∧vs.length≤1000∧
  ∀(q:Addr) (oU:List V) (qa:List I4),H q=none→qa.Perm ks→(qa.map bq).Pairwise (fun a b=>aG b a=false)→Paired (mQ H) oU qa→Q (.ref q) (upd H q (.lst oU))):=by
 intro pins s σ H xs us Q I r h
 obtain⟨p,vs,ks,rfl,hp,pr,hz,q⟩:=h
 obtain⟨u,rfl,ru⟩:=vals1 r
 cases ru
 obtain⟨its,rv,pl,_⟩:=I.list hp
 have hl:=rv.length
 have key:∀{vs:List V}{ks:List I4}{its:List Value},Paired (mQ H) vs ks→Vals vs its→Paired (fun u k=>jZ s.heap u k∧mQ H (toV u) k) its ks:=by
  intro vs ks its pr
  induction pr generalizing its with
  |nil=>intro rv;cases rv;exact .nil
  |cons hh _ ih=>
   intro rv
   cases rv with
   |cons r1 r2=>
    refine .cons ?_ (ih r2)
    obtain⟨t,t',rfl,ht,oj⟩:=hh
    cases r1
    obtain⟨i1,ri,⟨o,go,oc,n,od⟩,_⟩:=I.tuple (ah.of ht)
    obtain⟨i2,Hj,⟨o',go',Iu,n',Ir⟩,_⟩:=I.tuple (ah.of oj)
    refine⟨?_,t,t',rfl,ht,oj⟩
    cases ri with
    |cons a1 a2=>
     cases a2 with
     |cons a3 a4=>
      cases a4 with
      |cons a5 a6=>
       cases a6
       cases Hj with
       |cons b1 b2=>
        cases b2 with
        |cons b3 b4=>
         cases b4
         cases a1
         obtain⟨k3,rfl⟩:=a3
         obtain⟨k4,rfl⟩:=a5
         obtain⟨k1,rfl⟩:=b1
         obtain⟨k2,rfl⟩:=b3
         exact⟨t,o,n,t',o',n',k1,k2,k3,k4,rfl,go,oc,od,go',Iu,Ir⟩
 have tp:=key pr rv
 have tu:Paired (jZ s.heap) its ks:=Paired.ck tp fun _ _ h=>h.1
 refine QV (κ:=tuples' false) (r:=fun x y=>aG (jM s.heap x.1) (jM s.heap y.1)) (Qu _) pl.isList (fun h' a kp na s6 h6=> ?_) (by omega) fun xs Bj wI=> ?_
 ·have FA:Paired (jZ s6.heap) its ks:=Paired.ck tu fun u k x=>x.keep (a:=a) (fun b o hb e=>h6 b o hb (kp b o e)) na
  refine⟨fun h2 Q' hq=> ?_,fun x y st Q' mx my hk hq=> ?_⟩
  ·obtain⟨fs,kt,kl,kf⟩:=Sa FA
   refine PySem.W.kat_kind (T:=.type "tuple") kt (by omega) (fun v hv=> ?_) (by rfl) hq
   obtain⟨t,o,rfl,g,c⟩:=kf v hv
   rw[←c]
   exact(PySem.W.Looks.ld g).andThen .now
  ·rw[lt'_eq]
   refine wpS_bind (wpS_get ?_)
   rw[hk]
   obtain⟨Ke,_⟩:=JG mx
   obtain⟨Kd,_⟩:=JG my
   obtain⟨kx,_,nx⟩:=lF tu Ke
   obtain⟨ky,_,ny⟩:=lF tu Kd
   dsimp only at hq
   rw[J5 nx,J5 ny]at hq
   obtain⟨tx,ox,n1,Fz,Vl,Kc,c1,c2,c3,c4,ex,gx,cx,dx,Cw,C8,C0⟩:=nx.keep (h':=s6.heap) (a:=a) (fun b o hb e=>h6 b o hb (kp b o e)) na
   obtain⟨ty,oy,n2,Fy,Vk,I9,d1,d2,d3,d4,ey,gy,cy,dy,Cv,C7,CZ⟩:=ny.keep (h':=s6.heap) (a:=a) (fun b o hb e=>h6 b o hb (kp b o e)) na
   rw[ex,ey]
   refine wpS_bind (wpS_lift (wpAny_attempt (PySem.W.kat_lt gx dx gy dy ?_)))
   show PySem.W.KatLex _ _ _ false (decide (3<3)) _ ((Value.ref Fz,Value.ref Fy)::([Value.int kx.2.2.1 c3,Value.int kx.2.2.2 c4].zip [Value.int ky.2.2.1 d3,Value.int ky.2.2.2 d4])) 0 _
   refine PySem.W.kat_cons (P6 (A:=X.A.in1.in1) hu Cw C8 C0 Cv C7 CZ _ _ _ _ ?_)
   have xt:aG (bq kx) (bq ky)=if [kx.1,kx.2.1]=[ky.1,ky.2.1] then aG [kx.2.2.1,kx.2.2.2] [ky.2.2.1,ky.2.2.2] else HT.lexLt [kx.1,kx.2.1] [ky.1,ky.2.1]:=Rw ..
   rw[xt]at hq
   by_cases e:[kx.1,kx.2.1]=[ky.1,ky.2.1]
   ·rw[if_pos e]at hq
    rw[decide_eq_true e]
    exact PySem.W.kat_yes (Et (xs:=[kx.2.2.1,kx.2.2.2]) (ys:=[ky.2.2.1,ky.2.2.2]) (.cons _ _ (.cons _ _ .nil)) (.cons _ _ (.cons _ _ .nil)) rfl ⟨rfl,wpS_pure hq⟩)
   ·rw[if_neg e]at hq
    rw[decide_eq_false e]
    exact PySem.W.kat_no (PySem.W.kat_one _ _ (HT.A9 ⟨_,Cw,C8,Kc,C0⟩ ⟨_,Cv,C7,I9,CZ⟩ (ns:=[kx.1,kx.2.1]) (ms:=[ky.1,ky.2.1]) (.cons _ _ (.cons _ _ .nil)) (.cons _ _ (.cons _ _ .nil)) hu ⟨rfl,wpS_pure hq⟩))
 ·have cG:∀pq∈xs.toList,pq.1∈its∧pq.2=pq.1:=fun pq w6=>JG ((Array.perm_iff_toList_perm.mp Bj).mem_iff.mp w6)
  have eo:(xs.map (·.2)).toList=xs.toList.map (·.1):=by
   rw[Array.toList_map]
   exact List.map_congr_left fun pq w6=> (cG pq w6).2
  have po:(xs.toList.map (·.1)).Perm its:=by
   refine List.Perm.trans ((Array.perm_iff_toList_perm.mp Bj).map _) ?_
   unfold pairsOf
   rw[Array.toList_zip,List.toList_toArray]
   have:∀l:List Value,(l.zip l).map (·.1)=l:=fun l=>by
    induction l with
    |nil=>rfl
    |cons a l ih=>rw[List.zip_cons_cons,List.map_cons,ih]
   rw[this]
  generalize VD:xs.map (·.2)=out at eo
  let kk:Value→I4:=fun u=>match jM s.heap u with
   | [a,b,c,d]=> (a,b,c,d)
   |_=> (0,0,0,0)
  have BO:∀u k,jZ s.heap u k→kk u=k:=fun u k x=>by
   show(match jM s.heap u with
    | [a,b,c,d]=> (a,b,c,d)
    |_=> (0,0,0,0))=k
   rw[J5 x]
   rfl
  have ek:its.map kk=ks:=Y5 tu BO
  have rel:∀u∈out.toList,mQ H (toV u) (kk u)∧bq (kk u)=jM s.heap u∧RelV (toV u) u:=fun u hu=>by
   rw[eo]at hu
   obtain⟨k,_,hT,hS⟩:=lF tp (po.mem_iff.mp hu)
   have e:=BO u k hT
   rw[e]
   refine⟨hS,(J5 hT).symm,?_⟩
   obtain⟨t,t',e2,_⟩:=hS
   obtain⟨t2,_,_,_,_,_,_,_,_,_,e3,_⟩:=hT
   subst e3
   rfl
  have vals:∀l:List Value,(∀u∈l,mQ H (toV u) (kk u)∧bq (kk u)=jM s.heap u∧RelV (toV u) u)→Vals (l.map toV) l∧Paired (mQ H) (l.map toV) (l.map kk)∧(l.map kk).map bq=l.map (jM s.heap):=fun l=>by
   induction l with
   |nil=>intro _;exact⟨.nil,.nil,rfl⟩
   |cons u l ih=>
    intro hl
    obtain⟨i1,i2,i3⟩:=ih fun v hv=>hl v (List.mem_cons_of_mem _ hv)
    obtain⟨a1,a2,a3⟩:=hl u List.mem_cons_self
    exact⟨.cons a3 i1,.cons a1 i2,by rw[List.map_cons,List.map_cons,List.map_cons,i3,a2]⟩
  obtain⟨v1,v2,v3⟩:=vals out.toList rel
  obtain⟨e,he⟩:=sortedAll_at s.heap its out
  have lo:out.toList.length=its.length:=by rw[eo];exact po.length_eq
  have hlen:(out.toList.map toV).length≤sizeLine:=by rw[List.length_map,lo,sizeLine_eq];omega
  refine⟨.ref (s.heap.objs.size+1),_,I.laid (t':=s.toks) (a:=s.heap.objs.size+1) (o:=.lst (out.toList.map toV)) (fun b o=>sortedAll_old) (Nat.le_succ _) ⟨hlen,out.toList,e,v1,by simpa using he⟩,rfl,q _ _ (out.toList.map kk) (I.ai.fresh (Nat.le_succ _)) ?_ ?_ v2⟩
  ·rw[←ek,eo]
   exact po.map _
  ·rw[v3,eo,List.map_map,List.pairwise_map]
   exact wI
end
end L2
namespace PyProof.Rows.jt
open PySem
def iV (lt:Value→Value→Bool):Value→List Value→Value
 |b,[]=>b
 |b,v::r=>iV lt (if lt v b=true then v else b) r
section
variable {prog:Program}{w:World}{A:Around}{R:Result→Shared→Prop}{lt:Value→Value→Bool}{vs:List Value}{h0:Heap}{kw:List (Str×Value)}
def Kp (h0 h:Heap):Prop:=∀b o,h0.get? b=some o→h.get? b=some o
theorem Ra (hh:A.in1.handled=none) {I l S:Addr}(tM:l≠I) (mE:S≠I) (ub:S≠l) (zI:h0.get? I=none) (zS:h0.get? S=none)
  (xJ:∀(s':Shared) u v (Q:Value→Shared→Prop) (E:Value→Shared→Prop),Kp h0 s'.heap→u∈vs→v∈vs→Q (.bool (lt u v)) s'→wpAny (model prog w) A.in1 (richCompare .Lt u v) Q E s'):
  ∀(k j:Nat) (s:Shared) (vb:Value) (c:Nat),vs.length - j=k→j≤vs.length→s.heap.IsListIter I l j→s.heap.IsList l vs.toArray→vb∈vs→Kp h0 s.heap→
  s.heap.get? S=some {cls:=.type "list",dict:=none,data:=.seq #[vb,vb] c,slots:= #[]}→
  (∀h' tk,Kp h0 h'→R (.ok (.ret (iV lt vb (vs.drop j)))) {s with heap:=h',toks:=tk})→
  codeAny (model prog w) A (.builtin "min.loop" ⟨[.ref I,.none,.ref S],kw⟩) R s:=by
 have ql:(toString "min" ++toString ".loop" :String)= "min.loop" :=by decide
 have W:=Walks.list (prog:=prog) (w:=w) (A:=A.in1) hh I l tM vs.toArray
 have bY:vs.toArray.size=vs.length:=List.size_toArray ..
 have ne:∀b o,h0.get? b=some o→b∉[I]∧b≠S:=fun b o e=> ⟨fun m=> (by rw[List.mem_singleton.mp m,zI]at e;cases e),fun m=> (by rw[m,zS]at e;cases e)⟩
 intro k
 induction k with
 |zero=>
  intro j s vb c hk hj hit xp hb xq hS hR
  have qp:j=vs.toArray.size:=by omega
  refine codeAny_builtin F.entry_min_loop ?_
  rw[Around.under_plainId F.plain_min_loop _]
  show wpAny _ A.in1 (seqItems? (.ref S) >>=_) _ _ s
  refine wpAny_bind (wpAny_seqItems hS rfl ?_)
  show wpAny _ A.in1 (tryCatch (pyNext (.ref I)) _ >>=_) _ _ s
  refine wpAny_bind (wpAny_tryCatch (W.done s _ _ (qp▸⟨hit,xp⟩) fun h' tk aN=> ?_))
  have dY:=aN S _ (by simpa using mE) hS
  show wpAny _ A.in1 (updateSeq S (fun _=> #[]) >>=_) _ _ _
  refine wpAny_bind ?_
  refine wpAny_updateSeq dY rfl (wpAny_bind (wpAny_letGo (wpAny_pure ?_)))
  have e:vs.drop j=[]:=List.drop_eq_nil_of_le (by omega)
  rw[e]at hR
  exact hR _ tk fun b o q=> (Heap.get?_update_other _ _ (Ne.symm (ne b o q).2)).trans (aN b o (ne b o q).1 (xq b o q))
 |succ k ih=>
  intro j s vb c hk hj hit xp hb xq hS hR
  have ay:j<vs.length:=by omega
  refine codeAny_builtin F.entry_min_loop ?_
  rw[Around.under_plainId F.plain_min_loop _]
  show wpAny _ A.in1 (seqItems? (.ref S) >>=_) _ _ s
  refine wpAny_bind (wpAny_seqItems hS rfl ?_)
  show wpAny _ A.in1 (tryCatch (pyNext (.ref I)) _ >>=_) _ _ s
  refine wpAny_bind (wpAny_tryCatch (W.item j s _ _ (by omega) ⟨hit,xp⟩ fun v h' tk hP gT aN=> ?_))
  have hv:vs[j]? =some v:=by simpa using hP
  have Bm:v∈vs:=List.mem_of_getElem? hv
  have dY:=aN S _ (by simpa using mE) hS
  have qc:Kp h0 h':=fun b o q=>aN b o (ne b o q).1 (xq b o q)
  have ed:vs.drop j=v::vs.drop (j+1):=by
   have e2:vs[j]=v:=(List.getElem?_eq_some_iff.mp hv).2
   rw[List.drop_eq_getElem_cons ay,e2]
  rw[ed]at hR
  show wpAny _ A.in1 (tryCatch (holding [v,v] (richCompare .Lt v vb >>=_)) _ >>=_) _ _ _
  refine wpAny_bind (wpAny_tryCatch (wpAny_holding (wpAny_bind (xJ _ v vb _ _ qc Bm hb ?_))))
  refine wpAny_bind (wpAny_holding (wpAny_truthy_bool ?_))
  refine wpAny_bind (wpAny_letGo (wpAny_pure ?_))
  cases dw:lt v vb with
  |true=>
   simp only[if_true]
   refine wpAny_bind ?_
   refine wpAny_updateSeq dY rfl (wpAny_bind (wpAny_letGo ?_))
   rw[ql]
   have fr:=W.frame (j+1) _ (h'.update S (Obj.mapSeq fun _=> #[v,v])) gT fun b qu o e=> (Heap.get?_update_other _ _ (fun h:S=b=>by
    simp only[List.mem_cons,List.not_mem_nil,or_false]at qu
    rcases qu with q |q
    ·exact mE (h.trans q)
    ·exact ub (h.trans q))).trans e
   refine wpAny_pure ⟨plainId_quiet F.plain_min_loop _,ih (j+1) _ v _ (by omega) ay fr.1 fr.2 Bm (fun b o q=> (Heap.get?_update_other _ _ (Ne.symm (ne b o q).2)).trans (qc b o q)) (Heap.get?_update_self _ dY rfl) fun cH oV eV=> ?_⟩
   have z:=hR cH oV eV
   unfold iV at z
   rw[if_pos dw]at z
   exact z
  |false=>
   simp only[Bool.false_eq_true,if_false]
   refine wpAny_bind (wpAny_letGo ?_)
   rw[ql]
   refine wpAny_pure ⟨plainId_quiet F.plain_min_loop _,ih (j+1) _ vb c (by omega) ay gT.1 gT.2 hb qc dY fun cH oV eV=> ?_⟩
   have z:=hR cH oV eV
   unfold iV at z
   rw[if_neg (by rw[dw];exact Bool.false_ne_true)]at z
   exact z
theorem JO (a v:Value):argsOk "min" ⟨[a],[(Str.ofString "default",v)]⟩:=by unfold argsOk;kernel_rfl
theorem Q4 {E:Value→Shared→Prop}{s:Shared}{Q:Value→Shared→Prop}{l:Addr}(hh:A.in1.handled=none) (xm:s.heap.IsList l vs.toArray)
  (xJ:∀(s':Shared) u v (Q:Value→Shared→Prop) (E:Value→Shared→Prop),Kp s.heap s'.heap→u∈vs→v∈vs→Q (.bool (lt u v)) s'→wpAny (model prog w) A.in1 (richCompare .Lt u v) Q E s')
  (h1:∀h' tk,vs=[]→Kp s.heap h'→Q .none {s with heap:=h',toks:=tk}) (h2:∀v r h' tk,vs=v::r→Kp s.heap h'→Q (iV lt v r) {s with heap:=h',toks:=tk}):
  wpAny (model prog w) A (call (.builtin "min") [.ref l] [(Str.ofString "default",.none)]) Q E s:=by
 have ql:(toString "min" ++toString ".loop" :String)= "min.loop" :=by decide
 obtain⟨ol,tH,_⟩:=id xm
 have BI:l<s.heap.objs.size:=Heap.lt_size tH
 refine kmk_tree PySem.F.kind_min PySem.F.plain_min PySem.F.entry_min (JO _ _) ?_
 show wpAny _ A.in1 (Builtin.Builtins.bindParams "min" ["key", "default"] 0 ⟨[],[(Str.ofString "default",.none)]⟩ >>=_) _ _ s
 refine wpAny_bind (wpAny_of_eq (show Builtin.Builtins.bindParams "min" ["key", "default"] 0 ⟨[],[(Str.ofString "default",.none)]⟩=pure [none,some .none] from rfl) ?_)
 refine wpAny_bind (wpAny_pure ?_)
 refine wpAny_bind (wpAny_pyIter_list xm ?_)
 refine wpAny_bind (wpAny_newList ?_ (Nat.zero_le _))
 rw[ql]
 have hS:(s.heap.push {cls:=.type "list_iterator",data:=.fields #[.ref l,.int 0 0]}).objs.size=s.heap.objs.size+1:=size_push' ..
 have tM:l≠s.heap.objs.size:=Nat.ne_of_lt BI
 have mE:(s.heap.push {cls:=.type "list_iterator",data:=.fields #[.ref l,.int 0 0]}).objs.size≠s.heap.objs.size:=by rw[hS];exact Nat.ne_of_gt (Nat.lt_succ_self _)
 have ub:(s.heap.push {cls:=.type "list_iterator",data:=.fields #[.ref l,.int 0 0]}).objs.size≠l:=by rw[hS];exact Nat.ne_of_gt (Nat.lt_succ_of_lt BI)
 have zI:s.heap.get? s.heap.objs.size=none:=Heap.get?_none_of_le (Nat.le_refl _)
 have zS:s.heap.get? (s.heap.push {cls:=.type "list_iterator",data:=.fields #[.ref l,.int 0 0]}).objs.size=none:=Heap.get?_none_of_le (by rw[hS];exact Nat.le_succ _)
 refine wpAny_pure ⟨plainId_quiet PySem.F.plain_min_loop _,?_⟩
 have wC:Kp s.heap ((s.heap.push {cls:=.type "list_iterator",data:=.fields #[.ref l,.int 0 0]}).push (seqObj "list" #[] 0)):=fun b o e=>Heap.get?_push_of_some _ (Heap.get?_push_of_some _ e)
 have gI:((s.heap.push {cls:=.type "list_iterator",data:=.fields #[.ref l,.int 0 0]}).push (seqObj "list" #[] 0)).get? s.heap.objs.size=some {cls:=.type "list_iterator",data:=.fields #[.ref l,.int 0 0]} :=
  Heap.get?_push_of_some _ (Heap.get?_push_size _ rfl)
 have gS:((s.heap.push {cls:=.type "list_iterator",data:=.fields #[.ref l,.int 0 0]}).push (seqObj "list" #[] 0)).get? (s.heap.push {cls:=.type "list_iterator",data:=.fields #[.ref l,.int 0 0]}).objs.size=some (seqObj "list" #[] 0):=Heap.get?_push_size _ rfl
 have lH:((s.heap.push {cls:=.type "list_iterator",data:=.fields #[.ref l,.int 0 0]}).push (seqObj "list" #[] 0)).IsList l vs.toArray:=xm.at fun o e=>wC _ _ e
 have W:=Walks.list (prog:=prog) (w:=w) (A:=A.in1) hh s.heap.objs.size l tM vs.toArray
 have bY:vs.toArray.size=vs.length:=List.size_toArray ..
 have ne:∀b o,s.heap.get? b=some o→b∉[s.heap.objs.size]∧b≠(s.heap.push {cls:=.type "list_iterator",data:=.fields #[.ref l,.int 0 0]}).objs.size:=fun b o e=> ⟨fun m=> (by rw[List.mem_singleton.mp m,zI]at e;cases e),fun m=> (by rw[m,zS]at e;cases e)⟩
 refine codeAny_builtin PySem.F.entry_min_loop ?_
 rw[Around.under_plainId PySem.F.plain_min_loop _]
 show wpAny _ A.in1 (seqItems? (.ref _) >>=_) _ _ _
 refine wpAny_bind (wpAny_seqItems gS rfl ?_)
 show wpAny _ A.in1 (tryCatch (pyNext (.ref s.heap.objs.size)) _ >>=_) _ _ _
 cases kz:vs with
 |nil=>
  refine wpAny_bind (wpAny_tryCatch (W.done _ _ _ ⟨⟨_,gI,rfl,by rw[bY,kz];rfl⟩,lH⟩ fun h' tk aN=> ?_))
  refine wpAny_bind (wpAny_rule ?_)
  exact wpAny_pure (h1 h' tk kz fun b o q=>aN b o (ne b o q).1 (wC b o q))
 |cons v0 r0=>
  refine wpAny_bind (wpAny_tryCatch (W.item 0 _ _ _ (by rw[bY,kz];exact Nat.succ_pos _) ⟨⟨_,gI,rfl,rfl⟩,lH⟩ fun v h' zt hP gT aN=> ?_))
  have hv:v0=v:=by
   rw[kz]at hP
   simpa using hP
  subst hv
  have CF:=aN _ _ (by simpa using mE) gS
  have qc:Kp s.heap h':=fun b o q=>aN b o (ne b o q).1 (wC b o q)
  show wpAny _ A.in1 (updateSeq (s.heap.push {cls:=.type "list_iterator",data:=.fields #[.ref l,.int 0 0]}).objs.size (fun _=> #[v0,v0]) >>=_) _ _ _
  refine wpAny_bind ?_
  refine wpAny_updateSeq CF rfl ?_
  rw[ql]
  have fr:=W.frame (0+1) _ (h'.update (s.heap.push {cls:=.type "list_iterator",data:=.fields #[.ref l,.int 0 0]}).objs.size (Obj.mapSeq fun _=> #[v0,v0])) gT fun b qu o e=> (Heap.get?_update_other _ _ (fun h=>by
    simp only[List.mem_cons,List.not_mem_nil,or_false]at qu
    rcases qu with q |q
    ·exact mE (h.trans q)
    ·exact ub (h.trans q))).trans e
  refine wpAny_pure ⟨plainId_quiet PySem.F.plain_min_loop _,Ra (lt:=lt) (vs:=vs) (h0:=s.heap) hh tM mE ub zI zS xJ _ 1 _ v0 _ rfl (by rw[kz];exact Nat.succ_le_succ (Nat.zero_le _)) fr.1 fr.2 (by rw[kz];exact List.mem_cons_self) (fun b o q=> (Heap.get?_update_other _ _ (Ne.symm (ne b o q).2)).trans (qc b o q)) (Heap.get?_update_self _ CF rfl) fun cH oV eV=> ?_⟩
  have z:=h2 v0 r0 cH oV kz eV
  rw[kz]
  exact z
end
theorem JR {lt:Value→Value→Bool} :∀{r:List Value}{b:Value},iV lt b r∈b::r
 | [],b=>List.mem_cons_self
 |v::r,b=>by
  unfold iV
  rcases List.mem_cons.mp (JR (lt:=lt) (r:=r) (b:=if lt v b=true then v else b)) with h |h
  ·rw[h]
   by_cases e:lt v b=true
   ·rw[if_pos e];exact List.mem_cons_of_mem _ List.mem_cons_self
   ·rw[if_neg e];exact List.mem_cons_self
  ·exact List.mem_cons_of_mem _ (List.mem_cons_of_mem _ h)
theorem WB (key:Value→List Int):∀{r:List Value}{b:Value},∀v∈b::r,aG (key v) (key (iV (fun a b=>aG (key a) (key b)) b r))=false
 | [],b,v,hv=>by
  rw[List.mem_singleton.mp hv]
  cases h:aG (key b) (key (iV (fun a b=>aG (key a) (key b)) b [])) with
  |false=>rfl
  |true=>
   have:=YB _ _ h
   exact absurd (h.symm.trans this) (by decide)
 |w::r,b,v,hv=>by
  have ih:=fun v hv=>WB key (r:=r) (b:=if aG (key w) (key b)=true then w else b) v hv
  show aG (key v) (key (iV (fun a b=>aG (key a) (key b)) (if aG (key w) (key b)=true then w else b) r))=false
  have hd:=ih _ List.mem_cons_self
  by_cases e:aG (key w) (key b)=true
  ·rw[if_pos e]at hd ih ⊢
   rcases List.mem_cons.mp hv with rfl |hv
   ·exact YO _ _ _ hd (YB _ _ e)
   ·exact ih v hv
  ·rw[if_neg e]at hd ih ⊢
   rcases List.mem_cons.mp hv with rfl |hv
   ·exact hd
   ·rcases List.mem_cons.mp hv with rfl |hv
    ·exact YO _ _ _ hd (by simpa using e)
    ·exact ih v (List.mem_cons_of_mem _ hv)
end PyProof.Rows.jt
namespace L2
open PySem PySem.Spec PyProof.Rows PyProof.Rows.jt
theorem Ww:∀a b:List Int,HT.lexLt a b=aG a b
 | [],[]=>rfl
 | [],_::_=>rfl
 |_::_,[]=>rfl
 |x::a,y::b=>by
  unfold aG
  rw[HT.Bc,Ww a b]
section
variable {X:Cx}
def Ga (K:PySem.W.Frag) (te:TE):TE:=fun σ H Q=>te σ H fun v H1=> ∃(a:Addr) (vs:List V) (ks:List (List Int)),v=.ref a∧ag K H1 a vs∧Paired (ba H1) vs ks∧(vs=[]→Q .ae H1)∧
 ∀v k,v∈vs→k∈ks→ba H1 v k→(∀k'∈ks,aG k' k=false)→Q v H1
theorem Qw {x:Str}{te:TE}{p px kp qb pos:Pos}(hc:X.calm=true) (hu:X.A.units+1<cLine) (hg:Gl X "min") (hm:X.mg "min" =none) (he:PE X (.Name x px) te)
  (cZ:(backToKw pos (keywordEach [⟨some "default",.Constant .none 0 kp,qb⟩] X.env)).filterMap (·.1)=[Str.ofString "default"]:=by rfl):
  PE X (.Call (.Name "min" p) [.Name x px] [⟨some "default",.Constant .none 0 kp,qb⟩] pos) (Ga X.K te):=by
 intro pins s σ H Q I h
 refine wpAny_Call_Name_kw (Ym I hg hm PyProof.Rows.Boot.«min» ?_ (by decide) (by decide))
 have pa:PA X [.Name x px] (nD te o8):=Za he Zb
 have pk:PK X [⟨some "default",.Constant .none 0 kp,qb⟩] (nD (tC .ae) o8):=Qy Yv O1
 refine PyProof.Rows.callWith_kw (au (pa pos pins s σ H (fun us H1=>match us with
  | [v]=> ∃(a:Addr) (vs:List V) (ks:List (List Int)),v=.ref a∧ag X.K H1 a vs∧Paired (ba H1) vs ks∧(vs=[]→Q .ae H1)∧∀v k,v∈vs→k∈ks→ba H1 v k→(∀k'∈ks,aG k' k=false)→Q v H1
  |_=>False) I h) fun us s1 ⟨ff,H1,I1,r1,q1⟩=> ?_)
 match ff,q1 with
 | [v],q1=>
  obtain⟨a,vs,ks,rfl,hq,pr,q1,q2⟩:=q1
  refine au (pk pos pins s1 σ H1 (fun zs H2=>zs=[.ae]∧H2=H1) I1 ⟨rfl,rfl⟩) fun ws s2 ⟨zs,H2,I2,rz,e1,e2⟩=> ?_
  subst e1 e2
  obtain⟨u,rfl,ru⟩:=vals1 r1
  obtain⟨z,rfl,Hg⟩:=vals1 rz
  cases ru
  have ez:z=.none:=Hg
  subst ez
  rw[cZ]
  show wpAny _ _ (call (.builtin "min") [.ref a] [(Str.ofString "default",.none)]) _ _ _
  obtain⟨its,rv,pl,_⟩:=I2.list hq
  have key:∀{vs:List V}{ks:List (List Int)}{its:List Value},Paired (ba H2) vs ks→Vals vs its→∀u∈its,∃v∈vs,∃k∈ks,RelV v u∧ba H2 v k∧S8 s2.heap u k:=by
   intro vs ks its pr
   induction pr generalizing its with
   |nil=>intro rv;cases rv;intro u hu;cases hu
   |cons hh _ ih=>
    intro rv
    cases rv with
    |cons r1 r2=>
     intro u hu
     rcases List.mem_cons.mp hu with rfl |hu
     ·obtain⟨t,e,ht⟩:=id hh
      obtain⟨items,ri,⟨o,go,oc,n,od⟩,_⟩:=I2.tuple (ah.of ht)
      refine⟨_,List.mem_cons_self,_,List.mem_cons_self,r1,hh,?_⟩
      subst e
      cases r1
      exact⟨t,o,_,n,rfl,go,oc,od,by simpa using Jd ri⟩
     ·obtain⟨v,hv,k,hk,w⟩:=ih r2 u hu
      exact⟨v,List.mem_cons_of_mem _ hv,k,List.mem_cons_of_mem _ hk,w⟩
  have KL:∀{vs:List V}{ks:List (List Int)}{its:List Value},Paired (ba H2) vs ks→Vals vs its→∀k∈ks,∃u∈its,fB s2.heap u=k:=by
   intro vs ks its pr
   induction pr generalizing its with
   |nil=>intro rv k hk;cases hk
   |cons hh _ ih=>
    intro rv
    cases rv with
    |cons r1 r2=>
     intro k hk
     rcases List.mem_cons.mp hk with rfl |hk
     ·obtain⟨t,e,ht⟩:=id hh
      obtain⟨items,ri,⟨o,go,oc,n,od⟩,_⟩:=I2.tuple (ah.of ht)
      refine⟨_,List.mem_cons_self,?_⟩
      subst e
      cases r1
      exact YQ go od (by simpa using Jd ri)
     ·obtain⟨u,hu,e⟩:=ih r2 k hk
      exact⟨u,List.mem_cons_of_mem _ hu,e⟩
  refine Q4 (lt:=fun u v=>aG (fB s2.heap u) (fB s2.heap v)) (I2.ok.hd hc) pl.isList (fun s' u v Q' E' kp Le Lc dW=> ?_) (fun h' tk e kp=> ?_) (fun v0 r h' tk e kp=> ?_)
  ·obtain⟨_,_,ku,_,_,_,tu,ou,iu,nu,rfl,gu,cu,du,ju⟩:=key pr rv u Le
   obtain⟨_,_,kv,_,_,_,tv,ov,iv,nv,rfl,gv,cv,dv,jv⟩:=key pr rv v Lc
   have e1:fB s2.heap (.ref tu)=ku:=YQ gu du ju
   have e2:fB s2.heap (.ref tv)=kv:=YQ gv dv jv
   try dsimp only at dW
   rw[e1,e2,←Ww]at dW
   exact HT.A9 ⟨_,kp _ _ gu,cu,nu,du⟩ ⟨_,kp _ _ gv,cv,nv,dv⟩ ju jv hu dW
  ·subst e
   cases rv
   exact⟨.ae,H2,I2.kept kp,rfl,q1 rfl⟩
  ·have hm:=JR (lt:=fun u v=>aG (fB s2.heap u) (fB s2.heap v)) (r:=r) (b:=v0)
   have hle:=WB (fB s2.heap) (r:=r) (b:=v0)
   generalize iV (fun u v=>aG (fB s2.heap u) (fB s2.heap v)) v0 r=m at hm hle
   rw[←e]at hm hle
   obtain⟨v,hv,k,hk,Hi,oh,tu,ou,iu,nu,e3,gu,cu,du,ju⟩:=key pr rv m hm
   have e1:fB s2.heap m=k:=by rw[e3];exact YQ gu du ju
   refine⟨v,H2,I2.kept kp,Hi,q2 v k hv hk oh fun k' aN=> ?_⟩
   obtain⟨u',iK,e4⟩:=KL pr rv k' aN
   have:=hle u' iK
   rw[e1,e4]at this
   exact this
end
end L2
namespace L2
open PySem PySem.Spec PyProof.Rows
def uK (K:PySem.W.Frag) (l1 l2:Addr):It:=
 ⟨fun i H=> ∃xs ys x y,ag K H l1 xs∧ag K H l2 ys∧xs[i]? =some x∧ys[i]? =some y,
  fun i H v H'=> ∃(T:Addr) (x y:V),v=.ref T∧H T=none∧H'=upd H T (.par [x,y])∧∀xs ys,ag K H l1 xs→ag K H l2 ys→xs[i]? =some x∧ys[i]? =some y,
  fun i H=> ∃xs ys,ag K H l1 xs∧ag K H l2 ys∧min xs.length ys.length=i⟩
theorem Rz {P:Program}{w:World}{K:PySem.W.Frag}{elts:List Expr}{kk:Nat}{pos:Pos}(z TI TO i1 i2 l1 l2:Addr) (D:ZipApart z TI TO i1 i2 l1 l2):
  Turn P w K (.Tuple elts kk pos) (uK K l1 l2) [z,TI,TO,i1,i2] z (fun i h=>IsZip h z TI TO .none∧IsPair h TI (.ref i1) (.ref i2)∧(∃a b,IsPair h TO a b)∧h.IsListIter i1 l1 i∧h.IsListIter i2 l2 i) where
 mem:=by simp
 obj:=fun i h st b hb=>by
  obtain⟨a1,a2,⟨u,v,a3⟩,⟨o4,h4,_,d4⟩,⟨o5,h5,_,d5⟩⟩:=st
  simp only[List.mem_cons,List.not_mem_nil,or_false]at hb
  rcases hb with rfl |rfl |rfl |rfl |rfl
  ·exact⟨_,a1,fun v z=>by cases z⟩
  ·exact⟨_,a2,fun v z=>by cases z⟩
  ·exact⟨_,a3,fun v z=>by cases z⟩
  ·exact⟨_,h4,fun v z=>by rw[d4]at z;cases z⟩
  ·exact⟨_,h5,fun v z=>by rw[d5]at z;cases z⟩
 keep:=fun i h h' st k=>by
  obtain⟨a1,a2,⟨u,v,a3⟩,a4,a5⟩:=st
  exact⟨k z (by simp) _ a1,k TI (by simp) _ a2,⟨u,v,k TO (by simp) _ a3⟩,a4.at fun o q=>k i1 (by simp) o q,a5.at fun o q=>k i2 (by simp) o q⟩
 item:=by
  intro X hP hw hK hc i pins s σ H E I hf st hg
  subst hP hw hK
  obtain⟨xs,ys,x,y,fF,bO,hx,hy⟩:=hg
  obtain⟨eR,i9,dP,bN⟩:=I.list fF
  obtain⟨fE,fv,dc,aE⟩:=I.list bO
  obtain⟨u,hu,ru⟩:=i9.get hx
  obtain⟨v,hv,rv⟩:=fv.get hy
  have mn:i<min eR.toArray.size fE.toArray.size:=by
   have e1:=(List.getElem?_eq_some_iff.mp hu).1
   have e2:=(List.getElem?_eq_some_iff.mp hv).1
   simp only[List.size_toArray]
   omega
  have W:=WalksT.zip2 (prog:=X.prog) (w:=X.w) (A:=X.A) (I.ok.hd hc) z TI TO i1 i2 l1 l2 D eR.toArray fE.toArray
  obtain⟨a1,a2,a3,a4,a5⟩:=st
  refine W.item i s _ _ mn ⟨a1,a2,a3,a4,a5,dP.isList,dc.isList⟩ fun T vals h' tk hP fo mC iN hk=> ⟨_,rfl,W.go elts kk pos i T _ _ _ iN fun cH dk eV=> ?_⟩
  obtain⟨x2,y2,jO,aY,rfl⟩:=hP
  have kr:eR[i]? =some x2:=by simpa using jO
  have Bi:fE[i]? =some y2:=by simpa using aY
  rw[hu]at kr
  rw[hv]at Bi
  cases kr
  cases Bi
  have iU:H T=none:=I.ai.fresh fo
  have both:∀b o,b∉[z,TO,i1,i2]→s.heap.get? b=some o→cH.get? b=some o:=fun b o hb q=>eV b o hb (hk b o hb q)
  have sub:∀b,b∉[z,TI,TO,i1,i2]→b∉[z,TO,i1,i2]:=fun b hb hm=>hb (by
   simp only[List.mem_cons,List.not_mem_nil,or_false]at hm ⊢
   rcases hm with h |h |h |h
   ·exact .inl h
   ·exact .inr (.inr (.inl h))
   ·exact .inr (.inr (.inr (.inl h)))
   ·exact .inr (.inr (.inr (.inr h))))
  have jT:T∉[z,TO,i1,i2]:=W.apart _ _ _ iN
  have mD:cH.IsTuple T #[u,v]:=mC.at fun o q=>eV T o jT q
  have neT:∀b o,s.heap.get? b=some o→b≠T:=fun b o q=>Nat.ne_of_lt (Nat.lt_of_lt_of_le (Heap.lt_size q) fo)
  have cN:∀b o,H b=some o→b≠T:=fun b o q=>Zg q iU
  have bX:∀b o,H b=some o→b∉[z,TI,TO,i1,i2]:=fun b o q hm=>by
   have:=(hf b hm).1
   rw[this]at q;cases q
  refine⟨.ref T,upd H T (.par [x,y]),?_,rfl,⟨T,x,y,rfl,iU,rfl,fun as bs ha hb=>by rw[I.sW ha fF,I.sW hb bO];exact⟨hx,hy⟩⟩,⟨dk.1,dk.2.1,dk.2.2.1,dk.2.2.2.1,dk.2.2.2.2.1⟩,fun b hb=> ?_⟩
  ·refine(show Inv X pins σ (upd H T (.par [x,y])) {s with heap:=cH,toks:=tk} from ?_)
   refine I.call (g':=s.gens) (d':=s.drawn) (t':=tk) (h':=cH) (ch:=[z,TI,TO,i1,i2]) ⟨fun b o q _ _ hx=>both b o (sub b hx) q,fun b o q _ _ hx=> ⟨o.slots,both b o (sub b hx) q⟩,fun b o q n hx=>by rw[Zf (neT b o q)];exact n,fun b o q hx=> ⟨o,both b o (sub b hx) q⟩,
    fun b ys q=>by rw[Zf (cN b _ q)];exact q,fun b o u q=>by rw[Zf (cN b _ q)];exact q,fun b ps q=> ⟨#[],by rw[Zf (cN b _ q),q];simp⟩⟩ (fun b o q=> ?_) I.bare fun b hb=> ?_
   ·by_cases hb:b=T
    ·subst hb
     rw[Zc]at q
     cases q
     exact⟨by show 2≤sizeLine;decide,[u,v],.cons ru (.cons rv .nil),mD⟩
    ·rw[Zf hb]at q
     refine(I.ai b o q).bI (fun c ob br q'=>both c ob ?_ q') (fun c q'=>by rw[Zf (cN c _ q')];exact q') fun c ys q'=>by rw[Zf (cN c _ q')];exact q'
     rcases br with z' |z'
     ·rw[z'];exact sub _ (bX b o q)
     ·exact sub _ (bX c _ z')
   ·obtain⟨f0,f1,f2,f3,f4,f5⟩:=hf b hb
    exact⟨f3,f1,f4,f5⟩
  ·have bZ:b≠T:=by
    obtain⟨f0,_⟩:=hf b hb
    have:∃o,s.heap.get? b=some o:=by
     obtain⟨u',v',yF⟩:=a3
     obtain⟨o4,h4,_⟩:=a4
     obtain⟨o5,h5,_⟩:=a5
     simp only[List.mem_cons,List.not_mem_nil,or_false]at hb
     rcases hb with rfl |rfl |rfl |rfl |rfl
     ·exact⟨_,a1⟩
     ·exact⟨_,a2⟩
     ·exact⟨_,yF⟩
     ·exact⟨_,h4⟩
     ·exact⟨_,h5⟩
    obtain⟨o,ho⟩:=this
    exact neT b o ho
   rw[Zf bZ]
   exact(hf b hb).1
 done:=by
  intro X hP hw hK hc i pins s σ H E I hf st hg
  subst hP hw hK
  obtain⟨xs,ys,fF,bO,hx⟩:=hg
  obtain⟨eR,i9,dP,bN⟩:=I.list fF
  obtain⟨fE,fv,dc,aE⟩:=I.list bO
  have e1:=i9.length
  have e2:=fv.length
  have W:=WalksT.zip2 (prog:=X.prog) (w:=X.w) (A:=X.A) (I.ok.hd hc) z TI TO i1 i2 l1 l2 D eR.toArray fE.toArray
  have hn:i=min eR.toArray.size fE.toArray.size:=by simp only[List.size_toArray];omega
  obtain⟨a1,a2,a3,a4,a5⟩:=st
  rw[hn]at a4 a5
  have sub:∀b,b∉[z,TI,TO,i1,i2]→b∉[z,TO,i1,i2]:=fun b hb hm=>hb (by
   simp only[List.mem_cons,List.not_mem_nil,or_false]at hm ⊢
   rcases hm with h |h |h |h
   ·exact .inl h
   ·exact .inr (.inr (.inl h))
   ·exact .inr (.inr (.inr (.inl h)))
   ·exact .inr (.inr (.inr (.inr h))))
  refine W.done s _ _ ⟨a1,a2,a3,a4,a5,dP.isList,dc.isList⟩ fun h' tk hk=> ⟨rfl,?_⟩
  have bX:∀b o,H b=some o→b∉[z,TI,TO,i1,i2]:=fun b o q hm=>by
   have:=(hf b hm).1
   rw[this]at q;cases q
  refine I.call (g':=s.gens) (d':=s.drawn) (t':=tk) (h':=h') (ch:=[z,TI,TO,i1,i2]) ⟨fun b o q _ _ hx=>hk b o (sub b hx) q,fun b o q _ _ hx=> ⟨o.slots,hk b o (sub b hx) q⟩,fun b o q n hx=>n,fun b o q hx=> ⟨o,hk b o (sub b hx) q⟩,fun b ys q=>q,fun b o u q=>q,fun b ps q=> ⟨#[],by rw[q];simp⟩⟩ (fun b o q=> ?_) I.bare fun b hb=> ?_
  ·refine(I.ai b o q).bI (fun c ob br q'=>hk c ob ?_ q') (fun _ q'=>q') fun _ _ q'=>q'
   rcases br with z' |z'
   ·rw[z'];exact sub _ (bX b o q)
   ·exact sub _ (bX c _ z')
  ·obtain⟨f0,f1,f2,f3,f4,f5⟩:=hf b hb
   exact⟨f3,f1,f4,f5⟩
 self:=fun A i s Q E st h=>wpAny_pyIter_zip st.1 h
section
variable {X:Cx}{elts:List Expr}{kk:Nat}{tp:Pos}
def KY (K:PySem.W.Frag) (ta:TA):TI:=fun σ H R=>ta σ H fun vs H1=> ∃l1 l2,vs=[.ref l1,.ref l2]∧(∃xs ys,ag K H1 l1 xs∧ag K H1 l2 ys)∧R (uK K l1 l2) H1
theorem EL {a b:Expr}{ta:TA}{p pos:Pos}(hg:Gl X "zip") (hm:X.mg "zip" =none) (ha:PA X [a,b] ta) (hs:starEach [a,b] X.env=[(false,eval a X.env),(false,eval b X.env)]:=by rfl) (kB:starEach [b] X.env=[(false,eval b X.env)]:=by rfl):
  PI X (.Tuple elts kk tp) (.Call (.Name "zip" p) [a,b] [] pos) (KY X.K ta):=by
 intro pins s σ H R I h
 refine Call_ (Ym I hg hm PyProof.Rows.Boot.«zip» (PyProof.Rows.callWith_type1 (au (ha pos pins s σ H _ I h) fun us s1 ⟨vs,H1,I1,r1,q1⟩=> ?_) (by rw[hs,kB]) (by rw[kB];rfl)))
 obtain⟨l1,l2,e,⟨xs,ys,fF,bO⟩,q⟩:=q1
 subst e
 obtain⟨u,v,rfl,ru,rv⟩:=vals2 r1
 cases ru
 cases rv
 obtain⟨eR,i9,dP,bN⟩:=I1.list fF
 obtain⟨fE,fv,dc,aE⟩:=I1.list bO
 have t1:l1<s1.heap.objs.size:=by obtain⟨o,ho,_⟩:=dP.isList;exact Heap.lt_size ho
 have t2:l2<s1.heap.objs.size:=by obtain⟨o,ho,_⟩:=dc.isList;exact Heap.lt_size ho
 have D:=WW s1.heap.objs.size l1 l2 t1 t2
 refine call_zip_2 dP.isList dc.isList fun h' b1 b2 b3 b4 b5 b6 hk=>wpAny_pyIter_zip b1 ?_
 have I2:Inv X pins σ H1 {s1 with heap:=h'} :=I1.kept (t':=s1.toks) hk
 refine⟨s1.heap.objs.size+4,[s1.heap.objs.size+4,s1.heap.objs.size+2,s1.heap.objs.size+3,s1.heap.objs.size,s1.heap.objs.size+1],_,_,H1,rfl,I2,
  Rz _ _ _ _ _ l1 l2 D,⟨b1,b2,⟨_,_,b3⟩,b4,b5⟩,fun b hb=> ?_,q⟩
 have iS:s1.heap.objs.size≤b:=by
  simp only[List.mem_cons,List.not_mem_nil,or_false]at hb
  rcases hb with z |z |z |z |z<;>rw[z]<;>first |exact Nat.le_refl _ |exact Nat.le_add_right _ _
 exact I1.kI iS (I1.ai.fresh iS)
end
theorem W8 {K:PySem.W.Frag}{l1 l2:Addr}{xs zs:List V}{g:TG}{tt:TT}{ti:TC}{ys:List V}{σ:St}{H:Hp}{Q:List V→St→Hp→Prop}(Pv:Nat→List V→St→Hp→Prop) (h0:Pv 0 ys σ H)
  (hl:∀i ys σ H,i≤min xs.length zs.length→Pv i ys σ H→ag K H l1 xs∧ag K H l2 zs)
  (hs:∀i x y T ys σ H,xs[i]? =some x→zs[i]? =some y→H T=none→Pv i ys σ H→g (.ref T) σ (upd H T (.par [x,y])) fun aR H2=>tt aR H2 fun b H3=>if b=true then ti ys aR H3 (Pv (i+1)) else Pv (i+1) ys aR H3)
  (hd:∀ys σ H,Pv (min xs.length zs.length) ys σ H→Q ys σ H):iw g tt ti (uK K l1 l2) ys σ H Q:=by
 refine⟨fun i m ys σ H=>m=min xs.length zs.length - i∧i≤min xs.length zs.length∧Pv i ys σ H,⟨min xs.length zs.length,by simp,Nat.zero_le _,h0⟩,?_⟩
 rintro i m ys σ H ⟨rfl,hi,p⟩
 obtain⟨q1,q2⟩:=hl i ys σ H hi p
 by_cases ay:i<min xs.length zs.length
 ·have h1:i<xs.length:=by omega
  have h2:i<zs.length:=by omega
  refine .inr ⟨⟨xs,zs,xs[i],zs[i],q1,q2,by simp[h1],by simp[h2]⟩,Pv (i+1),fun cq aj H' p'=> ⟨min xs.length zs.length - (i+1),by omega,rfl,ay,p'⟩,fun x H' y=> ?_⟩
  obtain⟨T,a,b,e1,e2,e3,e4⟩:=y
  subst e1 e3
  obtain⟨f1,f2⟩:=e4 xs zs q1 q2
  exact hs i a b T ys σ H f1 f2 e2 p
 ·have e:i=min xs.length zs.length:=by omega
  subst e
  exact .inl ⟨⟨xs,zs,q1,q2,rfl⟩,hd ys σ H p⟩
end L2
namespace L2
open PySem PySem.Spec PyProof.Rows SeqAt
section
variable {X:Cx}
theorem OV:bf X (compareOp .Is) (fun x y H Q=> ∃a b:Bool,x=.bl a∧y=.bl b∧Q (.bl (a==b)) H):=by
 intro pins s σ H x y u v Q I rx ry h
 obtain⟨a,b,rfl,rfl,q⟩:=h
 cases rx
 cases ry
 refine wpAny_is_plain rfl ⟨.bl _,H,I,?_,q⟩
 show Value.bool (Value.bool a==Value.bool b)=Value.bool (a==b)
 cases a<;>cases b<;>rfl
end
end L2
namespace U
open PySem L2 PyProof.Rows
def eY (K:PySem.W.Frag) (H:Hp) (a:Addr) (ns:List Int):Prop:=(∃o,H a=some (.bU o (.lst (ns.map V.int))))∨∃(o:Obj) (its:Array Value) (n:Nat),K.lookup a=some o∧o.cls=.type "list" ∧o.dict=none∧o.data=.seq its n∧its.size≤sizeLine∧Vals (ns.map V.int) its.toList
theorem eY.sq {K:PySem.W.Frag}{H:Hp}{a:Addr}{ns:List Int}(h:eY K H a ns):ag K H a (ns.map V.int):=by
 rcases h with ⟨o,h⟩ |h
 ·exact .inl (.inr ⟨o,h⟩)
 ·exact .inr h
theorem eY.same {K:PySem.W.Frag}{H H':Hp}{a:Addr}{ns:List Int}(h:eY K H a ns) (s:af H H'):eY K H' a ns:=by
 rcases h with ⟨o,h⟩ |h
 ·exact .inl ⟨o,s _ _ h⟩
 ·exact .inr h
theorem eY.x {K:PySem.W.Frag}{H H':Hp}{a p:Addr}{ns:List Int}{o:HO}(h:eY K H a ns) (s:aw p H H') (hp:H p=some o) (hn:∀ob u,o≠.bU ob u):eY K H' a ns:=by
 rcases h with ⟨ob,h⟩ |h
 ·exact .inl ⟨ob,s _ _ h fun z=>by rw[z,hp]at h;cases h;exact hn _ _ rfl⟩
 ·exact .inr h
end U
namespace U
open PySem L2 PyProof.Rows PySem.Spec
def qS (mg:Str→Option Value) (h:Heap):Prop:=∃bm ob,mg "__builtins__" =some (.ref bm)∧bm≠builtinsNs∧h.get? bm=some ob∧ob.cls=.type "module" ∧ob.dict=some builtinsNs∧ob.data=.plain
theorem SR {P:Program}{w:World}{K:PySem.W.Frag}{mg mb:Str→Option Value}{k:Nat}{fa a:Addr}{Pts:List Addr}{fd:FuncData}{x:Str}{sp:Sp}{aI:Shared}{vs:List Value}{ns:List Int}
  (KX:K.In aI.heap) (qk:aI.heap.Ns mainGlobals mg) (hb:aI.heap.Ns builtinsNs mb) (MN:∀x:Str,x≠ "__name__" →mb x=bootBuiltins x) (Ma:aI.heap.NoLimit) (hg:aI.gens= #[])
  (ha:aI.heap.get? a=some {cls:=.type "list",data:=.seq vs.toArray}) (hi:IntsAre vs ns) (hl:ns.length≤sizeLine) (hr:cg k callerA)
  (fo:∀Pt∈Pts,aI.heap.get? Pt=some (PySem.W.tabObj #[])) (Nd:∀Pt∈Pts,∃c,PySem.W.CodeHd aI.heap c Pt) (Na:∀Pt∈Pts,K.lookup Pt=none) (xN:qS mg aI.heap)
  (F:∀base:Heap,K.In base→base.Ns mainGlobals mg→qS mg base→az P w K mg base aM k fa fd [x] sp) (MM:∀(s:Shared) (u:Value),BindsTo s fd ⟨[u],[]⟩ [(x,u)])
  (dI:∀H:Hp,eY K H a ns→(∀Pt∈Pts,H Pt=some (.bH #[]))→sp [.ref a] H (fun v _=>v=.bl true) fun _ _ _=>False):
  codeAny (model P w) callerA (.call (.ref fa) ⟨[.ref a],[]⟩) (fun r s'=>r=.ok (.ret (.bool true))∧OldK aI.heap s'.heap∧s'.os=aI.os∧AllBare s'.gens) aI:=by
 have rv:=WY hi
 have KC:=hi.length
 have qv:∀{Pt:Addr},Pt∈Pts→aI.heap.get? Pt=some {cls:=.none,data:=.fields #[]} :=fun h=>fo _ h
 have Cn:a∉Pts:=fun z=>by have h:=qv z;rw[ha]at h;cases h
 have core:∀H:Hp,(∀b,b∉Pts→H b=none∨∃o xs,H b=some (.bU o (.lst xs)))→eY K H a ns→(∀Pt∈Pts,H Pt=some (.bH #[]))→bS P w H aI.heap→(∀b,H b≠none→b=a∨b∈Pts)→(H a≠none→K.lookup a=none)→
   codeAny (model P w) callerA (.call (.ref fa) ⟨[.ref a],[]⟩) (fun r s'=>r=.ok (.ret (.bool true))∧OldK aI.heap s'.heap∧s'.os=aI.os∧AllBare s'.gens) aI:=by
  intro H hO hS hP ai hA hK
  have yz:∀{b:Addr}{o:Obj},aI.heap.get? b=some o→H b=none→(gX aI.heap H).get? b=some o:=fun e n=>Ep e n
  have iD:∀{b:Addr}{o:Obj},aI.heap.get? b=some o→(∀vs n,o.data≠.seq vs n)→(∀ps,o.data≠.fields ps)→H b=none:=fun {b o} e d1 d2=>by
   cases q:H b with
   |none=>rfl
   |some u=>
    rcases hA b (by rw[q];simp) with e' |e'
    ·subst e'
     rw[ha]at e;cases e
     exact absurd rfl (d1 _ _)
    ·rw[qv e']at e;cases e
     exact absurd rfl (d2 _)
  have sN:∀{b:Addr}{m:Str→Option Value},aI.heap.Ns b m→(gX aI.heap H).Ns b m:=fun {b m} ⟨o,es,ep,e,d,r⟩=> ⟨o,es,ep,yz e (iD e (fun _ _ z=>by rw[d]at z;cases z) fun _ z=>by rw[d]at z;cases z),d,r⟩
  have Cq:K.In (gX aI.heap H):=fun b o e=>yz (KX b o e) (by
   cases q:H b with
   |none=>rfl
   |some u=>
    rcases hA b (by rw[q];simp) with e' |e'
    ·subst e'
     rw[hK (by rw[q];simp)]at e;cases e
    ·rw[Na _ e']at e;cases e)
  have hM:Mod K mg (gX aI.heap H):=⟨Cq,sN qk,⟨mb,sN hb,MN⟩,let ⟨mc,h1,h2⟩:=Ma;⟨mc,sN h1,h2⟩⟩
  have MK:qS mg (gX aI.heap H):=let ⟨bm,ob,b1,b2,b3,b4,b5,b6⟩:=xN;⟨bm,ob,b1,b2,yz b3 (iD b3 (fun _ _ z=>by rw[b6]at z;cases z) fun _ z=>by rw[b6]at z;cases z),b4,b5,b6⟩
  have e0:qP P w K mg (gX aI.heap H) callerA [] aI H:=⟨rfl,hM,fun b o e=>Eh e,Nat.le_of_eq (Uc _ _),trivial,fun b hb=>absurd (show b∈([]:List Addr) from hb) (by simp),ai,.of_eq hg⟩
  refine codeAny_mono ((F _ Cq (sN qk) MK).run callerA [] aI H ⟨[.ref a],[]⟩ [.ref a] [.ref a] _ _ hr e0 (MM aI (.ref a)) (.cons rfl .nil) (dI H hS hP)) fun r s' h=> ?_
  cases r with
  |error e=>exact False.elim h
  |ok fl=>
   cases fl with
   |next=>exact False.elim h
   |brk=>exact False.elim h
   |cont=>exact False.elim h
   |ret u=>
    obtain⟨v,H',os,bare,un,By,r',q⟩:=h
    have q':v=.bl true:=q
    subst q'
    obtain rfl:u=Value.bool true:=r'
    have old:∀b o,aI.heap.get? b=some o→asItWas aI.heap s'.heap b o:=fun b o e=>by
     cases q:H b with
     |none=>exact .inl (un.keep b o e q (by intro z;exact absurd (show b∈([]:List Addr) from z) (by simp)) (by simp))
     |some u=>
      by_cases mz:b∈Pts
      ·obtain⟨more,z⟩:=un.fM b _ (hP b mz)
       have e2:s'.heap.get? b=some {cls:=.none,data:=.fields (#[]++more)} :=By b _ z
       rw[qv mz]at e
       cases e
       obtain⟨c,hC⟩:=Nd b mz
       exact .inr (.inl ⟨(hC.tab (fo b mz)).isCodeTable,rfl, #[],more,rfl,e2⟩)
      ·rcases hO b mz with z |⟨ob,xs,z⟩
       ·rw[q]at z;cases z
       ·have z2:=un.fW b ob _ z
        obtain⟨e1,_⟩:=ai b _ z
        obtain⟨e2,_⟩:=By b _ z2
        rw[e]at e1;cases e1
        exact .inl e2
    exact⟨rfl,⟨old,fun b o e=>un.there b o e (by simp)⟩,os,bare⟩
 cases hk:K.lookup a with
 |some o=>
  have e:=KX a o hk
  rw[ha]at e
  cases e
  refine core (fun b=>if b∈Pts then some (.bH #[]) else none) (fun b n=> .inl (if_neg n)) (.inr ⟨_,vs.toArray,_,hk,rfl,rfl,rfl,by rw[List.size_toArray,KC];exact hl,by simpa using rv⟩) (fun Pt h=>if_pos h) (fun b u z=> ?_) (fun b z=> ?_) fun z=>absurd (if_neg Cn) z
  ·by_cases hb:b∈Pts
   ·have z':=(if_pos hb).symm.trans z
    cases z'
    exact qv hb
   ·have z':=(if_neg hb).symm.trans z
    cases z'
  ·by_cases hb:b∈Pts
   ·exact .inr hb
   ·exact absurd (if_neg hb) z
 |none=>
  refine core (fun b=>if b∈Pts then some (.bH #[]) else if b=a then some (.bU {cls:=.type "list",data:=.seq vs.toArray} (.lst (ns.map V.int))) else none) (fun b n=> ?_) (.inl ⟨{cls:=.type "list",data:=.seq vs.toArray},(if_neg Cn).trans (if_pos rfl)⟩) (fun Pt h=>if_pos h) (fun b u z=> ?_) (fun b z=> ?_) fun _=>hk
  ·by_cases hb:b=a
   ·exact .inr ⟨_,_,(if_neg n).trans (if_pos hb)⟩
   ·exact .inl ((if_neg n).trans (if_neg hb))
  ·by_cases hP:b∈Pts
   ·have z':=(if_pos hP).symm.trans z
    cases z'
    exact qv hP
   ·by_cases hb:b=a
    ·have z':=((if_neg hP).trans (if_pos hb)).symm.trans z
     cases z'
     subst hb
     exact⟨ha,by rw[List.length_map];exact hl,vs,_,rv,ha⟩
    ·have z':=((if_neg hP).trans (if_neg hb)).symm.trans z
     cases z'
  ·by_cases hP:b∈Pts
   ·exact .inr hP
   ·by_cases hb:b=a
    ·exact .inl hb
    ·exact absurd ((if_neg hP).trans (if_neg hb)) z
theorem Fp {l:PySem.W.OpenLaw}{n k:Nat}{q:Program}{loose:List Str}{XP:(Str→Option Value)→Heap→Prop}{YP:World→Heap→Prop}{d:DefRec}{K:Params→PySem.W.Frag}{sp:PySem.W.Frag→Sp}{x:Str}{Pts:List Addr}
    (hn:l.most=some n) (tJ:n≤sizeLine) (xG:d.params.defaults=[]) (hr:cg k callerA)
    (hY:∀(w:World) (h:Heap),YP w h→(K w.params).In h) (MW:∀(w:World) (h:Heap),YP w h→∀Pt∈Pts,h.get? Pt=some (PySem.W.tabObj #[]))
    (hC:∀(w:World) (h:Heap),(K w.params).In h→∀Pt∈Pts,∃c,PySem.W.CodeHd h c Pt) (Nb:∀w:World,∀Pt∈Pts,(K w.params).lookup Pt=none)
    (F:∀(w:World) (mg:Str→Option Value) (fa:Addr) (h:Heap),(K w.params).In h→h.Ns mainGlobals mg→mg d.name=some (.ref fa)→
      ∃fd:FuncData,(∀(s:Shared) (u:Value),BindsTo s fd ⟨[u],[]⟩ [(x,u)])∧
       ∀base:Heap,(K w.params).In base→base.Ns mainGlobals mg→qS mg base→az l.prog w (K w.params) mg base aM k fa fd [x] (sp (K w.params)))
    (dI:∀(K:PySem.W.Frag) (H:Hp) (a:Addr) (ns:List Int),ns.length≤n→eY K H a ns→(∀Pt∈Pts,H Pt=some (.bH #[]))→sp K [.ref a] H (fun v _=>v=.bl true) fun _ _ _=>False):
    PySem.W.WalkO q loose XP YP l.row.toRowW d [] (fun f vs=>PySem.call f vs):=by
  refine Fm.OM hn xG fun w cj aI mg mb fa o pm cd doc a vs ns G Y ho hd cP hmg xf hints hlen hg=> ?_
  have KX:=hY w _ Y
  obtain⟨fd,hb,hF⟩:=F w mg fa _ KX G.T.g hmg
  exact SR KX G.T.g G.T.b G.T.builtins G.T.nolimit hg xf hints (Nat.le_trans hlen tJ) hr (MW w _ Y) (hC w _ KX) (Nb w) G.T.bmain hF hb (fun H hS hP=>dI (K w.params) H a ns hlen hS hP)
def bw (K:PySem.W.Frag) (x:Str) (st:Stmt):Prop:=∃f fd,PySem.W.nsIn K mainGlobals x=some (some (.ref f))∧aK K x x st f fd
theorem bL {K:PySem.W.Frag}{x:Str}{st:Stmt}{f:Addr}{oc:Value}{od an:Option Addr}{fA:Array (Option Value)}{kV doc pm ao ct:Value}(e1:PySem.W.nsIn K mainGlobals x=some (some (.ref f)))
  (e2:K.lookup f=some ⟨oc,od,.func (PySem.W.fnOf x x (gE st) (dM st) (aC st) .none kV doc pm an ao ct),fA⟩) (e3:PySem.W.codeIn K ao x=true) (e4:PySem.W.keepIn K (.ref f)=true):bw K x st:=⟨f,_,e1,Pz e2 e3 e4⟩
section
variable {P:Program}{w:World}{K:PySem.W.Frag}{mg:Str→Option Value}{base:Heap}
abbrev qT (x:Str) (st:Stmt) (ps:List Str):Prop:=∀(kV doc pm:Value) (an:Option Addr) (ao ct:Value) (us:List Value),us.length=ps.length→bindArgs (PySem.W.fnOf x x (gE st) (dM st) (aC st) .none kV doc pm an ao ct) ⟨us,[]⟩=pure (ps.zip us)
theorem bw.to {h:Heap}{x:Str}{st:Stmt}{ps:List Str}{k:Nat}{sp:Sp}(d:bw K x st) (KX:K.In h) (G:h.Ns mainGlobals mg) (hb:qT x st ps) (ok:∀f fd,aK K x x st f fd→az P w K mg base aM k f fd ps sp):Def P w K mg base k x ps sp:=by
 obtain⟨f,fd,e,F⟩:=d
 exact⟨f,fd,ok f fd F,PySem.W.mg_of KX G e,F.kp,F.binds hb⟩
theorem bw.iq {h:Heap}{x:Str}{st:Stmt}{ps:List Str}{k:Nat}{sp:Sp}(d:bw K x st) (KX:K.In h) (G:h.Ns mainGlobals mg) (hb:qT x st ps) (ok:∀f fd,aK K x x st f fd→az P w K mg base (bE P w) k f fd ps sp):bD P w K mg base k x ps sp:=by
 obtain⟨f,fd,e,F⟩:=d
 exact⟨f,fd,ok f fd F,PySem.W.mg_of KX G e,F.kp,F.binds hb⟩
def sO (K:PySem.W.Frag) (x:Str):Bool:=match PySem.W.nsIn K mainGlobals x with |some none=>true |_=>false
theorem RN {h:Heap}{x:Str}(KX:K.In h) (G:h.Ns mainGlobals mg) (e:sO K x=true):mg x=none:=by
 unfold sO at e
 split at e
 ·rename_i q
  exact PySem.W.mg_none_of KX G q
 ·cases e
abbrev T4 (x a:Str) (st:Stmt):Prop:=∀(kV doc pm:Value) (an:Option Addr) (ao ct u:Value),bindArgs (PySem.W.fnOf x x (gE st) (dM st) (aC st) .none kV doc pm an ao ct) ⟨[u],[]⟩=pure [(a,u)]
theorem b1 {x a:Str}{st:Stmt}(h:T4 x a st):qT x st [a]:=fun kV doc pm an ao ct us hl=>match us,hl with | [u],_=>h kV doc pm an ao ct u
theorem b2 {x a b:Str}{st:Stmt}(h:∀(kV doc pm:Value) (an:Option Addr) (ao ct u v:Value),bindArgs (PySem.W.fnOf x x (gE st) (dM st) (aC st) .none kV doc pm an ao ct) ⟨[u,v],[]⟩=pure [(a,u),(b,v)]):qT x st [a,b]:=fun kV doc pm an ao ct us hl=>match us,hl with | [u,v],_=>h kV doc pm an ao ct u v
theorem b3 {x a b c:Str}{st:Stmt}(h:∀(kV doc pm:Value) (an:Option Addr) (ao ct u v w:Value),bindArgs (PySem.W.fnOf x x (gE st) (dM st) (aC st) .none kV doc pm an ao ct) ⟨[u,v,w],[]⟩=pure [(a,u),(b,v),(c,w)]):qT x st [a,b,c]:=fun kV doc pm an ao ct us hl=>match us,hl with | [u,v,w],_=>h kV doc pm an ao ct u v w
end
end U
namespace HS
open PySem PySem.SetTable
abbrev ig (l:List Nat):Prop:=l.Pairwise (· < ·)
theorem Dz {xs:Array Nat}(hr:ig xs.toList) {i k:Nat}(hi:i<xs.size) (hk:k<xs.size) (h:i<k):xs[i]<xs[k]:=by
 have:=List.pairwise_iff_getElem.mp hr i k (by simpa using hi) (by simpa using hk) h
 simpa using this
theorem DA {xs:Array Nat}(hr:ig xs.toList) {i k:Nat}(hi:i<xs.size) (hk:k<xs.size) (h:i≤k):xs[i]≤xs[k]:=by
 rcases Nat.lt_or_eq_of_le h with h |h
 ·exact Nat.le_of_lt (Dz hr hi hk h)
 ·subst h;exact Nat.le_refl _
theorem WH {xs:Array Nat}{j:Nat}(hr:ig xs.toList):∀(fuel lo hi:Nat),hi≤xs.size→lo≤hi→hi - lo≤fuel→(∀i (h:i<xs.size),i<lo→xs[i]<j)→(∀i (h:i<xs.size),hi≤i→j≤xs[i])→
  below.go xs j fuel lo hi≤xs.size∧(∀i (h:i<xs.size),i<below.go xs j fuel lo hi→xs[i]<j)∧(∀i (h:i<xs.size),below.go xs j fuel lo hi≤i→j≤xs[i])
 |0,lo,hi,h1,h2,h3,h4,h5=>by
  have e:lo=hi:=by omega
  subst e
  exact⟨h1,h4,h5⟩
 |fuel+1,lo,hi,h1,h2,h3,h4,h5=>by
  unfold below.go
  by_cases ay:lo<hi
  ·rw[if_pos ay]
   dsimp only
   have hm:(lo+hi)/2<xs.size:=by omega
   have e:xs.getD ((lo+hi)/2) j=xs[(lo+hi)/2]:=by
    unfold Array.getD
    rw[dif_pos hm]
    rfl
   rw[e]
   by_cases hc:xs[(lo+hi)/2]<j
   ·rw[if_pos hc]
    refine WH hr fuel _ hi h1 (by omega) (by omega) (fun i h aT=> ?_) h5
    exact Nat.lt_of_le_of_lt (DA hr h hm (by omega)) hc
   ·rw[if_neg hc]
    refine WH hr fuel lo _ (by omega) (by omega) (by omega) h4 (fun i h aT=> ?_)
    exact Nat.le_trans (Nat.le_of_not_lt hc) (DA hr hm h aT)
  ·rw[if_neg ay]
   have e:lo=hi:=by omega
   subst e
   exact⟨h1,h4,h5⟩
theorem Je {xs:Array Nat}{j:Nat}(hr:ig xs.toList):below xs j≤xs.size∧(∀i (h:i<xs.size),i<below xs j→xs[i]<j)∧(∀i (h:i<xs.size),below xs j≤i→j≤xs[i]):=
 WH hr _ _ _ (Nat.le_refl _) (Nat.zero_le _) (by omega) (fun i h z=>absurd z (Nat.not_lt_zero _)) (fun i h z=>by omega)
theorem YS {xs:Array Nat}{i j:Nat}(hr:ig xs.toList) (h:xs[i]? =some j):below xs j=i:=by
 obtain⟨hi,e⟩:=Array.getElem?_eq_some_iff.mp h
 obtain⟨h1,h2,h3⟩:=Je (j:=j) hr
 rcases Nat.lt_trichotomy (below xs j) i with q |q |q
 ·have a:=h3 (below xs j) (by omega) (Nat.le_refl _)
  have b:=Dz hr (by omega) hi q
  omega
 ·exact q
 ·have:=h2 i hi q
  omega
theorem W0 {t:SetTable}{i j:Nat}(hr:ig t.place.toList) (h:t.place[i]? =some j):t.slot j=.live i:=by
 unfold slot
 rw[YS hr h]
 dsimp only
 rw[h,if_pos (by simp)]
theorem S6 {t:SetTable}{j:Nat}(hd:t.dummies= #[]) (h:j∉t.place.toList):t.slot j=.empty:=by
 unfold slot
 dsimp only
 have h1:¬(t.place[below t.place j]? ==some j)=true:=by
  intro z
  have z':=eq_of_beq z
  obtain⟨hi,e⟩:=Array.getElem?_eq_some_iff.mp z'
  exact h (by rw[←e];simp)
 have h2:¬has t.dummies j=true:=by
  rw[hd]
  unfold has
  simp
 rw[if_neg h1,if_neg h2]
theorem PQ {xs:Array Nat}{j:Nat}(h:j∈xs.toList):∃i:Nat,xs[i]? =some j:=by
 obtain⟨i,hi,e⟩:=List.getElem_of_mem h
 exact⟨i,by rw[←Array.getElem?_toList,List.getElem?_eq_getElem hi,e]⟩
theorem Pr {xs:Array Nat}{i j:Nat}(h:xs[i]? =some j):j∈xs.toList:=by
 rw[←Array.getElem?_toList]at h
 exact List.mem_of_getElem? h
theorem W2 {t:SetTable}{j:Nat} :(t.put j).1.place.toList=t.place.toList.take (below t.place j)++j::t.place.toList.drop (below t.place j):=by
 unfold put
 exact toList_insertAt _ _ _
theorem QC {t:SetTable}{j:Nat}(hr:ig t.place.toList) (h:j∉t.place.toList):ig (t.put j).1.place.toList:=by
 rw[W2]
 obtain⟨h1,h2,h3⟩:=Je (j:=j) hr
 generalize below t.place j=p at *
 have a:∀x∈t.place.toList.take p,x<j:=fun x hx=>by
  obtain⟨i,hi,e⟩:=List.getElem_of_mem hx
  rw[List.length_take]at hi
  rw[List.getElem_take]at e
  rw[←e]
  have:=h2 i (by simp at hi;omega) (by omega)
  simpa using this
 have b:∀x∈t.place.toList.drop p,j<x:=fun x hx=>by
  obtain⟨i,hi,e⟩:=List.getElem_of_mem hx
  rw[List.length_drop]at hi
  rw[List.getElem_drop]at e
  have:=h3 (p+i) (by simp at hi;omega) (by omega)
  have e':t.place[p+i]'(by simp at hi;omega)=x:=by simpa using e
  rw[e']at this
  rcases Nat.lt_or_eq_of_le this with q |q
  ·exact q
  ·exact absurd (List.mem_of_mem_drop hx) (by rw[←q];exact h)
 refine List.pairwise_append.mpr ?_
 refine⟨hr.sublist (List.take_sublist ..),List.pairwise_cons.mpr ⟨b,hr.sublist (List.drop_sublist ..)⟩,fun x hx y hy=> ?_⟩
 rcases List.mem_cons.mp hy with rfl |hy
 ·exact a x hx
 ·exact Nat.lt_trans (a x hx) (b y hy)
abbrev tb (m:Nat):SetTable:= {mask:=m,place:= #[],dummies:= #[],finger:=0,led:=false,moves:=0,plain:=false}
def eC (m:Nat) (p:Probe):Probe:=(tb m).advance p
theorem Pq (t:SetTable) (p:Probe):t.advance p=eC t.mask p:=rfl
def it (m:Nat) (p:Probe):Nat→Probe
 |0=>p
 |k+1=>eC m (it m p k)
theorem Yq (m:Nat) (p:Probe):∀k,it m p (k+1)=it m (eC m p) k
 |0=>rfl
 |k+1=>by
  show eC m (it m p (k+1))=eC m (it m (eC m p) k)
  rw[Yq m p k]
theorem Wz (m:Nat) (p:Probe) (a:Nat):∀b,it m p (a+b)=it m (it m p a) b
 |0=>rfl
 |b+1=>by
  show eC m (it m p (a+b))=eC m (it m (it m p a) b)
  rw[Wz m p a b]
theorem Ur (m:Nat) (p:Probe):(eC m p).dummy=p.dummy:=by
 unfold eC advance
 split<;>rfl
theorem Er (m:Nat) (p:Probe):∀k,(it m p k).dummy=p.dummy
 |0=>rfl
 |k+1=> (Ur m _).trans (Er m p k)
theorem DX {t:SetTable}{hashAt:Nat→Int}{h:Int}(hr:ig t.place.toList) (hd:t.dummies= #[]):∀(n fuel:Nat) (p:Probe),p.dummy=none→n<fuel→(∀k<n,(it t.mask p k).j∈t.place.toList)→(it t.mask p n).j∉t.place.toList→
  (probe.go t hashAt h fuel p=some (.empty (it t.mask p n).j none)∧∀k<n,∀i:Nat,t.place[i]? =some (it t.mask p k).j→hashAt i≠h)∨
  ∃k i:Nat,k<n∧t.place[i]? =some (it t.mask p k).j∧hashAt i=h∧probe.go t hashAt h fuel p=some (.candidate (it t.mask p k).j i (it t.mask p (k+1)))∧∀k'<k,∀i:Nat,t.place[i]? =some (it t.mask p k').j→hashAt i≠h
 |0,0,p,_,h1,_,_=>absurd h1 (Nat.lt_irrefl _)
 |n+1,0,p,_,h1,_,_=>absurd h1 (Nat.not_lt_zero _)
 |0,fuel+1,p,hp,h1,h2,h3=>by
  refine .inl ⟨?_,fun k hk=>absurd hk (Nat.not_lt_zero _)⟩
  unfold probe.go
  have e:t.slot p.j=.empty:=S6 hd h3
  rw[e]
  dsimp only
  rw[hp]
  rfl
 |n+1,fuel+1,p,hp,h1,h2,h3=>by
  obtain⟨i,hi⟩:=PQ (h2 0 (Nat.succ_pos _))
  have e:t.slot p.j=.live i:=W0 hr hi
  unfold probe.go
  rw[e]
  dsimp only
  rw[Pq]
  by_cases hh:hashAt i=h
  ·rw[if_pos (by simp[hh])]
   exact .inr ⟨0,i,Nat.succ_pos _,hi,hh,rfl,fun k' aN=>absurd aN (Nat.not_lt_zero _)⟩
  ·rw[if_neg (by simp[hh])]
   have uniq:∀i':Nat,t.place[i']? =some (it t.mask p 0).j→hashAt i'≠h:=fun i' aT=>by
    have q1:=YS hr aT
    have q2:=YS hr hi
    have:i'=i:=q1.symm.trans q2
    subst this
    exact hh
   rcases DX (hashAt:=hashAt) (h:=h) hr hd n fuel (eC t.mask p) (by rw[Ur];exact hp) (by omega) (fun k hk=>by rw[←Yq];exact h2 (k+1) (by omega)) (by rw[←Yq];exact h3) with ⟨g1,g2⟩ |⟨k,i2,g1,g2,g3,g4,g5⟩
   ·rw[←Yq]at g1
    refine .inl ⟨g1,fun k hk=> ?_⟩
    cases k with
    |zero=>exact uniq
    |succ k=>rw[Yq];exact g2 k (by omega)
   ·rw[←Yq]at g2 g4
    rw[←Yq]at g4
    refine .inr ⟨k+1,i2,by omega,g2,g3,g4,fun k' aN=> ?_⟩
    cases k' with
    |zero=>exact uniq
    |succ k'=>rw[Yq];exact g5 k' (by omega)
abbrev fr (m i pt:Nat):Probe:= {j:=i,more:=runEnd m i - i,i,perturb:=pt,dummy:=none}
abbrev st (m:Nat) (h:Int):Probe:=fr m (bits h%(m+1)) (bits h)
def lp (m:Nat) (x:Nat×Nat):Nat×Nat:=leap m x.1 x.2
def cz (m:Nat) (x:Nat×Nat):Nat→Nat×Nat
 |0=>x
 |k+1=>lp m (cz m x k)
theorem Wt (m:Nat) (x:Nat×Nat):∀k,cz m x (k+1)=cz m (lp m x) k
 |0=>rfl
 |k+1=>by
  show lp m (cz m x (k+1))=lp m (cz m (lp m x) k)
  rw[Wt m x k]
theorem Ee (m:Nat) (x:Nat×Nat) (a:Nat):∀b,cz m x (a+b)=cz m (cz m x a) b
 |0=>rfl
 |b+1=>by
  show lp m (cz m x (a+b))=lp m (cz m (cz m x a) b)
  rw[Ee m x a b]
theorem O5 (m i:Nat):runEnd m i - i≤9:=by
 unfold runEnd
 split<;>omega
theorem Wy (m i pt:Nat):∀k,k≤runEnd m i - i→it m (fr m i pt) k= {j:=i+k,more:=runEnd m i - i - k,i:=i,perturb:=pt,dummy:=none}
 |0,_=>rfl
 |k+1,h=>by
  show eC m (it m (fr m i pt) k)=_
  rw[Wy m i pt k (by omega)]
  unfold eC advance
  dsimp only
  rw[if_pos (by omega)]
  have e:runEnd m i - i - k - 1=runEnd m i - i - (k+1):=by omega
  rw[e,Nat.add_assoc]
theorem UK (m i pt:Nat):it m (fr m i pt) (runEnd m i - i+1)=fr m (lp m (i,pt)).1 (lp m (i,pt)).2:=by
 show eC m (it m (fr m i pt) (runEnd m i - i))=_
 rw[Wy m i pt _ (Nat.le_refl _)]
 unfold eC advance
 dsimp only
 rw[if_neg (by omega)]
 rfl
theorem Es (m:Nat):∀(k:Nat) (x:Nat×Nat),∃d,d≤10*k∧it m (fr m x.1 x.2) d=fr m (cz m x k).1 (cz m x k).2
 |0,x=> ⟨0,by omega,rfl⟩
 |k+1,x=>by
  obtain⟨d,h1,h2⟩:=Es m k (lp m x)
  refine⟨runEnd m x.1 - x.1+1+d,by have:=O5 m x.1;omega,?_⟩
  rw[Wz,UK m x.1 x.2]
  rw[Wt]
  exact h2
theorem DN (m:Nat) (x:Nat×Nat):∀k,(cz m x k).2=x.2/32^k
 |0=>by simp[cz]
 |k+1=>by
  show(cz m x k).2/32=_
  rw[DN m x k,Nat.div_div_eq_div_mul,Nat.pow_succ]
theorem PM (m:Nat) (x:Nat×Nat) (h:x.1<m+1):∀k,(cz m x k).1<m+1
 |0=>h
 |k+1=>Nat.mod_lt _ (Nat.succ_pos _)
def nx (m i:Nat):Nat:=(i*5+1)%(m+1)
def dE (m:Nat):Nat→Nat
 |0=>0
 |k+1=>nx m (dE m k)
def sJ (m:Nat):Nat→Nat→List Nat
 |0,_=> []
 |k+1,i=>i::sJ m k (nx m i)
theorem DG (m:Nat):∀(k n:Nat) (f:Nat),f∈sJ m k (dE m n)→∃u,n≤u∧u<n+k∧dE m u=f
 |0,n,f,h=>by cases h
 |k+1,n,f,h=>by
  rcases List.mem_cons.mp h with rfl |h
  ·exact⟨n,Nat.le_refl _,by omega,rfl⟩
  ·obtain⟨u,h1,h2,h3⟩:=DG m k (n+1) f h
   exact⟨u,by omega,by omega,h3⟩
def ij (m:Nat):Prop:=m=7∨m=31∨m=127∨m=511
def qG (m:Nat):Bool:=(List.range (m+1)).all fun f=> (sJ m (m+1) 0).contains f
theorem Oy:qG 7=true∧dE 7 8=0:=by decide+kernel
theorem OA:qG 31=true∧dE 31 32=0:=by decide+kernel
theorem OB:qG 127=true∧dE 127 128=0:=by decide+kernel
theorem Oz:qG 511=true∧dE 511 512=0:=by decide+kernel
theorem DS {m:Nat}(hm:ij m):qG m=true∧dE m (m+1)=0:=by
 rcases hm with rfl |rfl |rfl |rfl
 ·exact Oy
 ·exact OA
 ·exact OB
 ·exact Oz
theorem Ds {m f:Nat}(hm:ij m) (hf:f<m+1):∃u,u<m+1∧dE m u=f:=by
 have:=List.all_eq_true.mp (DS hm).1 f (List.mem_range.mpr hf)
 obtain⟨u,_,h2,h3⟩:=DG m (m+1) 0 f (show f∈sJ m (m+1) 0 by simpa using this)
 exact⟨u,by omega,h3⟩
theorem wA (m:Nat):∀(k s:Nat),cz m (dE m s,0) k=(dE m (s+k),0)
 |0,s=>rfl
 |k+1,s=>by
  show lp m (cz m (dE m s,0) k)=_
  rw[wA m k s]
  unfold lp leap
  simp[dE,nx]
theorem Ex {m a:Nat}(hm:ij m):∀k,dE m (m+1+k)=dE m k
 |0=> (DS hm).2
 |k+1=>by
  show nx m (dE m (m+1+k))=nx m (dE m k)
  rw[Ex (a:=a) hm k]
theorem full {m a f:Nat}(hm:ij m) (ha:a<m+1) (hf:f<m+1):∃k,k<m+1∧(cz m (a,0) k).1=f:=by
 obtain⟨s,hs,rfl⟩:=Ds hm ha
 obtain⟨u,hu,rfl⟩:=Ds hm hf
 by_cases h:s≤u
 ·exact⟨u - s,by omega,by rw[wA];show dE m (s+(u - s))=_;congr 1;omega⟩
 ·refine⟨m+1+u - s,by omega,?_⟩
  rw[wA]
  show dE m (s+(m+1+u - s))=_
  rw[show s+(m+1+u - s)=m+1+u by omega,Ex (a:=0) hm]
theorem DP (h:Int):bits h<2^64:=by
 unfold bits
 have h1:0≤h%(2^64:Int):=Int.emod_nonneg _ (by decide)
 have h2:h%(2^64:Int)<2^64:=Int.emod_lt_of_pos _ (by decide)
 omega
theorem Uh {m i pt f:Nat}(hm:ij m) (hi:i<m+1) (hp:pt<2^64) (hf:f<m+1):∃k,k<m+14∧(cz m (i,pt) k).1=f:=by
 have e:(cz m (i,pt) 13).2=0:=by
  rw[DN]
  exact Nat.div_eq_of_lt (Nat.lt_of_lt_of_le hp (by decide))
 have l:=PM m (i,pt) hi 13
 obtain⟨k,h1,h2⟩:=full hm l hf
 refine⟨13+k,by omega,?_⟩
 rw[Ee]
 have e2:cz m (i,pt) 13=((cz m (i,pt) 13).1,0):=by rw[←e]
 rw[e2]
 exact h2
theorem cover {m f:Nat}(hm:ij m) (h:Int) (hf:f<m+1):∃n,n<10*turns m∧(it m (st m h) n).j=f:=by
 obtain⟨k,h1,h2⟩:=Uh hm (Nat.mod_lt _ (Nat.succ_pos _)) (DP h) hf (i:=bits h%(m+1))
 obtain⟨d,h3,h4⟩:=Es m k (bits h%(m+1),bits h)
 refine⟨d,by unfold turns;omega,?_⟩
 show(it m (fr m (bits h%(m+1)) (bits h)) d).j=f
 rw[h4]
 exact h2
def mY (m:Nat) (dn:Nat→Prop) (p:Probe) (j:Nat):Prop:=∃n,(it m p n).j=j∧∀k<n,dn (it m p k).j
theorem mY.mono {m:Nat}{dn AJ:Nat→Prop}{p:Probe}{j:Nat}(h:mY m dn p j) (w:∀x,dn x→AJ x):mY m AJ p j:=
 let ⟨n,a,b⟩:=h;⟨n,a,fun k hk=>w _ (b k hk)⟩
theorem SK {m f:Nat}{dn:Nat→Prop}(hm:ij m) (h:Int) (hf:f<m+1) (ho:¬dn f):∃n,n<10*turns m∧(∀k<n,dn (it m (st m h) k).j)∧¬dn (it m (st m h) n).j:=by
 obtain⟨n,h1,h2⟩:=cover hm h hf
 have key:∀n,n<10*turns m→¬dn (it m (st m h) n).j→∃n,n<10*turns m∧(∀k<n,dn (it m (st m h) k).j)∧¬dn (it m (st m h) n).j:=by
  intro n
  induction n using Nat.strongRecOn with
  |_ n ih=>
   intro g1 g2
   by_cases z:∀k<n,dn (it m (st m h) k).j
   ·exact⟨n,g1,z,g2⟩
   ·have:∃k,k<n∧¬dn (it m (st m h) k).j:=Classical.byContradiction fun c=>z fun k hk=>Classical.byContradiction fun o=>c ⟨k,hk,o⟩
    obtain⟨k,hk,o⟩:=this
    exact ih k hk (by omega) o
 exact key n h1 (by rw[h2];exact ho)
theorem Ud {m:Nat}{owner:Array (Option Nat)} :∀(fuel k:Nat) (i pt:Nat),k<fuel→((owner.getD (cz m (i,pt) k).1 (some 0)).isNone=true)→
  ∃j,layClean.free m owner fuel i pt=some j∧(owner.getD j (some 0)).isNone=true∧mY m (fun x=> (owner.getD x (some 0)).isNone=false) (fr m i pt) j
 |0,k,i,pt,h,_=>absurd h (Nat.not_lt_zero _)
 |fuel+1,k,i,pt,h,ho=>by
  unfold layClean.free
  cases hq:(List.range (runEnd m i+1 - i)).find? fun k=> (owner.getD (i+k) (some 0)).isNone with
  |some d=>
   dsimp only
   have h1:=List.find?_some hq
   have cG:=List.mem_of_find?_eq_some hq
   rw[List.mem_range]at cG
   refine⟨i+d,rfl,h1,d,?_,fun k hk=> ?_⟩
   ·rw[Wy m i pt d (by unfold runEnd at *;split at cG<;>split<;>omega)]
   ·rw[Wy m i pt k (by unfold runEnd at *;split at cG<;>split<;>omega)]
    obtain⟨as,bs,e,cZ⟩:=(List.find?_eq_some_iff_append.mp hq).2
    have BP:k∈as:=by
     have hp:(List.range (runEnd m i+1 - i)).Pairwise (· < ·):=List.pairwise_lt_range
     have BN:k∈List.range (runEnd m i+1 - i):=List.mem_range.mpr (by omega)
     rw[e]at hp BN
     rcases List.mem_append.mp BN with q |q
     ·exact q
     ·rcases List.mem_cons.mp q with q |q
      ·omega
      ·have:=(List.pairwise_cons.mp (List.pairwise_append.mp hp).2.1).1 k q
       omega
    have:=cZ k BP
    simpa using this
  |none=>
   dsimp only
   have cZ:=List.find?_eq_none.mp hq
   have oq:∀d,d≤runEnd m i - i→(owner.getD (i+d) (some 0)).isNone=false:=fun d hd=>by
    have:=cZ d (List.mem_range.mpr (by unfold runEnd at *;split at hd<;>split<;>omega))
    exact Bool.eq_false_iff.mpr this
   cases k with
   |zero=>
    have:=oq 0 (Nat.zero_le _)
    rw[show(cz m (i,pt) 0).1=i+0 from rfl,this]at ho
    cases ho
   |succ k=>
    rw[Wt]at ho
    obtain⟨j,g1,g2,n,g3,g4⟩:=Ud (m:=m) (owner:=owner) fuel k (lp m (i,pt)).1 (lp m (i,pt)).2 (by omega) ho
    refine⟨j,g1,g2,runEnd m i - i+1+n,?_,fun d hd=> ?_⟩
    ·rw[Wz,UK]
     exact g3
    ·by_cases hd2:d≤runEnd m i - i
     ·rw[Wy m i pt d hd2]
      exact oq d hd2
     ·obtain⟨c,rfl⟩:∃c,d=runEnd m i - i+1+c:=⟨d - (runEnd m i - i+1),by omega⟩
      rw[Wz,UK]
      exact g4 c (by omega)
theorem Qd {m:Nat}{p:Probe}(h:p.j+p.more≤m):(eC m p).j+(eC m p).more≤m:=by
 unfold eC advance
 split
 ·dsimp only;omega
 ·dsimp only[leap,runEnd]
  have:=Nat.mod_lt (p.i*5+1+p.perturb/32) (show 0<m+1 by omega)
  split<;>omega
theorem DY {m:Nat}{p:Probe}(h:p.j+p.more≤m):∀k,(it m p k).j+(it m p k).more≤m
 |0=>h
 |k+1=>Qd (DY h k)
theorem Dk {m:Nat}(h:Int) (k:Nat):(it m (st m h) k).j<m+1:=by
 have:=DY (m:=m) (p:=st m h) (by
  have:=Nat.mod_lt (bits h) (show 0<m+1 by omega)
  dsimp only[fr,runEnd]
  split<;>omega) k
 omega
structure T0 (t:SetTable) (es:Array (Int×Value)):Prop where
 sz:t.place.size=es.size
 lu:ig t.place.toList
 um:t.dummies= #[]
 le:∀j∈t.place.toList,j<t.mask+1
 ld:∀z∈t.place.toList.zip es.toList,mY t.mask (·∈t.place.toList) (st t.mask z.2.1) z.1
def jw (m n:Nat):Prop:=(m=7∧n≤4)∨(m=31∧n≤18)∨(m=127∧n≤76)∨(m=511∧n≤306)
theorem jw.sR {m n:Nat}(h:jw m n):ij m:=by
 rcases h with ⟨h,_⟩ |⟨h,_⟩ |⟨h,_⟩ |⟨h,_⟩
 ·exact .inl h
 ·exact .inr (.inl h)
 ·exact .inr (.inr (.inl h))
 ·exact .inr (.inr (.inr h))
theorem jw.lt {m n:Nat}(h:jw m n):n+1<m:=by
 rcases h with ⟨h,_⟩ |⟨h,_⟩ |⟨h,_⟩ |⟨h,_⟩<;>omega
theorem jw.small {m n:Nat}(h:jw m n):n≤306:=by
 rcases h with ⟨h,_⟩ |⟨h,_⟩ |⟨h,_⟩ |⟨h,_⟩<;>omega
theorem W1 {l:List Nat}(h:ig l):l.Nodup:=List.Pairwise.imp (fun h=>Nat.ne_of_lt h) h
theorem T0.free {t:SetTable}{es:Array (Int×Value)}(T:T0 t es) (h:es.size<t.mask+1):∃f,f<t.mask+1∧f∉t.place.toList:=by
 refine Classical.byContradiction fun c=> ?_
 have all:∀f,f<t.mask+1→f∈t.place.toList:=fun f hf=>Classical.byContradiction fun n=>c ⟨f,hf,n⟩
 have p:(t.place.toList).Perm (List.range (t.mask+1)):=(List.perm_ext_iff_of_nodup (W1 T.lu) List.nodup_range).mpr fun f=> ⟨fun hf=>List.mem_range.mpr (T.le f hf),fun hf=>all f (List.mem_range.mp hf)⟩
 have:=p.length_eq
 rw[List.length_range,Array.length_toList,T.sz]at this
 omega
theorem T0.fits {t:SetTable}{es:Array (Int×Value)}(T:T0 t es) (h:es.size≤t.mask):t.fits es.size=true:=by
 unfold SetTable.fits SetTable.fill
 rw[T.um,T.sz]
 simp[h]
theorem PZ {α β:Type}{a:List α}{b:List β}(p:Nat) (x:α) (y:β) (h:a.length=b.length):(a.take p++x::a.drop p).zip (b.take p++y::b.drop p)=(a.zip b).take p++(x,y)::(a.zip b).drop p:=by
 rw[List.zip_append (by rw[List.length_take,List.length_take,h]),List.zip_cons_cons]
 simp only[List.zip,List.take_zipWith,List.drop_zipWith]
theorem T0.put {t:SetTable}{es:Array (Int×Value)}(T:T0 t es) {h:Int}{x:Value}{n:Nat}(h1:∀k<n,(it t.mask (st t.mask h) k).j∈t.place.toList) (h2:(it t.mask (st t.mask h) n).j∉t.place.toList) (pl:Bool):
  T0 {(t.put (it t.mask (st t.mask h) n).j).1 with plain:=pl} (insertAt es (t.put (it t.mask (st t.mask h) n).j).2 (h,x)):=by
 have lt:=Dk (m:=t.mask) h n
 generalize hf:(it t.mask (st t.mask h) n).j=f at *
 have dP:=W2 (t:=t) (j:=f)
 have e2:(t.put f).2=below t.place f:=rfl
 have em:(t.put f).1.mask=t.mask:=rfl
 have dn:∀y,y∈t.place.toList→y∈(t.put f).1.place.toList:=fun y hy=>by
  rw[dP]
  rw[←List.take_append_drop (below t.place f) t.place.toList]at hy
  rcases List.mem_append.mp hy with q |q
  ·exact List.mem_append_left _ q
  ·exact List.mem_append_right _ (List.mem_cons_of_mem _ q)
 have lz:t.place.toList.length=es.toList.length:=by rw[Array.length_toList,Array.length_toList,T.sz]
 refine⟨?_,QC T.lu h2,?_,fun j hj=> ?_,fun z hz=> ?_⟩
 ·have a:(t.put f).1.place.size=t.place.size+1:=by
   rw[←Array.length_toList,dP,List.length_append,List.length_cons,List.length_take,List.length_drop,Array.length_toList]
   have:=(Je (j:=f) T.lu).1
   omega
  have b:(insertAt es (t.put f).2 (h,x)).size=es.size+1:=by
   rw[←Array.length_toList,(insertAt_perm es _ (h,x)).length_eq,Array.length_toList,Array.size_push]
  show(t.put f).1.place.size=_
  rw[a,b,T.sz]
 ·show(if has t.dummies f then _ else t.dummies)= #[]
  rw[T.um]
  simp[has]
 ·show j<t.mask+1
  have BS:j∈(t.put f).1.place.toList:=hj
  rw[dP]at BS
  rcases List.mem_append.mp BS with q |q
  ·exact T.le j (List.mem_of_mem_take q)
  ·rcases List.mem_cons.mp q with q |q
   ·rw[q];exact lt
   ·exact T.le j (List.mem_of_mem_drop q)
 ·have bg:z∈(t.put f).1.place.toList.zip (insertAt es (t.put f).2 (h,x)).toList:=hz
  rw[dP,toList_insertAt,e2,PZ _ _ _ lz]at bg
  have old:∀z∈t.place.toList.zip es.toList,mY t.mask (·∈(t.put f).1.place.toList) (st t.mask z.2.1) z.1:=fun z hz=> (T.ld z hz).mono dn
  rcases List.mem_append.mp bg with q |q
  ·exact old z (List.mem_of_mem_take q)
  ·rcases List.mem_cons.mp q with q |q
   ·rw[q]
    exact⟨n,hf,fun k hk=>dn _ (h1 k hk)⟩
   ·exact old z (List.mem_of_mem_drop q)
structure jz (m:Nat) (hs:List Int) (owner:Array (Option Nat)):Prop where
 sz:owner.size=m+1
 lt:∀(j k:Nat),owner[j]? =some (some k)→k<hs.length
 at_:∀(k:Nat) (h:Int),hs[k]? =some h→∃j:Nat,owner[j]? =some (some k)∧mY m (fun x=> ∃k,owner[x]? =some (some k)) (st m h) j
 inj:∀(j j' k:Nat),owner[j]? =some (some k)→owner[j']? =some (some k)→j=j'
def live (m:Nat) (owner:Array (Option Nat)):List (Nat×Nat):=(List.range (m+1)).filterMap fun j=> (owner.getD j none).map (j, ·)
theorem getD_none {owner:Array (Option Nat)}{j k:Nat} :owner.getD j none=some k↔owner[j]? =some (some k):=by
 rw[Array.getD_eq_getD_getElem?]
 cases owner[j]? with
 |none=>simp
 |some o=>cases o<;>simp
theorem Z1 {m:Nat}{owner:Array (Option Nat)}(hs:owner.size=m+1) {x:Nat×Nat} :x∈live m owner↔owner[x.1]? =some (some x.2):=by
 unfold live
 rw[List.mem_filterMap]
 constructor
 ·rintro⟨j,hj,e⟩
  obtain⟨k,hk,rfl⟩:=Option.map_eq_some_iff.mp e
  exact getD_none.mp hk
 ·intro h
  obtain⟨hl,_⟩:=Array.getElem?_eq_some_iff.mp h
  exact⟨x.1,List.mem_range.mpr (by omega),by rw[getD_none.mpr h];rfl⟩
theorem Wu (m:Nat) (owner:Array (Option Nat)):ig ((live m owner).map (·.1)):=by
 refine List.pairwise_map.mpr ?_
 unfold live
 refine List.pairwise_filterMap.mpr (List.Pairwise.imp ?_ (List.pairwise_lt_range (n:=m+1)))
 intro a b oF x hx y hy
 obtain⟨_,_,rfl⟩:=Option.map_eq_some_iff.mp hx
 obtain⟨_,_,rfl⟩:=Option.map_eq_some_iff.mp hy
 exact oF
theorem Ua {m:Nat}{hs:List Int}{owner:Array (Option Nat)}(L:jz m hs owner):((live m owner).map (·.2)).Perm (List.range hs.length):=by
 refine(List.perm_ext_iff_of_nodup ?_ List.nodup_range).mpr fun k=> ?_
 ·refine List.nodup_iff_pairwise_ne.mpr (List.pairwise_map.mpr ?_)
  refine List.Pairwise.imp_of_mem ?_ (List.pairwise_map.mp (Wu m owner))
  intro a b ha hb oF e
  have h1:=(Z1 L.sz).mp ha
  have h2:=(Z1 L.sz).mp hb
  rw[e]at h1
  have:=L.inj _ _ _ h1 h2
  omega
 ·rw[List.mem_range]
  constructor
  ·intro h
   obtain⟨x,hx,rfl⟩:=List.mem_map.mp h
   exact L.lt _ _ ((Z1 L.sz).mp hx)
  ·intro h
   obtain⟨j,hj,_⟩:=L.at_ k _ (List.getElem?_eq_getElem h)
   exact List.mem_map.mpr ⟨(j,k),(Z1 L.sz).mpr hj,rfl⟩
theorem Ew {m:Nat}{hs:List Int}{owner:Array (Option Nat)}(L:jz m hs owner):(live m owner).length=hs.length:=by
 have:=(Ua L).length_eq
 rw[List.length_map,List.length_range]at this
 exact this
theorem jz.free {m:Nat}{hs:List Int}{owner:Array (Option Nat)}(L:jz m hs owner) (h:hs.length<m+1):∃f,f<m+1∧owner[f]? =some none:=by
 refine Classical.byContradiction fun c=> ?_
 have all:∀f,f<m+1→∃k,owner[f]? =some (some k):=fun f hf=>by
  have B5:f<owner.size:=by rw[L.sz];exact hf
  cases e:owner[f] with
  |none=>exact absurd ⟨f,hf,by rw[Array.getElem?_eq_getElem B5,e]⟩ c
  |some k=>exact⟨k,by rw[Array.getElem?_eq_getElem B5,e]⟩
 have p:((live m owner).map (·.1)).Perm (List.range (m+1)):=(List.perm_ext_iff_of_nodup (W1 (Wu m owner)) List.nodup_range).mpr fun f=>by
  rw[List.mem_range,List.mem_map]
  constructor
  ·rintro⟨x,hx,rfl⟩
   obtain⟨hl,_⟩:=Array.getElem?_eq_some_iff.mp ((Z1 L.sz).mp hx)
   rw[L.sz]at hl
   exact hl
  ·intro hf
   obtain⟨k,hk⟩:=all f hf
   exact⟨(f,k),(Z1 L.sz).mpr hk,rfl⟩
 have:=p.length_eq
 rw[List.length_map,Ew L,List.length_range]at this
 omega
theorem getD_some {owner:Array (Option Nat)}{j:Nat} :(owner.getD j (some 0)).isNone=true↔owner[j]? =some none:=by
 rw[Array.getD_eq_getD_getElem?]
 cases owner[j]? with
 |none=>simp
 |some o=>cases o<;>simp
theorem jz.step {m:Nat}{hs:List Int}{owner:Array (Option Nat)}(hm:ij m) (L:jz m hs owner) (hl:hs.length<m+1) (h:Int):
  ∃j,layClean.free m owner (turns m) (bits h%(m+1)) (bits h)=some j∧jz m (hs++[h]) (owner.setIfInBounds j (some hs.length)):=by
 obtain⟨f,hf,hn⟩:=L.free hl
 obtain⟨k,hk,e⟩:=Uh hm (Nat.mod_lt (bits h) (show 0<m+1 by omega)) (DP h) hf
 obtain⟨j,g1,g2,g3⟩:=Ud (m:=m) (owner:=owner) (turns m) k (bits h%(m+1)) (bits h) (by unfold turns;omega) (by rw[e];exact getD_some.mpr hn)
 have CI:=getD_some.mp g2
 obtain⟨jl,_⟩:=Array.getElem?_eq_some_iff.mp CI
 have uv:(owner.setIfInBounds j (some hs.length))[j]? =some (some hs.length):=by simp[jl]
 have mO:∀{i:Nat},i≠j→(owner.setIfInBounds j (some hs.length))[i]? =owner[i]? :=fun {i} hi=>by
  rw[Array.getElem?_setIfInBounds]
  rw[if_neg (Ne.symm hi)]
 have Ye:∀{i k:Nat},owner[i]? =some (some k)→i≠j:=fun {i k} hi z=>by rw[z,CI]at hi;cases hi
 have dn:∀x:Nat,(∃k:Nat,owner[x]? =some (some k))→∃k:Nat,(owner.setIfInBounds j (some hs.length))[x]? =some (some k):=fun x hx=>by
  obtain⟨k,hk⟩:=hx
  exact⟨k,by rw[mO (Ye hk)];exact hk⟩
 refine⟨j,g1,⟨by rw[Array.size_setIfInBounds];exact L.sz,fun i k hi=> ?_,fun k h' aN=> ?_,fun i i' k hi aT=> ?_⟩⟩
 ·rw[List.length_append]
  by_cases cb:i=j
  ·rw[cb,uv]at hi
   cases hi
   simp
  ·rw[mO cb]at hi
   have:=L.lt _ _ hi
   simp;omega
 ·by_cases Mg:k<hs.length
  ·rw[List.getElem?_append_left Mg]at aN
   obtain⟨i,hi,ld⟩:=L.at_ k h' aN
   exact⟨i,by rw[mO (Ye hi)];exact hi,ld.mono dn⟩
  ·rw[List.getElem?_append_right (by omega)]at aN
   have ek:k=hs.length:=by
    have:=(List.getElem?_eq_some_iff.mp aN).1
    simp at this
    omega
   subst ek
   simp at aN
   subst aN
   obtain⟨n,en,cZ⟩:=g3
   refine⟨j,uv,n,en,fun d hd=> ?_⟩
   have hx:=cZ d hd
   have ay:(it m (fr m (bits h%(m+1)) (bits h)) d).j<owner.size:=by rw[L.sz];exact Dk h d
   show ∃k:Nat,(owner.setIfInBounds j (some hs.length))[(it m (fr m (bits h%(m+1)) (bits h)) d).j]? =some (some k)
   generalize (it m (fr m (bits h%(m+1)) (bits h)) d).j=x at *
   have e:=Array.getElem?_eq_getElem ay
   cases e2:owner[x] with
   |none=>
    rw[e2]at e
    rw[getD_some.mpr e]at hx
    cases hx
   |some k=>
    rw[e2]at e
    exact dn x ⟨k,e⟩
 ·by_cases cb:i=j
  ·by_cases qq:i'=j
   ·rw[cb,qq]
   ·rw[cb,uv]at hi
    rw[mO qq]at aT
    cases hi
    exact absurd (L.lt _ _ aT) (Nat.lt_irrefl _)
  ·by_cases qq:i'=j
   ·rw[qq,uv]at aT
    rw[mO cb]at hi
    cases aT
    exact absurd (L.lt _ _ hi) (Nat.lt_irrefl _)
   ·rw[mO cb]at hi
    rw[mO qq]at aT
    exact L.inj _ _ _ hi aT
def pV (m:Nat) (acc:Option (Array (Option Nat)×Nat)) (h:Int):Option (Array (Option Nat)×Nat):=do
 let (owner,k) ←acc
 let j ←layClean.free m owner (turns m) (bits h%(m+1)) (bits h)
 pure (owner.setIfInBounds j (some k),k+1)
theorem Sz (m:Nat) (hs:Array Int):layClean m hs=(hs.toList.foldl (pV m) (some (Array.replicate (m+1) none,0))).map (·.1):=by
 unfold layClean
 rw[←Array.foldl_toList]
 rfl
theorem Uf {m:Nat}(hm:ij m):∀(rest hs:List Int) (owner:Array (Option Nat)),jz m hs owner→hs.length+rest.length≤m+1→
  ∃AH,rest.foldl (pV m) (some (owner,hs.length))=some (AH,(hs++rest).length)∧jz m (hs++rest) AH
 | [],hs,owner,L,_=> ⟨owner,by rw[List.append_nil];rfl,by rw[List.append_nil];exact L⟩
 |h::rest,hs,owner,L,hl=>by
  rw[List.length_cons]at hl
  obtain⟨j,g1,g2⟩:=L.step hm (by omega) h
  obtain⟨o',g3,g4⟩:=Uf hm rest (hs++[h]) _ g2 (by rw[List.length_append,List.length_singleton];omega)
  refine⟨o',?_,by rw[←List.append_cons]at g4;exact g4⟩
  rw[List.foldl_cons]
  have e:pV m (some (owner,hs.length)) h=some (owner.setIfInBounds j (some hs.length),(hs++[h]).length):=by
   unfold pV
   simp[g1]
  rw[e,g3,←List.append_cons]
theorem Jy {es:Array (Int×Value)} :∀{L:List (Nat×Nat)},(∀x∈L,x.2<es.size)→(L.map (·.2)).filterMap (fun k=>es[k]?)=L.map fun x=> (es[x.2]?).getD (0,.none)
 | [],_=>rfl
 |x::L,h=>by
  have hx:=h x List.mem_cons_self
  rw[List.map_cons,List.filterMap_cons,List.map_cons,Array.getElem?_eq_getElem hx]
  dsimp only
  rw[Jy fun y hy=>h y (List.mem_cons_of_mem _ hy)]
  rfl
theorem RD {m:Nat}(hm:ij m) (es:Array (Int×Value)) (hl:es.size≤m+1) (fi mo:Nat) (le pl:Bool):
  ∃t order,laid m fi mo le pl (es.map (·.1))=some (t,order)∧t.mask=m∧T0 t (order.filterMap (es[·]?))∧(order.filterMap (es[·]?)).toList.Perm es.toList:=by
 have L0:jz m [] (Array.replicate (m+1) none):=by
  refine⟨Array.size_replicate ..,fun j k h=> ?_,fun k h hk=>by simp at hk,fun j j' k h=> ?_⟩<;>
  ·rw[Array.getElem?_replicate]at h
   split at h<;>cases h
 obtain⟨owner,e1,L⟩:=Uf hm (es.map (·.1)).toList [] _ L0 (by simp;exact hl)
 rw[List.nil_append]at e1 L
 have bY:((es.map (·.1)).toList).length=es.size:=by simp
 have e2:layClean m (es.map (·.1))=some owner:=by
  rw[Sz]
  have uk:List.foldl (pV m) (some (Array.replicate (m+1) none,0)) (es.map (·.1)).toList=_:=e1
  rw[uk]
  rfl
 have ay:∀x∈live m owner,x.2<es.size:=fun x hx=>by
  have:=L.lt _ _ ((Z1 L.sz).mp hx)
  rw[bY]at this
  exact this
 have N6:(((live m owner).map (·.2)).toArray.filterMap (es[·]?)).toList=(live m owner).map fun x=> (es[x.2]?).getD (0,.none):=by
  rw[Array.toList_filterMap]
  exact Jy ay
 have perm:(((live m owner).map (·.2)).toArray.filterMap (es[·]?)).toList.Perm es.toList:=by
  rw[Array.toList_filterMap]
  have p:=(Ua L).filterMap (fun i=>es[i]?)
  rw[bY,filterMap_getElem?_range]at p
  exact p
 refine⟨{mask:=m,place:=((live m owner).map (·.1)).toArray,dummies:= #[],finger:=fi,led:=le,moves:=mo,plain:=pl},((live m owner).map (·.2)).toArray,?_,rfl,?_,perm⟩
 ·unfold laid
  rw[e2]
  rfl
 ·refine⟨?_,Wu m owner,rfl,fun j hj=> ?_,fun z hz=> ?_⟩
  ·have:=perm.length_eq
   rw[Array.length_toList,Array.length_toList]at this
   rw[this]
   show((live m owner).map (·.1)).toArray.size=_
   rw[List.size_toArray,List.length_map,Ew L,bY]
  ·obtain⟨x,hx,rfl⟩:=List.mem_map.mp (show j∈(live m owner).map (·.1) from hj)
   obtain⟨hq,_⟩:=Array.getElem?_eq_some_iff.mp ((Z1 L.sz).mp hx)
   rw[L.sz]at hq
   exact hq
  ·have bg:z∈((live m owner).map (·.1)).zip (((live m owner).map (·.2)).toArray.filterMap (es[·]?)).toList:=hz
   rw[N6,List.zip_map',List.mem_map]at bg
   obtain⟨x,hx,rfl⟩:=bg
   have wI:=(Z1 L.sz).mp hx
   have wJ:=ay x hx
   have eh:(es.map (·.1)).toList[x.2]? =some (es[x.2].1):=by simp[wJ]
   obtain⟨j,g1,g2⟩:=L.at_ _ _ eh
   have ej:=L.inj _ _ _ g1 wI
   subst ej
   dsimp only
   rw[Array.getElem?_eq_getElem wJ,Option.getD_some]
   refine g2.mono fun y hy=> ?_
   obtain⟨k,hk⟩:=hy
   exact List.mem_map.mpr ⟨(y,k),(Z1 L.sz).mpr hk,rfl⟩
theorem grow {m n:Nat}(h:jw m n) (hn:n+1≤306):((n+1)*5≥m*3∧jw (sizeAbove (grown (n+1)) - 1) (n+1)∧sizeAbove (grown (n+1))≤512)∨(¬(n+1)*5≥m*3∧jw m (n+1)):=by
 rcases h with ⟨rfl,h⟩ |⟨rfl,h⟩ |⟨rfl,h⟩ |⟨rfl,h⟩
 ·by_cases q:n=4
  ·subst q
   exact .inl ⟨by decide,.inr (.inl ⟨by decide,by decide⟩),by decide⟩
  ·exact .inr ⟨by omega,.inl ⟨rfl,by omega⟩⟩
 ·by_cases q:n=18
  ·subst q
   exact .inl ⟨by decide,.inr (.inr (.inl ⟨by decide,by decide⟩)),by decide⟩
  ·exact .inr ⟨by omega,.inr (.inl ⟨rfl,by omega⟩)⟩
 ·by_cases q:n=76
  ·subst q
   exact .inl ⟨by decide,.inr (.inr (.inr ⟨by decide,by decide⟩)),by decide⟩
  ·exact .inr ⟨by omega,.inr (.inr (.inl ⟨rfl,by omega⟩))⟩
 ·exact .inr ⟨by omega,.inr (.inr (.inr ⟨rfl,by omega⟩))⟩
section
variable {prog:Program}{w:World}{K:Type} [DecidableEq K]
structure HK (knd:HeapKind prog w K):Prop where
 OJ:∀{A:Around}{E:Value→Shared→Prop}{s:Shared}{k:K}{a:Addr}{Q:Bool→Shared→Prop},knd.is s.heap k a→(∀b,Q b s)→wpAny (model prog w) A (hashByValue 8 (.ref a)) Q E s
 notCls:∀{A:Around}{E:Value→Shared→Prop}{s:Shared}{k:K}{a:Addr}{Q:Bool→Shared→Prop},knd.is s.heap k a→Q false s→wpAny (model prog w) A (ofAClassStatement 8 (.ref a)) Q E s
 KN:∀{h h':Heap}{k:K}{a d:Addr}{o:Obj}{es ep t},knd.is h k a→h.get? d=some o→o.data=.set es ep t→Heap.SameBut d h h'→knd.is h' k a
variable {knd:HeapKind prog w K}{A:Around}{E:Value→Shared→Prop}{s:Shared}
def ik (knd:HeapKind prog w K) (h:Heap) (k:K) (e:Int×Value):Prop:=∃a,e.2=.ref a∧knd.is h k a∧e.1=knd.hash k
theorem PY (hk:HK knd) {k:K}{x:Addr}(hx:knd.is s.heap k x):∀{ys:List Value}{Q:Bool→Shared→Prop},(∀y∈ys,∃k' b,y=.ref b∧knd.is s.heap k' b)→Q false s→wpAny (model prog w) A (searchCouldBeSeen (.ref x) ys) Q E s:=by
 intro ys Q hy hq
 unfold searchCouldBeSeen
 refine wpAny_bind ?_
 refine wpAny_forIn_list _ (fun rest r s'=>r.1=none∧s'=s∧∀y∈rest,∃k' b,y=.ref b∧knd.is s.heap k' b) _ ?_ ?_ _ _ ⟨rfl,rfl,hy⟩
 ·rintro v rest r s' ⟨hr,rfl,cZ⟩
  obtain⟨k',b,rfl,hb⟩:=cZ v List.mem_cons_self
  have Ce:∀y∈rest,∃k' b,y=Value.ref b∧knd.is s'.heap k' b:=fun y hy=>cZ y (List.mem_cons_of_mem _ hy)
  dsimp only
  split
  ·exact wpAny_pure ⟨rfl,rfl,Ce⟩
  ·refine wpAny_bind (knd.quiet hx ?_)
   simp only[Bool.not_true,Bool.false_eq_true,if_false]
   refine wpAny_bind (knd.quiet hb ?_)
   simp only[Bool.not_true,Bool.false_eq_true,if_false]
   refine wpAny_bind (hk.notCls hx ?_)
   simp only[Bool.false_eq_true,if_false]
   refine wpAny_bind (hk.notCls hb ?_)
   simp only[Bool.false_eq_true,if_false]
   exact wpAny_pure ⟨rfl,rfl,Ce⟩
 ·rintro⟨r1,r2⟩ s' ⟨hr,rfl,_⟩
  simp only at hr
  subst hr
  exact wpAny_pure hq
theorem Pu {t:SetTable}{es:Array (Int×Value)}(T:T0 t es) {i:Nat}{e:Int×Value}(h:es[i]? =some e):∃j,t.place[i]? =some j∧(j,e)∈t.place.toList.zip es.toList:=by
 obtain⟨hi,_⟩:=Array.getElem?_eq_some_iff.mp h
 have hp:i<t.place.size:=by rw[T.sz];exact hi
 refine⟨t.place[i],Array.getElem?_eq_getElem hp,List.mem_of_getElem? (i:=i) ?_⟩
 rw[List.getElem?_zip_eq_some]
 exact⟨by rw[Array.getElem?_toList];exact Array.getElem?_eq_getElem hp,by rw[Array.getElem?_toList];exact h⟩
theorem Pc {t:SetTable}{es:Array (Int×Value)}(T:T0 t es) {i j:Nat}(h:t.place[i]? =some j):∃e,es[i]? =some e:=by
 obtain⟨hi,_⟩:=Array.getElem?_eq_some_iff.mp h
 exact⟨es[i]'(by rw[←T.sz];exact hi),Array.getElem?_eq_getElem _⟩
theorem SX {t:SetTable}{es:Array (Int×Value)}(T:T0 t es) {hashAt:Nat→Int}{h:Int}{p:Probe}{met:Option Met}{n:Nat}(hp:p.dummy=none) (hn:n<10*turns t.mask) (h1:∀k<n,(it t.mask p k).j∈t.place.toList) (h2:(it t.mask p n).j∉t.place.toList)
  (tG:t.probe hashAt h p=met) (hH:∀i:Nat,hashAt i=(es[i]?.map (·.1)).getD 0):
  (met=some (.empty (it t.mask p n).j none)∧∀k<n,∀(i:Nat) (e:Int×Value),t.place[i]? =some (it t.mask p k).j→es[i]? =some e→e.1≠h)∨
  ∃(k i:Nat) (e:Int×Value),k<n∧t.place[i]? =some (it t.mask p k).j∧es[i]? =some e∧e.1=h∧met=some (.candidate (it t.mask p k).j i (it t.mask p (k+1)))∧∀k'<k,∀(i:Nat) (e:Int×Value),t.place[i]? =some (it t.mask p k').j→es[i]? =some e→e.1≠h:=by
 have conv:∀{i:Nat}{e:Int×Value},es[i]? =some e→hashAt i=e.1:=fun {i e} he=>by rw[hH,he];rfl
 rcases DX (hashAt:=hashAt) (h:=h) T.lu T.um n (10*turns t.mask) p hp hn h1 h2 with ⟨g1,g2⟩ |⟨k,i,g1,g2,g3,g4,g5⟩
 ·exact .inl ⟨tG.symm.trans g1,fun k hk i e hi he=>by rw[←conv he];exact g2 k hk i hi⟩
 ·obtain⟨e,he⟩:=Pc T g2
  exact .inr ⟨k,i,e,g1,g2,he,by rw[←conv he];exact g3,tG.symm.trans g4,fun k' aN i e hi he=>by rw[←conv he];exact g5 k' aN i hi⟩
theorem WX (hk:HK knd) {S x:Addr}{k:K}{o:Obj}{es:Array (Int×Value)}{ep:Nat}{t:SetTable}{n:Nat}{Q:SetFound→Shared→Prop}
  (hroom:knd.room A) (hx:knd.is s.heap k x) (ho:s.heap.get? S=some o) (hd:o.data=.set es ep t) (T:T0 t es) (hm:t.mask%2=1) (hf:es.size≤t.mask)
  (oC:∀e∈es.toList,∃k',ik knd s.heap k' e)
  (hn:n<10*turns t.mask) (h1:∀i<n,(it t.mask (st t.mask (knd.hash k)) i).j∈t.place.toList) (h2:(it t.mask (st t.mask (knd.hash k)) n).j∉t.place.toList)
  (xR:(∃e∈es.toList,ik knd s.heap k e)→Q (.there none) s) (qx:(¬∃e∈es.toList,ik knd s.heap k e)→Q (.free (it t.mask (st t.mask (knd.hash k)) n).j false) s):
  ∀(d fuel m0:Nat) (rB:Option Probe),m0+d=n→d<fuel→rB.getD (t.probeStart (knd.hash k))=it t.mask (st t.mask (knd.hash k)) m0→
   (∀i'<m0,∀(i:Nat) (e:Int×Value),t.place[i]? =some (it t.mask (st t.mask (knd.hash k)) i').j→es[i]? =some e→¬ik knd s.heap k e)→
   wpAny (model prog w) A (setSearchFrom S (.ref x) (knd.hash k) true fuel rB) Q E s
 |d,0,m0,rB,_,BX,_,_=>absurd BX (Nat.not_lt_zero _)
 |d,fuel+1,m0,rB,jS,BX,jP,hold=>by
  have oA:=T.fits hf
  unfold setSearchFrom
  refine wpAny_bind (wpAny_setState_of ho hd oA ?_)
  dsimp only
  have hg:t.gaveWay=false:=by unfold SetTable.gaveWay;rw[hm];rfl
  rw[hg]
  simp only[Bool.false_eq_true,if_false]
  rw[jP]
  generalize tG:t.probe _ (knd.hash k) _=met
  have Mz:(it t.mask (st t.mask (knd.hash k)) m0).dummy=none:=Er _ _ _
  have km:∀i,it t.mask (it t.mask (st t.mask (knd.hash k)) m0) i=it t.mask (st t.mask (knd.hash k)) (m0+i):=fun i=> (Wz _ _ _ _).symm
  rcases SX (es:=es) T Mz (n:=d) (by omega) (fun i hi=>by rw[km];exact h1 _ (by omega)) (by rw[km,jS];exact h2) tG (fun i=>rfl) with ⟨rfl,g2⟩ |⟨c,i,e,g1,g2,g3,g4,rfl,g5⟩
  ·dsimp only
   rw[km,jS]
   refine wpAny_pure (qx ?_)
   rintro⟨e,he,el⟩
   obtain⟨i,hi,rfl⟩:=List.getElem_of_mem he
   have aT:es[i]? =some es.toList[i]:=by rw[←Array.getElem?_toList];exact List.getElem?_eq_getElem hi
   obtain⟨j,hj,hz⟩:=Pu T aT
   obtain⟨a,ea,mi,eh⟩:=id el
   obtain⟨nn,gq,oq⟩:=T.ld _ hz
   dsimp only at gq oq
   rw[eh]at gq oq
   have ay:nn<n:=by
    rcases Nat.lt_trichotomy nn n with q |q |q
    ·exact q
    ·rw[q]at gq
     exact absurd (by rw[gq];exact Pr hj) h2
    ·exact absurd (oq n q) h2
   by_cases L5:nn<m0
   ·exact hold nn L5 i _ (by rw[gq];exact hj) aT el
   ·obtain⟨c,rfl⟩:∃c,nn=m0+c:=⟨nn - m0,by omega⟩
    exact g2 c (by omega) i _ (by rw[km,gq];exact hj) aT eh
  ·have xx:e∈es.toList:=by rw[←Array.getElem?_toList]at g3;exact List.mem_of_getElem? g3
   obtain⟨k2,b,eb,mf,CP⟩:=oC e xx
   rw[km]at g2
   have Lr:∀y∈List.map (fun x=>x.snd) (Array.filter (fun x=>x.fst==knd.hash k) es).toList,∃k' b,y=Value.ref b∧knd.is s.heap k' b:=fun y hy=>by
    obtain⟨z,hz,rfl⟩:=List.mem_map.mp hy
    have bg:z∈es.toList:=by
     rw[Array.toList_filter]at hz
     exact(List.mem_filter.mp hz).1
    obtain⟨k3,b3,e3,h3,_⟩:=oC z bg
    exact⟨k3,b3,e3,h3⟩
   have Br:t.slot (it t.mask (it t.mask (st t.mask (knd.hash k)) m0) c).j=.live i:=W0 T.lu (by rw[km];exact g2)
   have tE:¬k2=k→wpAny (model prog w) A (setSearchFrom S (.ref x) (knd.hash k) true fuel (some (it t.mask (it t.mask (st t.mask (knd.hash k)) m0) (c+1)))) Q E s:=fun bZ=>by
    refine WX hk hroom hx ho hd T hm hf oC hn h1 h2 xR qx (d - c - 1) fuel (m0+c+1) _ (by omega) (by omega) (by rw[km];rfl) fun i' aT i2 e2 cE tX qB=> ?_
    by_cases q1:i'<m0
    ·exact hold i' q1 i2 e2 cE tX qB
    ·by_cases q2:i'<m0+c
     ·obtain⟨c',rfl⟩:∃c',i'=m0+c':=⟨i' - m0,by omega⟩
      obtain⟨_,_,_,N5⟩:=qB
      exact g5 c' (by omega) i2 e2 (by rw[km];exact cE) tX N5
     ·have e0:i'=m0+c:=by omega
      subst e0
      have ei:i2=i:=(YS T.lu cE).symm.trans (YS T.lu g2)
      subst ei
      rw[g3]at tX
      cases tX
      obtain⟨b',CV,xr,_⟩:=qB
      rw[eb]at CV
      cases CV
      exact bZ (knd.inj mf xr)
   dsimp only
   cases hl:t.led with
   |false=>
    simp only[Bool.not_false,if_true]
    refine wpAny_bind (PY hk hx Lr ?_)
    simp only[Bool.false_eq_true,if_false]
    rw[g3]
    dsimp only
    refine wpAny_bind (wpAny_holding ?_)
    rw[eb]
    refine knd.eqBool hroom mf hx ?_
    refine wpAny_bind (wpAny_setState_of ho hd oA ?_)
    by_cases hq:k2=k
    ·rw[decide_eq_true hq]
     simp only[Bool.and_self,if_true]
     refine wpAny_pure (xR ⟨e,xx,b,eb,by rw[←hq];exact mf,by rw[←hq];exact CP⟩)
    ·rw[decide_eq_false hq]
     simp only[Bool.and_false,Bool.false_eq_true,if_false]
     have wV:t.sameMemory t.moves t.mask=some true:=by unfold SetTable.sameMemory;simp
     rw[wV]
     dsimp only
     rw[if_pos rfl,Br]
     dsimp only
     rw[g3]
     dsimp only
     rw[eb]
     refine wpAny_bind (wpAny_isSame_ref_self ?_)
     refine wpAny_bind (wpAny_pure ?_)
     rw[if_pos rfl]
     dsimp only
     exact tE hq
   |true=>
    simp only[Bool.not_true,Bool.false_eq_true,if_false]
    rw[g3]
    dsimp only
    refine wpAny_bind (wpAny_holding ?_)
    rw[eb]
    refine knd.eqBool hroom mf hx ?_
    refine wpAny_bind (wpAny_setState_of ho hd oA ?_)
    by_cases hq:k2=k
    ·rw[decide_eq_true hq]
     simp only[Bool.and_self,if_true]
     refine wpAny_pure (xR ⟨e,xx,b,eb,by rw[←hq];exact mf,by rw[←hq];exact CP⟩)
    ·rw[decide_eq_false hq]
     simp only[Bool.and_false,Bool.false_eq_true,if_false]
     have wV:t.sameMemory t.moves t.mask=some true:=by unfold SetTable.sameMemory;simp
     rw[wV]
     dsimp only
     rw[if_pos rfl,Br]
     dsimp only
     rw[g3]
     dsimp only
     rw[eb]
     refine wpAny_bind (wpAny_isSame_ref_self ?_)
     refine wpAny_bind (wpAny_pure ?_)
     rw[if_pos rfl]
     dsimp only
     exact tE hq
end
section
variable {prog:Program}{w:World}{K:Type} [DecidableEq K] {knd:HeapKind prog w K}{A:Around}{E:Value→Shared→Prop}{s:Shared}
structure Tb (knd:HeapKind prog w K) (h:Heap) (S:Addr) (ks:List K) (o:Obj) (es:Array (Int×Value)) (ep:Nat) (t:SetTable):Prop where
 ho:h.get? S=some o
 ex:o.ExactSet
 hd:o.data=.set es ep t
 T:T0 t es
 room:jw t.mask es.size
 el:∀e∈es.toList,∃k∈ks,ik knd h k e
 all:∀k∈ks,∃e∈es.toList,ik knd h k e
 sz:es.size=ks.length
def jA (knd:HeapKind prog w K) (h:Heap) (S:Addr) (ks:List K):Prop:=∃o es ep t,Tb knd h S ks o es ep t
theorem YZ (hk:HK knd) {h h':Heap}{S:Addr}{o:Obj}{es ep t} (ho:h.get? S=some o) (hd:o.data=.set es ep t) (hs:Heap.SameBut S h h') {k:K}{e:Int×Value}(x:ik knd h k e):ik knd h' k e:=by
 obtain⟨a,e1,e2,e3⟩:=x
 exact⟨a,e1,hk.KN e2 ho hd hs,e3⟩
theorem Q3 {S:Addr}{o:Obj}{es:Array (Int×Value)}{ep:Nat}{t:SetTable}{Q:Unit→Shared→Prop}(ho:s.heap.get? S=some o) (hd:o.data=.set es ep t) (hf:t.fits es.size=true) {wanted:Nat}(hm:ij (sizeAbove wanted - 1)) (hw:sizeAbove wanted≤512) (hl:es.size≤sizeAbove wanted - 1)
  (h:∀gC t',t'.mask=sizeAbove wanted - 1→T0 t' gC→gC.toList.Perm es.toList→Q () {s with heap:=s.heap.update S (Obj.putSet gC t')}):wpAny (model prog w) A (setRelay S wanted) Q E s:=by
 unfold setRelay
 refine wpAny_bind (wpAny_setState_of ho hd hf ?_)
 dsimp only
 rw[if_neg (by rw[sizeLine_eq];omega)]
 obtain⟨t',order,e,em,T',pm⟩:=RD hm es (by omega) t.finger (t.movedTo (sizeAbove wanted - 1)) t.led t.plain
 have er:t.relaid (es.map (·.1)) wanted=some (t',order):=e
 rw[er]
 refine wpAny_bind ?_
 have hz:(order.filterMap (es[·]?)).size=es.size:=by rw[←Array.length_toList,pm.length_eq,Array.length_toList]
 refine(show wpAny _ _ (if ((order.filterMap (es[·]?)).size !=es.size)=true then _ else pure _) _ _ s from ?_)
 rw[if_neg (by rw[hz];simp)]
 refine wpAny_pure ?_
 dsimp only
 refine wpAny_storeSet_of ho hd (h _ _ em T' pm) (by rw[hz,sizeLine_eq];omega)
theorem Ey {h:Heap}{S:Addr}{o:Obj}{es:Array (Int×Value)}{ep:Nat}{t:SetTable}(ho:h.get? S=some o) (hd:o.data=.set es ep t) (gC:Array (Int×Value)) (t':SetTable):(h.update S (Obj.putSet gC t')).get? S=some {o with data:=.set gC (ep+1) t'} :=by
 have:=Heap.get?_update_self (Obj.putSet gC t') ho (by rw[putSet_of gC t' hd];rfl)
 rw[putSet_of gC t' hd]at this
 exact this
theorem O9 (hk:HK knd) {S x:Addr}{k:K}{ks:List K}{Q:Bool→Shared→Prop}(hroom:knd.room A) (hx:knd.is s.heap k x) (H:jA knd s.heap S ks) (hn:ks.length+1≤306)
  (h:∀h' b,Heap.SameBut S s.heap h'→jA knd h' S (if k∈ks then ks else ks++[k])→Q b {s with heap:=h'}):
  wpAny (model prog w) A (setAddHashed S (.ref x) (knd.hash k)) Q E s:=by
 obtain⟨o,es,ep,t,H⟩:=H
 have oA:=H.T.fits (Nat.le_of_lt (Nat.lt_of_succ_lt H.room.lt))
 unfold setAddHashed setAddHashedIn
 refine wpAny_holding (wpAny_bind (wpAny_setState_of H.ho H.hd oA ?_))
 dsimp only
 have hb:byScan (.ref x) es=false:=rfl
 rw[hb]
 simp only[Bool.false_eq_true,if_false]
 obtain⟨f,hf,tR⟩:=H.T.free (by have:=H.room.lt;omega)
 obtain⟨n,tK,tJ,BE⟩:=SK (dn:=(·∈t.place.toList)) H.room.sR (knd.hash k) hf tR
 have odd:t.mask%2=1:=by rcases H.room.sR with q |q |q |q<;>rw[q]
 unfold setSearch
 refine wpAny_bind ?_
 refine WX hk hroom hx H.ho H.hd H.T odd (by have:=H.room.lt;omega) (fun e he=>let ⟨k',_,el⟩:=H.el e he;⟨k',el⟩) tK tJ BE (fun Lf=> ?_) (fun fI=> ?_) n 100000 0 none (by omega) ?_ rfl (fun i' aT=>absurd aT (Nat.not_lt_zero _))
 ·dsimp only
  refine wpAny_pure ?_
  have cG:k∈ks:=by
   obtain⟨e,he,a,ea,mi,_⟩:=Lf
   obtain⟨k',aN,a',CW,Mj,_⟩:=H.el e he
   rw[ea]at CW
   cases CW
   rw[knd.inj mi Mj]
   exact aN
  have:=h s.heap false (Heap.SameBut.refl _ _) (by rw[if_pos cG];exact⟨o,es,ep,t,H⟩)
  exact this
 ·dsimp only
  have cG:k∉ks:=fun m=>fI (H.all k m)
  refine wpAny_bind (wpAny_setState_of H.ho H.hd oA ?_)
  dsimp only
  generalize Mw:(it t.mask (st t.mask (knd.hash k)) n).j=f'
  have Tp:=fun pl=>H.T.put (x:=.ref x) tJ BE pl
  rw[Mw]at Tp
  have mK:(insertAt es (t.put f').2 (knd.hash k,.ref x)).size=es.size+1:=by rw[←Array.length_toList,(insertAt_perm es _ _).length_eq,Array.length_toList,Array.size_push]
  have yh:∀e,e∈(insertAt es (t.put f').2 (knd.hash k,Value.ref x)).toList↔e∈es.toList∨e=(knd.hash k,Value.ref x):=fun e=>by
   rw[(insertAt_perm es _ _).mem_iff,Array.toList_push,List.mem_append,List.mem_singleton]
  have oC:∀e∈(insertAt es (t.put f').2 (knd.hash k,Value.ref x)).toList,∃k'∈ks++[k],ik knd s.heap k' e:=fun e he=>by
   rcases (yh e).mp he with q |q
   ·obtain⟨k',h1,h2⟩:=H.el e q
    exact⟨k',List.mem_append_left _ h1,h2⟩
   ·exact⟨k,by simp,x,by rw[q],hx,by rw[q]⟩
  have Cf:∀k'∈ks++[k],∃e∈(insertAt es (t.put f').2 (knd.hash k,Value.ref x)).toList,ik knd s.heap k' e:=fun k' aN=>by
   rcases List.mem_append.mp aN with q |q
   ·obtain⟨e,h1,h2⟩:=H.all k' q
    exact⟨e,(yh e).mpr (.inl h1),h2⟩
   ·rw[List.mem_singleton.mp q]
    exact⟨_,(yh _).mpr (.inr rfl),x,rfl,hx,rfl⟩
  have BM:(insertAt es (t.put f').2 (knd.hash k,Value.ref x)).size=(ks++[k]).length:=by rw[mK,List.length_append,List.length_singleton,H.sz]
  have h':=fun h' b=>h h' b
  rw[if_neg cG]at h'
  generalize VL:insertAt es (t.put f').2 (knd.hash k,Value.ref x)=oJ at *
  have tail:∀t1,(∃pl,t1= {(t.put f').1 with plain:=pl})→wpAny (model prog w) A (storeSet S oJ t1 >>=fun _=>if (!false&&t1.tooFull)=true then (setRelay S (grown (es.size+1)) >>=fun _=>pure true) else pure true) Q E s:=by
   rintro t1 ⟨pl,rfl⟩
   have T1:=Tp pl
   have g1:=Ey H.ho H.hd oJ {(t.put f').1 with plain:=pl}
   have sb:=Heap.SameBut.update s.heap S (Obj.putSet oJ {(t.put f').1 with plain:=pl})
   refine wpAny_bind (wpAny_storeSet_of H.ho H.hd ?_ (by rw[mK,sizeLine_eq];have:=H.room.small;omega))
   have fill:({(t.put f').1 with plain:=pl} :SetTable).tooFull=decide ((es.size+1)*5≥t.mask*3):=by
    unfold SetTable.tooFull SetTable.fill
    have a:({(t.put f').1 with plain:=pl} :SetTable).place.size=es.size+1:=by rw[T1.sz,mK]
    have b:=T1.um
    rw[b,a]
    rfl
   rw[fill]
   rcases grow H.room (by rw[H.sz];exact hn) with ⟨q1,q2,q3⟩ |⟨q1,q2⟩
   ·rw[decide_eq_true q1]
    simp only[Bool.not_false,Bool.and_self,if_true]
    refine wpAny_bind (Q3 g1 rfl (T1.fits (by rw[mK];exact Nat.le_of_lt H.room.lt)) q2.sR q3 (by have:=q2.lt;rw[mK];omega) fun ug t2 NV T2 wj=>wpAny_pure (h' _ true (sb.trans (Heap.SameBut.update _ S _)) ?_))
    have zJ:ug.size=oJ.size:=by rw[←Array.length_toList,wj.length_eq,Array.length_toList]
    have Aj:=sb.trans (Heap.SameBut.update _ S (Obj.putSet ug t2))
    exact⟨_,ug,ep+1+1,t2,Ey g1 rfl ug t2,H.ex,rfl,T2,by rw[NV,zJ,mK];exact q2,fun e he=>let ⟨k',a,b⟩:=oC e (wj.mem_iff.mp he);⟨k',a,YZ hk H.ho H.hd Aj b⟩,fun k' aN=>let ⟨e,a,b⟩:=Cf k' aN;⟨e,wj.mem_iff.mpr a,YZ hk H.ho H.hd Aj b⟩,by rw[zJ,BM]⟩
   ·rw[decide_eq_false q1]
    simp only[Bool.not_false,Bool.and_false,Bool.false_eq_true,if_false]
    refine wpAny_pure (h' _ true sb ?_)
    exact⟨_,oJ,ep+1,_,g1,H.ex,rfl,T1,by rw[mK];exact q2,fun e he=>let ⟨k',a,b⟩:=oC e he;⟨k',a,YZ hk H.ho H.hd sb b⟩,fun k' aN=>let ⟨e,a,b⟩:=Cf k' aN;⟨e,a,YZ hk H.ho H.hd sb b⟩,BM⟩
  split
  ·refine wpAny_bind (hk.OJ hx fun b=> ?_)
   cases b with
   |true=>exact tail _ ⟨(t.put f').1.plain,rfl⟩
   |false=>exact tail _ ⟨false,rfl⟩
  ·refine wpAny_bind (wpAny_pure ?_)
   exact tail _ ⟨(t.put f').1.plain,rfl⟩
 ·have:10*turns t.mask≤5260:=by
   unfold turns
   rcases H.room.sR with q |q |q |q<;>rw[q]<;>decide
  omega
end
end HS
namespace HS
open PySem PySem.SetTable PySem.Spec
theorem Qe (n:Nat) {v:Value}(h:carriedByValue v=true):∃b,hashByValue n v=pure b:=by
 cases n<;>cases v<;>first |exact⟨_,rfl⟩ |(simp[carriedByValue]at h)
theorem Rg (n:Nat) {v:Value}(h:carriedByValue v=true):ofAClassStatement n v=pure false:=by
 cases n<;>cases v<;>first |rfl |(simp[carriedByValue]at h) |(unfold ofAClassStatement;rfl)
section
variable {prog:Program}{w:World}{K:Type} [DecidableEq K] {knd:KeyKind prog w K}{A:Around}{E:Value→Shared→Prop}{s:Shared}
theorem Su {ks:List K}{a:Addr}{Q:Bool→Shared→Prop}(hk:IsTupleKey knd s.heap ks a) (h:∀b,Q b s):wpAny (model prog w) A (hashByValue 8 (.ref a)) Q E s:=by
 have hT:=hk.typeIs
 obtain⟨o,items,n,ho,_,hd,hi⟩:=hk
 unfold hashByValue
 refine wpAny_bind (wpAny_specialOf hT F.slot_tuple_hash.lookup ?_)
 refine(show wpAny _ _ (seqItems? (.ref a) >>=_) _ _ s from wpAny_bind (wpAny_seqItems ho hd ?_))
 refine wpAny_bind ?_
 show wpAny _ _ (forIn items _ _) _ _ s
 rw[←Array.forIn_toList]
 refine wpAny_forIn_list _ (fun rest r s'=>r.1=none∧s'=s∧∀v∈rest,carriedByValue v=true) _ ?_ ?_ _ _ ⟨rfl,rfl,hi.byValue⟩
 ·rintro v rest r s' ⟨hr,rfl,cZ⟩
  obtain⟨b,e⟩:=Qe 7 (cZ v List.mem_cons_self)
  rw[e]
  refine wpAny_bind (wpAny_pure ?_)
  cases b with
  |true=>
   simp only[Bool.not_true,Bool.false_eq_true,if_false]
   exact wpAny_pure ⟨rfl,rfl,fun u iK=>cZ u (List.mem_cons_of_mem _ iK)⟩
  |false=>
   simp only[Bool.not_false,if_true]
   exact wpAny_pure (wpAny_pure (h false))
 ·rintro⟨r1,r2⟩ s' ⟨hr,rfl,_⟩
  simp only at hr
  subst hr
  exact wpAny_pure (h true)
theorem UE {ks:List K}{a:Addr}{Q:Bool→Shared→Prop}(hk:IsTupleKey knd s.heap ks a) (h:Q false s):wpAny (model prog w) A (ofAClassStatement 8 (.ref a)) Q E s:=by
 have hT:=hk.typeIs
 obtain⟨o,items,n,ho,_,hd,hi⟩:=hk
 unfold ofAClassStatement
 refine wpAny_bind (wpAny_typeOf hT ?_)
 dsimp only
 rw[if_pos (by decide)]
 refine wpAny_bind (wpAny_pure ?_)
 simp only[Bool.not_true,Bool.false_eq_true,if_false]
 refine wpAny_bind (wpAny_seqItems ho hd ?_)
 dsimp only
 refine wpAny_bind ?_
 rw[←Array.forIn_toList]
 refine wpAny_forIn_list _ (fun rest r s'=>r.1=none∧s'=s∧∀v∈rest,carriedByValue v=true) _ ?_ ?_ _ _ ⟨rfl,rfl,hi.byValue⟩
 ·rintro v rest r s' ⟨hr,rfl,cZ⟩
  rw[Rg 7 (cZ v List.mem_cons_self)]
  refine wpAny_bind (wpAny_pure ?_)
  simp only[Bool.false_eq_true,if_false]
  exact wpAny_pure ⟨rfl,rfl,fun u iK=>cZ u (List.mem_cons_of_mem _ iK)⟩
 ·rintro⟨r1,r2⟩ s' ⟨hr,rfl,_⟩
  simp only at hr
  subst hr
  exact wpAny_pure h
theorem Qf (knd:KeyKind prog w K):HK (tupleKind knd):=by
 refine⟨fun hk h=>Su hk h,fun hk h=>UE hk h,?_⟩
 intro h h' k a d o es ep t x ho hd hs
 obtain⟨o',items,n,cF,hc,mw,hi⟩:=x
 have bZ:a≠d:=by
  rintro rfl
  obtain rfl:o'=o:=Option.some.inj (cF.symm.trans ho)
  rw[hd]at mw
  exact nomatch mw
 exact⟨o',items,n,(hs.2 a bZ).trans cF,hc,mw,hi⟩
end
section
variable {K:Type} [DecidableEq K]
def met (val:Nat→K):Nat→List K
 |0=> []
 |n+1=>if val n∈met val n then met val n else met val n++[val n]
theorem Jp (val:Nat→K) (n:Nat):met val (n+1)=if val n∈met val n then met val n else met val n++[val n]:=rfl
theorem UH (val:Nat→K):∀n,(met val n).length≤n
 |0=>Nat.le_refl _
 |n+1=>by
  rw[Jp]
  have:=UH val n
  split
  ·omega
  ·rw[List.length_append,List.length_singleton];omega
theorem Ef (val:Nat→K):∀n k,k∈met val n↔k∈(List.range n).map val
 |0,k=>by simp[met]
 |n+1,k=>by
  rw[List.range_succ,List.map_append,List.mem_append,←Ef val n k,Jp]
  split
  ·rename_i h
   simp only[List.map_cons,List.map_nil,List.mem_singleton]
   exact⟨.inl,fun z=>z.elim id fun e=>by rw[e];exact h⟩
  ·simp
theorem A7 (val:Nat→K):∀n,((met val n).length=n↔((List.range n).map val).Nodup)
 |0=>by simp[met]
 |n+1=>by
  have ih:=A7 val n
  have le:=UH val n
  have mm:=Ef val n (val n)
  rw[List.range_succ,List.map_append]
  have nd:((List.range n).map val++List.map val [n]).Nodup↔((List.range n).map val).Nodup∧¬val n∈(List.range n).map val:=by
   rw[List.nodup_append]
   constructor
   ·rintro⟨h1,_,h3⟩
    exact⟨h1,fun m=>h3 _ m (val n) (by simp) rfl⟩
   ·rintro⟨h1,h2⟩
    refine⟨h1,by simp,fun a ha b hb q=>h2 ?_⟩
    have dw:b=val n:=by simpa using hb
    rw[←dw,←q];exact ha
  rw[nd,←ih,←mm,Jp]
  split
  ·rename_i h
   constructor
   ·intro z;omega
   ·rintro⟨_,z⟩;exact absurd h z
  ·rename_i h
   rw[List.length_append,List.length_singleton]
   constructor
   ·intro z;exact⟨by omega,h⟩
   ·rintro⟨z,_⟩;omega
variable {prog:Program}{w:World}{kk:KeyKind prog w K}{A:Around}{E:Value→Shared→Prop}{s:Shared}{R:Result→Shared→Prop}{I:Addr}{fp wr:List Addr}{G:Array GenState→Array GenState→Prop}{n:Nat}{P:Nat→Value→Prop}{St:Nat→Shared→Prop}
def qN (h:Heap) (b:Addr):Prop:=∃o,h.get? b=some o∧o.cls≠.type "tuple"
theorem Jt {h h':Heap}{ws:List Addr}{ks:List K}{a:Addr}(hw:∀b∈ws,qN h b) (tO:∀b o,b∉ws→h.get? b=some o→h'.get? b=some o) (x:IsTupleKey kk h ks a):IsTupleKey kk h' ks a:=by
 obtain⟨o',items,n,cF,hc,mw,hi⟩:=x
 have bZ:a∉ws:=fun m=>by
  obtain⟨o,ho,hn⟩:=hw a m
  rw[cF]at ho
  cases ho
  exact hn hc
 exact⟨o',items,n,tO _ _ bZ cF,hc,mw,hi⟩
theorem UV {h h':Heap}{ws:List Addr}{S:Addr}{ks:List (List K)}(hw:∀b∈ws,qN h b) (hS:S∉ws) (tO:∀b o,b∉ws→h.get? b=some o→h'.get? b=some o) (x:jA (tupleKind kk) h S ks):jA (tupleKind kk) h' S ks:=by
 obtain⟨o,es,ep,t,X⟩:=x
 have ke:∀{k:List K}{e:Int×Value},ik (tupleKind kk) h k e→ik (tupleKind kk) h' k e:=fun⟨a,e1,e2,e3⟩=> ⟨a,e1,Jt hw tO e2,e3⟩
 exact⟨o,es,ep,t,tO _ _ hS X.ho,X.ex,X.hd,X.T,X.room,fun e he=>let ⟨k,a,b⟩:=X.el e he;⟨k,a,ke b⟩,fun k hk=>let ⟨e,a,b⟩:=X.all k hk;⟨e,a,ke b⟩,X.sz⟩
theorem R3 {h:Heap}{S:Addr}{ks:List (List K)}(x:jA (tupleKind kk) h S ks):qN h S:=by
 obtain⟨o,es,ep,t,X⟩:=x
 exact⟨o,X.ho,by rw[X.ex.1];decide⟩
theorem Kw (hroom:A.in1.units<cLine) (W:WalksS prog w A.in1 I fp wr G n P St) (S:Addr) (Cm:S∉fp) (val:Nat→List K) (hb:n≤305) (hI:∀i s,St i s→∀b∈wr,qN s.heap b):
  ∀(k i:Nat) (s:Shared),n - i=k→i≤n→St i s→jA (tupleKind kk) s.heap S (met val i)→(∀i v,P i v→∃a,v=.ref a∧IsTupleKey kk s.heap (val i) a)→
   (∀s',Moved (S::wr) G s s'→jA (tupleKind kk) s'.heap S (met val n)→R (.ok (.ret .none)) s')→
   codeAny (model prog w) A (.builtin "set.update.loop" ⟨[.ref S,.ref I],[]⟩) R s:=by
 have Ck:S∉wr:=fun h=>Cm (W.sub _ h)
 have kA:∀b∈wr,b∈S::wr:=fun b hb=>List.mem_cons_of_mem _ hb
 intro k
 induction k with
 |zero=>
  intro i s aN hi gT hS uc hR
  have qp:i=n:=by omega
  subst qp
  refine codeAny_builtin PyProof.Rows.F.entry_set_update_loop ?_
  rw[Around.under_plainId PyProof.Rows.F.plain_set_update_loop _]
  show wpAny _ A.in1 (pyNext (.ref I) >>=_) _ _ s
  refine wpAny_bind (W.done s _ _ gT fun s' hm=> ?_)
  show wpAny _ A.in1 (ret Value.none) _ _ s'
  exact wpAny_pure (hR s' (hm.mono kA) (UV (hI _ _ gT) Ck (fun b o hb e=>hm.heap b o hb e) hS))
 |succ k ih=>
  intro i s aN hi gT hS uc hR
  have ay:i<n:=by omega
  refine codeAny_builtin PyProof.Rows.F.entry_set_update_loop ?_
  rw[Around.under_plainId PyProof.Rows.F.plain_set_update_loop _]
  show wpAny _ A.in1 (pyNext (.ref I) >>=_) _ _ s
  refine wpAny_bind (W.item i s _ _ ay gT fun v s' hP Lp hm=> ?_)
  have kp:∀b o,b∉wr→s.heap.get? b=some o→s'.heap.get? b=some o:=fun b o hb e=>hm.heap b o hb e
  have dY:=UV (hI _ _ gT) Ck kp hS
  have Cp:∀i v,P i v→∃a,v=.ref a∧IsTupleKey kk s'.heap (val i) a:=fun i v hv=>let ⟨a,e,x⟩:=uc i v hv;⟨a,e,Jt (hI _ _ gT) kp x⟩
  obtain⟨a,rfl,mi⟩:=Cp i v hP
  show wpAny _ A.in1 (holding [Value.ref a] (setAdd S (.ref a)) >>=_) _ _ s'
  refine wpAny_bind (wpAny_holding ?_)
  unfold setAdd
  refine wpAny_holding ?_
  refine wpAny_bind ((tupleKind kk).pyHash hroom mi ?_)
  refine O9 (s:= {s' with toks:=s'.toks+(tupleKind kk).draws (val i)}) (Qf kk) hroom mi dY (by have:=UH val i;omega) fun h' b sb MZ=> ?_
  have G1:∀b o,b∉[S]→s'.heap.get? b=some o→h'.get? b=some o:=fun b o hb e=>by
   rw[sb.2 b (fun z=>hb (by rw[z];exact List.mem_singleton.mpr rfl))];exact e
  have nS:∀b∈[S],qN s'.heap b:=fun b hb=>by rw[List.mem_singleton.mp hb];exact R3 dY
  refine wpAny_pure ⟨plainId_quiet PyProof.Rows.F.plain_set_update_loop _,ih (i+1) _ (by omega) ay (W.frame _ s' _ _ Lp (Nat.le_add_right _ _) fun b hb o e=> ?_) (by rw[Jp];exact MZ) (fun i v hv=>let ⟨a,e,x⟩:=Cp i v hv;⟨a,e,Jt nS G1 x⟩) fun fh L6 M3=> ?_⟩
  ·rw[sb.2 b (fun h:b=S=>Cm (by rw[←h];exact hb))];exact e
  ·refine hR fh (Moved.trans W.gtrans ((hm.mono kA).then_heap (Nat.le_add_right _ _) fun b o hb e=> ?_) L6) M3
   rw[sb.2 b (fun h:b=S=>hb (by rw[h];exact List.mem_cons_self))];exact e
end
section
variable {K:Type} [DecidableEq K] {prog:Program}{w:World}{kk:KeyKind prog w K}{A:Around}{E:Value→Shared→Prop}{s:Shared}
abbrev jL (led:Bool):Obj:= {cls:=.type "set",dict:=none,data:=.set #[] 0 (.fresh 0 0 led)}
theorem Sj {h:Heap}{S:Addr}(led:Bool) (g:h.get? S=some (jL led)):jA (tupleKind kk) h S []:=by
 refine⟨_, #[],0,_,g,⟨rfl,rfl,rfl⟩,rfl,⟨rfl,.nil,rfl,fun j hj=> ?_,fun z hz=> ?_⟩,.inl ⟨rfl,Nat.zero_le _⟩,fun e he=> ?_,fun k hk=> ?_,rfl⟩
 ·exact absurd hj (by simp[SetTable.fresh])
 ·exact absurd hz (by simp[SetTable.fresh])
 ·exact absurd he (by simp)
 ·exact absurd hk (by simp)
set_option maxHeartbeats 8000000 in
theorem OI {l:Addr}{items:Array Value}{val:Nat→List K}{Q:Value→Shared→Prop}
  (hh:A.handled=none) (hu:A.in1.in1.in1.units<cLine) (hl:s.heap.IsList l items) (hi:∀i v,items[i]? =some v→∃a,v=.ref a∧IsTupleKey kk s.heap (val i) a) (hb:items.size≤305)
  (h:∀(h':Heap) (tk:Nat),jA (tupleKind kk) h' s.heap.objs.size (met val items.size)→(∀b o,b<s.heap.objs.size→s.heap.get? b=some o→h'.get? b=some o)→Q (.ref s.heap.objs.size) {s with heap:=h',toks:=tk}):
  wpAny (model prog w) A (call (.type "set") [.ref l]) Q E s:=by
 have cS:=F.called_set
 obtain⟨c0,T9,Vr⟩:=cS.mro
 have Vs:=cS.made;have Vb:=cS.sub
 refine wpAny_call (codeAny_of_tree (show wpAny _ _ (callAny (.type "set") _) _ _ _ from ?_))
 refine wpAny_pure ⟨Code.quiet_builtin _ (by decide+kernel),codeAny_builtin F.entry_type_call ?_⟩
 rw[Around.under_plain (weight_type_call_type "set" [.ref l] []) rfl]
 have k1:=cS.notType;have k2:=cS.canCreate;have k3:=F.typeCall_set_1 (.ref l)
 repeat (any_goals (first |assumption |wp_step))
 refine codeAny_mono (code_set_new_1 (.ref l) (E:=E) (Q₁:=fun ob aI=> ∃led:Bool,ob=.ref s.heap.objs.size∧aI= {s with heap:=s.heap.push (jL led)}) fun led=> ⟨led,rfl,rfl⟩) fun Hb aI xY=> ?_
 cases Hb with
 |error e=>exact xY
 |ok NA=>
  cases NA with
  |ret ob=>
   obtain⟨led,rfl,rfl⟩:=xY
   have gS:(s.heap.push (jL led)).get? s.heap.objs.size=some (jL led):=Heap.get?_push_size _ rfl
   have tS:Shared.TypeIs {s with heap:=s.heap.push (jL led)} (.ref s.heap.objs.size) "set" :=⟨_,gS,rfl⟩
   have Vw:=cS.init.lookup;have VS:=cS.init.bind (.ref s.heap.objs.size)
   repeat (any_goals (first |assumption |wp_step))
   refine codeAny_mono (codeAny_call_builtin (R:=wants (fun r nE=>r=.none∧∃h' tk,nE= {s with heap:=h',toks:=tk}∧jA (tupleKind kk) h' s.heap.objs.size (met val items.size)∧(∀b o,b<s.heap.objs.size→s.heap.get? b=some o→h'.get? b=some o)) E) cS.init.plain F.entry_set_init (check_set_init_1 tS ?_)) fun Ha nE xX=> ?_
   ·obtain⟨⟨lc,ld,lt,ls⟩,tH,gz,nl,B7⟩:=hl
    simp only at gz B7
    subst gz;subst B7
    have LP:=Heap.get?_push_of_some (jL led) tH
    have zX:=F.sub_list_set;have gJ:=F.sub_list_frozenset
    have Vn:(Value.type "list" ==Value.type "dict")=false:=by decide
    have jj:(s.heap.push (jL led)).IsList l items:=⟨_,LP,rfl,nl,rfl⟩
    unfold Builtin.«set.__init__» noKeywords Builtin.Frozenset.updateFrom
    generalize M5:pyIter=PI
    wp_walk
    subst M5
    refine wpAny_pyIter_list jj (wpAny_bind (wpAny_runValue ?_))
    have Ba:l<s.heap.objs.size:=Heap.lt_size tH
    have Mn:A.in1.in1.in1.handled=none:=by simp[hh]
    have nI:l≠(s.heap.push (jL led)).objs.size:=by rw[Heap.size_push];exact Nat.ne_of_lt (Nat.lt_succ_of_lt Ba)
    have Sf:s.heap.objs.size∉[(s.heap.push (jL led)).objs.size,l]:=by
     rw[Heap.size_push]
     simp only[List.mem_cons,List.mem_singleton,List.not_mem_nil,or_false,not_or]
     exact⟨Nat.ne_of_lt (Nat.lt_succ_self _),Nat.ne_of_gt Ba⟩
    refine Kw (kk:=kk) ?hroom ((Walks.list Mn _ l nI items).toS) s.heap.objs.size Sf val hb ?hI (items.size - 0) 0 _ (by omega) (Nat.zero_le _) ⟨⟨_,Heap.get?_push_size _ rfl,rfl,rfl⟩,(jj.push _)⟩ ?M0 ?uc ?hR
    case hroom=>exact hu
    case hI=>
     rintro i s1 ⟨⟨o1,e1,e2,_⟩,_⟩ b hb
     rw[List.mem_singleton.mp hb]
     exact⟨o1,e1,by rw[e2];decide⟩
    case M0=>exact Sj led (Heap.get?_push_of_some _ gS)
    case uc=>
     intro i v hv
     obtain⟨a,e,x⟩:=hi i v hv
     refine⟨a,e,Jt (ws:=[]) (fun b hb=>absurd hb (by simp)) (fun b o _ eb=>Heap.get?_push_of_some _ (Heap.get?_push_of_some _ eb)) x⟩
    case hR=>
     rintro⟨h',g',d',zt,wm⟩ hm dY
     obtain rfl:g'=s.gens:=hm.gens
     obtain rfl:d'=s.drawn:=hm.drawn
     obtain rfl:wm=s.os:=hm.os
     show wpAny _ _ _ _ _ _
     refine wpAny_pure (show wpAny _ _ (ret Value.none) _ _ _ from wpAny_pure ⟨rfl,h',zt,rfl,dY,fun b o hb e=> ?_⟩)
     refine hm.heap b o ?_ (Heap.get?_push_of_some _ (Heap.get?_push_of_some _ e))
     simp only[List.mem_cons,List.mem_singleton,List.not_mem_nil,or_false,not_or]
     exact⟨Nat.ne_of_lt hb,by rw[Heap.size_push];exact Nat.ne_of_lt (Nat.lt_succ_of_lt hb)⟩
   ·cases Ha with
    |error e=>exact xX
    |ok Nz=>
     cases Nz with
     |ret r=>
      obtain⟨rfl,h',tk,rfl,dY,aN⟩:=xX
      repeat (any_goals (first |assumption |wp_step))
      exact h _ _ dY aN
     |_=>exact xX.elim
  |_=>exact xY.elim
end
end HS
namespace L2
open PySem PySem.Spec PyProof.Rows
def iF (ks:List (List Int)):Nat:=(HS.met (fun i=>ks.getD i []) ks.length).length
theorem Qg (ks:List (List Int)):iF ks=ks.length↔ks.Nodup:=by
 unfold iF
 rw[HS.A7]
 have e:(List.range ks.length).map (fun i=>ks.getD i [])=ks:=by
  refine List.ext_getElem (by simp) fun i h1 h2=> ?_
  rw[List.getElem_map,List.getElem_range,List.getD_eq_getElem?_getD,List.getElem?_eq_getElem h2,Option.getD_some]
 rw[e]
theorem items_int {prog:Program}{w:World} :∀{ks:List Int}{us:List Value},Vals (ks.map V.int) us→ItemsAre (intKind prog w) ks us
 | [],_,.nil=> .nil
 |k::ks,_,.cons r rs=>by
  obtain⟨t,rfl⟩:=r
  exact .cons (intKind_is _ _ _ _) (items_int rs)
section
variable {X:Cx}
theorem FD {pins:List (Addr×Obj)}{σ:St}{H:Hp}{s:Shared}{v:V}{u:Value}{k:List Int}(I:Inv X pins σ H s) (h:ba H v k) (r:RelV v u):∃a,u=.ref a∧IsTupleKey (intKind X.prog X.w) s.heap k a:=by
 obtain⟨t,rfl,ht⟩:=h
 cases r
 obtain⟨us,rv,⟨o,ho,hc,n,hd⟩,_⟩:=I.tuple (ah.of ht)
 exact⟨t,rfl,o,us.toArray,n,ho,hc,hd,by simpa using items_int rv⟩
def Gb (K:PySem.W.Frag) (te:TE):TE:=fun σ H Q=>te σ H fun v H1=> ∃(l:Addr) (ts:List V) (ks:List (List Int)),v=.ref l∧ag K H1 l ts∧Paired (ba H1) ts ks∧ts.length≤305∧Q (.int (iF ks)) H1
theorem RV {e:Expr}{te:TE}{p p2 pos pR:Pos}(hc:X.calm=true) (hu:X.A.units+4<cLine) (hg:Gl X "len") (hm:X.mg "len" =none) (Mr:Gl X "set") (me:X.mg "set" =none) (he:PE X e te)
  (Bs:starEach [.Call (.Name "set" p2) [e] [] pR] X.env=[(false,eval (.Call (.Name "set" p2) [e] [] pR) X.env)]:=by rfl) (kB:starEach [e] X.env=[(false,eval e X.env)]:=by rfl):
  PE X (.Call (.Name "len" p) [.Call (.Name "set" p2) [e] [] pR] [] pos) (Gb X.K te):=by
 intro pins s σ H Q I h
 refine wpAny_Call_Name_kw (Ym I hg hm boot_len ?_)
 refine PyProof.Rows.callWith_builtin1 ?_ Bs rfl
 rw[Bs]
 show wpAny _ _ (spliced ((false,eval (.Call (.Name "set" p2) [e] [] pR) X.env)::backTo pos (starEach [] X.env))) _ _ s
 refine Calls.spliced_cons ?_
 refine wpAny_Call_Name_kw (Ym I Mr me boot_set ?_)
 have h2:nD te o8 σ H fun vs H1=> ∃v,vs=[v]∧∃(l:Addr) (ts:List V) (ks:List (List Int)),v=.ref l∧ag X.K H1 l ts∧Paired (ba H1) ts ks∧ts.length≤305∧Q (.int (iF ks)) H1:=by
  have e0:(fun(v:V) (H1:Hp)=> ∃v':V,[v]=[v']∧∃(l:Addr) (ts:List V) (ks:List (List Int)),v'=.ref l∧ag X.K H1 l ts∧Paired (ba H1) ts ks∧ts.length≤305∧Q (.int (iF ks)) H1)=(fun(v:V) (H1:Hp)=> ∃(l:Addr) (ts:List V) (ks:List (List Int)),v=.ref l∧ag X.K H1 l ts∧Paired (ba H1) ts ks∧ts.length≤305∧Q (.int (iF ks)) H1):=by
   funext v H1
   refine propext ⟨fun⟨v',z,q⟩=> ?_,fun q=> ⟨v,rfl,q⟩⟩
   cases z
   exact q
  show te σ H (fun(v:V) (H1:Hp)=> ∃v':V,[v]=[v']∧∃(l:Addr) (ts:List V) (ks:List (List Int)),v'=.ref l∧ag X.K H1 l ts∧Paired (ba H1) ts ks∧ts.length≤305∧Q (.int (iF ks)) H1)
  rw[e0]
  exact h
 refine PyProof.Rows.callWith_type1 (au (Za he Zb kB pR pins s σ H _ I h2) fun us s1 ⟨vs,H1,I1,r1,q1⟩=> ?_) kB rfl
 obtain⟨v,rfl,l,ts,ks,rfl,hl,pr,hn,q⟩:=q1
 obtain⟨u,rfl,ru⟩:=vals1 r1
 cases ru
 obtain⟨its,rv,pl,hz⟩:=I1.list hl
 have ll:=rv.length
 have lk:=Paired.length pr
 refine HS.OI (kk:=intKind X.prog X.w) (val:=fun i=>ks.getD i []) (items:=its.toArray) (I1.ok.hd hc) (by show X.A.units+1+1+1<cLine;omega) pl.isList (fun i u iK=> ?_) (by rw[List.size_toArray];omega) fun h' tk hS hk=> ?_
 ·have Bo:its[i]? =some u:=by simpa using iK
  have hi:i<ts.length:=by rw[ll];exact(List.getElem?_eq_some_iff.mp Bo).1
  obtain⟨u',e1,r2⟩:=rv.get (List.getElem?_eq_getElem hi)
  rw[Bo]at e1
  cases e1
  obtain⟨k,hk,tp⟩:=Y3 pr (List.getElem?_eq_getElem hi)
  obtain⟨a,e,x⟩:=FD I1 tp r2
  refine⟨a,e,?_⟩
  show IsTupleKey _ _ (ks.getD i []) a
  rw[List.getD_eq_getElem?_getD,hk]
  exact x
 ·have I2:Inv X pins σ H1 {s1 with heap:=h',toks:=tk} :=I1.kept fun b o eb=>hk b o (Heap.lt_size eb) eb
  refine Calls.spliced_nil ?_
  obtain⟨o,es,ep,t,SH⟩:=hS
  have sm:=SH.room.small
  refine call_len_set SH.ho SH.ex SH.hd (SH.T.fits (Nat.le_of_lt (Nat.lt_of_succ_lt SH.room.lt))) (by omega) ?_
  have ez:(es.size:Int)=(iF ks:Int):=by
   rw[SH.sz]
   unfold iF
   rw[List.size_toArray,←ll,lk]
  exact⟨.int (iF ks),H1,I2.tok _,⟨_,by rw[←ez]⟩,q⟩
end
end L2
namespace L2
open PySem PySem.Spec PyProof.Rows SeqAt
section
variable {X:Cx}
theorem Po {pins:List (Addr×Obj)}{σ:St}{H:Hp}{s:Shared}{x y:V}{u v:Value}{k:List Int}(A:Around) (hu:A.units<cLine) (I:Inv X pins σ H s) (hx:ba H x k) (hy:ba H y k) (ru:RelV x u) (rv:RelV y v):EqAt A s u v true:=by
 obtain⟨a,rfl,ha⟩:=hx
 obtain⟨b,rfl,hb⟩:=hy
 cases ru
 cases rv
 by_cases oF:a=b
 ·subst oF
  exact EqAt.same _
 ·obtain⟨us,r1,p1,_⟩:=I.tuple (ah.of ha)
  obtain⟨vs,r2,p2,_⟩:=I.tuple (ah.of hb)
  have z:=RcAt.tuples (A:=A) (s:=s) (e:=fun j=>k.getD j 0==k.getD j 0) p1 p2 hu (fun j h1 h2=>by
   obtain⟨t1,e1⟩:=YX r1 j (by simpa using h1)
   obtain⟨t2,e2⟩:=YX r2 j (by simpa using h2)
   rw[show us.toArray[j]=us[j]'(by simpa using h1) by simp,show vs.toArray[j]=vs[j]'(by simpa using h2) by simp,e1,e2]
   exact EqAt.int_int _ _ _ _)
  have l1:=r1.length
  have l2:=r2.length
  have e:((List.range (min us.toArray.size vs.toArray.size)).all (fun j=>k.getD j 0==k.getD j 0)&&us.toArray.size==vs.toArray.size)=true:=by
   simp
   omega
  rw[e]at z
  exact EqAt.of_refs oF z
def Hn (K:PySem.W.Frag) (r:Bool):R2:=fun x y H Q=> ∃(a b:Addr) (xs ys:List V) (ks:List (List Int)),x=.ref a∧y=.ref b∧ag K H a xs∧ag K H b ys∧Paired (ba H) xs ks∧Paired (ba H) ys ks∧Q (.bl r) H
theorem O8 {pins:List (Addr×Obj)}{σ:St}{H:Hp}{s:Shared}{xs ys:List V}{ks:List (List Int)}{us vs:List Value}(A:Around) (hu:A.units<cLine) (I:Inv X pins σ H s) (p1:Paired (ba H) xs ks) (p2:Paired (ba H) ys ks) (r1:Vals xs us) (r2:Vals ys vs):∀j (h1:j<us.toArray.size) (h2:j<vs.toArray.size),EqAt A s us.toArray[j] vs.toArray[j] true:=fun j h1 h2=>by
 have l1:=r1.length
 have l2:=r2.length
 have k1:j<xs.length:=by simp at h1;omega
 have k2:j<ys.length:=by simp at h2;omega
 obtain⟨k,hk,e⟩:=Y3 p1 (List.getElem?_eq_getElem k1)
 obtain⟨k',aN,e'⟩:=Y3 p2 (List.getElem?_eq_getElem k2)
 rw[hk]at aN
 cases aN
 obtain⟨u,iK,ru⟩:=r1.get (List.getElem?_eq_getElem k1)
 obtain⟨v,gR,rv⟩:=r2.get (List.getElem?_eq_getElem k2)
 have e1:us.toArray[j]=u:=by simpa using (List.getElem?_eq_some_iff.mp iK).2
 have e2:vs.toArray[j]=v:=by simpa using (List.getElem?_eq_some_iff.mp gR).2
 rw[e1,e2]
 exact Po A hu I e e' ru rv
theorem Qr (hu:X.A.units+1<cLine):bf X (compareOp .Eq) (Hn X.K true):=by
 intro pins s σ H x y u v Q I rx ry h
 obtain⟨a,b,xs,ys,ks,rfl,rfl,ha,hb,p1,p2,q⟩:=h
 cases rx
 cases ry
 obtain⟨us,r1,l1,_⟩:=I.list ha
 obtain⟨vs,r2,l2,_⟩:=I.list hb
 have bY:us.toArray.size=vs.toArray.size:=by have:=r1.length;have:=r2.length;have:=Paired.length p1;have:=Paired.length p2;simp at *;omega
 refine eq_listAt (e:=fun _=>true) l1.isList l2.isList bY (Nat.lt_of_succ_lt hu) (O8 X.A.in1 hu I p1 p2 r1 r2) ?_
 have e:(List.range us.toArray.size).all (fun _=>true)=true:=by simp
 rw[e]
 exact⟨.bl true,H,I,rfl,q⟩
end
end L2
namespace L2
open PySem PySem.Spec PyProof.Rows
def qO (K:PySem.W.Frag) (t:Addr):It:=
 ⟨fun i H=> ∃xs x,ag K H t xs∧xs[i]? =some x,fun i H x H'=> ∃(T:Addr) (y:V),x=.ref T∧H T=none∧H'=upd H T (.par [.int (i:Int),y])∧∀xs,ag K H t xs→xs[i]? =some y,fun i H=> ∃xs,ag K H t xs∧xs.length=i⟩
theorem S7 {P:Program}{w:World}{K:PySem.W.Frag}{elts:List Expr}{kk:Nat}{pos:Pos}(t e j:Addr) (jR:e≠j) (qe:t≠e) (qd:t≠j):
  Turn P w K (.Tuple elts kk pos) (qO K t) [e,j] e (fun i h=> (∃old,IsEnum h e j i old)∧h.IsListIter j t i) where
 mem:=by simp
 obj:=fun i h st b hb=>by
  obtain⟨⟨old,he⟩,o,ho,hc,hd⟩:=st
  rcases List.mem_cons.mp hb with rfl |hb
  ·exact⟨_,he,fun v z=>by cases z⟩
  ·rw[List.mem_singleton.mp hb]
   exact⟨o,ho,fun v z=>by rw[hd]at z;cases z⟩
 keep:=fun i h h' st k=> ⟨let ⟨old,he⟩:=st.1;⟨old,k e (by simp) _ he⟩,st.2.at fun o q=>k j (by simp) o q⟩
 item:=by
  intro X hP hw hK hc i pins s σ H E I hf st hg
  subst hP hw hK
  obtain⟨xs,x,hq,hx⟩:=hg
  obtain⟨its,rv,p,hz⟩:=I.list hq
  obtain⟨u,hu,ru⟩:=rv.get hx
  have hl:=rv.length
  have mn:i<its.toArray.size:=by
   have:=(List.getElem?_eq_some_iff.mp hu).1
   simpa using this
  have W:=WalksT.enumerateD (prog:=X.prog) (w:=X.w) (A:=X.A) (Draws.list (A:=X.A.in1) (show X.A.in1.handled=none from I.ok.hd hc) j t qd its.toArray) e jR (by simp[jR,qe.symm]) (by simp)
  have hT:s.heap.IsList t its.toArray:=p.isList
  refine W.item i s _ _ mn ⟨st.1,st.2,hT⟩ fun T vals h' tk hP fo mC iN hk=> ⟨_,rfl,W.go elts kk pos i T _ _ _ iN fun cH dk eV=> ?_⟩
  obtain⟨kX,x2,jO,rfl⟩:=hP
  have kr:its[i]? =some x2:=by simpa using jO
  rw[hu]at kr
  cases kr
  have iU:H T=none:=I.ai.fresh fo
  have both:∀b o,b∉[e,j]→s.heap.get? b=some o→cH.get? b=some o:=fun b o hb q=>eV b o hb (hk b o hb q)
  have jT:T∉[e,j]:=W.apart _ _ _ iN
  have mD:cH.IsTuple T #[.int i kX,u]:=mC.at fun o q=>eV T o jT q
  have neT:∀b o,s.heap.get? b=some o→b≠T:=fun b o q=>Nat.ne_of_lt (Nat.lt_of_lt_of_le (Heap.lt_size q) fo)
  have cN:∀b o,H b=some o→b≠T:=fun b o q=>Zg q iU
  have bX:∀b o,H b=some o→b∉[e,j]:=fun b o q z=>by
   have:=(hf b z).1
   rw[this]at q;cases q
  refine⟨.ref T,upd H T (.par [.int (i:Int),x]),?_,rfl,⟨T,x,rfl,iU,rfl,fun ys hy=>by rw[I.sW hy hq];exact hx⟩,⟨dk.1,dk.2.1⟩,fun b hb=> ?_⟩
  ·refine(show Inv X pins σ (upd H T (.par [.int (i:Int),x])) {s with heap:=cH,toks:=tk} from ?_)
   refine I.call (g':=s.gens) (d':=s.drawn) (t':=tk) (h':=cH) (ch:=[e,j]) ⟨fun b o q _ _ hx=>both b o hx q,fun b o q _ _ hx=> ⟨o.slots,both b o hx q⟩,fun b o q n hx=>by rw[Zf (neT b o q)];exact n,fun b o q hx=> ⟨o,both b o hx q⟩,
    fun b ys q=>by rw[Zf (cN b _ q)];exact q,fun b o u q=>by rw[Zf (cN b _ q)];exact q,fun b ps q=> ⟨#[],by rw[Zf (cN b _ q),q];simp⟩⟩ (fun b v q=> ?_) I.bare fun b hb=> ?_
   ·by_cases hb:b=T
    ·subst hb
     rw[Zc]at q
     cases q
     exact⟨by show 2≤sizeLine;decide,[.int i kX,u],.cons ⟨kX,rfl⟩ (.cons ru .nil),mD⟩
    ·rw[Zf hb]at q
     refine(I.ai b v q).bI (fun c z br q'=>both c z ?_ q') (fun c q'=>by rw[Zf (cN c _ q')];exact q') fun c ys q'=>by rw[Zf (cN c _ q')];exact q'
     rcases br with z' |z'
     ·rw[z'];exact bX b v q
     ·exact bX c _ z'
   ·obtain⟨f0,f1,f2,f3,f4,f5⟩:=hf b hb
    exact⟨f3,f1,f4,f5⟩
  ·rw[Zf (fun z=>jT (by rw[←z];exact hb))]
   exact(hf b hb).1
 done:=by
  intro X hP hw hK hc i pins s σ H E I hf st hg
  subst hP hw hK
  obtain⟨xs,hq,hx⟩:=hg
  obtain⟨its,rv,p,hz⟩:=I.list hq
  have hl:=rv.length
  have W:=WalksT.enumerateD (prog:=X.prog) (w:=X.w) (A:=X.A) (Draws.list (A:=X.A.in1) (show X.A.in1.handled=none from I.ok.hd hc) j t qd its.toArray) e jR (by simp[jR,qe.symm]) (by simp)
  have hn:i=its.toArray.size:=by rw[List.size_toArray];omega
  have hT:s.heap.IsList t its.toArray:=p.isList
  rw[hn]at st
  refine W.done s _ _ ⟨st.1,st.2,hT⟩ fun h' tk hk=> ⟨rfl,?_⟩
  have bX:∀b o,H b=some o→b∉[e,j]:=fun b o q z=>by
   have:=(hf b z).1
   rw[this]at q;cases q
  refine I.call (g':=s.gens) (d':=s.drawn) (t':=tk) (h':=h') (ch:=[e,j]) ⟨fun b o q _ _ hx=>hk b o hx q,fun b o q _ _ hx=> ⟨o.slots,hk b o hx q⟩,fun b o q n hx=>n,fun b o q hx=> ⟨o,hk b o hx q⟩,fun b ys q=>q,fun b o u q=>q,fun b ps q=> ⟨#[],by rw[q];simp⟩⟩ (fun b v q=> ?_) I.bare fun b hb=> ?_
  ·refine(I.ai b v q).bI (fun c z br q'=>hk c z ?_ q') (fun _ q'=>q') fun _ _ q'=>q'
   rcases br with z' |z'
   ·rw[z'];exact bX b v q
   ·exact bX c _ z'
  ·obtain⟨f0,f1,f2,f3,f4,f5⟩:=hf b hb
   exact⟨f3,f1,f4,f5⟩
 self:=fun A i s Q E st h=>let ⟨old,he⟩:=st.1;wpAny_pyIter_enum he h
section
variable {X:Cx}{elts:List Expr}{kk:Nat}{tp:Pos}
def K1 (K:PySem.W.Frag) (ta:TA):TI:=fun σ H R=>ta σ H fun vs H1=> ∃t,vs=[.ref t]∧(∃xs,ag K H1 t xs)∧R (qO K t) H1
theorem Rp {a:Expr}{ta:TA}{p pos:Pos}(hg:Gl X "enumerate") (hm:X.mg "enumerate" =none) (ha:PA X [a] ta) (hs:starEach [a] X.env=[(false,eval a X.env)]:=by rfl):PI X (.Tuple elts kk tp) (.Call (.Name "enumerate" p) [a] [] pos) (K1 X.K ta):=by
 intro pins s σ H R I h
 refine Call_ (Ym I hg hm boot_enumerate (PyProof.Rows.callWith_type1 (au (ha pos pins s σ H _ I h) fun us s1 ⟨vs,H1,I1,r1,q1⟩=> ?_) hs rfl))
 obtain⟨t,e,⟨xs,hq⟩,q⟩:=q1
 subst e
 obtain⟨u,rfl,ru⟩:=vals1 r1
 cases ru
 obtain⟨its,rv,pl,hz⟩:=I1.list hq
 have hT:s1.heap.IsList t its.toArray:=pl.isList
 have ht:t<s1.heap.objs.size:=by obtain⟨o,ho,_⟩:=hT;exact Heap.lt_size ho
 refine call_enumerate_list hT fun h' he hj aE hk=>wpAny_pyIter_enum he ?_
 have I2:Inv X pins σ H1 {s1 with heap:=h'} :=I1.kept (t':=s1.toks) hk
 refine⟨s1.heap.objs.size+1,[s1.heap.objs.size+1,s1.heap.objs.size],_,_,H1,rfl,I2,S7 t _ _ (Nat.succ_ne_self _) (Nat.ne_of_lt (Nat.lt_succ_of_lt ht)) (Nat.ne_of_lt ht),⟨⟨_,he⟩,hj⟩,fun b hb=> ?_,q⟩
 have iS:s1.heap.objs.size≤b:=by
  rcases List.mem_cons.mp hb with z |z
  ·rw[z];exact Nat.le_succ _
  ·rw[List.mem_singleton.mp z];exact Nat.le_refl _
 exact I1.kI iS (I1.ai.fresh iS)
end
theorem Sh {K:PySem.W.Frag}{a:Addr}{xs:List V}{g:TG}{tb:TS}{D:Ends}{σ:St}{H:Hp}(Pv:Nat→St→Hp→Prop) (h0:Pv 0 σ H) (hl:∀i σ H,i≤xs.length→Pv i σ H→ag K H a xs)
  (hs:∀i x T σ H,xs[i]? =some x→H T=none→Pv i σ H→g (.ref T) σ (upd H T (.par [.int (i:Int),x])) fun aR H2=>tb {D with nx:=Pv (i+1),ct:=Pv (i+1),bk:=D.nx} aR H2) (hd:∀σ H,Pv xs.length σ H→D.nx σ H):
  ∃W:Nat→Nat→St→Hp→Prop,(∃m,W 0 m σ H)∧∀i m σ H,W i m σ H→
   ((qO K a).stop i H∧D.nx σ H)∨((qO K a).go i H∧∃N:St→Hp→Prop,(∀aj H',N aj H'→∃m',m'<m∧W (i+1) m' aj H')∧∀x H',(qO K a).nz i H x H'→g x σ H' fun aR H2=>tb {D with nx:=N,ct:=N,bk:=D.nx} aR H2):=by
 refine⟨fun i m σ H=>m=xs.length - i∧i≤xs.length∧Pv i σ H,⟨xs.length,by simp,Nat.zero_le _,h0⟩,?_⟩
 rintro i m σ H ⟨rfl,hi,p⟩
 have q:=hl i σ H hi p
 by_cases ay:i<xs.length
 ·refine .inr ⟨⟨xs,xs[i],q,by simp[ay]⟩,Pv (i+1),fun aj H' p'=> ⟨xs.length - (i+1),by omega,rfl,ay,p'⟩,fun x H' y=> ?_⟩
  obtain⟨T,z,e1,e2,e3,e4⟩:=y
  subst e1 e3
  exact hs i z T σ H (e4 xs q) e2 p
 ·have e:i=xs.length:=by omega
  subst e
  exact .inl ⟨⟨xs,q,rfl⟩,hd σ H p⟩
end L2
namespace L2
open PySem PySem.Spec PyProof.Rows SeqAt
section
variable {X:Cx}
theorem WV {a b:String} :eE X (.builtin "isinstance") (fun xs H Q=> ∃(x:V) (t:Addr) (T:Value) (r:Bool),xs=[x,.ref t]∧ah X.K H t [.ty a,.ty b]∧((∃i,x=.int i∧T=.type "int")∨(∃k,x=.bl k∧T=.type "bool")∨(x=.ae∧T=.type "NoneType")∨(∃l ys,x=.ref l∧H l=some (.lst ys)∧T=.type "list")∨∃l ys,x=.ref l∧H l=some (.tup ys)∧T=.type "tuple")∧
  PySem.W.kitAny X.K T [.type a,.type b]=some r∧Q (.bl r) H):=by
 intro pins s σ H xs us Q I rv h
 obtain⟨x,t,T,r,rfl,hq,hx,hk,q⟩:=h
 obtain⟨u,v,rfl,ru,rv⟩:=vals2 rv
 cases rv
 obtain⟨its,rt,pl,hz⟩:=I.tuple hq
 cases rt with
 |cons r1 r2=>
  cases r2 with
  |cons r3 r4=>
   cases r4
   cases r1
   cases r3
   obtain⟨o,ho,hc,n,hd⟩:=id pl
   obtain⟨cls,dd,dt,sl⟩:=o
   replace hc:cls=.type "tuple" :=hc
   replace hd:dt=.seq [Value.type a,Value.type b].toArray n:=hd
   subst hc hd
   rcases hx with ⟨i,rfl,rfl⟩ |⟨k,rfl,rfl⟩ |⟨rfl,rfl⟩ |⟨l,ys,rfl,hl,rfl⟩ |⟨l,ys,rfl,hl,rfl⟩
   ·obtain⟨tk,rfl⟩:=ru
    exact PySem.W.kia_tup PySem.W.kitx_int I.bF True.intro ho hk (fun z=>nomatch z) fun tk=> ⟨.bl r,H,I.tok _,rfl,q⟩
   ·cases ru
    exact PySem.W.kia_tup PySem.W.kitx_bool I.bF True.intro ho hk (fun z=>nomatch z) fun tk=> ⟨.bl r,H,I.tok _,rfl,q⟩
   ·cases ru
    exact PySem.W.kia_tup PySem.W.kitx_none I.bF True.intro ho hk (fun z=>nomatch z) fun tk=> ⟨.bl r,H,I.tok _,rfl,q⟩
   ·cases ru
    obtain⟨_,_,n,_,h1⟩:=(show bC X.prog X.w H s.heap l (.lst ys) from I.ai l _ hl)
    exact PySem.W.kia_tup PySem.W.kitx_list I.bF ⟨_,h1,rfl⟩ ho hk (fun z=>nomatch z) fun tk=> ⟨.bl r,H,I.tok _,rfl,q⟩
   ·cases ru
    obtain⟨_,_,_,p,_⟩:=(show bC X.prog X.w H s.heap l (.tup ys) from I.ai l _ hl)
    obtain⟨o,h1,h2,_⟩:=p
    exact PySem.W.kia_tup PySem.W.kitx_tuple I.bF ⟨o,h1,h2⟩ ho hk (fun z=>nomatch z) fun tk=> ⟨.bl r,H,I.tok _,rfl,q⟩
end
end L2
namespace L2
open PySem PySem.Spec PyProof.Rows
section
variable {X:Cx}{CX:i0}{k:Nat}{f:Addr}{fd:FuncData}{ps:List Str}{ds:List Value}{iW:List V}{sp:Sp}{E:XK}{x:Str}{p pos:Pos}{e:Expr}{es:List Expr}{t:TA}
theorem Wh {i:Nat}(F:az X.prog X.w X.K X.mg X.base CX k f fd ps sp) (hr:cg k X.A) (hv:PE X (.Name x p) (jE i)) (hk:PySem.W.keepIn X.K (.ref f)=true) (hb:Binds X.K fd ps ds) (hd:Vals iW ds) (hx:Passes CX X E)
  (ha:PA X (e::es) t) (he:starEach (e::es) X.env=(false,eval e X.env)::starEach es X.env:=by rfl) (dX:(backTo pos (starEach es X.env)).any (·.1)=false:=by rfl):
  PE X (.Call (.Name x p) (e::es) [] pos) (fun σ H Q=>σ[i]? =some (some (.ref f))∧rj sp iW E t σ H Q):=by
 intro pins s σ H Q I h
 obtain⟨lU,h⟩:=h
 refine wpAny_Call_Name_kw (au (hv pins s σ H (fun v H1=>v=.ref f∧H1=H) I ⟨_,lU,rfl,rfl⟩) fun u s1 ⟨v,H1,I1,rv,e1,e2⟩=> ?_)
 subst e1 e2
 cases rv
 refine PySem.W.callWith_K (h₀:=X.base) I1.ok.mod.lL hk (au (ha pos pins s1 σ H1 _ I1 h) fun us s2 ⟨vs,H2,I2,r,q⟩=> ⟨I2.bF,?_⟩) he dX
 exact DC F hr hb hd hx I2 r q
end
section
variable {prog:Program}{w:World}{A:Around}{E:Value→Shared→Prop}{s:Shared}
theorem WR {Q:List Value→Shared→Prop}{r:Addr}{a b c:Int}{t u v:Tok}{n:Nat}(hh:A.handled=none) (hr:IsRange s.heap r a b c t u v) (wU:Builtin.Range.small a b c=true)
  (hn:Builtin.Range.rangeSize a b c=n) (hlen:n≤2^24)
  (hQ:∀(h':Heap) (tk:Nat) (acc:Array Value),(∀b o,s.heap.get? b=some o→h'.get? b=some o)→ItemsOf (fun i v=> ∃t,v=.int (a+i*c) t) acc n→Q acc.toList {s with heap:=h',toks:=tk}):wpAny (model prog w) A (collect (.ref r)) Q E s:=by
 unfold collect
 refine wpAny_bind (wpAny_runValue (codeAny_builtin F.entry_proto_collect ?_))
 rw[Around.under_plainId F.plain_proto_collect _]
 show wpAny _ A.in1 (newList [] >>=fun l=>again (.builtin "list.__iadd__" ⟨[l,.ref r],[]⟩)) _ _ s
 refine wpAny_bind (wpAny_newObj_type ?_)
 refine wpAny_pure ⟨plainId_quiet F.plain_list_iadd _,codeAny_builtin F.entry_list_iadd ?_⟩
 rw[Around.under_plainId F.plain_list_iadd _]
 have MY:(s.heap.push {cls:=.type "list",data:=.seq ([]:List Value).toArray}).get? s.heap.objs.size=some {cls:=.type "list",data:=.seq ([]:List Value).toArray} :=Heap.get?_push_size _ rfl
 show wpAny _ A.in1 (Builtin.List.listExtendWith (.ref s.heap.objs.size) (.ref r) (.ref s.heap.objs.size)) _ _ _
 refine wpAny_mono (wpAny_extend_range (A:=A) (R:=fun r s'=> ∃(h':Heap) (tk:Nat) (acc:Array Value) (c':Nat),r=.ok (.ret (.ref s.heap.objs.size))∧s'= {s with heap:=h',toks:=tk}∧(∀b o,s.heap.get? b=some o→h'.get? b=some o)∧h'.get? s.heap.objs.size=some {cls:=.type "list",dict:=none,data:=.seq acc c',slots:= #[]}∧ItemsOf (fun i v=> ∃t,v=.int (a+i*c) t) acc n)
  (s:= {s with heap:=s.heap.push {cls:=.type "list",data:=.seq ([]:List Value).toArray} }) hh (Heap.get?_push_of_some _ hr) wU hn hlen s.heap.objs.size (.ref s.heap.objs.size) 0 MY fun h' tk OQ c' hk dY fU=> ⟨h',tk,OQ,c',rfl,rfl,fun b o e=>hk b o (Nat.ne_of_lt (Heap.lt_size e)) (Heap.get?_push_of_some _ e),dY,fU⟩) (fun fin s' h=> ?_) (fun e s' h=> ?_)
 ·cases fin with
  |done f=>
   obtain⟨h',tk,acc,c',e,rfl,hk,dY,fU⟩:=h
   cases e
   show wpAny _ A (load s.heap.objs.size >>=_) _ _ _
   refine wpAny_bind (wpAny_load dY ?_)
   exact wpAny_pure (hQ h' tk acc hk fU)
  |again c'=>
   refine⟨h.1,codeAny_mono h.2 fun r fh hr=> ?_⟩
   obtain⟨h',tk,acc,c',rfl,rfl,hk,dY,fU⟩:=hr
   show wpAny _ A (load s.heap.objs.size >>=_) _ _ _
   refine wpAny_bind (wpAny_load dY ?_)
   exact wpAny_pure (hQ h' tk acc hk fU)
 ·obtain⟨_,_,_,_,e,_⟩:=h
  cases e
theorem JN {Q:Value→Shared→Prop}{r:Addr}{a b c:Int}{t u v:Tok}{n:Nat}(hh:A.handled=none) (hr:IsRange s.heap r a b c t u v) (wU:Builtin.Range.small a b c=true)
  (hn:Builtin.Range.rangeSize a b c=n) (hlen:n≤2^24)
  (hQ:∀(h':Heap) (tk:Nat) (acc:Array Value),(∀b o,s.heap.get? b=some o→h'.get? b=some o)→ItemsOf (fun i v=> ∃t,v=.int (a+i*c) t) acc n→Q (.ref h'.objs.size) {s with heap:=h'.push {cls:=.type "tuple",data:=.seq acc},toks:=tk}):
  wpAny (model prog w) A (call (.type "tuple") [.ref r]) Q E s:=by
 refine callType_codes (Q₁:=fun obj aI=>aI.TypeIs obj "tuple" ∧Q obj aI) F.called_tuple (F.typeCall_tuple_1 _) F.entry_object_init ?_ fun obj aI jN=> ?_
 ·refine codeAny_of_tree ?_
  show wpAny _ A.in1.in1 (do checkBuiltinCall "tuple.__new__" ⟨[.type "tuple",.ref r],[]⟩;again (.builtin "tuple.__new__" ⟨[.type "tuple",.ref r],[]⟩)) _ _ s
  refine wpAny_bind (wpAny_of_eq (F.newCall_tuple_1 _) (wpAny_pure ⟨plainId_quiet F.plain_tuple_new _,codeAny_builtin F.entry_tuple_new ?_⟩))
  rw[Around.under_plainId F.plain_tuple_new _]
  have kA:=sub_tuple_self
  have VH:=init_tuple_lookup
  have BF:=madeHere_tuple
  have MX:s.TypeIs (.ref r) "range" :=⟨_,hr,rfl⟩
  wp_walk using wpAny_typeOf MX,WR (A:=A.in1.in1) hh hr wU hn hlen
  intro h' tk acc hk fU
  show wpAny _ _ (Builtin.Tuple.tupleExact acc.toList.toArray >>=fun v=>ret v) _ _ _
  unfold Builtin.Tuple.tupleExact
  refine wpAny_bind (wpAny_newObj_type ?_ (by show acc.toList.toArray.size≤sizeLine;simp only[Array.toArray_toList];rw[fU.1,sizeLine_eq];exact hlen))
  refine wpAny_pure ?_
  have e:acc.toList.toArray=acc:=by simp
  rw[e]
  exact⟨⟨_,Heap.get?_push_size _ rfl,rfl⟩,hQ h' tk acc hk fU⟩
 ·exact⟨jN.1,F.args_object_init_2 obj _,object_init_meets F.called_tuple.init.lookup F.called_tuple.made (by decide) prog w A.in1 _ aI ⟨jN.1,rfl,jN.2⟩⟩
end
section
variable {X:Cx}
theorem WG (hc:X.calm=true:=by rfl):eE X (.type "tuple") (fun xs H Q=> ∃(p:Addr) (j:Int),xs=[.ref p]∧H p=some (.fj 0 j)∧0≤j∧j≤1000∧∀q,H q=none→Q (.ref q) (upd H q (.tup (upTo j.toNat)))):=by
 intro pins s σ H xs us Q I r h
 obtain⟨p,j,rfl,hp,h0,h1,q⟩:=h
 obtain⟨u,rfl,ru⟩:=vals1 r
 cases ru
 obtain⟨t,u,v,e⟩:=(show bC X.prog X.w H s.heap p (.fj 0 j) from I.ai p _ hp)
 refine JN (n:=j.toNat) (I.ok.hd hc) e (small_one (by omega) (by omega) (by omega) (by omega)) (by rw[rangeSize_one];split<;>omega) (by omega) fun h' tk acc hk fU=> ?_
 have r2:=Ju fU
 have hlen:(upTo j.toNat).length≤sizeLine:=by unfold upTo;rw[List.length_map,List.length_range,sizeLine_eq];omega
 have I1:Inv X pins σ H {s with heap:=h',toks:=tk} :=I.kept hk
 have ea:acc=acc.toList.toArray:=by simp
 have I2:Inv X pins σ (upd H h'.objs.size (.tup (upTo j.toNat))) {s with heap:=h'.push {cls:=.type "tuple",data:=.seq acc},toks:=tk} :=by
  rw[ea]
  exact I1.laid (t':=tk) (fun b o e=>Heap.get?_push_of_some _ e) (Nat.le_refl _) (show bC X.prog X.w _ _ _ (.tup (upTo j.toNat)) from ⟨hlen,acc.toList,r2,IsTup.new _ _,_,Heap.get?_push_size _ rfl,rfl⟩)
 exact⟨.ref h'.objs.size,_,I2,rfl,q _ (I1.ai.fresh (Nat.le_refl _))⟩
end
end L2
namespace U
open PySem L2 PyProof.Rows
def top (i:Nat):Stmt:=PySem.Challenge.pw_unlikesteps_k51_places_for_a_point_more.main.body.getD i (.Pass ⟨0,0,0,0⟩)
structure Gs (mg:Str→Option Value):Prop where
 isinstance:mg "isinstance" =none
 int:mg "int" =none
 bool:mg "bool" =none
 tuple:mg "tuple" =none
 list:mg "list" =none
 len:mg "len" =none
 all:mg "all" =none
 set:mg "set" =none
 range:mg "range" =none
 max:mg "max" =none
 min:mg "min" =none
 enumerate:mg "enumerate" =none
 zip:mg "zip" =none
 sorted:mg "sorted" =none
 longest:∃t,mg "LONGEST_SIDE" =some (.int 12 t)
section
theorem Zl {H:Hp}{p:Addr}{o:HO}(h:H p=none):af H (upd H p o):=fun b u hb=>by rw[Zf (Zg hb h)];exact hb
theorem QU {H H1:Hp}{a:Addr}{o:HO}(s:af H H1) (n:H a=none):af H (upd H1 a o):=fun b u e=>by
 rw[Zf fun z=>by rw[z,n]at e;cases e]
 exact s _ _ e
theorem ZN {D:Ends}{σ:L2.St}{H:Hp}(h:D.nx σ H):zx D σ H:=h
theorem Zp {t u:TS}{D:Ends}{σ:L2.St}{H:Hp}(h:t {D with nx:=u D} σ H):ir t u D σ H:=h
theorem ZA {te:TE}{g:TG}{D:Ends}{σ:L2.St}{H:Hp}(h:te σ H fun v H1=>g v σ H1 D.nx):rm te g D σ H:=h
theorem Zn {i:Nat}{v:V}{σ:L2.St}{H:Hp}{Q:L2.St→Hp→Prop}(h:Q (σ.set i (some v)) H):bG i v σ H Q:=h
end
section
variable {P:Program}{w:World}{K:PySem.W.Frag}{mg:Str→Option Value}{base:Heap}
abbrev vD:Stmt:=top 19
def u5 (K:PySem.W.Frag):Sp:=fun vs H Q _=> ∃x,vs=[x]∧cR K H x∧Q (.bl (whole x)) H
theorem GG:bu ["thing"] ["thing"] (aC vD):=⟨rfl,rfl,rfl,by decide+kernel,rfl,by decide+kernel,by decide+kernel⟩
theorem Rm {f:Addr}{fd:FuncData}(F:aK K "is_whole" "is_whole" vD f fd) (G:Gs mg):az P w K mg base aM 1 f fd ["thing"] (u5 K):=by
 refine F.ok GG (fun vs H Q E h=> ?_) (fun ao A outer s H vs Q E hr h=> ?_)
 ·obtain⟨x,rfl,_⟩:=h
  rfl
 ·obtain⟨x,rfl,⟨T,t⟩,q⟩:=h
  refine⟨_,Zj (Zw (Yw (Zm (ZB (c:= "int")) rfl G.isinstance boot_isinstance (Za (pv 0) (Za (ZE (v:=.ty "int") rfl G.int boot_int rfl) Zb)))
   (Yu (O0 (Zm (ZB (c:= "bool")) rfl G.isinstance boot_isinstance (Za (pv 0) (Za (ZE (v:=.ty "bool") rfl G.bool boot_bool rfl) Zb))))))),?_⟩
  refine⟨x,rfl,x,_,_,rfl,t,QK t,_,rfl,?_⟩
  rw[Sx]at q
  cases e:wF x with
  |false=>rw[e]at q;exact aH q
  |true=>rw[e]at q;exact aW ⟨x,rfl,x,_,_,rfl,t,Rt t,_,rfl,q⟩
abbrev vC:Stmt:=top 20
def rF (K:PySem.W.Frag):Sp:=fun vs H Q _=> ∃x a b,vs=[x,.int a,.int b]∧cR K H x∧Q (.bl (cw x a b)) H
theorem GF:bu ["thing", "least", "most"] ["thing", "least", "most"] (aC vC):=⟨rfl,rfl,rfl,by decide+kernel,rfl,by decide+kernel,by decide+kernel⟩
theorem RQ {f:Addr}{fd:FuncData}(F:aK K "is_whole_within" "is_whole_within" vC f fd) (D1:Def P w K mg base 1 "is_whole" ["thing"] (u5 K)):az P w K mg base aM 2 f fd ["thing", "least", "most"] (rF K):=by
 refine F.ok GF (fun vs H Q E h=> ?_) (fun ao A outer s H vs Q E hr h=> ?_)
 ·obtain⟨x,a,b,rfl,_⟩:=h
  rfl
 ·obtain⟨x,a,b,rfl,t,q⟩:=h
  refine⟨_,Zj (Zw (Yw (Zi D1 hr (Za (pv 0) Zb)) (Yu (Ro Dm Dm (pv 1) (pv 0) (pv 2))))),?_⟩
  refine⟨x,rfl,x,rfl,t,_,rfl,?_⟩
  cases x with
  |int i=>
   refine aW ⟨_,rfl,_,rfl,_,_,rfl,rfl,_,rfl,?_⟩
   have e:cw (.int i) a b=(decide (a≤i)&&decide (i≤b)):=rfl
   rw[e]at q
   cases e1:decide (a≤i) with
   |false=>rw[e1]at q;exact aH q
   |true=>rw[e1]at q;exact aW ⟨_,rfl,_,_,rfl,rfl,q⟩
  |_=>exact aH q
abbrev vF:Stmt:=top 21
def rG (K:PySem.W.Frag):Sp:=fun vs H Q _=> ∃x n,vs=[x,.int n]∧cR K H x∧Q (.bl (match bh H x with |some xs=>decide ((xs.length:Int)=n) |none=>false)) H
theorem GI:bu ["thing", "many"] ["thing", "many"] (aC vF):=⟨rfl,rfl,rfl,by decide+kernel,rfl,by decide+kernel,by decide+kernel⟩
theorem Rl {f:Addr}{fd:FuncData}(F:aK K "is_tuple_of" "is_tuple_of" vF f fd) (G:Gs mg):az P w K mg base aM 1 f fd ["thing", "many"] (rG K):=by
 refine F.ok GI (fun vs H Q E h=> ?_) (fun ao A outer s H vs Q E hr h=> ?_)
 ·obtain⟨x,n,rfl,_⟩:=h
  rfl
 ·obtain⟨x,n,rfl,⟨T,t⟩,q⟩:=h
  refine⟨_,Zj (Zw (Yw (Zm (ZB (c:= "tuple")) rfl G.isinstance boot_isinstance (Za (pv 0) (Za (ZE (v:=.ty "tuple") rfl G.tuple boot_tuple rfl) Zb)))
   (Yu (ZV Jo (Zm ZC rfl G.len boot_len (Za (pv 0) Zb)) (pv 1) (bK _))))),?_⟩
  refine⟨x,rfl,x,_,_,rfl,t,So t,_,rfl,?_⟩
  cases e:bh H x with
  |none=>rw[e]at q;exact aH q
  |some xs=>
   rw[e]at q
   obtain⟨a,rfl,ha⟩:=ZD e
   refine aW ⟨_,rfl,a,xs,rfl,.inr (ah.of ha),_,rfl,rfl,?_⟩
   have z:decide (V.int (xs.length:Int)=V.int n)=decide ((xs.length:Int)=n):=by simp
   rw[z]
   exact q
abbrev vS:Stmt:=top 22
def lT:Option (List V)→Bool
 |some [a,b]=>cw a 1 12&&cw b 1 12
 |_=>false
def eD (K:PySem.W.Frag) (H:Hp) (x:V):Prop:=cR K H x∧∀xs,bh H x=some xs→∀y∈xs,cR K H y
def rL (K:PySem.W.Frag):Sp:=fun vs H Q _=> ∃x,vs=[x]∧eD K H x∧∀H',af H H'→Q (.bl (lT (bh H x))) H'
theorem GL:bu ["thing"] ["thing"] (aC vS):=⟨rfl,rfl,rfl,by decide+kernel,rfl,by decide+kernel,by decide+kernel⟩
theorem Rh {f:Addr}{fd:FuncData}(F:aK K "is_board" "is_board" vS f fd) (G:Gs mg) (D1:Def P w K mg base 1 "is_tuple_of" ["thing", "many"] (rG K)) (D2:Def P w K mg base 2 "is_whole_within" ["thing", "least", "most"] (rF K)):
  az P w K mg base aM 3 f fd ["thing"] (rL K):=by
 obtain⟨tk,hL⟩:=G.longest
 refine F.ok GL (fun vs H Q E h=> ?_) (fun ao A outer s H vs Q E hr h=> ?_)
 ·obtain⟨x,rfl,_⟩:=h
  rfl
 ·obtain⟨x,rfl,⟨t,hi⟩,q⟩:=h
  refine⟨_,Zj (Zw (Yw (Zi D1 (hr.mono (by decide)) (Za (pv 0) (Za Zh Zb)))
   (Yu (Zm JC rfl G.all boot_all (Za (Z8 ["side"] 1 [] (DK (pv 0)) (fun C s H fp=>pb 0) (fun C s H fp=>Ya)
    (fun C s H fp D=>ZK rfl (Zi D2 (hr.mono (by decide)) (Za (pv 0) (Za Zh (Za (YF (v:=.int 12) rfl hL ⟨_,rfl⟩) Zb)))))) Zb))))),?_⟩
  refine⟨x,rfl,x,2,rfl,t,_,rfl,?_⟩
  cases e:bh H x with
  |none=>rw[e]at q;exact aH (q H (af.refl H))
  |some xs=>
   rw[e]at q
   obtain⟨a,rfl,ha⟩:=ZD e
   show if decide ((xs.length:Int)=2)=true then _ else _
   by_cases h2:xs.length=2
   ·rw[decide_eq_true (show(xs.length:Int)=2 by omega)]
    refine aW ⟨_,rfl,a,rfl,⟨xs,ah.of ha⟩,?_⟩
    refine U6 (xs:=xs) (fun i ys σ H2=>ys=(xs.take i).map (fun y=>V.bl (cw y 1 12))∧H2=H∧∃v,σ=[v]) ⟨rfl,rfl,none,rfl⟩ (fun i ys σ H2 _ ⟨_,e2,_⟩=>by rw[e2];exact ah.of ha) ?_ ?_
    ·rintro i y ys σ H2 hy ⟨rfl,rfl,v,rfl⟩
     have my:y∈xs:=List.mem_of_getElem? hy
     refine⟨y,rfl,y,1,12,rfl,hi xs e y my,?_,?_⟩
     ·rw[List.length_map,sizeLine_eq,List.length_take];omega
     ·refine⟨?_,rfl,_,rfl⟩
      rw[List.take_add_one,hy,List.map_append]
      rfl
    ·rintro ys σ H2 ⟨rfl,rfl,v,rfl⟩ p hp
     rw[List.take_length]
     refine⟨p,xs.map (fun y=>cw y 1 12),rfl,?_,?_⟩
     ·rw[List.map_map];exact ag.of Zc
     ·have e3:lT (some xs)=(xs.map (fun y=>cw y 1 12)).all id:=by
       match xs,h2 with
       | [a,b],_=>simp[lT]
      rw[←e3]
      exact q _ fun b o hb=>by rw[Zf (Zg hb hp)];exact hb
   ·rw[decide_eq_false (show ¬(xs.length:Int)=2 by omega)]
    have e3:lT (some xs)=false:=by
     match xs,h2 with
     | [],_=>rfl
     | [a],_=>rfl
     | [a,b],h=>exact absurd rfl h
     |a::b::c::r,_=>rfl
    rw[e3]at q
    exact aH (q H (af.refl H))
abbrev vR:Stmt:=top 40
def vA (K:PySem.W.Frag):Sp:=fun vs H Q _=> ∃(a:Addr) (ns:List Int) (k:Nat),vs=[.ref a,.int k]∧ag K H a (ns.map V.int)∧∀n:Int,Q (.int n) H
theorem GK:bu ["_law_script", "_law_k"] ["_law_script", "_law_k"] (aC vR):=⟨rfl,rfl,rfl,by decide+kernel,rfl,by decide+kernel,by decide+kernel⟩
theorem Qm {f:Addr}{fd:FuncData}(F:aK K "_law_cell_at" "_law_cell_at" vR f fd) (G:Gs mg):az P w K mg base aM 1 f fd ["_law_script", "_law_k"] (vA K):=by
 refine F.ok GK (fun vs H Q E h=> ?_) (fun ao A outer s H vs Q E hr h=> ?_)
 ·obtain⟨a,ns,k,rfl,_⟩:=h
  rfl
 ·obtain⟨a,ns,k,rfl,hs,q⟩:=h
  refine⟨_,Ze (ZO (ZJ yK (pv 1) (Zm ZC rfl G.len boot_len (Za (pv 0) Zb)) (bK _)) (Zj (Zw (ZI ZU (pv 0) (pv 1) (fun _ _=>rfl)))) Zz) (Zj (Zw Zh)),?_⟩
  refine⟨_,rfl,_,rfl,a,ns.map V.int,rfl,.inl hs,_,_,rfl,rfl,_,rfl,?_⟩
  by_cases hk:k<ns.length
  ·rw[decide_eq_true (by rw[List.length_map];omega)]
   refine aW ⟨_,rfl,_,rfl,a,ns.map V.int,k,V.int ns[k],rfl,rfl,hs,Yc ?_,q _⟩
   rw[List.getElem?_map,List.getElem?_eq_getElem hk]
   rfl
  ·rw[decide_eq_false (by rw[List.length_map];omega)]
   exact aH (q 0)
def bW (H:Hp) (p:Addr):Prop:=∃u v:Int,H p=some (.lst [.int u,.int v])∧0≤u∧0≤v∧v<2147483647
abbrev vH:Stmt:=top 41
def u9 (K:PySem.W.Frag):Sp:=fun vs H Q _=> ∃(a:Addr) (ns:List Int) (k:Nat),vs=[.ref a,.int k]∧ag K H a (ns.map V.int)∧∀p H',H p=none→af H H'→bW H' p→Q (.ref p) H'
theorem Aa:bu ["_law_script", "_law_k", "_law_cell"] ["_law_script", "_law_k"] (aC vH):=⟨rfl,rfl,rfl,by decide+kernel,rfl,by decide+kernel,by decide+kernel⟩
theorem Rk {f:Addr}{fd:FuncData}(F:aK K "_law_state" "_law_state" vH f fd) (G:Gs mg) (D1:Def P w K mg base 1 "_law_cell_at" ["_law_script", "_law_k"] (vA K)):az P w K mg base aM 2 f fd ["_law_script", "_law_k"] (u9 K):=by
 refine F.ok Aa (fun vs H Q E h=> ?_) (fun ao A outer s H vs Q E hr h=> ?_)
 ·obtain⟨a,ns,k,rfl,_⟩:=h
  rfl
 ·obtain⟨a,ns,k,rfl,hs,q⟩:=h
  refine⟨_,Ze (Zu (i:=2) Aa.nd rfl (Or.inl rfl) (Zi D1 hr (Za (pv 0) (Za (pv 1) Zb))))
   (Zj (Zw (ZF (Za (Zm (Ul rfl) rfl G.max boot_max (Za Zh (Za (Zr YL (pv 2) (Zr yN Zh Zh)) Zb))) (Za (Zr Ja (pv 2) Zh) Zb))))),?_⟩
  refine⟨_,rfl,_,rfl,a,ns,k,rfl,hs,fun n=> ?_⟩
  refine⟨_,rfl,_,_,rfl,rfl,⟨by decide,by decide,by decide⟩,_,_,rfl,rfl,_,_,rfl,?_⟩
  refine⟨_,rfl,_,_,rfl,rfl,(by show(0:Int)<2147483647;decide),(by show 2≤sizeLine;decide),fun p hp=>q p _ hp (fun b o hb=>by rw[Zf (Zg hb hp)];exact hb) ?_⟩
  refine⟨_,_,Zc,?_,Int.emod_nonneg _ (by decide),Int.emod_lt_of_pos _ (by decide)⟩
  split<;>omega
abbrev vG:Stmt:=top 42
def kZ:Sp:=fun vs H Q _=> ∃(p:Addr) (m:Int),vs=[.ref p,.int m]∧bW H p∧0<m∧m<1073741824∧∀r o,0≤r→r<m→bW (upd H p o) p→Q (.int r) (upd H p o)
theorem rN:bu ["_law_state_here", "_law_many", "_law_found", "_law_mixed"] ["_law_state_here", "_law_many"] (aC vG):=⟨rfl,rfl,rfl,by decide+kernel,rfl,by decide+kernel,by decide+kernel⟩
theorem iX {x y:V} :ft [x,y] 0=some x:=rfl
theorem da {x y:V} :ft [x,y] 1=some y:=rfl
theorem Qo {f:Addr}{fd:FuncData}(F:aK K "_law_take" "_law_take" vG f fd):az P w K mg base aM 1 f fd ["_law_state_here", "_law_many"] kZ:=by
 refine F.ok rN (fun vs H Q E h=> ?_) (fun ao A outer s H vs Q E hr h=> ?_)
 ·obtain⟨p,m,rfl,_⟩:=h
  rfl
 ·obtain⟨p,m,rfl,⟨u,v,hp,hu,hv,Lb⟩,hm,me,q⟩:=h
  refine⟨_,Ze (ZO (ZJ Pk (ZI ZU (pv 0) Zh (fun _ _=>rfl)) (pv 1) (bK _))
    (Ze (Zu (i:=2) rN.nd rfl (Or.inl rfl) (Zr Ja (ZI ZU (pv 0) Zh (fun _ _=>rfl)) (pv 1)))
    (Ze (JF (Zr UB (ZI ZU (pv 0) Zh (fun _ _=>rfl)) (pv 1)) (DJ (pv 0) Zh UU)) (Zj (Zw (pv 2))))) Zz)
   (Ze (JF (Zr Ja (Zr Z3 (Zr Wl (ZI ZU (pv 0) Zh (fun _ _=>rfl)) Zh) Zh) Zh) (DJ (pv 0) Zh UU))
   (Ze (Zu (i:=3) rN.nd rfl (Or.inl rfl) (Zr Ja (Zr Z3 (Zr Z3 (Zr Wl (ZI ZU (pv 0) Zh (fun _ _=>rfl)) (ZI ZU (pv 0) Zh (fun _ _=>rfl))) (Zr Wl Zh (ZI ZU (pv 0) Zh (fun _ _=>rfl)))) Zh) Zh))
   (Ze (Zu (i:=3) rN.nd rfl (Or.inl rfl) (Zr Ja (Zr Z3 (Zr Wl (pv 3) (pv 3)) (Zr Wl Zh (pv 3))) Zh))
   (Zj (Zw (Zr Ja (Zr UB (pv 3) Zh) (pv 1))))))),?_⟩
  have s0:=ag.of (K:=K) hp
  refine⟨_,rfl,p,_,_,_,rfl,rfl,s0,iX,_,rfl,_,_,rfl,rfl,_,rfl,?_⟩
  by_cases h0:m≤u
  ·rw[decide_eq_true h0]
   refine aW ?_
   refine⟨_,rfl,p,_,_,_,rfl,rfl,s0,iX,_,rfl,_,_,rfl,rfl,hm,?_⟩
   refine⟨_,rfl,p,_,_,_,rfl,rfl,s0,iX,_,rfl,_,_,rfl,rfl,⟨hm,by omega⟩,?_⟩
   refine⟨_,rfl,p,_,0,0,rfl,rfl,hp,rfl,?_⟩
   refine⟨_,rfl,q _ _ (Int.emod_nonneg _ (by omega)) (Int.emod_lt_of_pos _ hm) ?_⟩
   exact⟨u/m,v,Zc,Int.ediv_nonneg hu (by omega),hv,Lb⟩
  ·rw[decide_eq_false h0]
   refine aH ?_
   refine⟨_,rfl,p,_,_,_,rfl,rfl,s0,da,_,_,rfl,rfl,.inr ⟨by decide,by decide⟩,_,_,rfl,rfl,_,_,rfl,rfl,(by show(0:Int)<2147483647;decide),?_⟩
   refine⟨_,rfl,p,_,1,1,rfl,rfl,hp,rfl,?_⟩
   have b1:0≤((v*48271+29)%2147483647):=Int.emod_nonneg _ (by decide)
   have b2:((v*48271+29)%2147483647)<2147483647:=Int.emod_lt_of_pos _ (by decide)
   have s1:ag K (upd H p (.lst (([V.int u,V.int v]:List V).set 1 (V.int ((v*48271+29)%2147483647))))) p [.int u,.int ((v*48271+29)%2147483647)]:=ag.of Zc
   have lo:∀{t:Int},0≤t→ -(2^64)<t:=fun h=>Int.lt_of_lt_of_le (by decide) h
   have hi:∀{t:Int},t<2147483647→t<2^64:=fun h=>Int.lt_trans h (by decide)
   refine⟨_,rfl,p,_,_,_,rfl,rfl,s1,da,_,rfl,p,_,_,_,rfl,rfl,s1,da,_,_,rfl,rfl,.inl ⟨lo b1,hi b2⟩,?_⟩
   refine⟨_,rfl,p,_,_,_,rfl,rfl,s1,da,_,_,rfl,rfl,.inl ⟨by decide,by decide⟩,_,_,rfl,rfl,_,_,rfl,rfl,_,_,rfl,rfl,(by show(0:Int)<2147483629;decide),?_⟩
   have c1:0≤((((v*48271+29)%2147483647)*((v*48271+29)%2147483647)+39373*((v*48271+29)%2147483647)+7)%2147483629):=Int.emod_nonneg _ (by decide)
   have c2:((((v*48271+29)%2147483647)*((v*48271+29)%2147483647)+39373*((v*48271+29)%2147483647)+7)%2147483629)<2147483647:=Int.lt_trans (Int.emod_lt_of_pos _ (by decide)) (by decide)
   refine⟨_,rfl,_,rfl,_,_,rfl,rfl,.inl ⟨lo c1,hi c2⟩,_,rfl,_,_,rfl,rfl,.inl ⟨by decide,by decide⟩,_,_,rfl,rfl,_,_,rfl,rfl,(by show(0:Int)<2147483587;decide),?_⟩
   refine⟨_,rfl,_,_,rfl,rfl,⟨by decide,by decide⟩,_,rfl,_,_,rfl,rfl,hm,?_⟩
   refine q _ _ (Int.emod_nonneg _ (by omega)) (Int.emod_lt_of_pos _ hm) ?_
   exact⟨u,_,Zc,hu,b1,b2⟩
end
section
theorem YR (val:Nat→Int):∀n,((PyProof.Rows.firstMet val n).length=n↔((List.range n).map val).Nodup)
 |0=>by simp[PyProof.Rows.firstMet_zero]
 |n+1=>by
  have ih:=YR val n
  have le:=PyProof.Rows.firstMet_length_le val n
  rw[PyProof.Rows.firstMet_succ,PyProof.Rows.step_length,PyProof.Rows.firstMet_any,List.range_succ,List.map_append]
  have e:(((List.range n).map val).any (· ==val n))=true↔val n∈(List.range n).map val:=by
   rw[List.any_eq_true]
   constructor
   ·rintro⟨x,hx,q⟩
    have:x=val n:=by simpa using q
    rw[←this];exact hx
   ·intro h;exact⟨_,h,by simp⟩
  have nd:((List.range n).map val++List.map val [n]).Nodup↔((List.range n).map val).Nodup∧¬val n∈(List.range n).map val:=by
   rw[List.nodup_append]
   constructor
   ·rintro⟨h1,_,h3⟩
    exact⟨h1,fun m=>h3 _ m (val n) (by simp) rfl⟩
   ·rintro⟨h1,h2⟩
    refine⟨h1,by simp,fun a ha b hb q=>h2 ?_⟩
    have dw:b=val n:=by simpa using hb
    rw[←dw,←q];exact ha
  rw[nd,←ih]
  by_cases m:val n∈(List.range n).map val
  ·rw[if_pos (e.mpr m)]
   constructor
   ·intro h;omega
   ·rintro⟨_,h⟩;exact absurd m h
  ·rw[if_neg (fun z=>m (e.mp z))]
   constructor
   ·intro h;exact⟨by omega,m⟩
   ·rintro⟨h,_⟩;omega
theorem S5 (ns:List Int):nJ ns=ns.length↔ns.Nodup:=by
 unfold nJ
 rw[YR]
 have e:(List.range ns.length).map (fun i=>ns.getD i 0)=ns:=by
  refine List.ext_getElem (by simp) fun i h1 h2=> ?_
  rw[List.getElem_map,List.getElem_range,List.getD_eq_getElem?_getD,List.getElem?_eq_getElem h2,Option.getD_some]
 rw[e]
def rowsOf (xs:List V):List V:=xs.filter fun x=> !decide (x=.ae)
def cA (wd hg:Int):Option (List V)→Bool
 |some xs=>decide ((xs.length:Int)=wd)&&((rowsOf xs).all fun r=>cw r 0 (hg - 1))&&decide (rowsOf xs).Nodup
 |none=>false
def bM (H:Hp) (x:V) (wd hg:Int):Prop:=bh H x=some [.int wd,.int hg]∧1≤wd∧wd≤12∧1≤hg∧hg≤12
theorem bM.same {H H':Hp}{x:V}{wd hg:Int}(b:bM H x wd hg) (s:af H H'):bM H' x wd hg:=⟨s.bh b.1,b.2⟩
theorem bM.is {H:Hp}{x:V}{wd hg:Int}(b:bM H x wd hg):lT (bh H x)=true:=by
 obtain⟨h,h1,h2,h3,h4⟩:=b
 rw[h]
 show(decide (1≤wd)&&decide (wd≤12)&&(decide (1≤hg)&&decide (hg≤12)))=true
 simp[h1,h2,h3,h4]
theorem bM.pl {K:PySem.W.Frag}{H:Hp}{x:V}{wd hg:Int}(b:bM H x wd hg):eD K H x:=by
 obtain⟨a,rfl,ha⟩:=ZD b.1
 refine⟨⟨_,.tup ha⟩,fun xs e y hy=> ?_⟩
 rw[b.1]at e
 cases e
 rcases List.mem_cons.mp hy with z |hy
 ·rw[z];exact⟨_,.int wd⟩
 ·rw[List.mem_singleton.mp hy];exact⟨_,.int hg⟩
theorem Sw {xs:List V}{lo hi:Int}(h:(xs.all fun r=>cw r lo hi)=true):∃ns:List Int,xs=ns.map V.int:=by
 induction xs with
 |nil=>exact⟨[],rfl⟩
 |cons x xs ih=>
  rw[List.all_cons,Bool.and_eq_true]at h
  obtain⟨ns,e⟩:=ih h.2
  cases x with
  |int i=>exact⟨i::ns,by rw[e];rfl⟩
  |_=>cases h.1
theorem W7 (ns:List Int):(ns.map V.int).Nodup↔ns.Nodup:=by
 induction ns with
 |nil=>simp
 |cons n ns ih=>rw[List.map_cons,List.nodup_cons,List.nodup_cons,ih];simp
end
section
variable {P:Program}{w:World}{K:PySem.W.Frag}{mg:Str→Option Value}{base:Heap}
abbrev r8:Stmt:=top 23
def vg (K:PySem.W.Frag):Sp:=fun vs H Q _=> ∃x wd hg,vs=[x]∧bM H x wd hg∧∀H',af H H'→Q .ae H'
theorem Ag:bu ["board"] ["board"] (aC r8):=⟨rfl,rfl,rfl,by decide+kernel,rfl,by decide+kernel,by decide+kernel⟩
theorem UD {f:Addr}{fd:FuncData}(F:aK K "need_board" "need_board" r8 f fd) (D1:Def P w K mg base 3 "is_board" ["thing"] (rL K)):az P w K mg base aM 4 f fd ["board"] (vg K):=by
 refine F.ok Ag (fun vs H Q E h=> ?_) (fun ao A outer s H vs Q E hr h=> ?_)
 ·obtain⟨x,wd,hg,rfl,_⟩:=h
  rfl
 ·obtain⟨x,wd,hg,rfl,b,q⟩:=h
  refine⟨_,Zj (ZO (Z2 (ZM (Zi D1 hr (Za (pv 0) Zb)))) Zt Zz),?_⟩
  refine⟨x,rfl,x,rfl,b.pl,fun H' sm=> ⟨_,rfl,?_⟩⟩
  rw[b.is]
  exact aH (q H' sm)
abbrev sf:Stmt:=top 24
def rJ (K:PySem.W.Frag):Sp:=fun vs H Q _=> ∃x y wd hg,vs=[x,y]∧bM H x wd hg∧eD K H y∧∀H',af H H'→Q (.bl (cA wd hg (bh H y))) H'
theorem pG:bu ["board", "thing", "wide", "high", "rows"] ["board", "thing"] (aC sf):=⟨rfl,rfl,rfl,by decide+kernel,rfl,by decide+kernel,by decide+kernel⟩
theorem OT {f:Addr}{fd:FuncData}(F:aK K "is_lay" "is_lay" sf f fd) (G:Gs mg) (D1:Def P w K mg base 4 "need_board" ["board"] (vg K)) (D2:Def P w K mg base 1 "is_tuple_of" ["thing", "many"] (rG K))
  (D3:Def P w K mg base 2 "is_whole_within" ["thing", "least", "most"] (rF K)):az P w K mg base aM 5 f fd ["board", "thing"] (rJ K):=by
 refine F.ok pG (fun vs H Q E h=> ?_) (fun ao A outer s H vs Q E hr h=> ?_)
 ·obtain⟨x,y,wd,hg,rfl,_⟩:=h
  rfl
 ·obtain⟨x,y,wd,hg,rfl,b,⟨ty,hy⟩,q⟩:=h
  refine⟨_,Ze (ZX (Zi D1 hr (Za (pv 0) Zb)))
   (Ze (JF (pv 0) (ZZ rfl (Zo (ZL (i:=2) pG.nd rfl (Or.inl rfl)) (Zo (ZL (i:=3) pG.nd rfl (Or.inr rfl)) ZQ))))
   (Ze (ZO (Z2 (ZM (Zi D2 (hr.mono (by decide)) (Za (pv 1) (Za (pv 2) Zb))))) (Zj (Zw W3)) Zz)
   (Ze (Jk ["row"] 1 [] (i:=4) pG.nd rfl (Or.inl rfl) (DK (pv 1)) (fun C s H fp=>pb 0) (fun C s H fp=>Yp (Ys (Uy (pv 0)))) (fun C s H fp D=>ZK rfl (pv 0)))
   (Zj (Zw (Yw (Zm JC rfl G.all boot_all (Za (Z8 ["row", "high"] 1 [3] (Yb (pv 4)) (fun C s H fp=>pb 0) (fun C s H fp=>Ya)
     (fun C s H fp D=>ZK rfl (Zi D3 (hr.mono (by decide)) (Za (pv 0) (Za Zh (Za (Zr YL (pv 1) Zh) Zb)))))) Zb))
    (Yu (ZV Jo (Zm WU rfl G.len boot_len (Za (Yh WS rfl G.set boot_set (Za (pv 4) Zb)) Zb)) (Zm ZC rfl G.len boot_len (Za (pv 4) Zb)) (bK _))))))))),?_⟩
  refine⟨x,rfl,x,wd,hg,rfl,b,fun H1 s1=> ?_⟩
  have b1:=b.same s1
  obtain⟨a,rfl,ha⟩:=ZD b1.1
  refine⟨_,rfl,a,_,rfl,ah.of ha,rfl,_,_,rfl,_,_,rfl,rfl,?_⟩
  refine⟨y,rfl,_,rfl,y,wd,rfl,s1.lE ty,_,rfl,?_⟩
  cases e:bh H y with
  |none=>
   have e1:bh H1 y=none:=by
    obtain⟨T,t⟩:=ty
    cases t with
    |tup e2=>rw[Zq e2]at e;cases e
    |lst e2=>rw[Zy,s1 _ _ e2];rfl
    |bU e2=>rw[Zy,s1 _ _ e2];rfl
    |dK e2=>rw[Zy,s1 _ _ e2];rfl
    |dT e2=>rw[Zy,s1 _ _ e2];rfl
    |_=>rfl
   rw[e1]
   rw[e]at q
   exact aW (q H1 s1)
  |some xs=>
   have e1:=s1.bh e
   rw[e1]
   rw[e]at q
   obtain⟨l,rfl,hl⟩:=ZD e1
   by_cases hw:(xs.length:Int)=wd
   ·refine(show if (!decide ((xs.length:Int)=wd))=true then _ else _ from ?_)
    rw[decide_eq_true hw]
    refine aH ?_
    have K6:=b.2.2.1
    have hlen:xs.length≤12:=by omega
    refine⟨_,rfl,l,rfl,⟨xs,ah.of hl⟩,?_⟩
    refine U6 (xs:=xs) (fun i ys σ H2=>ys=rowsOf (xs.take i)∧H2=H1∧∃v,σ=[v]) ⟨rfl,rfl,none,rfl⟩ (fun i ys σ H2 _ ⟨_,e2,_⟩=>by rw[e2];exact ah.of hl) ?_ ?_
    ·rintro i r ys σ H2 cK ⟨rfl,rfl,v,rfl⟩
     have et:rowsOf (xs.take (i+1))=rowsOf (xs.take i)++(if (!decide (r=V.ae))=true then [r] else []):=by
      unfold rowsOf
      rw[List.take_add_one,cK,List.filter_append]
      cases hh:(!decide (r=V.ae)) with
      |true=>simp[hh]
      |false=>simp[hh]
     refine⟨r,rfl,_,rfl,?_⟩
     cases hh:(!decide (r=V.ae)) with
     |true=>
      rw[hh]at et
      refine aW ?_
      refine⟨r,rfl,?_,?_⟩
      ·have:=List.length_filter_le (fun x=> !decide (x=V.ae)) (xs.take i)
       unfold rowsOf
       rw[sizeLine_eq]
       rw[List.length_take]at this
       omega
      ·exact⟨by rw[et,if_pos rfl],rfl,_,rfl⟩
     |false=>
      rw[hh]at et
      exact aH ⟨by rw[et,if_neg Bool.false_ne_true,List.append_nil],rfl,_,rfl⟩
    ·rintro ys σ H2 ⟨rfl,rfl,v,rfl⟩ p hp
     rw[List.take_length]
     have Vz:(rowsOf xs).length≤12:=Nat.le_trans (List.length_filter_le _ _) hlen
     have s2:af H2 (upd H2 p (.lst (rowsOf xs))):=fun b o hb=>by rw[Zf (Zg hb hp)];exact hb
     refine⟨_,rfl,p,rfl,⟨rowsOf xs,ag.of Zc⟩,?_⟩
     generalize Cr:upd H2 p (HO.lst (rowsOf xs))=H3 at s2
     have kE:H3 p=some (.lst (rowsOf xs)):=by rw[←Cr];exact Zc
     refine Z9 (xs:=rowsOf xs) (fun i ys σ H4=>ys=((rowsOf xs).take i).map (fun r=>V.bl (cw r 0 (hg - 1)))∧H4=H3∧∃v,σ=[v,some (.int hg)]) ⟨rfl,rfl,none,rfl⟩ (fun i ys σ H4 _ ⟨_,e2,_⟩=>by rw[e2];exact ag.of kE) ?_ ?_
     ·rintro i r ys σ H4 cK ⟨rfl,rfl,v,rfl⟩
      have mr:r∈xs:=(List.mem_filter.mp (List.mem_of_getElem? cK)).1
      refine⟨r,rfl,_,rfl,_,_,rfl,rfl,r,0,hg - 1,rfl,(s1.trans s2).lE (hy xs e r mr),?_,?_⟩
      ·rw[List.length_map,sizeLine_eq,List.length_take];omega
      ·refine⟨?_,rfl,_,rfl⟩
       rw[List.take_add_one,cK,List.map_append]
       rfl
     ·rintro ys σ H4 ⟨rfl,rfl,v,rfl⟩ p' xc
      rw[List.take_length]
      have s3:∀o,af H4 (upd H4 p' o):=fun o b u hb=>by rw[Zf (Zg hb xc)];exact hb
      refine⟨p',(rowsOf xs).map (fun r=>cw r 0 (hg - 1)),rfl,?_,?_⟩
      ·rw[List.map_map];exact ag.of Zc
      ·have Ob:((rowsOf xs).map (fun r=>cw r 0 (hg - 1))).all id=(rowsOf xs).all fun r=>cw r 0 (hg - 1):=by rw[List.all_map];rfl
       rw[Ob]
       have NX:cA wd hg (some xs)=(((rowsOf xs).all fun r=>cw r 0 (hg - 1))&&decide (rowsOf xs).Nodup):=by
        show(decide ((xs.length:Int)=wd)&&_&&_)=_
        rw[decide_eq_true hw,Bool.true_and]
       rw[NX]at q
       refine⟨_,rfl,?_⟩
       cases cZ:((rowsOf xs).all fun r=>cw r 0 (hg - 1)) with
       |false=>
        rw[cZ]at q
        exact aH (q _ (s1.trans (s2.trans (s3 _))))
       |true=>
        rw[cZ,Bool.true_and]at q
        obtain⟨ns,en⟩:=Sw cZ
        have dX:(upd H4 p' (.lst (((rowsOf xs).map (fun r=>V.bl (cw r 0 (hg - 1))))))) p=some (.lst (rowsOf xs)):=s3 _ _ _ kE
        refine aW ?_
        have VE:ns.length=(rowsOf xs).length:=by rw[en,List.length_map]
        refine⟨_,rfl,p,ns,rfl,by rw[←en];exact ag.of dX,by omega,fun q2 S bO=> ⟨q2,S,nJ ns,rfl,Zc,_,rfl,p,rowsOf xs,rfl,.inl (ag.of ?_),rfl,?_⟩⟩
        ·rw[Zf (Zg dX bO)];exact dX
        ·have ed:decide (V.int (nJ ns:Int)=V.int ((rowsOf xs).length:Int))=decide (rowsOf xs).Nodup:=by
          rw[decide_eq_decide]
          rw[en,W7,←S5,List.length_map]
          constructor
          ·intro h;injection h with h;omega
          ·intro h;rw[h]
         rw[ed]
         exact q _ (s1.trans (s2.trans ((s3 _).trans fun b o hb=>by rw[Zf (Zg hb bO)];exact hb)))
   ·refine(show if (!decide ((xs.length:Int)=wd))=true then _ else _ from ?_)
    rw[decide_eq_false hw]
    have e3:cA wd hg (some xs)=false:=by
     show(decide ((xs.length:Int)=wd)&&_&&_)=false
     rw[decide_eq_false hw,Bool.false_and,Bool.false_and]
    rw[e3]at q
    exact aW (q H1 s1)
end
section
abbrev qH:List Value:=[.type "ValueError",.type "Exception",.type "BaseException",.type "object"]
structure Exc (K:PySem.W.Frag) (mg:Str→Option Value) (n:Str) (c:Addr):Prop where
 m:mg n=some (.ref c)
 x:PySem.W.excIn K c qH "ValueError.__new__" =true
def i5 (K:PySem.W.Frag) (H:Hp) (x:V):Prop:=eD K H x∧lT (bh H x)=false
theorem JU {K:PySem.W.Frag}{H H1:Hp}{y:V}(ty:cR K H y) (s1:af H H1) (e:bh H y=none):bh H1 y=none:=by
 obtain⟨T,t⟩:=ty
 cases t with
 |tup e2=>rw[Zq e2]at e;cases e
 |lst e2=>rw[Zy,s1 _ _ e2];rfl
 |bU e2=>rw[Zy,s1 _ _ e2];rfl
 |dK e2=>rw[Zy,s1 _ _ e2];rfl
 |dT e2=>rw[Zy,s1 _ _ e2];rfl
 |_=>rfl
theorem Yj {K:PySem.W.Frag}{H H1:Hp}{y:V}(ty:cR K H y) (s1:af H H1):bh H1 y=bh H y:=by
 cases e:bh H y with
 |none=>exact JU ty s1 e
 |some xs=>exact s1.bh e
theorem eD.same {K:PySem.W.Frag}{H H1:Hp}{y:V}(p:eD K H y) (s1:af H H1):eD K H1 y:=by
 refine⟨s1.lE p.1,fun xs e z hz=>s1.lE (p.2 xs ?_ z hz)⟩
 rw[←Yj p.1 s1];exact e
theorem i5.same {K:PySem.W.Frag}{H H1:Hp}{x:V}(b:i5 K H x) (s1:af H H1):i5 K H1 x:=⟨b.1.same s1,by rw[Yj b.1.1 s1];exact b.2⟩
end
section
variable {P:Program}{w:World}{K:PySem.W.Frag}{mg:Str→Option Value}{base:Heap}{cB cL:Addr}
def vj (K:PySem.W.Frag) (cB:Addr):Sp:=fun vs H _ E=> ∃x,vs=[x]∧i5 K H x∧∀e H',af H H'→E (.ref e) (some cB) H'
def vk (K:PySem.W.Frag) (cB:Addr):Sp:=fun vs H _ E=> ∃x y,vs=[x,y]∧i5 K H x∧∀e H',af H H'→E (.ref e) (some cB) H'
theorem Qn {f:Addr}{fd:FuncData}(F:aK K "is_lay" "is_lay" sf f fd) (D1:bD P w K mg base 4 "need_board" ["board"] (vj K cB)):az P w K mg base (bE P w) 5 f fd ["board", "thing"] (vk K cB):=by
 refine F.iB pG (fun vs H Q E h=> ?_) (fun ao A outer s H vs Q E hr h=> ?_)
 ·obtain⟨x,y,rfl,_⟩:=h
  rfl
 ·obtain⟨x,y,rfl,b,q⟩:=h
  refine⟨_,Ze (ZX (Z0 D1 hr (Za (pv 0) Zb))) Zt,?_⟩
  exact⟨x,rfl,x,rfl,b,q⟩
abbrev pK:Stmt:=top 25
def rH (K:PySem.W.Frag):Sp:=fun vs H Q _=> ∃x y wd hg,vs=[x,y]∧bM H x wd hg∧eD K H y∧cA wd hg (bh H y)=true∧∀H',af H H'→Q .ae H'
end
section
theorem bW.same {H H':Hp}{p:Addr}(h:bW H p) (s:af H H'):bW H' p:=by
 obtain⟨u,v,e,r⟩:=h
 exact⟨u,v,s _ _ e,r⟩
def lh:V→Bool
 | .int _=>true
 | .bl _=>true
 | .str _=>true
 | .ae=>true
 |_=>false
theorem EN {K:PySem.W.Frag}{H:Hp} :∀{v:V},lh v=true→cR K H v
 | .int i,_=> ⟨_,.int i⟩
 | .bl b,_=> ⟨_,.bl b⟩
 | .str x,_=> ⟨_,.str x⟩
 | .ae,_=> ⟨_,.ae⟩
end
section
variable {P:Program}{w:World}{K:PySem.W.Frag}{mg:Str→Option Value}{base:Heap}
abbrev nN:Stmt:=top 50
def gH (R:Hp→V→V→Prop):Sp:=fun vs H Q _=> ∃x y,vs=[x,y]∧R H x y∧∀H',af H H'→Q (.bl true) H'
def R0 (_:Hp) (x y:V):Prop:=∃i:Int,x=.int i∧y=.int i
theorem R0.same {H H':Hp}{x y:V}(r:R0 H x y) (_:af H H'):R0 H' x y:=r
theorem rO:bu ["_law_found", "_law_due"] ["_law_found", "_law_due"] (aC nN):=⟨rfl,rfl,rfl,by decide+kernel,rfl,by decide+kernel,by decide+kernel⟩
theorem Ri {f:Addr}{fd:FuncData}(F:aK K "_law_same" "_law_same" nN f fd) (G:Gs mg):az P w K mg base aM 1 f fd ["_law_found", "_law_due"] (gH R0):=by
 refine F.ok rO (fun vs H Q E h=> ?_) (fun ao A outer s H vs Q E hr h=> ?_)
 ·obtain⟨x,y,rfl,_⟩:=h
  rfl
 ·obtain⟨x,y,rfl,⟨i,rfl,rfl⟩,q⟩:=h
  refine⟨_,Ze (ZO (ZM (Zm (UO (a:= "list") (b:= "tuple")) rfl G.isinstance boot_isinstance (Za (pv 1) (Za (Zs (Za (ZE (v:=.ty "list") rfl G.list boot_list rfl) (Za (ZE (v:=.ty "tuple") rfl G.tuple boot_tuple rfl) Zb))) Zb)))) Zt Zz)
   (Ze (ZO (PW.pt (We (Ys (YG (pv 1))) (Y8 (Ys (YG (pv 0)))))) Zt Zz)
   (Zj (Zw (Yw (ZV Jo (Zm (ZB (c:= "bool")) rfl G.isinstance boot_isinstance (Za (pv 0) (Za (ZE (v:=.ty "bool") rfl G.bool boot_bool rfl) Zb)))
     (Zm (ZB (c:= "bool")) rfl G.isinstance boot_isinstance (Za (pv 1) (Za (ZE (v:=.ty "bool") rfl G.bool boot_bool rfl) Zb))) (bK _))
    (Yu (ZV Jo (pv 0) (pv 1) (bK _))))))),?_⟩
  refine⟨_,rfl,(by show 2≤sizeLine;decide),fun t ht=> ?_⟩
  have s1:=Zl (o:=.tup [V.ty "list",V.ty "tuple"]) ht
  refine⟨_,t,_,_,rfl,ah.of Zc,.inl ⟨i,rfl,rfl⟩,(show _=some false from rfl),_,rfl,aH ?_⟩
  refine⟨_,rfl,_,rfl,aH ⟨_,rfl,_,rfl,aH ?_⟩⟩
  refine⟨_,rfl,_,_,_,rfl,.int i,(show _=some false from rfl),_,rfl,_,_,_,rfl,.int i,(show _=some false from rfl),rfl,_,rfl,?_⟩
  refine aW ⟨_,rfl,_,rfl,rfl,?_⟩
  have e:decide (V.int i=V.int i)=true:=decide_eq_true rfl
  rw[e]
  exact q _ s1
def jx (R:Hp→V→V→Prop) (H:Hp) (x y:V):Prop:=∃(a b:Addr) (xs ys:List V),x=.ref a∧y=.ref b∧H a=some (.tup xs)∧H b=some (.tup ys)∧Paired (R H) xs ys∧xs.length≤100
theorem RP {R:Hp→V→V→Prop}{k:Nat}(hR:∀{H H':Hp}{x y:V},R H x y→af H H'→R H' x y) {f:Addr}{fd:FuncData}(F:aK K "_law_same" "_law_same" nN f fd) (G:Gs mg) (D:Def P w K mg base k "_law_same" ["_law_found", "_law_due"] (gH R)):
  az P w K mg base aM (k+1) f fd ["_law_found", "_law_due"] (gH (jx R)):=by
 refine F.ok rO (fun vs H Q E h=> ?_) (fun ao A outer s H vs Q E hr h=> ?_)
 ·obtain⟨x,y,rfl,_⟩:=h
  rfl
 ·obtain⟨x,y,rfl,⟨a,b,xs,ys,rfl,rfl,ha,hb,pr,hl⟩,q⟩:=h
  refine⟨_,Ze (ZO (ZM (Zm (Y6 (a:= "list") (b:= "tuple")) rfl G.isinstance boot_isinstance (Za (pv 1) (Za (Zs (Za (ZE (v:=.ty "list") rfl G.list boot_list rfl) (Za (ZE (v:=.ty "tuple") rfl G.tuple boot_tuple rfl) Zb))) Zb))))
    (Ze (ZO (PW.pt (We (ZJ W5 (Zm (ZB (c:= "list")) rfl G.isinstance boot_isinstance (Za (pv 0) (Za (ZE (v:=.ty "list") rfl G.list boot_list rfl) Zb))) (Zm (ZB (c:= "list")) rfl G.isinstance boot_isinstance (Za (pv 1) (Za (ZE (v:=.ty "list") rfl G.list boot_list rfl) Zb))) (bK _))
      (Y8 (ZJ W5 (Zm (ZB (c:= "tuple")) rfl G.isinstance boot_isinstance (Za (pv 0) (Za (ZE (v:=.ty "tuple") rfl G.tuple boot_tuple rfl) Zb))) (Zm (ZB (c:= "tuple")) rfl G.isinstance boot_isinstance (Za (pv 1) (Za (ZE (v:=.ty "tuple") rfl G.tuple boot_tuple rfl) Zb))) (bK _))))) Zt Zz)
    (Zj (Zw (Yw (ZV Jo (Zm ZC rfl G.len boot_len (Za (pv 0) Zb)) (Zm ZC rfl G.len boot_len (Za (pv 1) Zb)) (bK _))
     (Yu (Zm JC rfl G.all boot_all (Za (Z8 ["_law_one", "_law_other"] 2 [] (Qx rfl G.zip (Za (pv 0) (Za (pv 1) Zb)))
      (fun C s H fp=>show PG (aZ _ _ _ C s H fp) _ (gZ K 2 (bT (bG 0) (bT (bG 1) g8))) from ZZ rfl (Zo (pb 0) (Zo (pb 1) ZQ))) (fun C s H fp=>Ya)
      (fun C s H fp D'=>ZK rfl (Zi D hr (Za (pv 0) (Za (pv 1) Zb))))) Zb))))))) Zz) Zt,?_⟩
  refine⟨_,rfl,(by show 2≤sizeLine;decide),fun t ht=> ?_⟩
  have s1:=Zl (o:=.tup [V.ty "list",V.ty "tuple"]) ht
  have e1:upd H t (.tup [V.ty "list",V.ty "tuple"]) t=some (.tup [V.ty "list",V.ty "tuple"]):=Zc
  generalize upd H t (HO.tup [V.ty "list",V.ty "tuple"])=H1 at s1 e1
  have fV:=s1 _ _ ha
  have cQ:=s1 _ _ hb
  refine⟨_,t,_,_,rfl,ah.of e1,.inr (.inr (.inr ⟨b,ys,rfl,cQ,rfl⟩)),(show _=some true from rfl),_,rfl,aW ?_⟩
  refine⟨_,rfl,_,_,_,rfl,.tup fV,(show _=some false from rfl),_,rfl,_,_,_,rfl,.tup cQ,(show _=some false from rfl),rfl,_,rfl,aH ?_⟩
  refine⟨_,rfl,_,_,_,rfl,.tup fV,(show _=some true from rfl),_,rfl,_,_,_,rfl,.tup cQ,(show _=some true from rfl),rfl,_,rfl,aH ?_⟩
  have hlen:xs.length=ys.length:=Paired.length pr
  refine⟨_,rfl,a,xs,rfl,.inr (ah.of fV),_,rfl,b,ys,rfl,.inr (ah.of cQ),rfl,_,rfl,?_⟩
  have el:decide (V.int (xs.length:Int)=V.int (ys.length:Int))=true:=decide_eq_true (by rw[hlen])
  rw[el]
  refine aW ⟨_,rfl,_,rfl,a,b,rfl,⟨xs,ys,ah.of fV,ah.of cQ⟩,?_⟩
  refine RK (xs:=xs) (zs:=ys) hlen (fun i zs σ H2=> ∃v0 v1,σ=[v0,v1]∧af H1 H2∧zs=List.replicate i (V.bl true)) ⟨_,_,rfl,af.refl _,rfl⟩ (fun i zs σ H2 _ ⟨_,_,_,s2,_⟩=> ⟨ah.of (s2 _ _ fV),ah.of (s2 _ _ cQ)⟩) ?_ ?_
  ·rintro i x y T zs σ H2 hx hy hT ⟨v0,v1,rfl,s2,rfl⟩
   obtain⟨y',iI,r⟩:=Y3 pr hx
   rw[hy]at iI
   cases iI
   have sT:=Zl (o:=.par [x,y]) hT
   have hi:i<xs.length:=(List.getElem?_eq_some_iff.mp hx).1
   refine⟨T,_,rfl,ah.nX Zc,rfl,_,_,rfl,_,_,rfl,rfl,?_⟩
   refine⟨x,rfl,y,rfl,x,y,rfl,hR r (s1.trans (s2.trans sT)),fun H3 s3=> ⟨by rw[List.length_replicate,sizeLine_eq];omega,_,_,rfl,s2.trans (sT.trans s3),?_⟩⟩
   rw[List.replicate_succ']
  ·rintro zs σ H2 ⟨v0,v1,rfl,s2,rfl⟩ p hp
   refine⟨p,List.replicate xs.length true,rfl,?_,?_⟩
   ·rw[List.map_replicate]
    exact ag.of Zc
   ·have e:(List.replicate xs.length true).all id=true:=by simp
    rw[e]
    exact q _ (s1.trans (s2.trans (Zl hp)))
end
section
def AW:List Str:=["NoBoard", "NoLay", "NoNumber", "NoPoints", "NoPoint", "NoPaper", "NoUnlike", "NoPrime", "NoRoot", "NoTurn", "TooFew", "TooMany", "NoText", "NoLine", "NoDeed"]
def ip:List Str:=["board", "lay", "number", "points", "point", "paper", "unlike", "prime"]
def il:List Str:=["root", "turn", "few", "many", "text", "line", "deed"]
def wordOf (i:Nat):Str:=(ip++il).getD i ""
structure mW (K:PySem.W.Frag) (mg:Str→Option Value) (cS C:Addr) (iC:Nat):Prop where
 z:kU K C
 ms:mg "StepError" =some (.ref cS)
 xs:PySem.W.exmOne K (.ref C) (.ref cS)=some true
 m:∀i,i<15→∃c,mg (AW.getD i "")=some (.ref c)∧PySem.W.kitOne K (.ref C) (.ref c)=some (decide (i=iC))
 mv:mg "ValueError" =none
 xv:PySem.W.kitOne K (.ref C) (.type "ValueError")=some true
 lt:iC<15
def aQ (iC n:Nat):List V:=(List.range n).map fun i=>V.bl (decide (i=iC))
theorem Ws (iC n:Nat):(aQ iC n).all fq=true:=by
 unfold aQ
 rw[List.all_map,List.all_eq_true]
 exact fun _ _=>rfl
theorem U8:∀iC,iC<15→(aQ iC 15).countP (fun y=>ee y (.bl true))=1:=by decide+kernel
theorem Q5 {iC:Nat}(h:iC<15):(aQ iC 15)[iC]? =some (.bl true):=by
 unfold aQ
 rw[List.getElem?_map,List.getElem?_range h]
 show some (V.bl (decide (iC=iC)))=_
 rw[decide_eq_true rfl]
theorem Q7 {iC m:Nat}{y:V}(h:m<iC) (e:(aQ iC 15)[m]? =some y):ee y (.bl true)=false:=by
 unfold aQ at e
 rw[List.getElem?_map]at e
 obtain⟨k,hk,rfl⟩:=Option.map_eq_some_iff.mp e
 have:k=m:=by
  have:=List.getElem?_eq_some_iff.mp hk
  simpa using this.2.symm
 subst this
 show(decide (k=iC)==true)=false
 rw[decide_eq_false (by omega)]
 rfl
def Gg (K:PySem.W.Frag) (i:Nat) (u:Value):TE:=fun σ H Q=> ∃e C b,σ[i]? =some (some (.ref e))∧H e=some (jq e C)∧kU K C∧PySem.W.kitOne K (.ref C) u=some b∧Q (.bl b) H
theorem Yl {X:Cx}{i:Nat}{y n:Str}{c:Addr}{p1 p2 p3 p4:Pos}(hi:X.mg "isinstance" =none) (hx:PE X (.Name y p2) (jE i)) (hm:X.mg n=some (.ref c)) (g1:Gl X "isinstance" :=by rfl) (g2:Gl X n:=by rfl) (hd:(n==("__debug__" :Str))=false:=by decide):
  PE X (.Call (.Name "isinstance" p1) [.Name y p2,.Name n p3] [] p4) (Gg X.K i (.ref c)):=by
 intro pins s σ H Q I h
 obtain⟨e,C,b,h1,h2,h3,h4,h5⟩:=h
 have z:PE X (.Call (.Name "isinstance" p1) [.Name y p2,.Name n p3] [] p4) _:=Zm JB g1 hi boot_isinstance (Za hx (Za (YF (v:=.ref c) g2 hm rfl hd) Zb))
 exact z pins s σ H Q I ⟨_,h1,e,C,_,_,_,rfl,h2,h3,fun _ h=>h,h4,h5⟩
end
section
variable {P:Program}{w:World}{K:PySem.W.Frag}{mg:Str→Option Value}{base:Heap}
abbrev vB:Stmt:=top 43
def rE (P:Program) (w:World) (K:PySem.W.Frag) (mg:Str→Option Value) (base:Heap) (cS:Addr) (k:Nat):Sp:=fun vs H Q _=> ∃f fd sp C iC,vs=[.ref f]∧mW K mg cS C iC∧(∀s,bS P w H s→PySem.W.FnAt f s)∧az P w K mg base (bE P w) k f fd [] sp∧
 (∀s,BindsTo s fd ⟨[],[]⟩ [])∧(∀Q' E',(∀e H',af H H'→E' (.ref e) (some C) H')→sp [] H Q' E')∧∀H',af H H'→Q (.str (wordOf iC)) H'
abbrev IS:List Str:=["_law_call", "_law_error", "e", "_law_marks", "_law_more", "_law_words"]
theorem gK:bu IS ["_law_call"] (aC vB):=⟨rfl,rfl,rfl,by decide+kernel,rfl,by decide+kernel,by decide+kernel⟩
theorem Qp {k:Nat}{f:Addr}{fd:FuncData}{cS:Addr}(F:aK K "_law_word" "_law_word" vB f fd) (G:Gs mg):az P w K mg base aM (k+1) f fd ["_law_call"] (rE P w K mg base cS k):=by
 refine F.ok gK (fun vs H Q E h=> ?_) (fun ao A outer s H vs Q E hr h=> ?_)
 ·obtain⟨f,fd,sp,C,iC,rfl,_⟩:=h
  rfl
 ·obtain⟨f,fd,sp,C,iC,rfl,M,eW,Fl,xO,dI,q⟩:=h
  obtain⟨c0,m0,k0⟩:=M.m 0 (by decide)
  obtain⟨c1,m1,k1⟩:=M.m 1 (by decide)
  obtain⟨c2,m2,k2⟩:=M.m 2 (by decide)
  obtain⟨c3,m3,k3⟩:=M.m 3 (by decide)
  obtain⟨c4,m4,k4⟩:=M.m 4 (by decide)
  obtain⟨c5,m5,k5⟩:=M.m 5 (by decide)
  obtain⟨c6,m6,k6⟩:=M.m 6 (by decide)
  obtain⟨c7,m7,k7⟩:=M.m 7 (by decide)
  obtain⟨c8,m8,k8⟩:=M.m 8 (by decide)
  obtain⟨c9,m9,k9⟩:=M.m 9 (by decide)
  obtain⟨c10,Km,KS⟩:=M.m 10 (by decide)
  obtain⟨c11,jd,KR⟩:=M.m 11 (by decide)
  obtain⟨c12,Kl,KQ⟩:=M.m 12 (by decide)
  obtain⟨c13,Kk,KP⟩:=M.m 13 (by decide)
  obtain⟨c14,Kj,KO⟩:=M.m 14 (by decide)
  have gi:=G.isinstance
  refine⟨_,Ze (Zu (i:=1) gK.nd rfl (Or.inl rfl) Yv)
   (Ze (SY (ic:=0) (ie:=2) rfl rfl rfl gK.nd rfl (Or.inl rfl) rfl rfl M.ms rfl hr (fun e=>Zj (Zu (i:=1) gK.nd rfl (Or.inl rfl) (pv 2))))
   (Ze (Zu (i:=3) gK.nd rfl (Or.inl rfl) (ZF (Za (Yl gi (pv 1) m0) (Za (Yl gi (pv 1) m1) (Za (Yl gi (pv 1) m2) Zb)))))
   (Ze (Zu (i:=4) gK.nd rfl (Or.inl rfl) (ZF (Za (Yl gi (pv 1) m3) (Za (Yl gi (pv 1) m4) (Za (Yl gi (pv 1) m5) Zb)))))
   (Ze (Zu (i:=3) gK.nd rfl (Or.inl rfl) (Zr YM (Zr YM (pv 3) (pv 4)) (ZF (Za (Yl gi (pv 1) m6) (Za (Yl gi (pv 1) m7) Zb)))))
   (Ze (Zu (i:=3) gK.nd rfl (Or.inl rfl) (Zr YM (pv 3) (ZF (Za (Yl gi (pv 1) m8) (Za (Yl gi (pv 1) m9) Zb)))))
   (Ze (Zu (i:=3) gK.nd rfl (Or.inl rfl) (Zr YM (pv 3) (ZF (Za (Yl gi (pv 1) Km) (Za (Yl gi (pv 1) jd) Zb)))))
   (Ze (Zu (i:=3) gK.nd rfl (Or.inl rfl) (Zr YM (pv 3) (ZF (Za (Yl gi (pv 1) Kl) (Za (Yl gi (pv 1) Kk) Zb)))))
   (Ze (ZX (Jm PySem.F.plainAttrs_list PySem.F.slot_list_append PySem.F.type_list_append YA (pv 3) (Za (Yl gi (pv 1) Kj) Zb)))
   (Ze (ZO (Ys (YG (pv 1))) Zt Zz)
   (Ze (ZO (PW.pt (We (ZJ W5 (Jm PySem.F.plainAttrs_list PySem.F.slot_list_count PySem.F.type_list_count Rb (pv 3) (Za W3 Zb)) Zh (bK _))
     (Y8 (Z2 (ZM (Zm JB rfl gi boot_isinstance (Za (pv 1) (Za (ZE (v:=.ty "ValueError") rfl M.mv PyProof.Rows.Boot.«ValueError» rfl) Zb)))))))) Zt Zz)
   (Ze (Zu (i:=5) gK.nd rfl (Or.inl rfl) (ZF (Wk (vs:=ip.map V.str) rfl)))
   (Ze (Zu (i:=5) gK.nd rfl (Or.inl rfl) (Zr YM (pv 5) (ZF (Wk (vs:=il.map V.str) rfl))))
   (Zj (Zw (ZI ZU (pv 5) (Jm PySem.F.plainAttrs_list PySem.F.slot_list_index PySem.F.type_list_index RI (pv 3) (Za W3 Zb)) (fun _ _=>rfl)))))))))))))))),?_⟩
  refine⟨f,fd,sp,rfl,eW,Fl,xO,dI _ _ fun e H1 s1=> ⟨e,C,rfl,rfl,M.xs,fun My=> ⟨_,rfl,?_⟩⟩⟩
  have s2:af H1 (upd H1 e (jq e C)):=Zl My
  have he:upd H1 e (jq e C) e=some (jq e C):=Zc
  generalize upd H1 e (jq e C)=H2 at s2 he
  have sA:=s1.trans s2
  dsimp only[List.set]
  refine Zp (ZA ⟨e,C,_,rfl,he,M.z,k0,e,C,_,rfl,he,M.z,k1,e,C,_,rfl,he,M.z,k2,(by show 3≤sizeLine;decide),fun l1 jj=>Zn ?_⟩)
  dsimp only
  show ir _ _ _ [some (.ref f),some (.ref e),none,some (.ref l1),none,none] (upd H2 l1 (.lst (aQ iC 3)))
  have t1:=Zl (o:=.lst (aQ iC 3)) jj
  have g1:upd H2 l1 (.lst (aQ iC 3)) l1=some (.lst (aQ iC 3)):=Zc
  generalize upd H2 l1 (HO.lst (aQ iC 3))=H3 at t1 g1
  have tV:=t1 _ _ he
  refine Zp (ZA ⟨e,C,_,rfl,tV,M.z,k3,e,C,_,rfl,tV,M.z,k4,e,C,_,rfl,tV,M.z,k5,(by show 3≤sizeLine;decide),fun l2 dq=>Zn ?_⟩)
  dsimp only
  show ir _ _ _ [some (.ref f),some (.ref e),none,some (.ref l1),some (.ref l2),none] (upd H3 l2 (.lst [V.bl (decide (3=iC)),V.bl (decide (4=iC)),V.bl (decide (5=iC))]))
  have t2:=Zl (o:=.lst [V.bl (decide (3=iC)),V.bl (decide (4=iC)),V.bl (decide (5=iC))]) dq
  have g2:upd H3 l2 (.lst [V.bl (decide (3=iC)),V.bl (decide (4=iC)),V.bl (decide (5=iC))]) l2=some (.lst [V.bl (decide (3=iC)),V.bl (decide (4=iC)),V.bl (decide (5=iC))]):=Zc
  generalize upd H3 l2 (HO.lst [V.bl (decide (3=iC)),V.bl (decide (4=iC)),V.bl (decide (5=iC))])=H4 at t2 g2
  have Mx:=t2 _ _ tV
  refine Zp (ZA ⟨_,rfl,_,rfl,l1,l2,aQ iC 3,_,rfl,rfl,t2 _ _ g1,g2,(by show 3+3≤sizeLine;decide),fun l3 kF=> ?_⟩)
  show zy _ _ (upd H4 l3 (.lst (aQ iC 6))) _
  have t3:=Zl (o:=.lst (aQ iC 6)) kF
  have g3:upd H4 l3 (.lst (aQ iC 6)) l3=some (.lst (aQ iC 6)):=Zc
  generalize upd H4 l3 (HO.lst (aQ iC 6))=H5 at t3 g3
  have xF:=t3 _ _ Mx
  refine⟨e,C,_,rfl,xF,M.z,k6,e,C,_,rfl,xF,M.z,k7,(by show 2≤sizeLine;decide),fun l4 ji=> ?_⟩
  have t4:=Zl (o:=.lst [V.bl (decide (6=iC)),V.bl (decide (7=iC))]) ji
  have g4:upd H5 l4 (.lst [V.bl (decide (6=iC)),V.bl (decide (7=iC))]) l4=some (.lst [V.bl (decide (6=iC)),V.bl (decide (7=iC))]):=Zc
  generalize upd H5 l4 (HO.lst [V.bl (decide (6=iC)),V.bl (decide (7=iC))])=H6 at t4 g4
  refine⟨l3,l4,aQ iC 6,_,rfl,rfl,t4 _ _ g3,g4,(by show 6+2≤sizeLine;decide),fun l5 jh=>Zn ?_⟩
  dsimp only
  show ir _ _ _ [some (.ref f),some (.ref e),none,some (.ref l5),some (.ref l2),none] (upd H6 l5 (.lst (aQ iC 8)))
  have t5:=Zl (o:=.lst (aQ iC 8)) jh
  have g5:upd H6 l5 (.lst (aQ iC 8)) l5=some (.lst (aQ iC 8)):=Zc
  generalize upd H6 l5 (HO.lst (aQ iC 8))=H7 at t5 g5
  have xD:=t5 _ _ (t4 _ _ xF)
  refine Zp (ZA ⟨_,rfl,e,C,_,rfl,xD,M.z,k8,e,C,_,rfl,xD,M.z,k9,(by show 2≤sizeLine;decide),fun a8 MR=> ?_⟩)
  have oX:=Zl (o:=.lst [V.bl (decide (8=iC)),V.bl (decide (9=iC))]) MR
  have CA:upd H7 a8 (.lst [V.bl (decide (8=iC)),V.bl (decide (9=iC))]) a8=some (.lst [V.bl (decide (8=iC)),V.bl (decide (9=iC))]):=Zc
  generalize upd H7 a8 (HO.lst [V.bl (decide (8=iC)),V.bl (decide (9=iC))])=y7 at oX CA
  refine⟨l5,a8,aQ iC 8,_,rfl,rfl,oX _ _ g5,CA,(by show 8+2≤sizeLine;decide),fun b8 MP=>Zn ?_⟩
  dsimp only
  show ir _ _ _ [some (.ref f),some (.ref e),none,some (.ref b8),some (.ref l2),none] (upd y7 b8 (.lst (aQ iC 10)))
  have nB:=Zl (o:=.lst (aQ iC 10)) MP
  have Cy:upd y7 b8 (.lst (aQ iC 10)) b8=some (.lst (aQ iC 10)):=Zc
  generalize upd y7 b8 (HO.lst (aQ iC 10))=EX at nB Cy
  have xy:=nB _ _ (oX _ _ xD)
  refine Zp (ZA ⟨_,rfl,e,C,_,rfl,xy,M.z,KS,e,C,_,rfl,xy,M.z,KR,(by show 2≤sizeLine;decide),fun a10 MV=> ?_⟩)
  have oZ:=Zl (o:=.lst [V.bl (decide (10=iC)),V.bl (decide (11=iC))]) MV
  have CD:upd EX a10 (.lst [V.bl (decide (10=iC)),V.bl (decide (11=iC))]) a10=some (.lst [V.bl (decide (10=iC)),V.bl (decide (11=iC))]):=Zc
  generalize upd EX a10 (HO.lst [V.bl (decide (10=iC)),V.bl (decide (11=iC))])=y9 at oZ CD
  refine⟨b8,a10,aQ iC 10,_,rfl,rfl,oZ _ _ Cy,CD,(by show 10+2≤sizeLine;decide),fun b10 MQ=>Zn ?_⟩
  dsimp only
  show ir _ _ _ [some (.ref f),some (.ref e),none,some (.ref b10),some (.ref l2),none] (upd y9 b10 (.lst (aQ iC 12)))
  have rf:=Zl (o:=.lst (aQ iC 12)) MQ
  have Cz:upd y9 b10 (.lst (aQ iC 12)) b10=some (.lst (aQ iC 12)):=Zc
  generalize upd y9 b10 (HO.lst (aQ iC 12))=EY at rf Cz
  have xC:=rf _ _ (oZ _ _ xy)
  refine Zp (ZA ⟨_,rfl,e,C,_,rfl,xC,M.z,KQ,e,C,_,rfl,xC,M.z,KP,(by show 2≤sizeLine;decide),fun a12 MT=> ?_⟩)
  have oY:=Zl (o:=.lst [V.bl (decide (12=iC)),V.bl (decide (13=iC))]) MT
  have CC:upd EY a12 (.lst [V.bl (decide (12=iC)),V.bl (decide (13=iC))]) a12=some (.lst [V.bl (decide (12=iC)),V.bl (decide (13=iC))]):=Zc
  generalize upd EY a12 (HO.lst [V.bl (decide (12=iC)),V.bl (decide (13=iC))])=y8 at oY CC
  refine⟨b10,a12,aQ iC 12,_,rfl,rfl,oY _ _ Cz,CC,(by show 12+2≤sizeLine;decide),fun b12 Cc=>Zn ?_⟩
  dsimp only
  show ir _ _ _ [some (.ref f),some (.ref e),none,some (.ref b12),some (.ref l2),none] (upd y8 b12 (.lst (aQ iC 14)))
  have oW:=Zl (o:=.lst (aQ iC 14)) Cc
  have ue:upd y8 b12 (.lst (aQ iC 14)) b12=some (.lst (aQ iC 14)):=Zc
  generalize upd y8 b12 (HO.lst (aQ iC 14))=oQ at oW ue
  have tU:=oW _ _ (oY _ _ xC)
  have sB:af H oQ:=s1.trans (s2.trans (t1.trans (t2.trans (t3.trans (t4.trans (t5.trans (oX.trans (nB.trans (oZ.trans (rf.trans (oY.trans (oW))))))))))))
  refine Zp ⟨_,rfl,.inl ⟨rfl,_,ag.of ue⟩,e,C,_,rfl,tU,M.z,KO,b12,_,_,rfl,rfl,ue,(by show 14<sizeLine;decide),?_⟩
  show ir _ _ _ [some (.ref f),some (.ref e),none,some (.ref b12),some (.ref l2),none] (upd oQ b12 (.lst (aQ iC 15)))
  have IM:H b12=none:=(s1.trans (s2.trans (t1.trans (t2.trans (t3.trans (t4.trans (t5.trans (oX.trans (nB.trans (oZ.trans (rf.trans oY))))))))))).free Cc
  have sC:af H (upd oQ b12 (.lst (aQ iC 15))):=QU sB IM
  have B6:upd oQ b12 (.lst (aQ iC 15)) e=some (jq e C):=by rw[Zf (fun z=>by rw[z,ue]at tU;cases tU)];exact tU
  have gc:upd oQ b12 (.lst (aQ iC 15)) b12=some (.lst (aQ iC 15)):=Zc
  generalize upd oQ b12 (HO.lst (aQ iC 15))=Hc at sC B6 gc
  refine Zp ⟨_,rfl,_,rfl,aH ?_⟩
  refine ZN ?_
  dsimp only
  refine Zp ⟨_,rfl,.inl ⟨rfl,_,ag.of gc⟩,b12,_,_,rfl,rfl,ag.of gc,rfl,Ws _ _,?_⟩
  rw[U8 iC M.lt]
  refine⟨rfl,_,rfl,aH ⟨_,rfl,e,C,_,_,_,rfl,B6,M.z,fun _ h=>h,M.xv,_,rfl,aH ?_⟩⟩
  refine ZN ?_
  dsimp only
  refine Zp (ZA ⟨(by show 8≤sizeLine;decide),fun d1 MH=>Zn ?_⟩)
  dsimp only
  show ir _ _ _ [some (.ref f),some (.ref e),none,some (.ref b12),some (.ref l2),some (.ref d1)] _
  have u1:=Zl (o:=.lst (ip.map V.str)) MH
  have v1:upd Hc d1 (.lst (ip.map V.str)) d1=some (.lst (ip.map V.str)):=Zc
  generalize upd Hc d1 (HO.lst (ip.map V.str))=Hd at u1 v1
  refine Zp (ZA ⟨_,rfl,(by show 7≤sizeLine;decide),fun d2 hd2=> ?_⟩)
  have u2:=Zl (o:=.lst (il.map V.str)) hd2
  have v2:upd Hd d2 (.lst (il.map V.str)) d2=some (.lst (il.map V.str)):=Zc
  generalize upd Hd d2 (HO.lst (il.map V.str))=He at u2 v2
  refine⟨d1,d2,_,_,rfl,rfl,u2 _ _ v1,v2,(by show 8+7≤sizeLine;decide),fun d3 ME=>Zn ?_⟩
  dsimp only
  show zw _ _ [some (.ref f),some (.ref e),none,some (.ref b12),some (.ref l2),some (.ref d3)] _
  have u3:=Zl (o:=.lst (ip.map V.str++il.map V.str)) ME
  have v3:upd He d3 (.lst (ip.map V.str++il.map V.str)) d3=some (.lst (ip.map V.str++il.map V.str)):=Zc
  generalize upd He d3 (HO.lst (ip.map V.str++il.map V.str))=Hf at u3 v3
  have gf:=u3 _ _ (u2 _ _ (u1 _ _ gc))
  refine⟨_,rfl,_,rfl,.inl ⟨rfl,_,ag.of gf⟩,b12,_,_,iC,rfl,rfl,ag.of gf,rfl,Ws _ _,⟨_,Q5 M.lt,rfl⟩,fun m y h e=>Q7 h e,?_⟩
  refine⟨d3,_,_,_,rfl,rfl,ag.of v3,Yc (v:=.str (wordOf iC)) ?_,q _ (sC.trans (u1.trans (u2.trans u3)))⟩
  rw[←List.map_append,List.getElem?_map]
  unfold wordOf
  have hl:iC< (ip++il).length:=M.lt
  rw[List.getElem?_eq_getElem hl,List.getD_eq_getElem?_getD,List.getElem?_eq_getElem hl]
  rfl
end
section
def sG:Lit→Bool
 | .sc v=>lh v
 | .tup xs=>xs.all lh
 |_=>true
def Bb:Lit→Option (List V)
 | .tup xs=>some xs
 |_=>none
theorem UI {H:Hp}{v:V} :∀{l:Lit},sG l=true→jy H v l→bh H v=Bb l
 | .sc u,hp,h=>by
  have h':v=u:=h
  subst h'
  cases v with
  |ref a=>cases hp
  |_=>rfl
 | .tup xs,_,⟨a,e,h⟩=>by rw[e,Zq h];rfl
 | .lst xs,_,⟨a,e,h⟩=>by rw[e,Zy,h];rfl
 | .jr,_,⟨a,e,h⟩=>by rw[e,Zy,h];rfl
theorem PL {K:PySem.W.Frag}{H:Hp}{v:V} :∀{l:Lit},sG l=true→jy H v l→eD K H v
 | .sc u,hp,h=>by
  have h':v=u:=h
  subst h'
  refine⟨EN hp,fun xs e y hy=> ?_⟩
  rw[UI (l:=.sc v) hp rfl]at e
  cases e
 | .tup xs,hp,⟨a,e,h⟩=>by
  subst e
  refine⟨⟨_,.tup h⟩,fun ys e y hy=> ?_⟩
  rw[Zq h]at e
  cases e
  exact EN (List.all_eq_true.mp hp y hy)
 | .lst xs,hp,⟨a,e,h⟩=>by
  subst e
  refine⟨⟨_,.lst h⟩,fun ys e y hy=> ?_⟩
  rw[Zy,h]at e
  cases e
 | .jr,hp,⟨a,e,h⟩=>by
  subst e
  refine⟨⟨_,.dK h⟩,fun ys e y hy=> ?_⟩
  rw[Zy,h]at e
  cases e
def fb (p:Addr) (H:Hp) (v:V):Prop:=v≠.ref p∧∀xs,bh H v=some xs→∀y∈xs,y≠.ref p
theorem Jg {K:PySem.W.Frag}{H H':Hp}{p:Addr}{v:V}(t:cR K H v) (s:aw p H H') (hn:v≠.ref p):bh H' v=bh H v:=by
 obtain⟨T,t⟩:=t
 cases t with
 |tup e=>rw[Zq e,Zq (s _ _ e fun z=>hn (by rw[z]))]
 |lst e=>rw[Zy,Zy,e,s _ _ e fun z=>hn (by rw[z])]
 |bU e=>rw[Zy,Zy,e,s _ _ e fun z=>hn (by rw[z])]
 |dK e=>rw[Zy,Zy,e,s _ _ e fun z=>hn (by rw[z])]
 |dT e=>rw[Zy,Zy,e,s _ _ e fun z=>hn (by rw[z])]
 |_=>rfl
theorem Dv {K:PySem.W.Frag}{H H':Hp}{p:Addr}{v:V}(t:cR K H v) (s:aw p H H') (hn:v≠.ref p):cR K H' v:=by
 obtain⟨T,t⟩:=t
 cases t with
 |tup e=>exact⟨_,.tup (s _ _ e fun z=>hn (by rw[z]))⟩
 |lst e=>exact⟨_,.lst (s _ _ e fun z=>hn (by rw[z]))⟩
 |bU e=>exact⟨_,.bU (s _ _ e fun z=>hn (by rw[z]))⟩
 |dK e=>exact⟨_,.dK (s _ _ e fun z=>hn (by rw[z]))⟩
 |dT e=>exact⟨_,.dT (s _ _ e fun z=>hn (by rw[z]))⟩
 |ae=>exact⟨_,.ae⟩
 |bl b=>exact⟨_,.bl b⟩
 |int i=>exact⟨_,.int i⟩
 |str x=>exact⟨_,.str x⟩
 |gB x=>exact⟨_,.gB x⟩
theorem yI {K:PySem.W.Frag}{H H':Hp}{p:Addr}{v:V}(t:eD K H v) (s:aw p H H') (n:fb p H v):eD K H' v:=by
 refine⟨Dv t.1 s n.1,fun xs e y hy=> ?_⟩
 rw[Jg t.1 s n.1]at e
 exact Dv (t.2 xs e y hy) s (n.2 xs e y hy)
theorem UF {K:PySem.W.Frag}{H H':Hp}{p q:Addr}{v:V}(t:cR K H v) (s:aw q H H') (hq:v≠.ref q) (n:fb p H v):fb p H' v:=⟨n.1,fun xs e=>n.2 xs (by rw[←Jg t s hq];exact e)⟩
end
section
variable {P:Program}{w:World}{K:PySem.W.Frag}{mg:Str→Option Value}{base:Heap}
abbrev nO:Stmt:=top 48
def wt:List Lit:=[.sc .ae,.tup [.int 0,.int 3],.tup [.int 3,.int 13],.tup [.int 13,.int 13],.lst [.int 3,.int 3],.tup [.int 3],.tup [.int 3,.int 3,.int 3],.tup [.bl true,.int 3],.tup [.int 3,.str "3"],.sc (.int 7)]
def Dg (l:Lit):Bool:=sG l&& !lT (Bb l)
theorem Qj:wt.all Dg=true:=by decide+kernel
def vf (K:PySem.W.Frag):Sp:=fun vs H Q _=> ∃p:Addr,vs=[.ref p]∧bW H p∧∀v H',aw p H H'→bW H' p→i5 K H' v→fb p H' v→Q v H'
def wq:List Expr:=match dM nO with | .Assign _ (.List es _) _::_=>es |_=> []
def ID (a:List Expr):List Stmt:=match dM nO with
 | .Assign x (.List _ p1) p2::r=> .Assign x (.List a p1) p2::r
 |_=> []
theorem Ql:dM nO=ID wq:=by kernel_rfl
theorem Qk:litsOf wq=some wt:=by kernel_rfl
theorem Ae:bu ["_law_state_here", "_law_some"] ["_law_state_here"] (aC nO):=⟨rfl,rfl,rfl,by decide+kernel,rfl,by decide+kernel,by decide+kernel⟩
theorem Ry {H H':Hp}{p:Addr}{v:V} :∀{l:Lit},jy H v l→(∀a:Addr,v=.ref a→a≠p)→aw p H H'→jy H' v l
 | .sc _,h,_,_=>h
 | .tup _,⟨a,e,h⟩,n,s=> ⟨a,e,s _ _ h (n a e)⟩
 | .lst _,⟨a,e,h⟩,n,s=> ⟨a,e,s _ _ h (n a e)⟩
 | .jr,⟨a,e,h⟩,n,s=> ⟨a,e,s _ _ h (n a e)⟩
theorem RE {H:Hp}{p:Addr}{v:V}{l:Lit}(hp:sG l=true) (h:jy H v l) (n:∀a:Addr,v=.ref a→a≠p):fb p H v:=by
 refine⟨fun z=>n p z rfl,fun xs e y hy z=> ?_⟩
 rw[UI hp h]at e
 cases l with
 |tup ys=>
  cases e
  have:=List.all_eq_true.mp (show xs.all lh=true from hp) y hy
  rw[z]at this
  cases this
 |_=>cases e
theorem OU {f:Addr}{fd:FuncData}(F:aK K "_law_no_board" "_law_no_board" nO f fd) (D1:Def P w K mg base 1 "_law_take" ["_law_state_here", "_law_many"] kZ):az P w K mg base aM 2 f fd ["_law_state_here"] (vf K):=by
 refine F.ok Ae (fun vs H Q E h=> ?_) (fun ao A outer s H vs Q E hr h=> ?_)
 ·obtain⟨p,rfl,_⟩:=h
  rfl
 ·obtain⟨p,rfl,st,q⟩:=h
  rw[Ql]
  have i1:=Qk
  generalize wq=oJ at i1
  refine⟨_,Ze (Zu (i:=1) Ae.nd rfl (Or.inl rfl) (ZF (EH (ls:=wt) i1))) (Zj (Zw (ZI ZU (Zr YM (pv 1) (ZF (Za (Zs (Za (Zs (Za Zh Zb)) (Za Zh Zb))) (Za (Zs (Za Zh (Za Yv Zb))) Zb)))) (Zi D1 hr (Za (pv 0) (Za Zh Zb))) (fun _ _=>rfl)))),?_⟩
  refine Zp (ZA fun ff H1 s1 Ax n1=> ?_)
  have l1:ff.length=10:=Paired.length Ax
  refine⟨by rw[l1];decide,fun L1 M9=>Zn ?_⟩
  have s2:af H1 (upd H1 L1 (.lst ff)):=Zl M9
  have eL:upd H1 L1 (.lst ff) L1=some (.lst ff):=Zc
  generalize upd H1 L1 (HO.lst ff)=H2 at s2 eL
  dsimp only[List.set]
  refine⟨_,rfl,(by show 1≤sizeLine;decide),fun a1 fV=> ?_⟩
  have s3:=Zl (o:=.tup [V.int 1]) fV
  have e3:upd H2 a1 (.tup [V.int 1]) a1=some (.tup [V.int 1]):=Zc
  generalize upd H2 a1 (HO.tup [V.int 1])=H3 at s3 e3
  refine⟨(by show 2≤sizeLine;decide),fun a2 Cj=> ?_⟩
  have s4:=Zl (o:=.tup [V.ref a1,V.int 2]) Cj
  have e4:upd H3 a2 (.tup [V.ref a1,V.int 2]) a2=some (.tup [V.ref a1,V.int 2]):=Zc
  generalize upd H3 a2 (HO.tup [V.ref a1,V.int 2])=H4 at s4 e4
  refine⟨(by show 2≤sizeLine;decide),fun a3 Ci=> ?_⟩
  have s5:=Zl (o:=.tup [V.int 2,V.ae]) Ci
  have e5:upd H4 a3 (.tup [V.int 2,V.ae]) a3=some (.tup [V.int 2,V.ae]):=Zc
  generalize upd H4 a3 (HO.tup [V.int 2,V.ae])=H5 at s5 e5
  refine⟨(by show 2≤sizeLine;decide),fun uJ M8=> ?_⟩
  have s6:=Zl (o:=.lst [V.ref a2,V.ref a3]) M8
  have e6:upd H5 uJ (.lst [V.ref a2,V.ref a3]) uJ=some (.lst [V.ref a2,V.ref a3]):=Zc
  generalize upd H5 uJ (HO.lst [V.ref a2,V.ref a3])=H6 at s6 e6
  refine⟨L1,uJ,_,_,rfl,rfl,s6 _ _ (s5 _ _ (s4 _ _ (s3 _ _ eL))),e6,by rw[l1];show 10+2≤sizeLine;decide,fun L3 Co=> ?_⟩
  have s7:=Zl (o:=.lst (ff++[V.ref a2,V.ref a3])) Co
  have e7:upd H6 L3 (.lst (ff++[V.ref a2,V.ref a3])) L3=some (.lst (ff++[V.ref a2,V.ref a3])):=Zc
  generalize upd H6 L3 (HO.lst (ff++[V.ref a2,V.ref a3]))=H7 at s7 e7
  have G7:=s3.trans (s4.trans (s5.trans (s6.trans s7)))
  have Am:=s2.trans G7
  have j9:af H H7:=s1.trans Am
  have pf:=st.same j9
  refine⟨_,rfl,p,12,rfl,pf,by decide,by decide,fun r o h0 Cu uY=> ?_⟩
  obtain⟨u0,v0,jU,_⟩:=id st
  have VP:=j9 _ _ jU
  have lI:∀{c:Addr}{G G':Hp},af H G→G c=none→c≠p:=fun s h z=>by rw[z,s _ _ jU]at h;cases h
  have IY:=lI (s1.trans (s2.trans (s3.trans (s4.trans (s5.trans s6))))) (G':=H) Co
  have A4:=lI (s1.trans s2) (G':=H) fV
  have pT:=lI (s1.trans (s2.trans s3)) (G':=H) Cj
  have A3:=lI (s1.trans (s2.trans (s3.trans s4))) (G':=H) Ci
  have KI:(ff++[V.ref a2,V.ref a3]).length=12:=by rw[List.length_append,l1];rfl
  have ay:r.toNat< (ff++[V.ref a2,V.ref a3]).length:=by rw[KI];omega
  have gW:=List.getElem?_eq_getElem ay
  have iT:=Yc gW
  rw[Int.toNat_of_nonneg h0]at iT
  have x8:aw p H7 (upd H7 p o):=aw.upd
  refine⟨L3,_,_,_,rfl,rfl,ag.of (x8 _ _ e7 IY),iT,?_⟩
  have hm:(ff++[V.ref a2,V.ref a3])[r.toNat]∈ff++[V.ref a2,V.ref a3]:=List.getElem_mem ay
  generalize (ff++[V.ref a2,V.ref a3])[r.toNat]=v at hm
  have good:i5 K (upd H7 p o) v∧fb p (upd H7 p o) v:=by
   rcases List.mem_append.mp hm with hm |hm
   ·obtain⟨k,hk,ek⟩:=List.getElem_of_mem hm
    obtain⟨l,hl,da⟩:=Y3 Ax (List.getElem?_eq_getElem hk)
    rw[ek]at da
    have hb:=List.all_eq_true.mp Qj l (List.mem_of_getElem? hl)
    unfold Dg at hb
    rw[Bool.and_eq_true]at hb
    have n:∀a:Addr,v=.ref a→a≠p:=fun a e z=>by
     have:=n1 a (by rw[←e];exact hm)
     rw[z,jU]at this
     cases this
    have yE:=Ry (da.same Am) n x8
    refine⟨⟨PL hb.1 yE,?_⟩,RE hb.1 yE n⟩
    rw[UI hb.1 yE]
    simpa using hb.2
   ·simp only[List.mem_cons,List.not_mem_nil,or_false]at hm
    rcases hm with rfl |rfl
    ·have g2:=x8 _ _ ((s5.trans (s6.trans s7)) _ _ e4) pT
     have g1:=x8 _ _ ((s4.trans (s5.trans (s6.trans s7))) _ _ e3) A4
     refine⟨⟨⟨⟨_,.tup g2⟩,fun xs e y hy=> ?_⟩,by rw[Zq g2];rfl⟩,fun z=>pT (by cases z;rfl),fun xs e y hy z=> ?_⟩
     ·rw[Zq g2]at e
      cases e
      simp only[List.mem_cons,List.not_mem_nil,or_false]at hy
      rcases hy with rfl |rfl
      ·exact⟨_,.tup g1⟩
      ·exact⟨_,.int 2⟩
     ·rw[Zq g2]at e
      cases e
      simp only[List.mem_cons,List.not_mem_nil,or_false]at hy
      rcases hy with rfl |rfl
      ·exact A4 (by cases z;rfl)
      ·cases z
    ·have g3:=x8 _ _ ((s6.trans s7) _ _ e5) A3
     refine⟨⟨⟨⟨_,.tup g3⟩,fun xs e y hy=> ?_⟩,by rw[Zq g3];rfl⟩,fun z=>A3 (by cases z;rfl),fun xs e y hy z=> ?_⟩
     ·rw[Zq g3]at e
      cases e
      simp only[List.mem_cons,List.not_mem_nil,or_false]at hy
      rcases hy with rfl |rfl
      ·exact⟨_,.int 2⟩
      ·exact⟨_,.ae⟩
     ·rw[Zq g3]at e
      cases e
      simp only[List.mem_cons,List.not_mem_nil,or_false]at hy
      rcases hy with rfl |rfl<;>cases z
  exact q v _ (fun c u hc hn=>x8 _ _ (j9 _ _ hc) hn) uY good.1 good.2
end
section
def jJ (K:PySem.W.Frag):R2:=fun x y H Q=> (∃a b ys,x=.ref a∧y=.ref b∧ah K H a []∧ah K H b ys∧Q (.ref b) H)∨vZ K x y H Q
theorem gp {X:Cx} :bf X (binaryOp .Add) (jJ X.K):=U5.or EF
theorem ur {K:PySem.W.Frag}{H:Hp}{a b:Addr}{xs ys:List V}{Q:VK}(ha:H a=some (.tup xs)) (hb:H b=some (.tup ys)) (hl:xs.length+ys.length≤sizeLine) (q:∀(c:Addr) H',af H H'→H' c=some (.tup (xs++ys))→Q (.ref c) H'):jJ K (.ref a) (.ref b) H Q:=by
 by_cases hx:xs=[]
 ·subst hx
  exact .inl ⟨a,b,ys,rfl,rfl,ah.of ha,ah.of hb,q b H (af.refl _) hb⟩
 ·refine .inr ⟨a,b,xs,ys,rfl,rfl,ah.of ha,ah.of hb,hx,hl,fun hy=> ?_,fun _ c hc=>q c _ (Zl hc) Zc⟩
  subst hy
  exact q a H (af.refl _) (by rw[List.append_nil];exact ha)
theorem oK {xs:List V}{k:Nat}(h:k≤xs.length):aV xs (some (k:Int)) none=xs.drop k:=by
 unfold aV
 have e1:HT.aF xs.length 0 (some (k:Int))=k:=by rw[HT.jG];omega
 rw[e1,HT.vN,List.take_of_length_le (by rw[List.length_drop];exact Nat.le_refl _)]
theorem PU {b a c:Int}(h0:a≤b) (h1:b≤c):cw (.int b) a c=true:=by
 show(decide (a≤b)&&decide (b≤c))=true
 rw[decide_eq_true h0,decide_eq_true h1];rfl
structure fe (K:PySem.W.Frag) (H:Hp) (x:V) (l:Addr) (xs:List V) (wd hg:Int):Prop where
 bd:bM H x wd hg
 at_:H l=some (.tup xs)
 ly:cA wd hg (some xs)=true
theorem QM {xs:List V}{wd hg:Int}(h:cA wd hg (some xs)=true):(xs.length:Int)=wd:=by
 unfold cA at h
 rw[Bool.and_eq_true,Bool.and_eq_true]at h
 exact of_decide_eq_true h.1.1
theorem Rv {xs:List V}{wd hg:Int}{v:V}(h:cA wd hg (some xs)=true) (hv:v∈xs):v=.ae∨∃i:Int,v=.int i∧0≤i∧i<hg:=by
 unfold cA at h
 rw[Bool.and_eq_true,Bool.and_eq_true]at h
 by_cases e:v=.ae
 ·exact .inl e
 ·have:=List.all_eq_true.mp h.1.2 v (List.mem_filter.mpr ⟨hv,by simp[e]⟩)
  cases v with
  |int i=>
   have z:(decide (0≤i)&&decide (i≤hg - 1))=true:=this
   rw[Bool.and_eq_true]at z
   have z1:=of_decide_eq_true z.1
   have z2:=of_decide_eq_true z.2
   exact .inr ⟨i,rfl,z1,by omega⟩
  |_=>cases this
theorem RB (n:Nat):L2.upTo n=(hG 0 n).map V.int:=by
 unfold L2.upTo hG
 rw[List.map_map]
 refine List.map_congr_left fun k _=> ?_
 show V.int (k:Int)=V.int (0+(k:Int))
 rw[Int.zero_add]
theorem Qc {n:Nat}{i:Int} :i∈hG 0 n↔0≤i∧i<n:=by
 unfold hG
 rw[List.mem_map]
 constructor
 ·rintro⟨k,hk,rfl⟩
  have:=List.mem_range.mp hk
  omega
 ·rintro⟨h1,h2⟩
  exact⟨i.toNat,List.mem_range.mpr (by omega),by omega⟩
theorem Qb (n:Nat):(hG 0 n).length=n:=by unfold hG;rw[List.length_map,List.length_range]
theorem SO (n:Nat):(hG 0 n).Nodup:=by
 unfold hG
 refine List.Pairwise.map _ (fun a b h=> ?_) List.nodup_range
 omega
theorem WC:∀{ls:List Int}{k:Nat}(h:k<ls.length),(ls[k]::ls.eraseIdx k).Perm ls
 |_::_,0,_=> .refl _
 |a::ls,k+1,h=> ((List.Perm.swap _ _ _).trans (List.Perm.cons a (WC (ls:=ls) (k:=k) (by simpa using h))))
theorem QY {t u:TS}{D:Ends}{σ:L2.St}{H:Hp}(R:L2.St→Hp→Prop) (h2:∀aj H',R aj H'→u D aj H') (h1:∀D':Ends,(∀aj H',R aj H'→D'.nx aj H')→t D' σ H):ir t u D σ H:=h1 _ h2
theorem Wb {p L:Addr}{H H1:Hp}{o:HO}(x:aw p H H1) (hp:H1 p=some o) (hL:H1 L=none):H L=none∧L≠p:=by
 have n:L≠p:=fun e=>by rw[e,hp]at hL;cases hL
 refine⟨?_,n⟩
 cases h:H L with
 |none=>rfl
 |some u=>rw[x _ _ h n]at hL;cases hL
theorem Wa {p L:Addr}{H H1:Hp}{o:HO}(x:aw p H H1) (n:H L=none):aw p H (upd H1 L o):=fun b u h nb=>by
 rw[Zf (Zg h n)]
 exact x b u h nb
theorem EE {p L:Addr}{H:Hp}{o:HO}(s:bW H p) (n:L≠p):bW (upd H L o) p:=by
 obtain⟨u,v,e,r⟩:=s
 exact⟨u,v,by rw[Zf n.symm];exact e,r⟩
theorem Ug {α β:Type}(f:α→β):∀(xs:List α) (k:Nat),(xs.map f).eraseIdx k=(xs.eraseIdx k).map f
 | [],_=>rfl
 |_::_,0=>rfl
 |a::xs,k+1=>by
  show f a::(xs.map f).eraseIdx k=f a::(xs.eraseIdx k).map f
  rw[Ug f xs k]
theorem O7 {t:TE}{σ:L2.St}{H:Hp}{Q:VK}(R:V→Hp→Prop) (h2:∀v H',R v H'→Q v H') (h1:∀Q':VK,(∀v H',R v H'→Q' v H')→t σ H Q'):t σ H Q:=h1 Q h2
theorem QF {te:TE}{t:TA}{σ:L2.St}{H:Hp}{Q:List V→Hp→Prop}(h:te σ H fun v H1=>t σ H1 fun vs H2=>Q (v::vs) H2):nD te t σ H Q:=h
theorem DR {xs:List V}{lo hi:Option Int}{y:V}(h:y∈aV xs lo hi):y∈xs:=List.mem_of_mem_drop (List.mem_of_mem_take h)
theorem yJ {i b:Int}(h:i<0∨b<i):cw (.int i) 0 b=false:=by
 show(decide (0≤i)&&decide (i≤b))=false
 rcases h with h |h
 ·rw[decide_eq_false (by omega),Bool.false_and]
 ·rw[decide_eq_false (show ¬i≤b by omega),Bool.and_false]
theorem QT {fs:List V} :rowsOf (fs++[.ae])=rowsOf fs:=by
 unfold rowsOf
 rw[List.filter_append]
 simp
theorem QS {fs:List V}{i:Int} :rowsOf (fs++[.int i])=rowsOf fs++[.int i]:=by
 unfold rowsOf
 rw[List.filter_append]
 simp
theorem SD {fs:List V}{is ls:List Int}{wd hg:Int}(oz:1≤hg) (h1:rowsOf fs=is.map V.int) (h2:(is++ls).Perm (hG 0 hg.toNat)) (h3:(fs.length:Int)=wd):cA wd hg (some fs)=true:=by
 unfold cA
 dsimp only
 rw[h1,decide_eq_true h3]
 have a1:((is.map V.int).all fun r=>cw r 0 (hg - 1))=true:=by
  rw[List.all_eq_true]
  intro x hx
  obtain⟨i,hi,rfl⟩:=List.mem_map.mp hx
  have:=Qc.mp (h2.mem_iff.mp (List.mem_append_left _ hi))
  exact PU this.1 (by omega)
 have a2:(is.map V.int).Nodup:=(W7 is).mpr (List.nodup_append.mp ((List.Perm.nodup_iff h2).mpr (SO _))).1
 rw[a1,decide_eq_true a2]
 rfl
end
section
variable {P:Program}{w:World}{K:PySem.W.Frag}{mg:Str→Option Value}{base:Heap}
abbrev vM:Stmt:=top 46
def vp (K:PySem.W.Frag):Sp:=fun vs H Q _=> ∃(p b:Addr) (wd hg:Int),vs=[.ref p,.ref b]∧bW H p∧bM H (.ref b) wd hg∧∀(l:Addr) H' (xs:List V),aw p H H'→bW H' p→H' l=some (.tup xs)→cA wd hg (some xs)=true→Q (.ref l) H'
theorem nK:bu ["_law_state_here", "_law_board", "_law_left", "_law_found", "_law_line", "_law_row"] ["_law_state_here", "_law_board"] (aC vM):=⟨rfl,rfl,rfl,by decide+kernel,rfl,by decide+kernel,by decide+kernel⟩
theorem Ph {f:Addr}{fd:FuncData}(F:aK K "_law_lay" "_law_lay" vM f fd) (G:Gs mg) (D1:Def P w K mg base 1 "_law_take" ["_law_state_here", "_law_many"] kZ):az P w K mg base aM 2 f fd ["_law_state_here", "_law_board"] (vp K):=by
 refine F.ok nK (fun vs H Q E h=> ?_) (fun ao A outer s H vs Q E hr h=> ?_)
 ·obtain⟨p,b,wd,hg,rfl,_⟩:=h
  rfl
 ·obtain⟨p,b,wd,hg,rfl,st,bd,q⟩:=h
  obtain⟨_,w1,w2,g1,g2⟩:=id bd
  obtain⟨a',eb,hb⟩:=ZD bd.1
  cases eb
  refine⟨_,Ze (Dx (i:=2) (j:=3) rfl nK.nd rfl rfl (by decide) rfl rfl (Za (Yh WT rfl G.list boot_list (Za (Yh JS rfl G.range boot_range (Za (ZI ZS (pv 1) Zh (fun _ _=>rfl)) Zb)) Zb)) (Za (Zs Zb) Zb)) rfl)
   (Ze (YE PassesOwn.never rfl (ZY rfl G.range (Za (ZI ZS (pv 1) Zh (fun _ _=>rfl)) Zb)) (ZL (i:=4) nK.nd rfl (Or.inl rfl))
    (Ze (Zu (i:=5) nK.nd rfl (Or.inl rfl) Yv)
    (Ze (ZO (PW.pt (Wf (ZJ (DH hr.uR) (pv 2) (ZF Zb) (bK _)) (Jj (ZJ Dl (Zi D1 hr (Za (pv 0) (Za Zh Zb))) Zh (bK _)))))
     (Zj (Zu (i:=5) nK.nd rfl (Or.inl rfl) (Jm PySem.F.plainAttrs_list PySem.F.slot_list_pop PySem.F.type_list_pop Rc (pv 2) (Za (Zi D1 hr (Za (pv 0) (Za (Zm ZC rfl G.len boot_len (Za (pv 2) Zb)) Zb))) Zb)))) Zz)
    (Zj (Zu (i:=3) nK.nd rfl (Or.inl rfl) (Zr gp (pv 3) (Zs (Za (pv 5) Zb))))))))
   (Zj (Zw (pv 3)))),?_⟩
  obtain⟨u0,v0,jU,_⟩:=id st
  have sQ:b≠p:=Ye hb jU (by intro z;cases z)
  refine Zp ⟨_,rfl,b,_,_,_,rfl,rfl,ah.of hb,da,hg,rfl,fun rg Lv=> ⟨rg,hg,rfl,Zc,by omega,by omega,fun L hL=> ⟨Nat.zero_le _,fun f0 xw=> ⟨_,_,rfl,?_⟩⟩⟩⟩
  dsimp only[List.set]
  have sA:=Zl (o:=.fj 0 hg) Lv
  have sB:=Zl (o:=.lst (L2.upTo hg.toNat)) hL
  have sC:=Zl (o:=.tup []) xw
  have eL:=sC _ _ (Zc (H:=upd H rg (.fj 0 hg)) (a:=L) (o:=.lst (L2.upTo hg.toNat)))
  have eF:upd (upd (upd H rg (.fj 0 hg)) L (.lst (L2.upTo hg.toNat))) f0 (.tup []) f0=some (.tup []):=Zc
  have j9:=sA.trans (sB.trans sC)
  have M7:H L=none∧L≠p:=Wb (p:=p) sA.x (sA _ _ jU) hL
  generalize upd (upd (upd H rg (.fj 0 hg)) L (.lst (L2.upTo hg.toNat))) f0 (.tup [])=H1 at j9 eL eF
  obtain⟨M6,xS⟩:=M7
  rw[RB]at eL
  have cQ:=j9 _ _ hb
  refine Zp ⟨_,rfl,b,_,_,_,rfl,rfl,ah.of cQ,iX,wd,rfl,by omega,by omega,?_⟩
  refine Yi (n:=wd.toNat) (fun i σ H2=> ∃(fa:Addr) (fs:List V) (is ls:List Int) (x4 x5:Option V),σ=[some (.ref p),some (.ref b),some (.ref L),some (.ref fa),x4,x5]∧aw p H H2∧bW H2 p∧H2 L=some (.lst (ls.map V.int))∧H2 fa=some (.tup fs)∧fs.length=i∧rowsOf fs=is.map V.int∧(is++ls).Perm (hG 0 hg.toNat))
   ⟨f0,[],[],hG 0 hg.toNat,none,none,rfl,j9.x,st.same j9,eL,eF,rfl,rfl,.refl _⟩ ?_ ?_
  ·rintro i σ H2 hi ⟨fa,fs,is,ls,x4,x5,rfl,x2,ak,uj,qE,fl,sv,pm⟩
   have hlen:=pm.length_eq
   rw[List.length_append,Qb]at hlen
   obtain⟨u2,v2,NS,_⟩:=id ak
   have AZ:fa≠p:=Ye qE NS (by intro z;cases z)
   have IH:fa≠L:=Ye qE uj (by intro z;cases z)
   refine Zn (Zp (ZA (Zn ?_)))
   dsimp only[List.set]
   refine QY (fun σ H3=> ∃(row:V) (sZ sV:List Int),σ=[some (.ref p),some (.ref b),some (.ref L),some (.ref fa),some (.int (0+(i:Int))),some row]∧aw p H H3∧bW H3 p∧H3 L=some (.lst (sV.map V.int))∧H3 fa=some (.tup fs)∧rowsOf (fs++[row])=sZ.map V.int∧(sZ++sV).Perm (hG 0 hg.toNat)) ?_ ?_
   ·rintro σ H3 ⟨row,sZ,sV,rfl,x3,aO,qC,qD,Hh,HD⟩
    refine ZA ⟨_,rfl,_,rfl,(by show 1≤sizeLine;decide),fun t ht=> ?_⟩
    have s4:=Zl (o:=.tup [row]) ht
    refine ur (s4 _ _ qD) Zc (by rw[sizeLine_eq];show fs.length+1≤_;omega) fun c H5 s5 e5=>Zn ?_
    have vU:=s4.trans s5
    exact⟨c,fs++[row],sZ,sV,_,_,rfl,x3.trans vU.x,aO.same vU,vU _ _ qC,e5,by rw[List.length_append,fl];rfl,Hh,HD⟩
   ·intro D' hD
    refine⟨_,rfl,Nat.zero_le _,fun e he=> ⟨L,e,ls.map V.int,rfl,rfl,ag.of (Zl he _ _ uj),ag.of Zc,_,rfl,?_⟩⟩
    have se:=Zl (o:=.lst []) he
    have aO:=ak.same se
    have x3:=x2.trans se.x
    have qC:=se _ _ uj
    have qD:=se _ _ qE
    generalize upd H2 e (.lst [])=H3 at se aO x3 qC qD
    have none_:∀{H4:Hp},aw p H H4→bW H4 p→H4 L=some (.lst (ls.map V.int))→H4 fa=some (.tup fs)→D'.nx [some (.ref p),some (.ref b),some (.ref L),some (.ref fa),some (.int (0+(i:Int))),some .ae] H4:=fun x s e1 e2=>hD _ _ ⟨.ae,is,ls,rfl,x,s,e1,e2,by rw[QT];exact sv,pm⟩
    cases ls with
    |nil=>exact aH (aH (ZN (none_ x3 aO qC qD)))
    |cons l0 lr=>
     refine aW ⟨_,rfl,p,4,rfl,aO,by decide,by decide,fun r o r0 r4 cT=> ⟨_,_,rfl,rfl,_,rfl,?_⟩⟩
     have uP:aw p H (upd H3 p o):=x3.trans aw.upd
     have fY:upd H3 p o L=some (.lst ((l0::lr).map V.int)):=by rw[Zf xS];exact qC
     have yq:upd H3 p o fa=some (.tup fs):=by rw[Zf AZ];exact qD
     generalize upd H3 p o=H4 at cT uP fY yq
     by_cases qi:(0:Int)<r
     ·rw[decide_eq_true qi]
      refine aW (ZA ⟨_,rfl,.inl ⟨rfl,_,ag.of fY⟩,_,rfl,_,rfl,L,_,rfl,.inl (ag.of fY),p,_,rfl,cT,by rw[List.length_map];simp,by rw[List.length_map];omega,fun r' o' sD wa cM=> ?_⟩)
      rw[List.length_map]at wa
      have e5:upd H4 p o' L=some (.lst ((l0::lr).map V.int)):=by rw[Zf xS];exact fY
      have cK:r'.toNat< (l0::lr).length:=by omega
      refine⟨L,_,r',r'.toNat,.int ((l0::lr)[r'.toNat]),rfl,rfl,e5,by omega,by omega,seqIndex_of sD (by rw[List.length_map];exact wa),by rw[List.getElem?_map,List.getElem?_eq_getElem cK];rfl,Zn ?_⟩
      refine hD _ _ ⟨_,is++[(l0::lr)[r'.toNat]],(l0::lr).eraseIdx r'.toNat,rfl,Wa (uP.trans aw.upd) M6,EE cM xS,?_,?_,?_,?_⟩
      ·rw[Zc,Ug]
      ·rw[Zf IH,Zf AZ];exact yq
      ·rw[QS,sv,List.map_append];rfl
      ·rw[List.append_assoc]
       exact((WC cK).append_left is).trans pm
     ·rw[decide_eq_false qi]
      exact aH (ZN (none_ uP cT fY yq))
  ·rintro σ H2 ⟨fa,fs,is,ls,x4,x5,rfl,x2,ak,uj,qE,fl,sv,pm⟩
   exact⟨_,rfl,q fa H2 fs x2 ak qE (SD g1 sv pm (by omega))⟩
end
section
theorem OG {K:PySem.W.Frag}{σ:L2.St}{H:Hp}{Q:VK}{l:Addr}{ls:List V}{a:Int}{tm:TE}{i j:Nat}(Pm:List V→Hp→Prop) (pk:∀{ms H1 H2},af H1 H2→Pm ms H1→Pm ms H2) (h1:σ[i]? =some (some (.ref l))) (h3:σ[j]? =some (some (.int a))) (hl:H l=some (.tup ls)) (ll:ls.length≤12)
  (hm:∀H1 (Q1:VK),af H H1→(∀(c:Addr) (ms:List V) H2,af H1 H2→H2 c=some (.tup ms)→ms.length≤12→Pm ms H2→Q1 (.ref c) H2)→tm σ H1 Q1)
  (q:∀(c:Addr) (ms:List V) H',af H H'→H' c=some (.tup ((aV ls none (some a)++ms)++aV ls (some (a+1)) none))→ms.length≤12→Pm ms H'→Q (.ref c) H'):
  kY (jJ K) (kY (jJ K) (uV (vX K) (jE i) uX (uW (jE j))) tm) (uV (vX K) (jE i) (uW (kY (jI fun i j=> .int (i+j)) (jE j) (tC (.int 1)))) uX) σ H Q:=by
 refine⟨_,h1,_,h3,_,rfl,l,_,rfl,hl,fun c1 H1 s1 e1=> ?_⟩
 refine hm H1 _ s1 fun c2 ms H2 s2 e2 gr pm=> ?_
 have l1:=Yr ls none (some a)
 have l3:=Yr ls (some (a+1)) none
 refine ur (s2 _ _ e1) e2 (by rw[sizeLine_eq];omega) fun c3 H3 s3 e3=> ?_
 refine⟨_,h1,_,h3,_,_,rfl,rfl,_,rfl,l,_,rfl,(s1.trans (s2.trans s3)) _ _ hl,fun c4 H4 s4 e4=> ?_⟩
 refine ur (s4 _ _ e3) e4 (by rw[sizeLine_eq,List.length_append];omega) fun c5 H5 s5 e5=> ?_
 exact q c5 ms H5 (s1.trans (s2.trans (s3.trans (s4.trans s5)))) e5 gr (pk (s3.trans (s4.trans s5)) pm)
def dj (K:PySem.W.Frag) (p:Addr) (wd hg:Int) (H:Hp) (v:V):Prop:=(eD K H v∧cA wd hg (bh H v)=false)∧fb p H v
theorem UL {K:PySem.W.Frag}{p:Addr}{wd hg:Int}{H H':Hp}{v:V}(g:dj K p wd hg H v) (s:aw p H H'):dj K p wd hg H' v:=
 ⟨⟨yI g.1.1 s g.2,by rw[Jg g.1.1.1 s g.2.1];exact g.1.2⟩,UF g.1.1.1 s g.2.1 g.2⟩
theorem Yn {K:PySem.W.Frag}{p:Addr}{wd hg:Int}{H H':Hp}{v:V}(g:dj K p wd hg H v) (s:af H H'):dj K p wd hg H' v:=UL g s.x
theorem YC {K:PySem.W.Frag}{p a:Addr}{wd hg:Int}{H:Hp}{xs:List V}(h:H a=some (.tup xs)) (st:bW H p) (hx:∀y∈xs,cR K H y∧y≠.ref p) (nf:cA wd hg (some xs)=false):dj K p wd hg H (.ref a):=by
 obtain⟨u,v,e,_⟩:=st
 have IP:a≠p:=Ye h e (by intro z;cases z)
 refine⟨⟨⟨⟨_,.tup h⟩,fun ys e y hy=> ?_⟩,?_⟩,fun z=>IP (by cases z;rfl),fun ys e y hy=> ?_⟩
 ·rw[Zq h]at e
  cases e
  exact(hx y hy).1
 ·rw[Zq h]
  exact nf
 ·rw[Zq h]at e
  cases e
  exact(hx y hy).2
theorem Yo {K:PySem.W.Frag}{p:Addr}{wd hg:Int}{H:Hp}{v:V}(h:bh H v=none) (t:cR K H v) (hn:v≠.ref p):dj K p wd hg H v:=by
 refine⟨⟨⟨t,fun ys e y hy=> ?_⟩,?_⟩,hn,fun ys e y hy=> ?_⟩
 ·rw[h]at e;cases e
 ·rw[h];rfl
 ·rw[h]at e;cases e
theorem DF {wd hg:Int}{xs:List V}(h:(xs.length:Int)≠wd):cA wd hg (some xs)=false:=by
 unfold cA
 dsimp only
 rw[decide_eq_false h,Bool.false_and,Bool.false_and]
theorem Eg {wd hg:Int}{xs:List V}{y:V}(hy:y∈xs) (e:y≠.ae) (h:cw y 0 (hg - 1)=false):cA wd hg (some xs)=false:=by
 unfold cA
 dsimp only
 have:((rowsOf xs).all fun r=>cw r 0 (hg - 1))=false:=by
  cases hh:(rowsOf xs).all fun r=>cw r 0 (hg - 1) with
  |false=>rfl
  |true=>
   have:=List.all_eq_true.mp hh y (List.mem_filter.mpr ⟨hy,by simp[e]⟩)
   rw[h]at this
   cases this
 rw[this,Bool.and_false,Bool.false_and]
theorem Rf {wd hg:Int}{x:V}{r:List V}(e:x≠.ae):cA wd hg (some (x::x::r))=false:=by
 unfold cA
 dsimp only
 have:¬(rowsOf (x::x::r)).Nodup:=fun h=>by
  unfold rowsOf at h
  rw[List.filter_cons_of_pos (by simp[e]),List.filter_cons_of_pos (by simp[e])]at h
  exact(List.nodup_cons.mp h).1 List.mem_cons_self
 rw[decide_eq_false this,Bool.and_false]
theorem JD {H:Hp}{Z:Addr}{as bs:List V}(h:H Z=some (.lst as)) (v:V):bh (upd H Z (.lst bs)) v=bh H v:=by
 cases v with
 |ref c=>
  rw[Zy,Zy]
  by_cases e:c=Z
  ·rw[e,Zc,h];rfl
  ·rw[Zf e]
 |_=>rfl
theorem EM {K:PySem.W.Frag}{H:Hp}{Z:Addr}{as bs:List V}{v:V}(h:H Z=some (.lst as)) (t:cR K H v):cR K (upd H Z (.lst bs)) v:=by
 obtain⟨T,t⟩:=t
 have ne:∀{a:Addr}{o:HO},H a=some o→(∀xs,o≠.lst xs)→upd H Z (.lst bs) a=some o:=fun {a o} e n=>by
  rw[Zf (fun z=>by rw[z,h]at e;cases e;exact n _ rfl)]
  exact e
 cases t with
 |tup e=>exact⟨_,.tup (ne e (by intro xs z;cases z))⟩
 |lst e=>
  rename_i a xs
  by_cases z:a=Z
  ·rw[z];exact⟨_,.lst Zc⟩
  ·exact⟨_,.lst (by rw[Zf z];exact e)⟩
 |bU e=>exact⟨_,.bU (ne e (by intro xs z;cases z))⟩
 |dK e=>exact⟨_,.dK (ne e (by intro xs z;cases z))⟩
 |dT e=>exact⟨_,.dT (ne e (by intro xs z;cases z))⟩
 |ae=>exact⟨_,.ae⟩
 |bl b=>exact⟨_,.bl b⟩
 |int i=>exact⟨_,.int i⟩
 |str x=>exact⟨_,.str x⟩
 |gB x=>exact⟨_,.gB x⟩
theorem Sk {K:PySem.W.Frag}{p:Addr}{wd hg:Int}{H:Hp}{Z:Addr}{as bs:List V}{v:V}(h:H Z=some (.lst as)) (g:dj K p wd hg H v):dj K p wd hg (upd H Z (.lst bs)) v:=by
 refine⟨⟨⟨EM h g.1.1.1,fun xs e y hy=>EM h (g.1.1.2 xs (by rw[←JD (bs:=bs) h v];exact e) y hy)⟩,by rw[JD h v];exact g.1.2⟩,g.2.1,fun xs e y hy=>g.2.2 xs (by rw[←JD (bs:=bs) h v];exact e) y hy⟩
theorem Sy {K:PySem.W.Frag}{p:Addr}{H:Hp}{xs:List V}{wd hg:Int}{y:V}(l:cA wd hg (some xs)=true) (h:y∈xs):cR K H y∧y≠.ref p:=by
 rcases Rv l h with rfl |⟨i,rfl,_⟩
 ·exact⟨⟨_,.ae⟩,by intro z;cases z⟩
 ·exact⟨⟨_,.int i⟩,by intro z;cases z⟩
end
section
variable {P:Program}{w:World}{K:PySem.W.Frag}{mg:Str→Option Value}{base:Heap}
abbrev vJ:Stmt:=top 49
def vi (K:PySem.W.Frag):Sp:=fun vs H Q _=> ∃(p b l:Addr) (xs:List V) (wd hg:Int),vs=[.ref p,.ref b,.ref l]∧bW H p∧fe K H (.ref b) l xs wd hg∧∀v H',aw p H H'→bW H' p→dj K p wd hg H' v→Q v H'
theorem pF:bu ["_law_state_here", "_law_board", "_law_lay_here", "_law_way", "_law_at", "_law_odd", "_law_bent", "_law_some"] ["_law_state_here", "_law_board", "_law_lay_here"] (aC vJ):=⟨rfl,rfl,rfl,by decide+kernel,rfl,by decide+kernel,by decide+kernel⟩
theorem Pj {f:Addr}{fd:FuncData}(F:aK K "_law_no_lay" "_law_no_lay" vJ f fd) (G:Gs mg) (D1:Def P w K mg base 1 "_law_take" ["_law_state_here", "_law_many"] kZ):az P w K mg base aM 2 f fd ["_law_state_here", "_law_board", "_law_lay_here"] (vi K):=by
 refine F.ok pF (fun vs H Q E h=> ?_) (fun ao A outer s H vs Q E hr h=> ?_)
 ·obtain⟨p,b,l,xs,wd,hg,rfl,_⟩:=h
  rfl
 ·obtain⟨p,b,l,xs,wd,hg,rfl,st,la,q⟩:=h
  refine⟨_,Ze (Dx (i:=3) (j:=4) rfl pF.nd rfl rfl (by decide) rfl rfl (Za (Zi D1 hr (Za (pv 0) (Za Zh Zb))) (Za (Zi D1 hr (Za (pv 0) (Za (ZI ZS (pv 1) Zh (fun _ _=>rfl)) Zb))) Zb)) rfl)
   (Ze (Zu (i:=5) pF.nd rfl (Or.inl rfl) (ZI ZU (ZF (Za (ZI ZS (pv 1) Zh (fun _ _=>rfl)) (Za (Dp DE Zh) (Za W3 (Za Yt (Za (Zs (Za Zh Zb)) (Za (Zr yN Zh Zh) (Za (ZF (Za Zh Zb)) Zb)))))))) (Zi D1 hr (Za (pv 0) (Za Zh Zb))) (fun _ _=>rfl)))
   (Ze (Zu (i:=6) pF.nd rfl (Or.inl rfl) (Zr gp (Zr gp (ZW Uu (pv 2) Z7 (Z6 (pv 4))) (Zs (Za (pv 5) Zb))) (ZW Uu (pv 2) (Z6 (Zr Z3 (pv 4) Zh)) Z7)))
   (Ze (Zu (i:=7) pF.nd rfl (Or.inl rfl) (ZF (Za (pv 6) (Za (pv 6) (Za (pv 6) (Za (Zr gp (pv 2) (Zs (Za Yv Zb))) (Za (ZW Uu (pv 2) (Z6 Zh) Z7) (Za (Yh UN rfl G.list boot_list (Za (pv 2) Zb)) (Za Yv (Za U3 (Za Yt (Za Zh Zb))))))))))))
   (Ze (ZX (Jm PySem.F.plainAttrs_list PySem.F.slot_list_append PySem.F.type_list_append YA (pv 7) (Za (U0 (ZJ Dl (ZI ZS (pv 1) Zh (fun _ _=>rfl)) Zh (bK _)) (Zr EG (Zs (Za Zh Zb)) (ZI ZS (pv 1) Zh (fun _ _=>rfl))) (Zs (Za (pv 2) Zb))) Zb)))
   (Zj (Zw (ZI ZU (pv 7) (pv 3) (fun _ _=>rfl)))))))),?_⟩
  obtain⟨u0,v0,jU,_⟩:=id st
  obtain⟨_,w1,w2,g1,g2⟩:=id la.bd
  have sP:l≠p:=Ye la.at_ jU (by intro z;cases z)
  obtain⟨b',eb,hb⟩:=ZD la.bd.1
  cases eb
  have sQ:b≠p:=Ye hb jU (by intro z;cases z)
  have ll:=QM la.ly
  have hl:=la.at_
  refine Zp ⟨_,rfl,p,11,rfl,st,by decide,by decide,fun way o1 w0 T6 av=> ?_⟩
  have x1:aw p H (upd H p o1):=aw.upd
  have jj:=x1 _ _ hl sP
  have cQ:=x1 _ _ hb sQ
  generalize upd H p o1=H1 at jj cQ x1 av
  refine⟨_,rfl,_,rfl,b,_,_,_,rfl,rfl,ah.of cQ,iX,p,wd,rfl,av,by omega,by omega,fun a o2 a0 a1 ak=> ⟨_,_,rfl,?_⟩⟩
  have x2:aw p H (upd H1 p o2):=x1.trans aw.upd
  have dq:=x2 _ _ hl sP
  have gY:=x2 _ _ hb sQ
  generalize upd H1 p o2=H2 at dq gY x2 ak
  dsimp only[List.set]
  refine Zp (ZA ⟨_,rfl,b,_,_,_,rfl,rfl,ah.of gY,da,_,rfl,(by show 1≤sizeLine;decide),fun t ht=> ?_⟩)
  have s3:=Zl (o:=.tup [V.int 0]) ht
  have e3:upd H2 t (.tup [V.int 0]) t=some (.tup [V.int 0]):=Zc
  generalize upd H2 t (HO.tup [V.int 0])=H3 at s3 e3
  refine⟨_,_,rfl,rfl,⟨by decide,by decide,by decide⟩,(by show 1≤sizeLine;decide),fun m hm=> ?_⟩
  have pM:=Zl (o:=.lst [V.int 0]) hm
  have jV:upd H3 m (.lst [V.int 0]) m=some (.lst [V.int 0]):=Zc
  generalize upd H3 m (HO.lst [V.int 0])=EZ at pM jV
  refine⟨(by show 7≤sizeLine;decide),fun L hL=> ?_⟩
  generalize hS:[V.int hg,V.int (-1),V.bl true,V.str "0",V.ref t,V.int (10^(39:Int).toNat),V.ref m]=S
  have lS:S.length=7:=by rw[←hS];rfl
  have s4:=Zl (o:=.lst S) hL
  have e4:upd EZ L (.lst S) L=some (.lst S):=Zc
  generalize upd EZ L (HO.lst S)=H4 at s4 e4
  have nP:=s3.trans (pM.trans s4)
  have cT:=ak.same nP
  refine⟨_,rfl,p,7,rfl,cT,by decide,by decide,fun r o5 r0 r1 cM=> ?_⟩
  obtain⟨u4,v4,uh,_⟩:=id cT
  have IU:L≠p:=Ye e4 uh (by intro z;cases z;cases lS)
  have AM:t≠p:=Ye ((pM.trans s4) _ _ e3) uh (by intro z;cases z)
  have AV:m≠p:=Ye (s4 _ _ jV) uh (by intro z;cases z)
  have x5:aw p H4 (upd H4 p o5):=aw.upd
  generalize upd H4 p o5=H5 at x5 cM
  have ay:r.toNat<S.length:=by omega
  have iT:=Yc (List.getElem?_eq_getElem ay)
  rw[Int.toNat_of_nonneg r0]at iT
  refine⟨L,_,_,_,rfl,rfl,ag.of (x5 _ _ e4 IU),iT,Zn ?_⟩
  dsimp only[List.set]
  have qZ:aw p H H5:=x2.trans (nP.x.trans x5)
  have dJ:S[r.toNat]∈S:=List.getElem_mem ay
  generalize S[r.toNat]=odd at dJ
  have HH:(1000:Int)≤10^(39:Int).toNat:=by decide
  have good:(cR K H5 odd∧odd≠.ref p)∧odd≠.ae∧cw odd 0 (hg - 1)=false:=by
   rw[←hS]at dJ
   generalize (10:Int)^(39:Int).toNat=Va at dJ HH
   simp only[List.mem_cons,List.not_mem_nil,or_false]at dJ
   rcases dJ with rfl |rfl |rfl |rfl |rfl |rfl |rfl
   ·exact⟨⟨⟨_,.int _⟩,fun z=>by cases z⟩,(fun z=>by cases z),yJ (by omega)⟩
   ·exact⟨⟨⟨_,.int _⟩,fun z=>by cases z⟩,(fun z=>by cases z),yJ (by omega)⟩
   ·exact⟨⟨⟨_,.bl _⟩,fun z=>by cases z⟩,(fun z=>by cases z),rfl⟩
   ·exact⟨⟨⟨_,.str _⟩,fun z=>by cases z⟩,(fun z=>by cases z),rfl⟩
   ·exact⟨⟨⟨_,.tup (x5 _ _ ((pM.trans s4) _ _ e3) AM)⟩,fun z=>AM (by cases z;rfl)⟩,(fun z=>by cases z),rfl⟩
   ·exact⟨⟨⟨_,.int _⟩,fun z=>by cases z⟩,(fun z=>by cases z),yJ (by omega)⟩
   ·exact⟨⟨⟨_,.lst (x5 _ _ (s4 _ _ jV) AV)⟩,fun z=>AV (by cases z;rfl)⟩,(fun z=>by cases z),rfl⟩
  have jh:=qZ _ _ hl sP
  have ua:=qZ _ _ hb sQ
  clear x5 e4 s4 s3 pM dq x2 ak jj x1 av cT uh e3 jV cQ gY
  have Kz:xs.length≤12:=by omega
  have it:∀{H':Hp}{y:V},y∈xs→cR K H' y∧y≠.ref p:=fun h=>Sy la.ly h
  refine Zp (ZA (OG (l:=l) (ls:=xs) (a:=a) (fun ms H'=>ms=[odd]) (fun _ h=>h) rfl rfl jh Kz (fun H6 Q6 s6 k6=> ⟨_,rfl,(by show 1≤sizeLine;decide),fun c hc=>k6 c _ _ (Zl hc) Zc (by show 1≤12;decide) rfl⟩) fun bt ms H6 s6 e6 _ em=> ?_))
  subst em
  refine Zn ?_
  dsimp only[List.set]
  have gb:dj K p wd hg H6 (.ref bt):=by
   refine YC e6 (cM.same s6) (fun y hy=> ?_) (Eg (y:=odd) (by simp) good.2.1 good.2.2)
   rcases List.mem_append.mp hy with hy |hy
   ·rcases List.mem_append.mp hy with hy |hy
    ·exact it (DR hy)
    ·cases List.mem_singleton.mp hy
     exact⟨s6.lE good.1.1,good.1.2⟩
   ·exact it (DR hy)
  have BK:=s6 _ _ jh
  have rC:=cM.same s6
  refine Zp (ZA ⟨_,rfl,_,rfl,_,rfl,_,rfl,(by show 1≤sizeLine;decide),fun t9 Lk=> ?_⟩)
  have s9:=Zl (o:=.tup [V.ae]) Lk
  have e9:upd H6 t9 (.tup [V.ae]) t9=some (.tup [V.ae]):=Zc
  generalize upd H6 t9 (.tup [V.ae])=H9 at s9 e9
  refine ur (s9 _ _ BK) e9 (by rw[sizeLine_eq];show xs.length+1≤_;omega) fun c10 jB fg e10=> ?_
  have BL:=fg _ _ (s9 _ _ BK)
  have zT:=rC.same (s9.trans fg)
  have g4:dj K p wd hg jB (.ref c10):=YC e10 zT (fun y hy=>by
   rcases List.mem_append.mp hy with hy |hy
   ·exact it hy
   ·cases List.mem_singleton.mp hy
    exact⟨⟨_,.ae⟩,fun z=>by cases z⟩) (DF (by rw[List.length_append];show((xs.length+1:Nat):Int)≠wd;omega))
  refine⟨_,rfl,_,rfl,l,_,rfl,BL,fun c13 zd lj e13=> ?_⟩
  have Me:=lj _ _ BL
  have pj:=zT.same lj
  have Fn:aV xs (some 1) none=xs.drop 1:=oK (k:=1) (by omega)
  rw[Fn]at e13
  have g5:dj K p wd hg zd (.ref c13):=YC e13 pj (fun y hy=>it (List.mem_of_mem_drop hy)) (DF (by rw[List.length_drop];omega))
  refine⟨_,rfl,l,_,rfl,.inr (ah.of Me),fun jd xl=> ?_⟩
  have dm:=Zl (o:=.lst xs) xl
  have e11:upd zd jd (.lst xs) jd=some (.lst xs):=Zc
  generalize upd zd jd (.lst xs)=kS at dm e11
  have zR:=pj.same dm
  have IE:jd≠p:=fun z=>by
   obtain⟨u,v,e,_⟩:=id pj
   rw[z,e]at xl
   cases xl
  have g6:dj K p wd hg kS (.ref jd):=Yo (by rw[Zy,e11];rfl) ⟨_,.lst e11⟩ (fun z=>IE (by cases z;rfl))
  refine fun d hd=> ?_
  have cW:=Zl (o:=.dK []) hd
  have e12:upd kS d (.dK []) d=some (.dK []):=Zc
  generalize upd kS d (.dK [])=fK at cW e12
  have rD:=zR.same cW
  have IL:d≠p:=fun z=>by
   obtain⟨u,v,e,_⟩:=id zR
   rw[z,e]at hd
   cases hd
  have g7:dj K p wd hg fK (.ref d):=Yo (by rw[Zy,e12];rfl) ⟨_,.dK e12⟩ (fun z=>IL (by cases z;rfl))
  have gn:dj K p wd hg fK .ae:=Yo rfl ⟨_,.ae⟩ (fun z=>by cases z)
  have gi:dj K p wd hg fK (.int 5):=Yo rfl ⟨_,.int 5⟩ (fun z=>by cases z)
  have gs:dj K p wd hg fK (.str "lay"):=Yo rfl ⟨_,.str _⟩ (fun z=>by cases z)
  have Nu:=Yn g6 cW
  have Nw:=Yn g5 (dm.trans cW)
  have Nx:=Yn g4 (lj.trans (dm.trans cW))
  have sA:=s9.trans (fg.trans (lj.trans (dm.trans cW)))
  have x9:=Yn gb sA
  refine⟨(by show 10≤sizeLine;decide),fun Z hZ=>Zn ?_⟩
  dsimp only[List.set]
  have all:∀v∈[V.ref bt,V.ref bt,V.ref bt,V.ref c10,V.ref c13,V.ref jd,V.ae,V.ref d,V.str "lay",V.int 5],dj K p wd hg fK v:=
   List.forall_mem_cons.mpr ⟨x9,List.forall_mem_cons.mpr ⟨x9,List.forall_mem_cons.mpr ⟨x9,List.forall_mem_cons.mpr ⟨Nx,List.forall_mem_cons.mpr ⟨Nw,List.forall_mem_cons.mpr ⟨Nu,List.forall_mem_cons.mpr ⟨gn,List.forall_mem_cons.mpr ⟨g7,List.forall_mem_cons.mpr ⟨gs,List.forall_mem_cons.mpr ⟨gi,fun _ h=>by cases h⟩⟩⟩⟩⟩⟩⟩⟩⟩⟩
  have lA:([V.ref bt,V.ref bt,V.ref bt,V.ref c10,V.ref c13,V.ref jd,V.ae,V.ref d,V.str "lay",V.int 5]:List V).length=10:=rfl
  generalize [V.ref bt,V.ref bt,V.ref bt,V.ref c10,V.ref c13,V.ref jd,V.ae,V.ref d,V.str "lay",V.int 5]=zs at all lA
  have vV:=Zl (o:=.lst zs) hZ
  have e16:upd fK Z (.lst zs) Z=some (.lst zs):=Zc
  have sF:=s6.trans (sA.trans vV)
  have qx:H Z=none∧Z≠p:=by
   obtain⟨u,v,e,_⟩:=id rD
   exact Wb (qZ.trans (s6.trans sA).x) e hZ
  generalize upd fK Z (.lst zs)=nj at vV e16 sF
  have Md:=sF _ _ jh
  have Cb:=sF _ _ ua
  have ph:=cM.same sF
  refine Zp ⟨_,rfl,.inl ⟨rfl,_,ag.of e16⟩,QF (O7 (t:=zA _ _ _) (fun v H'=>af nj H'∧dj K p wd hg H' v) ?_ ?_)⟩
  ·rintro v10 kQ ⟨i8,Ny⟩
   refine⟨Z,_,v10,rfl,rfl,i8 _ _ e16,by rw[lA,sizeLine_eq];decide,?_⟩
   dsimp only
   have xE:aw p H (upd kQ Z (.lst (zs++[v10]))):=Wa (qZ.trans (sF.trans i8).x) qx.1
   have Gz:bW (upd kQ Z (.lst (zs++[v10]))) p:=EE (ph.same i8) qx.2
   have lW:(zs++[v10]).length=11:=by rw[List.length_append,lA];rfl
   have BH:way.toNat< (zs++[v10]).length:=by omega
   have Cd:=Yc (List.getElem?_eq_getElem BH)
   rw[Int.toNat_of_nonneg w0]at Cd
   refine⟨_,rfl,_,rfl,Z,_,_,_,rfl,rfl,ag.of Zc,Cd,?_⟩
   refine q _ _ xE Gz ?_
   have gv:dj K p wd hg kQ (zs++[v10])[way.toNat]:=by
    rcases List.mem_append.mp (List.getElem_mem BH) with hy |hy
    ·exact Yn (all _ hy) (vV.trans i8)
    ·rw[List.mem_singleton.mp hy];exact Ny
   exact Sk (i8 _ _ e16) gv
  ·intro Q' hQ
   refine⟨_,rfl,b,_,_,_,rfl,rfl,ah.of Cb,iX,_,_,rfl,rfl,_,rfl,?_⟩
   by_cases BW:(1:Int)<wd
   ·rw[decide_eq_true BW]
    refine aW ⟨(by show 1≤sizeLine;decide),fun t0 tw=> ⟨_,rfl,b,_,_,_,rfl,rfl,ah.of (Zl tw _ _ Cb),iX,t0,wd,_,rfl,rfl,Zc,(by simp),by omega,by omega,(by show 1*wd.toNat≤1000;omega),fun c kQ i8 e17=> ?_⟩⟩
    have s0:=(Zl (o:=.tup [V.int 0]) tw).trans i8
    obtain⟨k,ek⟩:∃k,wd.toNat=k+2:=⟨wd.toNat - 2,by omega⟩
    rw[ek]at e17
    have Oe:kQ c=some (.tup (V.int 0::V.int 0::(List.replicate k [V.int 0]).flatten)):=e17
    refine hQ _ _ ⟨s0,YC Oe (ph.same s0) (fun y hy=> ?_) (Rf (by intro z;cases z))⟩
    have:y=.int 0:=by
     rcases List.mem_cons.mp hy with h |hy
     ·exact h
     ·rcases List.mem_cons.mp hy with h |hy
      ·exact h
      ·obtain⟨zz,h1,h2⟩:=List.mem_flatten.mp hy
       rw[(List.mem_replicate.mp h1).2]at h2
       exact List.mem_singleton.mp h2
    rw[this]
    exact⟨⟨_,.int 0⟩,fun z=>by cases z⟩
   ·rw[decide_eq_false BW]
    refine aH ⟨_,rfl,(by show 1≤sizeLine;decide),fun c hc=> ?_⟩
    have sc:=Zl (o:=.tup [V.ref l]) hc
    exact hQ _ _ ⟨sc,YC Zc (ph.same sc) (fun y hy=>by
     cases List.mem_singleton.mp hy
     exact⟨⟨_,.tup (sc _ _ Md)⟩,fun z=>sP (by cases z;rfl)⟩) (Eg (y:=.ref l) List.mem_cons_self (by intro z;cases z) rfl)⟩
end
section
def Fh (Y:Cx) (cl:List (Str×Addr)) (x:Str) (v:V) (H:Hp) (s:Shared):Prop:=∃c u,cl.lookup x=some c∧s.heap.IsCell c (some u)∧RelV v u∧H c=none∧c∉aX Y.stack
end
section
variable {Y:Cx}{pins:List (Addr×Obj)}{σ:L2.St}{H:Hp}{s:Shared}
theorem P1 {i:Nat}{x:Str}{v:V}{scope:Scope}(I:Inv Y pins σ H s) (hi:Y.N[i]? =some x) (lU:σ[i]? =some (some v)) (hk:Y.env.scope.names.lookup x=some .cell) (eW:Y.fn x=true) (fI:(x,NameKind.free)∈scope.names):Fh Y (eu scope Y.env) x v H s:=by
 obtain⟨m,hn,hl⟩:=I.loc
 obtain⟨u,r,l⟩:=hl i x v hi lU (.inr (.inl hk))
 obtain⟨c,hc⟩:=WF (env:=Y.env) fI
 have e1:=(YD hc).1
 rcases l with ⟨aN,_⟩ |⟨_,c',br,kH⟩
 ·have:Y.env.scope.names.lookup x=some .local:=aN
  rw[hk]at this
  cases this
 ·rw[br]at e1
  have e2:c=c':=e1
  subst e2
  refine⟨c,u,hc,kH,r,I.fX x c br,fun hm=> ?_⟩
  rcases List.mem_cons.mp (I.rp c hm) with z |z
  ·exact I.hV x c br z
  ·obtain⟨_,o,ho,_⟩:=I.ok.dZ.mem z
   exact absurd (Nat.lt_of_lt_of_le (Heap.lt_size ho) (I.ok.kM x c eW br)) (Nat.lt_irrefl _)
theorem Px {scope:Scope}{env:Env}{z:Str}{c:Addr}(h:(eu scope env).lookup z=some c):(z,NameKind.free)∈scope.names:=(YD h).2
end
section
variable {X:Cx}{cS c P fR:Addr}{fn:Str}{kf:Nat}{ps:List Str}{sp:Sp}
abbrev lq (X:Cx):Str:=X.env.qual++ "<lambda>"
theorem ZR {H H':Hp}{P:Addr}{q:Str}(h:TabAt H P q) (s:af H H'):TabAt H' P q:=by
 obtain⟨ps,h1,h2,h3⟩:=h
 exact⟨ps,s _ _ h1,h2,fun pos cv z=>by obtain⟨d,e,g⟩:=h3 pos cv z;exact⟨d,e,s _ _ g⟩⟩
structure LCtx (X:Cx) (cS c P fR:Addr) (fn:Str) (kf:Nat) (ps:List Str) (sp:Sp):Prop where
 lam:EV X c P
 hR:∀b',Def X.prog X.w X.K X.mg b' (kf+2) "_law_word" ["_law_call"] (rE X.prog X.w X.K X.mg b' cS (kf+1))
 hU:∀b',bD X.prog X.w X.K X.mg b' kf fn ps sp
 room:cg (kf+2) X.A
 mR:X.mg "_law_word" =some (.ref fR)
 kR:PySem.W.keepIn X.K (.ref fR)=true
structure LN (X:Cx) (x:Str) (i:Nat):Prop where
 nx:X.N[i]? =some x
 kx:X.env.scope.names.lookup x=some .cell
 fx:X.fn x=true
structure oN (params:Arguments) (body:Expr) (scope:Scope) (N:List Str):Prop where
 kind:scope.kind=.function
 co:scope.isCoroutine=false
 gen:scope.isGenerator=false
 jc:∀z∈scope.names,z.2≠.cell
 only:∀z∈scope.names,z.2=.free→z.1∈N
 free:∀x∈N,scope.names.lookup x=some .free
 bind:∀(q:Str) (cl:List (Str×Addr)) (pm:Value) (c:Addr) (ct:Value),bindArgs (PySem.W.kla_fn "<lambda>" q params body scope cl pm (.ref c) ct) ⟨[],[]⟩=pure []
def uN (X:Cx) (kf:Nat) (C:Addr) (f:Addr) (q:Str) (bd:Expr) (scope:Scope) (cl:List (Str×Addr)) (N:List Str) (ws:List V) (Pre:Hp→Prop):Prop:=
 ∀(dz:Heap) (cc:Addr) (A:Around) (outer:List Env) (s2:Shared) (H2:Hp) (Q2:VK) (E2:XK),cg kf (A.deeper (PySem.W.envX q scope s2.heap.objs.size f (.ref cc) cl))→Pre H2→(∀e H',af H2 H'→E2 (.ref e) (some C) H')→
  ∃t,PE (jW X.prog X.w X.K X.mg dz N q scope f (.ref cc) cl A outer s2 H2 E2) bd t∧t (ws.map some) H2 Q2
theorem RY {pins:List (Addr×Obj)}{σ:L2.St}{H:Hp}{s:Shared}{f C:Addr}{iC:Nat}{q:Str}{params:Arguments}{bd:Expr}{scope:Scope}{cl:List (Str×Addr)}{Q:VK}{N:List Str}{ws:List V}{Pre:Hp→Prop}(L:LCtx X cS c P fR fn kf ps sp)
  (LS:oN params bd scope N) (I:Inv X pins σ H s) (hl:yV H f q params bd scope cl) (hlen:ws.length=N.length) (gz:∀(i:Nat) x v,N[i]? =some x→ws[i]? =some v→Fh X cl x v H s) (cG:∀z c,cl.lookup z=some c→(z,NameKind.free)∈scope.names)
  (Ml:∀a b c,cl.lookup a=some c→cl.lookup b=some c→a=b) (M:mW X.K X.mg cS C iC) (bad:uN X kf C f q bd scope cl N ws Pre) (pre:Pre H) (hq:∀H',af H H'→Q (.str (wordOf iC)) H'):
  wpAny (model X.prog X.w) X.A (call (.ref fR) [.ref f]) (EP X pins σ Q) X.xe s:=by
 obtain⟨dz,st,e0,cf⟩:=I.rebase
 obtain⟨pm,cc,ct,hf,hc⟩:=hl
 have T:Cells dz scope cl N ws:=⟨hlen,fun u hu=>by
   rcases hu with hu |hu
   ·exact absurd rfl (LS.jc _ (PySem.mem_of_lookup hu))
   ·exact LS.only _ (PySem.mem_of_lookup hu) rfl,fun i a v h1 h2=>by
   obtain⟨ax,ux,lx,⟨ox,gx,dx⟩,rx,nx,fx⟩:=gz i a v h1 h2
   exact⟨LS.free a (List.mem_of_getElem? h1),ax,ux,lx,⟨ox,cf _ _ gx nx fx,dx⟩,rx⟩,fun u c h=>LS.only _ (cG u c h) rfl,Ml⟩
 have FL:az X.prog X.w X.K X.mg dz (bE X.prog X.w) (kf+1) f (PySem.W.kla_fn "<lambda>" q params bd scope cl pm (.ref cc) ct) []
   (fun vs H2 Q2 E2=> (vs=[]∧H2 f=some (oa f q params bd scope cl pm cc ct)∧H2 cc=some (hJ cc q))∧Pre H2∧∀e H',af H2 H'→E2 (.ref e) (some C) H'):=by
  refine QL (k:=kf) T LS.kind LS.co LS.gen LS.jc (fun vs H2 Q2 E2 h=>h.1) fun A outer s2 H2 Q2 E2 dg h=> ?_
  exact bad dz cc A outer s2 H2 Q2 E2 dg h.2.1 h.2.2
 obtain⟨VN,NL,FR,dJ,hk,hb⟩:=L.hR dz
 rw[L.mR]at dJ
 cases dJ
 refine wpAny_call (codeAny_mono (FR.run X.A X.stack s H ⟨[.ref f],[]⟩ [.ref f] [.ref f] Q E0 L.room e0 (hb s [.ref f] I.bF rfl) (.cons rfl .nil)
  ⟨f,_,_,C,iC,rfl,M,fun h ai=> ?_,FL,fun s2=> .of_eq (LS.bind q cl pm cc ct),fun Q' E' hE=> ⟨⟨rfl,hf,hc⟩,pre,hE⟩,hq⟩) fun r s' h=> ?_)
 ·have z:h.get? f=some _:=(ai f _ hf).1
  exact⟨_,_,_,_,z⟩
 ·cases r with
  |error e=>exact h.elim
  |ok fl=>
   cases fl with
   |ret u=>exact I.after h
   |next=>exact False.elim h
   |brk=>exact False.elim h
   |cont=>exact False.elim h
def FW (X:Cx) (P:Addr) (iC:Nat) (idx:List Nat) (Pre:List V→Hp→Prop):TE:=fun σ H Q=> ∃ws:List V,ws.length=idx.length∧(∀(k i:Nat) v,idx[k]? =some i→ws[k]? =some v→σ[i]? =some (some v))∧TabAt H P (lq X)∧(∀H',aw P H H'→Pre ws H')∧∀H',aw P H H'→TabAt H' P (lq X)→Q (.str (wordOf iC)) H'
theorem Jl {params:Arguments}{scope:Scope}{bd:Expr}{p lp pos:Pos}{C:Addr}{iC:Nat}{N:List Str}{idx:List Nat}{Pre:List V→Hp→Prop}(L:LCtx X cS c P fR fn kf ps sp) (LS:oN params bd scope N) (hN:idx.length=N.length) (Tj:∀(k:Nat) x i,N[k]? =some x→idx[k]? =some i→LN X x i) (hg:Gl X "_law_word") (xH:defaultsOf params X.env=([],[]))
  (fI:∀z∈scope.names,z.2=.free→X.env.kindOf z.1=some .cell∨X.env.kindOf z.1=some .free) (M:mW X.K X.mg cS C iC) (bad:∀f ws,ws.length=N.length→uN X kf C f (lq X) bd scope (eu scope X.env) N ws (Pre ws)):
  PE X (.Call (.Name "_law_word" p) [.Lambda params bd scope lp] [] pos) (FW X P iC idx Pre):=by
 intro pins s σ H Q I h
 obtain⟨ws,Bl,lU,tab,pre,q⟩:=h
 refine wpAny_Call_Name_kw (Js I hg L.mR ?_ (by decide))
 have ha:PA X [.Lambda params bd scope lp] _:=Za (OY L.lam xH fI) Zb
 refine PySem.W.callWith_K (h₀:=X.base) I.ok.mod.lL L.kR (au (ha pos pins s σ H (fun vs H1=> ∃f,vs=[.ref f]∧aw P H H1∧TabAt H1 P (lq X)∧yV H1 f (lq X) params bd scope (eu scope X.env)) I ⟨tab,fun f H1 sx nf t1 l1=> ⟨f,rfl,sx,t1,l1⟩⟩) fun us s1 ⟨vs,H1,I1,r,f,ev,sx,t1,l1⟩=> ⟨I1.bF,?_⟩) rfl rfl
 subst ev
 obtain⟨u,rfl,ru⟩:=vals1 r
 cases ru
 refine RY L LS I1 l1 (by rw[Bl,hN]) (fun i x v h1 h2=> ?_) (fun z c h=>Px h) (fun a b c h1 h2=> ?_) M (bad f ws (by rw[Bl,hN])) (pre H1 sx) fun H2 s2=>q H2 (sx.trans s2.x) (ZR t1 s2)
 ·have hi:i<idx.length:=by
   have:=(List.getElem?_eq_some_iff.mp h1).1
   omega
  have ei:=List.getElem?_eq_getElem hi
  have n:=Tj i x _ h1 ei
  exact P1 I1 n.nx (lU i _ v ei h2) n.kx n.fx (PySem.mem_of_lookup (LS.free x (List.mem_of_getElem? h1)))
 obtain⟨e1,m1⟩:=YD h1
 obtain⟨e2,m2⟩:=YD h2
 obtain⟨c1,g1⟩:=I1.ok.has a (fI _ m1 rfl)
 obtain⟨c2,g2⟩:=I1.ok.has b (fI _ m2 rfl)
 rw[g1]at e1
 rw[g2]at e2
 have z1:c1=c2:=by
  have y1:_=c1:=e1
  have y2:_=c2:=e2
  rw[←y1,←y2]
 subst z1
 exact I1.ok.inj _ _ _ g1 g2
end
end U
namespace U.S
open PySem L2 PyProof.Rows
section
variable {P:Program}{w:World}{K:PySem.W.Frag}{mg:Str→Option Value}{base:Heap}
structure dA (wd hg:Int) (xs:List V):Prop where
 len:(xs.length:Int)=wd
 row:∀r∈rowsOf xs,cw r 0 (hg - 1)=true
 nd:(rowsOf xs).Nodup
theorem dA.is {wd hg:Int}{xs:List V}(h:dA wd hg xs):cA wd hg (some xs)=true:=by
 show(decide ((xs.length:Int)=wd)&&((rowsOf xs).all fun r=>cw r 0 (hg - 1))&&decide (rowsOf xs).Nodup)=true
 rw[decide_eq_true h.len,decide_eq_true h.nd,List.all_eq_true.mpr h.row]
 rfl
end
section
def nR:V→Option Int
 | .int r=>some r
 |_=>none
def rowAt (xs:List V) (i:Nat):Option Int:=xs[i]?.bind nR
abbrev aJ:=Int×Int×Int×Int
def rA (xs:List V) (o l:Nat):Option aJ:=(rowAt xs l).bind fun a=> (rowAt xs o).map fun b=> ((o:Int) - l,b - a,(l:Int),(o:Int))
def rq (xs:List V) (o j:Nat):List aJ:=(List.range j).filterMap (rA xs o)
def gP (xs:List V) (n:Nat):List aJ:=(List.range n).flatMap fun o=>rq xs o o
def oM (H:Hp) (v:V) (q:aJ):Prop:=∃t t':Addr,v=.ref t∧H t=some (.tup [.ref t',.int q.2.2.1,.int q.2.2.2])∧H t'=some (.tup [.int q.1,.int q.2.1])
def uC (xs:List V):Prop:=∀x∈xs,x=.ae∨∃i,x=.int i
theorem dA.ok {wd hg:Int}{xs:List V}(h:dA wd hg xs):uC xs:=fun x hx=>by
 by_cases e:x=.ae
 ·exact .inl e
 ·have m:x∈rowsOf xs:=List.mem_filter.mpr ⟨hx,by simp[e]⟩
  have q:=h.row x m
  cases x with
  |int i=>exact .inr ⟨i,rfl⟩
  |_=>cases q
end
section
variable {P:Program}{w:World}{K:PySem.W.Frag}{mg:Str→Option Value}{base:Heap}
theorem Paired.at {α β:Type}{F:α→β→Prop} :∀{kj:List α}{ki:List β}{i:Nat}{a:α},Paired F kj ki→kj[i]? =some a→∃b,ki[i]? =some b∧F a b
 |_,_,_,_,.nil,e=>by simp at e
 |_,_,0,_,.cons r _,e=>by simp at e;subst e;exact⟨_,rfl,r⟩
 |_,_,i+1,a,.cons _ t,e=>by
  obtain⟨u,h1,h2⟩:=Paired.at (i:=i) (a:=a) t (by simpa using e)
  exact⟨u,by simpa using h1,h2⟩
end
section
def Hy (K:PySem.W.Frag):R2:=fun x y H Q=> ∃a b ys,x=.ref a∧y=.ref b∧ah K H a []∧ah K H b ys∧Q (.ref b) H
def jJ (K:PySem.W.Frag):R2:=fun x y H Q=>Hy K x y H Q∨vZ K x y H Q
theorem gp {X:Cx} :bf X (binaryOp .Add) (jJ X.K):=U5.or EF
def bj (xs:List V):List (Int×Int):=(List.range xs.length).filterMap fun l=> (rowAt xs l).map fun r=> ((l:Int),r)
def qM (H:Hp) (v:V) (q:Int×Int):Prop:=∃t:Addr,v=.ref t∧H t=some (.tup [.int q.1,.int q.2])
def iY (H:Hp) (v:V) (q:aJ):Prop:=∃t:Addr,v=.ref t∧H t=some (.tup [.int q.1,.int q.2.1,.int q.2.2.1,.int q.2.2.2])
theorem qM.same {H H':Hp}{v:V}{q:Int×Int}(h:qM H v q) (s:af H H'):qM H' v q:=by
 obtain⟨t,e,h1⟩:=h
 exact⟨t,e,s _ _ h1⟩
theorem iY.same {H H':Hp}{v:V}{q:aJ}(h:iY H v q) (s:af H H'):iY H' v q:=by
 obtain⟨t,e,h1⟩:=h
 exact⟨t,e,s _ _ h1⟩
def pairsOf (ps:List (Int×Int)) (a:Int×Int) (j:Nat):List aJ:=((ps.take j).filter fun b=>decide (a.1<b.1)).map fun b=> (a.1,a.2,b.1,b.2)
def jb (ps:List (Int×Int)) (i:Nat):List aJ:=(ps.take i).flatMap fun a=>pairsOf ps a ps.length
def dQ (ps:List (Int×Int)):List aJ:=jb ps ps.length
theorem UA {ps:List (Int×Int)}{a b:Int×Int}{j:Nat}(h:ps[j]? =some b):pairsOf ps a (j+1)=pairsOf ps a j++(if decide (a.1<b.1)=true then [(a.1,a.2,b.1,b.2)] else []):=by
 unfold pairsOf
 rw[List.take_add_one,h,List.filter_append,List.map_append]
 cases hh:decide (a.1<b.1)<;>simp_all
theorem Uz {ps:List (Int×Int)}{a:Int×Int}{i:Nat}(h:ps[i]? =some a):jb ps (i+1)=jb ps i++pairsOf ps a ps.length:=by
 unfold jb
 rw[List.take_add_one,h,List.flatMap_append]
 simp
end
section
variable {P:Program}{w:World}{K:PySem.W.Frag}{mg:Str→Option Value}{base:Heap}
abbrev pK:Stmt:=top 25
def fe (H:Hp) (x y:V) (wd hg:Int) (xs:List V):Prop:=bM H x wd hg∧bh H y=some xs∧dA wd hg xs
theorem fe.same {H H':Hp}{x y:V}{wd hg:Int}{xs:List V}(h:fe H x y wd hg xs) (s:af H H'):fe H' x y wd hg xs:=⟨h.1.same s,s.bh h.2.1,h.2.2⟩
theorem fe.pl {H:Hp}{x y:V}{wd hg:Int}{xs:List V}(h:fe H x y wd hg xs):eD K H y:=by
 obtain⟨a,rfl,ha⟩:=ZD h.2.1
 refine⟨⟨_,.tup ha⟩,fun zs e z hz=> ?_⟩
 rw[h.2.1]at e
 cases e
 rcases h.2.2.ok z hz with rfl |⟨i,rfl⟩
 ·exact⟨_,.ae⟩
 ·exact⟨_,.int i⟩
def rH:Sp:=fun vs H Q _=> ∃x y wd hg xs,vs=[x,y]∧fe H x y wd hg xs∧∀H',af H H'→Q .ae H'
theorem Af:bu ["board", "lay"] ["board", "lay"] (aC pK):=⟨rfl,rfl,rfl,by decide+kernel,rfl,by decide+kernel,by decide+kernel⟩
theorem Ig {f:Addr}{fd:FuncData}(F:aK K "need_lay" "need_lay" pK f fd) (D1:Def P w K mg base 5 "is_lay" ["board", "thing"] (rJ K)):az P w K mg base aM 6 f fd ["board", "lay"] rH:=by
 refine F.ok Af (fun vs H Q E h=> ?_) (fun ao A outer s H vs Q E hr h=> ?_)
 ·obtain⟨x,y,wd,hg,xs,rfl,_⟩:=h
  rfl
 ·obtain⟨x,y,wd,hg,xs,rfl,l,q⟩:=h
  refine⟨_,Zj (ZO (Z2 (ZM (Zi D1 hr (Za (pv 0) (Za (pv 1) Zb))))) Zt Zz),?_⟩
  refine⟨x,rfl,y,rfl,x,y,wd,hg,rfl,l.1,l.pl,fun H' sm=> ⟨_,rfl,?_⟩⟩
  rw[l.2.1,l.2.2.is]
  exact aH (q H' sm)
def vd:Sp:=fun vs H Q _=> ∃x y wd hg xs,vs=[x,y]∧fe H x y wd hg xs∧∀(l:Addr) (H':Hp) (ps:List V),af H H'→H l=none→H' l=some (.lst ps)→Paired (qM H') ps (bj xs)→Q (.ref l) H'
abbrev rZ:Stmt:=top 29
def ve:Sp:=fun vs H Q _=> ∃x y wd hg xs,vs=[x,y]∧fe H x y wd hg xs∧∀(l:Addr) (H':Hp) (ps:List V),af H H'→H l=none→H' l=some (.lst ps)→Paired (iY H') ps (dQ (bj xs))→Q (.ref l) H'
theorem rQ:bu ["board", "lay", "found"] ["board", "lay"] (aC rZ):=⟨rfl,rfl,rfl,by decide+kernel,rfl,by decide+kernel,by decide+kernel⟩
theorem Ia {f:Addr}{fd:FuncData}(F:aK K "point_pairs" "point_pairs" rZ f fd) (D1:Def P w K mg base 7 "points" ["board", "lay"] vd):az P w K mg base aM 8 f fd ["board", "lay"] ve:=by
 refine F.ok rQ (fun vs H Q E h=> ?_) (fun ao A outer s H vs Q E hr h=> ?_)
 ·obtain⟨x,y,wd,hg,xs,rfl,_⟩:=h
  rfl
 ·obtain⟨x,y,wd,hg,xs,rfl,l,q⟩:=h
  refine⟨_,Ze (Zu (i:=2) rQ.nd rfl (Or.inr rfl) (Zi D1 hr (Za (pv 0) (Za (pv 1) Zb))))
   (Zj (Zw (Z8 ["line", "row", "other", "there", "found"] 4 [2] (Yb (pv 2))
    (fun C s H fp=>show PG (aZ _ _ _ C s H fp) _ (gZ K 2 (bT (bG 0) (bT (bG 1) g8))) from ZZ rfl (Zo (pb 0) (Zo (pb 1) ZQ))) (fun C s H fp=>Ya)
    (fun C s H fp D=>UZ rfl rfl rfl (show PI (aZ _ _ _ C s H fp) _ _ (wG K (jE 4)) from Yb (pv 4))
     (show PG (aZ _ _ _ C s H fp) _ (gZ K 2 (bT (bG 2) (bT (bG 3) g8))) from ZZ rfl (Zo (pb 2) (Zo (pb 3) ZQ)))
     (Yp (ZJ yK (pv 0) (pv 2) (bK _))) (ZK rfl (Zs (Za (pv 0) (Za (pv 1) (Za (pv 2) (Za (pv 3) Zb)))))) (by intro _;rfl) (by intro g' h;cases h))))),?_⟩
  refine⟨x,rfl,y,rfl,x,y,wd,hg,xs,rfl,l,fun fa H1 ps s1 eW hf pr=> ?_⟩
  generalize Bu:bj xs=qs at pr q
  have tL:ps.length=qs.length:=Paired.length pr
  have VB:qs.length≤12:=by
   rw[←Bu]
   unfold bj
   have:=List.length_filterMap_le (fun l:Nat=> (rowAt xs l).map fun r=> ((l:Int),r)) (List.range xs.length)
   rw[List.length_range]at this
   have h1:=l.2.2.len
   have h2:=l.1.2.2.1
   omega
  refine⟨_,rfl,fa,rfl,⟨ps,ag.of hf⟩,?_⟩
  refine Z9 (xs:=ps) (fun i ys σ H2=> ∃v0 v1 v2 v3,σ=[v0,v1,v2,v3,some (.ref fa)]∧af H1 H2∧Paired (iY H2) ys (jb qs i)∧ys.length≤i*12) ⟨_,_,_,_,rfl,af.refl _,.nil,Nat.zero_le _⟩ (fun i ys σ H2 _ ⟨_,_,_,_,_,s2,_⟩=>ag.of (s2 _ _ hf)) ?_ ?_
  ·rintro i v ys σ H2 hv ⟨v0,v1,v2,v3,rfl,s2,dC,dq⟩
   obtain⟨a,LF,t,rfl,ht⟩:=Paired.at pr hv
   have hi:i<ps.length:=(List.getElem?_eq_some_iff.mp hv).1
   refine⟨t,_,rfl,ah.of (s2 _ _ ht),rfl,_,_,rfl,_,_,rfl,rfl,?_⟩
   refine⟨_,rfl,fa,rfl,⟨ps,ag.of (s2 _ _ hf)⟩,?_⟩
   refine Z9 (xs:=ps) (fun j ys σ H3=> ∃v2 v3,σ=[some (.int a.1),some (.int a.2),v2,v3,some (.ref fa)]∧af H1 H3∧Paired (iY H3) ys (jb qs i++pairsOf qs a j)∧ys.length≤i*12+j) ⟨_,_,rfl,s2,by simpa[pairsOf] using dC,dq⟩ (fun i ys σ H2 _ ⟨_,_,_,s2,_⟩=>ag.of (s2 _ _ hf)) ?_ ?_
   ·rintro j v ys σ H3 gR ⟨v2,v3,rfl,s3,fQ,kF⟩
    obtain⟨b,LD,t',rfl,oj⟩:=Paired.at pr gR
    have hj:j<ps.length:=(List.getElem?_eq_some_iff.mp gR).1
    have es:=UA (a:=a) LD
    refine⟨t',_,rfl,ah.of (s3 _ _ oj),rfl,_,_,rfl,_,_,rfl,rfl,?_⟩
    refine⟨_,rfl,_,rfl,_,_,rfl,rfl,_,rfl,?_⟩
    cases hh:decide (a.1<b.1) with
    |true=>
     rw[hh]at es
     refine aW ?_
     refine⟨_,rfl,_,rfl,_,rfl,_,rfl,(by show 4≤sizeLine;decide),fun t4 l7=> ⟨by rw[sizeLine_eq];omega,?_⟩⟩
     have s4:af H3 (upd H3 t4 (.tup [.int a.1,.int a.2,.int b.1,.int b.2])):=fun c o hc=>by rw[Zf (Zg hc l7)];exact hc
     refine⟨_,_,rfl,s3.trans s4,?_,by rw[List.length_append];simp;omega⟩
     rw[es,if_pos rfl,←List.append_assoc]
     exact Paired.snoc (Paired.ck fQ fun v q' hq=>hq.same s4) ⟨t4,rfl,Zc⟩
    |false=>
     rw[hh]at es
     refine aH ⟨_,_,rfl,s3,?_,by omega⟩
     rw[es,if_neg Bool.false_ne_true,List.append_nil]
     exact fQ
   ·rintro ys σ H3 ⟨v2,v3,rfl,s3,fQ,kF⟩
    refine⟨_,_,_,_,rfl,s3,?_,by omega⟩
    rw[Uz LF,←tL]
    exact fQ
  ·rintro ys σ H2 ⟨v0,v1,v2,v3,rfl,s2,dC,dq⟩ p hp
   have s4:af H2 (upd H2 p (.lst ys)):=fun c o hc=>by rw[Zf (Zg hc hp)];exact hc
   refine q p _ ys (s1.trans (s2.trans s4)) ((s1.trans s2).free hp) Zc ?_
   rw[tL]at dC
   exact Paired.ck dC fun v q' hq=>hq.same s4
end
section
def ja (xs:List V) (n:Nat):List (Int×Int):=(List.range n).filterMap fun l=> (rowAt xs l).map fun r=> ((l:Int),r)
theorem Y9 (xs:List V) (n:Nat):ja xs (n+1)=ja xs n++((rowAt xs n).map fun r=> ((n:Int),r)).toList:=by
 unfold ja
 rw[List.range_succ,List.filterMap_append]
 cases h:rowAt xs n<;>simp[h]
end
section
variable {P:Program}{w:World}{K:PySem.W.Frag}{mg:Str→Option Value}{base:Heap}
abbrev rY:Stmt:=top 27
theorem Ac:bu ["board", "lay"] ["board", "lay"] (aC rY):=⟨rfl,rfl,rfl,by decide+kernel,rfl,by decide+kernel,by decide+kernel⟩
theorem HW {f:Addr}{fd:FuncData}(F:aK K "points" "points" rY f fd) (G:Gs mg) (D1:Def P w K mg base 6 "need_lay" ["board", "lay"] rH):az P w K mg base aM 7 f fd ["board", "lay"] vd:=by
 refine F.ok Ac (fun vs H Q E h=> ?_) (fun ao A outer s H vs Q E hr h=> ?_)
 ·obtain⟨x,y,wd,hg,xs,rfl,_⟩:=h
  rfl
 ·obtain⟨x,y,wd,hg,xs,rfl,l,q⟩:=h
  refine⟨_,Ze (ZX (Zi D1 hr (Za (pv 0) (Za (pv 1) Zb))))
   (Zj (Zw (Z8 ["line", "row"] 2 [] (EK rfl G.enumerate (Za (pv 1) Zb))
    (fun C s H fp=>show PG (aZ _ _ _ C s H fp) _ (gZ K 2 (bT (bG 0) (bT (bG 1) g8))) from ZZ rfl (Zo (pb 0) (Zo (pb 1) ZQ)))
    (fun C s H fp=>Yp (Ys (Uy (pv 1)))) (fun C s H fp D=>ZK rfl (Zs (Za (pv 0) (Za (pv 1) Zb))))))),?_⟩
  refine⟨x,rfl,y,rfl,x,y,wd,hg,xs,rfl,l,fun H1 s1=> ?_⟩
  obtain⟨a,rfl,ha⟩:=ZD (l.same s1).2.1
  have hlen:xs.length≤12:=by
   have h1:=l.2.2.len
   have h2:=l.1.2.2.1
   omega
  refine⟨_,rfl,a,rfl,⟨xs,ah.of ha⟩,?_⟩
  refine W9 (xs:=xs) (fun i ys σ H2=> ∃v0 v1,σ=[v0,v1]∧af H1 H2∧Paired (qM H2) ys (ja xs i)∧ys.length≤i) ⟨_,_,rfl,af.refl _,.nil,Nat.zero_le _⟩ (fun i ys σ H2 _ ⟨_,_,_,s2,_⟩=>ah.of (s2 _ _ ha)) ?_ ?_
  ·rintro i v T ys σ H2 hv hT ⟨v0,v1,rfl,s2,dC,dq⟩
   have hi:i<xs.length:=(List.getElem?_eq_some_iff.mp hv).1
   have sT:af H2 (upd H2 T (.par [.int (i:Int),v])):=fun c o hc=>by rw[Zf (Zg hc hT)];exact hc
   have er:rowAt xs i=nR v:=by unfold rowAt;rw[hv];rfl
   refine⟨T,_,rfl,ah.nX Zc,rfl,_,_,rfl,_,_,rfl,rfl,?_⟩
   refine⟨_,rfl,_,rfl,?_⟩
   generalize Cr:upd H2 T (HO.par [V.int (i:Int),v])=H3 at sT
   rcases l.2.2.ok v (List.mem_of_getElem? hv) with rfl |⟨r,rfl⟩
   ·refine aH ⟨_,_,rfl,s2.trans sT,?_,by omega⟩
    rw[Y9,er]
    exact(by simpa[nR] using Paired.ck dC fun v q' hq=>hq.same sT)
   ·refine aW ?_
    refine⟨_,rfl,_,rfl,(by show 2≤sizeLine;decide),fun t ht=> ⟨by rw[sizeLine_eq];omega,?_⟩⟩
    have s4:af H3 (upd H3 t (.tup [.int (i:Int),.int r])):=fun c o hc=>by rw[Zf (Zg hc ht)];exact hc
    refine⟨_,_,rfl,s2.trans (sT.trans s4),?_,by rw[List.length_append];simp;omega⟩
    rw[Y9,er]
    exact Paired.snoc (Paired.ck dC fun v q' hq=>hq.same (sT.trans s4)) ⟨t,rfl,Zc⟩
  ·rintro ys σ H2 ⟨v0,v1,rfl,s2,dC,dq⟩ p hp
   have s4:af H2 (upd H2 p (.lst ys)):=fun c o hc=>by rw[Zf (Zg hc hp)];exact hc
   exact q p _ ys (s1.trans (s2.trans s4)) ((s1.trans s2).free hp) Zc (Paired.ck dC fun v q' hq=>hq.same s4)
end
end U.S
namespace U.S
open PySem L2 PyProof.Rows PyProof.Rows.jt
section
def eJ (p:aJ):aJ:=(p.2.2.1 - p.1,p.2.2.2 - p.2.1,p.1,p.2.2.1)
def mT (ks:List aJ):Prop:=(ks.map bq).Pairwise fun a b=>aG b a=false
theorem oM.same {H H':Hp}{v:V}{q:aJ}(h:oM H v q) (s:af H H'):oM H' v q:=by
 obtain⟨t,t',e,h1,h2⟩:=h
 exact⟨t,t',e,s _ _ h1,s _ _ h2⟩
theorem Qz (xs:List V):(bj xs).length≤xs.length:=by
 unfold bj
 have:=List.length_filterMap_le (fun l:Nat=> (rowAt xs l).map fun r=> ((l:Int),r)) (List.range xs.length)
 rw[List.length_range]at this
 exact this
theorem Em {α β:Type}(f:α→List β) (n:Nat):∀l:List α,(∀a∈l,(f a).length≤n)→(l.flatMap f).length≤l.length*n
 | [],_=>by simp
 |a::l,h=>by
  have h1:=h a List.mem_cons_self
  have h2:=Em f n l fun b hb=>h b (List.mem_cons_of_mem _ hb)
  rw[List.flatMap_cons,List.length_append,List.length_cons,Nat.succ_mul]
  omega
theorem RU (ps:List (Int×Int)):(dQ ps).length≤ps.length*ps.length:=by
 unfold dQ jb
 rw[List.take_length]
 refine Em _ _ _ fun a _=> ?_
 unfold pairsOf
 rw[List.length_map]
 refine Nat.le_trans (List.length_filter_le ..) ?_
 rw[List.length_take]
 exact Nat.min_le_right ..
theorem KD {H:Hp}{x y:V}{wd hg:Int}{xs:List V}(l:fe H x y wd hg xs):xs.length≤12:=by
 have h1:=l.2.2.len
 have h2:=l.1.2.2.1
 omega
theorem AG {H:Hp}{x y:V}{wd hg:Int}{xs:List V}(l:fe H x y wd hg xs):(dQ (bj xs)).length≤144:=by
 have h1:=RU (bj xs)
 have h2:=Qz xs
 have h3:=KD l
 have h4:(bj xs).length≤12:=by omega
 have h5:=Nat.mul_le_mul h4 h4
 omega
end
section
variable {P:Program}{w:World}{K:PySem.W.Frag}{mg:Str→Option Value}{base:Heap}
abbrev rW:Stmt:=top 30
def u7:Sp:=fun vs H Q _=> ∃x y wd hg xs,vs=[x,y]∧fe H x y wd hg xs∧∀(l:Addr) (H':Hp) (rs:List V) (ks:List aJ),af H H'→H l=none→H' l=some (.lst rs)→Paired (oM H') rs ks→ks.Perm ((dQ (bj xs)).map eJ)→mT ks→Q (.ref l) H'
theorem z4:bu ["board", "lay"] ["board", "lay"] (aC rW):=⟨rfl,rfl,rfl,by decide+kernel,rfl,by decide+kernel,by decide+kernel⟩
theorem HP {f:Addr}{fd:FuncData}(F:aK K "steps" "steps" rW f fd) (G:Gs mg) (D1:Def P w K mg base 8 "point_pairs" ["board", "lay"] ve):az P w K mg base aM 9 f fd ["board", "lay"] u7:=by
 refine F.ok z4 (fun vs H Q E h=> ?_) (fun ao A outer s H vs Q E hr h=> ?_)
 ·obtain⟨x,y,wd,hg,xs,rfl,_⟩:=h
  rfl
 ·obtain⟨x,y,wd,hg,xs,rfl,l,q⟩:=h
  have hu:=hr.units
  refine⟨_,Zj (Zw (Zm (JA (Nat.lt_of_le_of_lt (Nat.add_le_add_left (by decide:2≤64) _) hu)) rfl G.sorted PyProof.Rows.Boot.«sorted» (Za (Z8 ["line", "row", "other", "there"] 4 [] (Yb (Zi D1 hr (Za (pv 0) (Za (pv 1) Zb))))
    (fun C s H fp=>show PG (aZ _ _ _ C s H fp) _ (gZ K 4 (bT (bG 0) (bT (bG 1) (bT (bG 2) (bT (bG 3) g8))))) from ZZ rfl (Zo (pb 0) (Zo (pb 1) (Zo (pb 2) (Zo (pb 3) ZQ))))) (fun C s H fp=>Ya)
    (fun C s H fp D=>ZK rfl (Zs (Za (Zs (Za (Zr YL (pv 2) (pv 0)) (Za (Zr YL (pv 3) (pv 1)) Zb))) (Za (pv 0) (Za (pv 2) Zb)))))) Zb))),?_⟩
  refine⟨x,rfl,y,rfl,x,y,wd,hg,xs,rfl,l,fun fa H1 ps s1 eW hf pr=> ?_⟩
  have hlen:=AG l
  generalize Bu:dQ (bj xs)=qs at pr q hlen
  have tL:ps.length=qs.length:=Paired.length pr
  refine⟨fa,rfl,⟨ps,ag.of hf⟩,?_⟩
  refine Z9 (xs:=ps) (fun i ys σ H2=> ∃v0 v1 v2 v3,σ=[v0,v1,v2,v3]∧af H1 H2∧Paired (oM H2) ys ((qs.take i).map eJ)∧ys.length≤i) ⟨_,_,_,_,rfl,af.refl _,.nil,Nat.zero_le _⟩ (fun i ys σ H2 _ ⟨_,_,_,_,_,s2,_⟩=>ag.of (s2 _ _ hf)) ?_ ?_
  ·rintro i v ys σ H2 hv ⟨v0,v1,v2,v3,rfl,s2,dC,dq⟩
   obtain⟨⟨a,b,c,d⟩,hq,tt,rfl,tw⟩:=Y3 pr hv
   have hi:i<ps.length:=(List.getElem?_eq_some_iff.mp hv).1
   refine⟨tt,_,rfl,ah.of (s2 _ _ tw),rfl,_,_,rfl,_,_,rfl,_,_,rfl,_,_,rfl,rfl,?_⟩
   refine⟨_,rfl,_,rfl,c,a,rfl,rfl,_,rfl,_,rfl,d,b,rfl,rfl,(by show 2≤sizeLine;decide),fun t' oj=> ?_⟩
   refine⟨_,rfl,_,rfl,(by show 3≤sizeLine;decide),fun t ht=> ⟨by rw[sizeLine_eq];omega,?_⟩⟩
   generalize xT:upd H2 t' (HO.tup [V.int (c - a),V.int (d - b)])=H4 at ht
   have s4:af H2 H4:=fun e o hc=>by rw[←xT,Zf (Zg hc oj)];exact hc
   have l7:H4 t'=some (.tup [V.int (c - a),V.int (d - b)]):=by rw[←xT];exact Zc
   generalize qw:upd H4 t (HO.tup [V.ref t',V.int a,V.int c])=H5
   have s5:af H4 H5:=fun e o hc=>by rw[←qw,Zf (Zg hc ht)];exact hc
   have qg:H5 t=some (.tup [V.ref t',V.int a,V.int c]):=by rw[←qw];exact Zc
   refine⟨_,_,_,_,rfl,s2.trans (s4.trans s5),?_,by rw[List.length_append];simp;omega⟩
   rw[List.take_add_one,hq,List.map_append]
   exact Paired.snoc (Paired.ck dC fun v q' hq=>hq.same (s4.trans s5)) ⟨t,t',rfl,qg,s5 _ _ l7⟩
  ·rintro ys σ H2 ⟨v0,v1,v2,v3,rfl,s2,dC,dq⟩ p hp
   have s4:af H2 (upd H2 p (.lst ys)):=fun c o hc=>by rw[Zf (Zg hc hp)];exact hc
   rw[tL,List.take_length]at dC
   refine⟨p,ys,qs.map eJ,rfl,ag.of Zc,Paired.ck dC fun v q' hq=>hq.same s4,by omega,fun r oU qa Bt LJ LG fQ=> ?_⟩
   have s5:af (upd H2 p (.lst ys)) (upd (upd H2 p (.lst ys)) r (.lst oU)):=fun c o hc=>by rw[Zf (Zg hc Bt)];exact hc
   exact q r _ oU qa (s1.trans (s2.trans (s4.trans s5))) ((s1.trans (s2.trans s4)).free Bt) Zc (Paired.ck fQ fun v q' hq=>oM.same hq s5) LJ LG
end
section
theorem YW (a b:Int) (l m:List Int):aG (a::l) (b::m)=true↔a<b∨(a=b∧aG l m=true):=by
 have z:aG (a::l) (b::m)=if a=b then aG l m else decide (a<b):=rfl
 rw[z]
 by_cases e:a=b
 ·rw[if_pos e]
  constructor
  ·exact fun h=> .inr ⟨e,h⟩
  ·rintro(h |h)
   ·omega
   ·exact h.2
 ·rw[if_neg e,decide_eq_true_eq]
  constructor
  ·exact fun h=> .inl h
  ·rintro(h |h)
   ·exact h
   ·exact absurd h.1 e
theorem Jr:aG [] []=true↔False:=by simp[aG]
def dh (a b:aJ):Prop:=a.1=b.1∧a.2.1=b.2.1
instance (a b:aJ):Decidable (dh a b):=inferInstanceAs (Decidable (_∧_))
def four (a b:aJ):aJ:=(a.2.2.1,a.2.2.2,b.2.2.1,b.2.2.2)
def gO (a b:aJ):Bool:=aG [a.2.2.1,a.2.2.2] [b.2.2.1,b.2.2.2]
def kT (S:List aJ):Option aJ→Prop
 |none=> ∀a∈S,∀b∈S,dh a b→gO a b=false
 |some k=> (∃a∈S,∃b∈S,dh a b∧gO a b=true∧k=four a b)∧∀a∈S,∀b∈S,dh a b→gO a b=true→aG (bq (four a b)) (bq k)=false
def kN (ks:List aJ):List (aJ×aJ):=ks.zip (ks.drop 1)
def iE (ks:List aJ):List aJ:=((kN ks).filter fun p=>decide (dh p.1 p.2)).map fun p=>four p.1 p.2
theorem nf {b:Bool} :b=false↔¬b=true:=by cases b<;>simp
theorem mid {h d b:aJ}(h1:aG (bq d) (bq h)=false) (h2:aG (bq b) (bq d)=false) (s:dh h b):dh h d∧aG (bq (four h b)) (bq (four h d))=false:=by
 unfold bq at *
 unfold dh at *
 unfold four
 rw[nf]at *
 simp only[YW,Jr,and_false,or_false,false_or]at *
 omega
theorem DM {a b:aJ}(s:dh a b):aG (bq a) (bq b)=true↔gO a b=true:=by
 unfold bq gO dh at *
 simp only[YW,Jr,and_false,or_false]at *
 omega
theorem Dr {ks:List aJ}(hr:mT ks):∀a∈ks,∀b∈ks,dh a b→gO a b=true→∃p∈kN ks,dh p.1 p.2∧aG (bq (four a b)) (bq (four p.1 p.2))=false:=by
 induction ks with
 |nil=>intro a ha;cases ha
 |cons h r ih=>
  have cK:mT r:=(List.pairwise_cons.mp hr).2
  have hh:∀d∈r,aG (bq d) (bq h)=false:=fun d hd=> (List.pairwise_cons.mp hr).1 _ (List.mem_map_of_mem hd)
  intro a ha b hb s l
  have kl:=(DM s).mpr l
  rcases List.mem_cons.mp ha with rfl |xQ
  ·have dw:b∈r:=by
    rcases List.mem_cons.mp hb with rfl |hb
    ·have:=YB _ _ kl
     rw[kl]at this;cases this
    ·exact hb
   cases r with
   |nil=>cases dw
   |cons d r'=>
    have iQ:aG (bq b) (bq d)=false:=by
     rcases List.mem_cons.mp dw with rfl |gY
     ·cases hx:aG (bq b) (bq b) with
      |false=>rfl
      |true=>
       have:=YB _ _ hx
       rw[hx]at this;cases this
     ·exact(List.pairwise_cons.mp cK).1 _ (List.mem_map_of_mem gY)
    obtain⟨m1,m2⟩:=mid (hh d List.mem_cons_self) iQ s
    exact⟨(a,d),List.mem_cons_self,m1,m2⟩
  ·have dw:b∈r:=by
    rcases List.mem_cons.mp hb with rfl |hb
    ·have:=hh a xQ
     rw[kl]at this;cases this
    ·exact hb
   obtain⟨p,hp,q1,q2⟩:=ih cK a xQ b dw s l
   refine⟨p,?_,q1,q2⟩
   cases r with
   |nil=>cases xQ
   |cons d r'=>exact List.mem_cons_of_mem _ hp
theorem Pp {ks:List aJ}(hr:mT ks) (hn:ks.Nodup):∀p∈kN ks,dh p.1 p.2→p.1∈ks∧p.2∈ks∧gO p.1 p.2=true:=by
 induction ks with
 |nil=>intro p hp;cases hp
 |cons h r ih=>
  have cK:mT r:=(List.pairwise_cons.mp hr).2
  have hh:∀d∈r,aG (bq d) (bq h)=false:=fun d hd=> (List.pairwise_cons.mp hr).1 _ (List.mem_map_of_mem hd)
  have qm:=(List.nodup_cons.mp hn)
  intro p hp s
  cases r with
  |nil=>cases hp
  |cons d r'=>
   rcases List.mem_cons.mp (show p∈(h,d)::kN (d::r') from hp) with rfl |hp
   ·refine⟨List.mem_cons_self,List.mem_cons_of_mem _ List.mem_cons_self,(DM s).mp ?_⟩
    cases hx:aG (bq h) (bq d) with
    |true=>rfl
    |false=>
     have e:=Rr (Ec _ _ hx (hh d List.mem_cons_self))
     rw[e]at qm
     exact absurd List.mem_cons_self qm.1
   ·obtain⟨q1,q2,q3⟩:=ih cK qm.2 p hp s
    exact⟨List.mem_cons_of_mem _ q1,List.mem_cons_of_mem _ q2,q3⟩
theorem JK {ks:List aJ}{k:aJ} :k∈iE ks↔∃p∈kN ks,dh p.1 p.2∧four p.1 p.2=k:=by
 unfold iE
 rw[List.mem_map]
 constructor
 ·rintro⟨p,hp,e⟩
  rw[List.mem_filter,decide_eq_true_eq]at hp
  exact⟨p,hp.1,hp.2,e⟩
 ·rintro⟨p,hp,s,e⟩
  exact⟨p,List.mem_filter.mpr ⟨hp,decide_eq_true s⟩,e⟩
theorem SM {ks:List aJ}(hr:mT ks) (h:iE ks=[]):kT ks none:=fun a ha b hb s=>by
 cases hl:gO a b with
 |false=>rfl
 |true=>
  obtain⟨p,hp,q,_⟩:=Dr hr a ha b hb s hl
  have:four p.1 p.2∈iE ks:=JK.mpr ⟨p,hp,q,rfl⟩
  rw[h]at this;cases this
theorem SN {ks:List aJ}(hr:mT ks) (hn:ks.Nodup) {k:aJ}(hk:k∈iE ks) (hm:∀k'∈iE ks,aG (bq k') (bq k)=false):kT ks (some k):=by
 obtain⟨p,hp,s,e⟩:=JK.mp hk
 obtain⟨m1,m2,m3⟩:=Pp hr hn p hp s
 refine⟨⟨p.1,m1,p.2,m2,s,m3,e.symm⟩,fun a ha b hb s' l=> ?_⟩
 obtain⟨p',xc,q1,q2⟩:=Dr hr a ha b hb s' l
 exact YO _ _ _ (hm _ (JK.mpr ⟨p',xc,q1,rfl⟩)) q2
def yZ (xs:List V) (q:aJ):Prop:=∃l o:Nat,l<o∧o<xs.length∧rA xs o l=some q
theorem Yf {xs:List V}{p:Int×Int} :p∈bj xs↔∃l:Nat,l<xs.length∧rowAt xs l=some p.2∧p.1=(l:Int):=by
 unfold bj
 rw[List.mem_filterMap]
 constructor
 ·rintro⟨l,hl,e⟩
  rw[Option.map_eq_some_iff]at e
  obtain⟨r,hr,rfl⟩:=e
  exact⟨l,List.mem_range.mp hl,hr,rfl⟩
 ·rintro⟨l,hl,hr,e⟩
  refine⟨l,List.mem_range.mpr hl,?_⟩
  rw[hr,Option.map_some,←e]
theorem Qi {xs:List V}{q:aJ} :q∈gP xs xs.length↔yZ xs q:=by
 unfold gP rq yZ
 simp only[List.mem_flatMap,List.mem_filterMap,List.mem_range]
 constructor
 ·rintro⟨o,ho,l,hl,e⟩
  exact⟨l,o,hl,ho,e⟩
 ·rintro⟨l,o,hl,ho,e⟩
  exact⟨o,ho,l,hl,e⟩
theorem Yg {xs:List V}{o l:Nat}{q:aJ} :rA xs o l=some q↔∃a b,rowAt xs l=some a∧rowAt xs o=some b∧q=((o:Int) - l,b - a,(l:Int),(o:Int)):=by
 unfold rA
 cases h1:rowAt xs l with
 |none=>simp
 |some a=>
  cases h2:rowAt xs o with
  |none=>simp
  |some b=>
   simp only[Option.bind_some,Option.map_some,Option.some.injEq]
   constructor
   ·rintro rfl
    exact⟨a,b,rfl,rfl,rfl⟩
   ·rintro⟨_,_,rfl,rfl,rfl⟩
    rfl
theorem Q9 {xs:List V}{q:aJ} :q∈(dQ (bj xs)).map eJ↔yZ xs q:=by
 unfold dQ jb
 rw[List.take_length]
 simp only[List.mem_map,List.mem_flatMap,pairsOf,List.take_length,List.mem_filter,decide_eq_true_eq]
 constructor
 ·rintro⟨_,⟨a,ha,b,⟨hb,ay⟩,rfl⟩,rfl⟩
  obtain⟨l,hl,hr,e⟩:=Yf.mp ha
  obtain⟨o,ho,cK,e'⟩:=Yf.mp hb
  refine⟨l,o,by omega,ho,Yg.mpr ⟨a.2,b.2,hr,cK,?_⟩⟩
  unfold eJ
  rw[e,e']
 ·rintro⟨l,o,hl,ho,e⟩
  obtain⟨a,b,h1,h2,rfl⟩:=Yg.mp e
  exact⟨((l:Int),a,(o:Int),b),⟨((l:Int),a),Yf.mpr ⟨l,by omega,h1,rfl⟩,((o:Int),b),⟨Yf.mpr ⟨o,ho,h2,rfl⟩,by show(l:Int)< (o:Int);omega⟩,rfl⟩,rfl⟩
theorem W6 (xs:List V) (n:Nat):(gP xs n).Nodup:=by
 unfold gP
 rw[List.nodup_iff_pairwise_ne,List.pairwise_flatMap]
 refine⟨fun o _=> ?_,?_⟩
 ·unfold rq
  rw[List.pairwise_filterMap]
  refine List.Pairwise.imp ?_ (List.nodup_iff_pairwise_ne.mp List.nodup_range)
  intro l l' bZ q hq q' dW e
  obtain⟨_,_,_,_,rfl⟩:=Yg.mp hq
  obtain⟨_,_,_,_,rfl⟩:=Yg.mp dW
  simp only[Prod.mk.injEq]at e
  omega
 ·refine List.Pairwise.imp ?_ (List.nodup_iff_pairwise_ne.mp List.nodup_range)
  intro o o' bZ q hq q' dW e
  unfold rq at hq dW
  rw[List.mem_filterMap]at hq dW
  obtain⟨l,_,hq⟩:=hq
  obtain⟨l',_,dW⟩:=dW
  obtain⟨_,_,_,_,rfl⟩:=Yg.mp hq
  obtain⟨_,_,_,_,rfl⟩:=Yg.mp dW
  simp only[Prod.mk.injEq]at e
  omega
theorem Dy (xs:List V):(bj xs).Pairwise fun a b=>a.1≠b.1:=by
 unfold bj
 rw[List.pairwise_filterMap]
 refine List.Pairwise.imp ?_ (List.nodup_iff_pairwise_ne.mp List.nodup_range)
 intro l l' bZ q hq q' dW
 rw[Option.map_eq_some_iff]at hq dW
 obtain⟨_,_,rfl⟩:=hq
 obtain⟨_,_,rfl⟩:=dW
 show(l:Int)≠(l':Int)
 omega
theorem Wm (xs:List V):((dQ (bj xs)).map eJ).Nodup:=by
 unfold dQ jb
 rw[List.take_length,List.nodup_iff_pairwise_ne,List.pairwise_map,List.pairwise_flatMap]
 refine⟨fun a _=> ?_,?_⟩
 ·unfold pairsOf
  rw[List.take_length,List.pairwise_map]
  refine List.Pairwise.imp ?_ ((Dy xs).filter _)
  intro b b' bZ e
  unfold eJ at e
  simp only[Prod.mk.injEq]at e
  exact bZ e.2.2.2
 ·refine List.Pairwise.imp ?_ (Dy xs)
  intro a a' bZ q hq q' dW e
  unfold pairsOf at hq dW
  rw[List.mem_map]at hq dW
  obtain⟨b,_,rfl⟩:=hq
  obtain⟨b',_,rfl⟩:=dW
  unfold eJ at e
  simp only[Prod.mk.injEq]at e
  exact bZ e.2.2.1
theorem Yk (xs:List V):((dQ (bj xs)).map eJ).Perm (gP xs xs.length):=
 (List.perm_ext_iff_of_nodup (Wm xs) (W6 xs _)).mpr fun q=>Q9.trans Qi.symm
theorem OD (vs:List V):aV vs (some 1) none=vs.drop 1:=by
 unfold aV HT.aF
 cases vs with
 |nil=>rfl
 |cons a r=>simp
def n8 (ks:List aJ) (i:Nat):List aJ:=(((kN ks).take i).filter fun p=>decide (dh p.1 p.2)).map fun p=>four p.1 p.2
theorem UJ {ks:List aJ}{i:Nat}{a b:aJ}(h1:ks[i]? =some a) (h2:(ks.drop 1)[i]? =some b):n8 ks (i+1)=n8 ks i++(if decide (dh a b)=true then [four a b] else []):=by
 have e:(kN ks)[i]? =some (a,b):=List.getElem?_zip_eq_some.mpr ⟨h1,h2⟩
 unfold n8
 rw[List.take_add_one,e,List.filter_append,List.map_append]
 by_cases h:dh a b<;>simp[h]
def Ti (H:Hp) (v:V):Option aJ→Prop
 |none=>v=.ae
 |some k=>iY H v k
end
section
variable {P:Program}{w:World}{K:PySem.W.Frag}{mg:Str→Option Value}{base:Heap}
abbrev sj:Stmt:=top 31
def vt:Sp:=fun vs H Q _=> ∃x y wd hg xs,vs=[x,y]∧fe H x y wd hg xs∧∀(H':Hp) (v:V) (r:Option aJ),af H H'→kT (gP xs xs.length) r→Ti H' v r→Q v H'
theorem pI:bu ["board", "lay", "told", "likes"] ["board", "lay"] (aC sj):=⟨rfl,rfl,rfl,by decide+kernel,rfl,by decide+kernel,by decide+kernel⟩
theorem Ip {f:Addr}{fd:FuncData}(F:aK K "first_like" "first_like" sj f fd) (G:Gs mg) (D1:Def P w K mg base 9 "steps" ["board", "lay"] u7):az P w K mg base aM 10 f fd ["board", "lay"] vt:=by
 refine F.ok pI (fun vs H Q E h=> ?_) (fun ao A outer s H vs Q E hr h=> ?_)
 ·obtain⟨x,y,wd,hg,xs,rfl,_⟩:=h
  rfl
 ·obtain⟨x,y,wd,hg,xs,rfl,l,q⟩:=h
  have hu:=WA hr
  refine⟨_,Ze (Zu (i:=2) pI.nd rfl (Or.inl rfl) (Zi D1 hr (Za (pv 0) (Za (pv 1) Zb))))
   (Ze (Jk ["step", "line", "other", "beside", "here", "there"] 6 [] (i:=3) pI.nd rfl (Or.inl rfl) (EL rfl G.zip (Za (pv 2) (Za (ZW ED (pv 2) (Z6 Zh) Z7) Zb)))
    (fun C s H fp=>show PG (aZ _ _ _ C s H fp) _ (gZ K 2 (bT (gZ K 3 (bT (bG 0) (bT (bG 1) (bT (bG 2) g8)))) (bT (gZ K 3 (bT (bG 3) (bT (bG 4) (bT (bG 5) g8)))) g8))) from
     ZZ rfl (Zo (ZZ rfl (Zo (pb 0) (Zo (pb 1) (Zo (pb 2) ZQ)))) (Zo (ZZ rfl (Zo (pb 3) (Zo (pb 4) (Zo (pb 5) ZQ)))) ZQ)))
    (fun C s H fp=>Yp (ZJ (show bf (aZ _ _ _ C s H fp) (compareOp .Eq) (fun x y H Q=> ∃(a b:Addr) (ns ms:List Int),x=.ref a∧y=.ref b∧ah K H a (ns.map V.int)∧ah K H b (ms.map V.int)∧Q (.bl (decide (ns=ms))) H) from Qs hr.uR) (pv 0) (pv 3) (bK _)))
    (fun C s H fp D=>ZK rfl (Zs (Za (pv 1) (Za (pv 2) (Za (pv 4) (Za (pv 5) Zb)))))))
   (Zj (Zw (Qw rfl hu rfl G.min (pv 3))))),?_⟩
  refine⟨x,rfl,y,rfl,x,y,wd,hg,xs,rfl,l,fun fa H1 ps ks s1 eW hf pr perm rise=> ?_⟩
  have L9:ps.length=ks.length:=Paired.length pr
  have hlen:ks.length≤144:=by
   rw[perm.length_eq,List.length_map]
   exact AG l
  refine⟨_,rfl,_,rfl,_,rfl,fa,ps,rfl,ag.of hf,fun c hc=> ?_⟩
  generalize oG:upd H1 c (HO.lst (aV ps (some 1) none))=H2
  have s2:af H1 H2:=fun b o hb=>by rw[←oG,Zf (Zg hb hc)];exact hb
  have iR:H2 c=some (.lst (ps.drop 1)):=by rw[←oG,OD];exact Zc
  have kG:=s2 _ _ hf
  refine⟨fa,c,rfl,⟨_,_,ag.of kG,ag.of iR⟩,?_⟩
  refine W8 (xs:=ps) (zs:=ps.drop 1) (fun i ys σ H3=> ∃v0 v1 v2 v3 v4 v5,σ=[v0,v1,v2,v3,v4,v5]∧af H2 H3∧Paired (iY H3) ys (n8 ks i)∧ys.length≤i) ⟨_,_,_,_,_,_,rfl,af.refl _,.nil,Nat.zero_le _⟩
   (fun i ys σ H3 _ ⟨_,_,_,_,_,_,_,s3,_⟩=> ⟨ag.of (s3 _ _ kG),ag.of (s3 _ _ iR)⟩) ?_ ?_
  ·rintro i va vb T ys σ H3 Bn La hT ⟨v0,v1,v2,v3,v4,v5,rfl,s3,fQ,kF⟩
   have hi:i<ps.length:=(List.getElem?_eq_some_iff.mp Bn).1
   obtain⟨a,mi,ta,FV,rfl,Lj,Li⟩:=Y3 pr Bn
   have K9:ps[1+i]? =some vb:=by rw[←List.getElem?_drop];exact La
   obtain⟨b,mf,tb,FU,rfl,qf,Lg⟩:=Y3 pr K9
   have xr:(ks.drop 1)[i]? =some b:=by rw[List.getElem?_drop];exact mf
   have es:=UJ mi xr
   have sT:af H3 (upd H3 T (.par [.ref ta,.ref tb])):=fun e o hc=>by rw[Zf (Zg hc hT)];exact hc
   have sA:af H1 (upd H3 T (.par [.ref ta,.ref tb])):=s2.trans (s3.trans sT)
   refine⟨T,_,rfl,ah.nX Zc,rfl,_,_,rfl,ta,_,rfl,ah.of (sA _ _ Lj),rfl,_,_,rfl,_,_,rfl,_,_,rfl,rfl,_,_,rfl,tb,_,rfl,ah.of (sA _ _ qf),rfl,_,_,rfl,_,_,rfl,_,_,rfl,rfl,rfl,?_⟩
   generalize xT:upd H3 T (HO.par [V.ref ta,V.ref tb])=H4 at sT sA
   refine⟨_,rfl,_,rfl,FV,FU,[a.1,a.2.1],[b.1,b.2.1],rfl,rfl,ah.of (sA _ _ Li),ah.of (sA _ _ Lg),_,rfl,?_⟩
   by_cases hs:dh a b
   ·rw[decide_eq_true hs,if_pos rfl]at es
    have ed:decide ([a.1,a.2.1]=[b.1,b.2.1])=true:=decide_eq_true (by rw[hs.1,hs.2])
    rw[ed]
    refine aW ?_
    refine⟨_,rfl,_,rfl,_,rfl,_,rfl,(by show 4≤sizeLine;decide),fun t4 l7=> ⟨by rw[sizeLine_eq];omega,?_⟩⟩
    generalize qw:upd H4 t4 (HO.tup [V.int a.2.2.1,V.int a.2.2.2,V.int b.2.2.1,V.int b.2.2.2])=H5
    have s5:af H4 H5:=fun e o hc=>by rw[←qw,Zf (Zg hc l7)];exact hc
    refine⟨_,_,_,_,_,_,rfl,s3.trans (sT.trans s5),?_,by rw[List.length_append];simp;omega⟩
    rw[es]
    exact Paired.snoc (Paired.ck fQ fun v q' hq=>hq.same (sT.trans s5)) ⟨t4,rfl,by rw[←qw];exact Zc⟩
   ·rw[decide_eq_false hs,if_neg Bool.false_ne_true,List.append_nil]at es
    have ed:decide ([a.1,a.2.1]=[b.1,b.2.1])=false:=decide_eq_false (fun e=>hs (by simp only[List.cons.injEq,and_true]at e;exact e))
    rw[ed]
    refine aH ⟨_,_,_,_,_,_,rfl,s3.trans sT,?_,by omega⟩
    rw[es]
    exact Paired.ck fQ fun v q' hq=>hq.same sT
  ·rintro ys σ H3 ⟨v0,v1,v2,v3,v4,v5,rfl,s3,fQ,kF⟩ p hp
   have s4:af H3 (upd H3 p (.lst ys)):=fun e o hc=>by rw[Zf (Zg hc hp)];exact hc
   have et:n8 ks (min ps.length (ps.drop 1).length)=iE ks:=by
    unfold n8 iE
    rw[List.take_of_length_le]
    unfold kN
    rw[List.length_zip,List.length_drop,List.length_drop,L9]
    exact Nat.le_refl _
   rw[et]at fQ
   have fw:Paired (iY (upd H3 p (.lst ys))) ys (iE ks):=Paired.ck fQ fun v q' hq=>hq.same s4
   have sA:af H (upd H3 p (.lst ys)):=s1.trans (s2.trans (s3.trans s4))
   have cG:∀z,z∈ks↔z∈gP xs xs.length:=fun z=> (perm.trans (Yk xs)).mem_iff
   have jg:ks.Nodup:=(perm.trans (Yk xs)).nodup_iff.mpr (W6 xs _)
   have conv:∀r,kT ks r→kT (gP xs xs.length) r:=fun r hr=>by
    cases r with
    |none=>exact fun a ha b hb s=>hr a ((cG a).mpr ha) b ((cG b).mpr hb) s
    |some k=>
     obtain⟨⟨a,ha,b,hb,w⟩,h2⟩:=hr
     exact⟨⟨a,(cG a).mp ha,b,(cG b).mp hb,w⟩,fun a ha b hb s l=>h2 a ((cG a).mpr ha) b ((cG b).mpr hb) s l⟩
   refine⟨_,rfl,p,ys,(iE ks).map bq,rfl,ag.of Zc,?_,fun e=> ?_,fun v k hv hk oh LZ=> ?_⟩
   ·have:∀{ys:List V}{ls:List aJ},Paired (iY (upd H3 p (.lst ys))) ys ls→Paired (ba (upd H3 p (.lst ys))) ys (ls.map bq):=by
     intro ys ls h
     generalize (upd H3 p (.lst ys))=H9 at h
     induction h with
     |nil=>exact .nil
     |cons h1 _ ih=>exact .cons h1 ih
    exact this fw
   ·subst e
    have el:iE ks=[]:=by
     have:=Paired.length fw
     exact List.length_eq_zero_iff.mp this.symm
    exact q _ .ae none sA (conv _ (SM rise el)) rfl
   ·obtain⟨k4,xt,rfl⟩:=List.mem_map.mp hk
    exact q _ v (some k4) sA (conv _ (SN rise jg xt fun k' aN=>LZ _ (List.mem_map_of_mem aN))) oh
abbrev rV:Stmt:=top 32
def pz:Sp:=fun vs H Q _=> ∃x y wd hg xs,vs=[x,y]∧fe H x y wd hg xs∧∀(H':Hp) (r:Option aJ),af H H'→kT (gP xs xs.length) r→Q (.bl r.isNone) H'
theorem zZ:bu ["board", "lay"] ["board", "lay"] (aC rV):=⟨rfl,rfl,rfl,by decide+kernel,rfl,by decide+kernel,by decide+kernel⟩
theorem HM {f:Addr}{fd:FuncData}(F:aK K "is_unlike" "is_unlike" rV f fd) (D1:Def P w K mg base 10 "first_like" ["board", "lay"] vt):az P w K mg base aM 11 f fd ["board", "lay"] pz:=by
 refine F.ok zZ (fun vs H Q E h=> ?_) (fun ao A outer s H vs Q E hr h=> ?_)
 ·obtain⟨x,y,wd,hg,xs,rfl,_⟩:=h
  rfl
 ·obtain⟨x,y,wd,hg,xs,rfl,l,q⟩:=h
  refine⟨_,Zj (Zw (DI (YG (Zi D1 hr (Za (pv 0) (Za (pv 1) Zb)))))),?_⟩
  refine⟨x,rfl,y,rfl,x,y,wd,hg,xs,rfl,l,fun H1 v r s1 hf ho=> ?_⟩
  have:=q H1 r s1 hf
  cases r with
  |none=>
   have e:v=.ae:=ho
   subst e
   exact this
  |some k=>
   obtain⟨t,rfl,_⟩:=(show iY H1 v k from ho)
   exact this
end
end U.S
namespace U.S
open PySem L2 PyProof.Rows
section
structure ze (K:PySem.W.Frag) (mg:Str→Option Value) (cB cL:Addr):Prop where
 mB:mg "NoBoard" =some (.ref cB)
 xB:PySem.W.excIn K cB qH "ValueError.__new__" =true
 mL:mg "NoLay" =some (.ref cL)
 xL:PySem.W.excIn K cL qH "ValueError.__new__" =true
def Fj (K:PySem.W.Frag) (cB cL:Addr) (H:Hp) (x y:V) (C:Addr):Prop:=
 (C=cB∧i5 K H x)∨(C=cL∧∃wd hg,bM H x wd hg∧eD K H y∧cA wd hg (bh H y)=false)
end
section
variable {P:Program}{w:World}{K:PySem.W.Frag}{mg:Str→Option Value}{base:Heap}{cB cL:Addr}
theorem Ih {f:Addr}{fd:FuncData}(F:aK K "need_board" "need_board" r8 f fd) (G:Gs mg) (X:ze K mg cB cL) (D1:Def P w K mg base 3 "is_board" ["thing"] (rL K)):az P w K mg base (bE P w) 4 f fd ["board"] (vj K cB):=by
 obtain⟨tk,hL⟩:=G.longest
 refine F.iB Ag (fun vs H Q E h=> ?_) (fun ao A outer s H vs Q E hr h=> ?_)
 ·obtain⟨x,rfl,_⟩:=h
  rfl
 ·obtain⟨x,rfl,b,q⟩:=h
  refine⟨_,Zj (ZO (Z2 (ZM (Zi D1 hr (Za (pv 0) Zb)))) (Zj (Wg PySem.F.excBase_ValueError X.mB X.xB rfl (Za (Qv Yt (YF (v:=.int 12) rfl hL ⟨_,rfl⟩)) Zb))) Zz),?_⟩
  refine⟨x,rfl,x,rfl,b.1,fun H' sm=> ⟨_,rfl,?_⟩⟩
  rw[b.2]
  exact aW ⟨_,rfl,by decide,12,rfl,by decide,by decide,fun z=> ⟨by show 1≤sizeLine;decide,fun e=>q e H' sm⟩⟩
def dN (K:PySem.W.Frag) (cB cL:Addr):Sp:=fun vs H _ E=> ∃x y C,vs=[x,y]∧Fj K cB cL H x y C∧∀e H',af H H'→E (.ref e) (some C) H'
theorem Ie {f:Addr}{fd:FuncData}(F:aK K "need_lay" "need_lay" pK f fd) (X:ze K mg cB cL) (D1:bD P w K mg base 5 "is_lay" ["board", "thing"] (vk K cB)) (D2:Def P w K mg base 5 "is_lay" ["board", "thing"] (rJ K)):
  az P w K mg base (bE P w) 6 f fd ["board", "lay"] (dN K cB cL):=by
 refine F.iB Af (fun vs H Q E h=> ?_) (fun ao A outer s H vs Q E hr h=> ?_)
 ·obtain⟨x,y,C,rfl,_⟩:=h
  rfl
 ·obtain⟨x,y,C,rfl,b,q⟩:=h
  rcases b with ⟨rfl,b⟩ |⟨rfl,wd,hg,b1,b2,b3⟩
  ·refine⟨_,Zj (ZO (Z2 (ZM (Z0 D1 hr (Za (pv 0) (Za (pv 1) Zb))))) Zt Zz),?_⟩
   exact⟨x,rfl,y,rfl,x,y,rfl,b,q⟩
  ·refine⟨_,Zj (ZO (Z2 (ZM (Zi D2 hr (Za (pv 0) (Za (pv 1) Zb))))) (Zj (Wg PySem.F.excBase_ValueError X.mL X.xL rfl (Za Yt Zb))) Zz),?_⟩
   refine⟨x,rfl,y,rfl,x,y,wd,hg,rfl,b1,b2,fun H' sm=> ⟨_,rfl,?_⟩⟩
   rw[b3]
   exact aW ⟨by show 1≤sizeLine;decide,fun e=>q e H' sm⟩
theorem HV {f:Addr}{fd:FuncData}(F:aK K "points" "points" rY f fd) (D1:bD P w K mg base 6 "need_lay" ["board", "lay"] (dN K cB cL)):az P w K mg base (bE P w) 7 f fd ["board", "lay"] (dN K cB cL):=by
 refine F.iB Ac (fun vs H Q E h=> ?_) (fun ao A outer s H vs Q E hr h=> ?_)
 ·obtain⟨x,y,C,rfl,_⟩:=h
  rfl
 ·obtain⟨x,y,C,rfl,b,q⟩:=h
  refine⟨_,Ze (ZX (Z0 D1 hr (Za (pv 0) (Za (pv 1) Zb)))) Zt,?_⟩
  exact⟨x,rfl,y,rfl,x,y,C,rfl,b,q⟩
theorem HZ {f:Addr}{fd:FuncData}(F:aK K "point_pairs" "point_pairs" rZ f fd) (D1:bD P w K mg base 7 "points" ["board", "lay"] (dN K cB cL)):az P w K mg base (bE P w) 8 f fd ["board", "lay"] (dN K cB cL):=by
 refine F.iB rQ (fun vs H Q E h=> ?_) (fun ao A outer s H vs Q E hr h=> ?_)
 ·obtain⟨x,y,C,rfl,_⟩:=h
  rfl
 ·obtain⟨x,y,C,rfl,b,q⟩:=h
  refine⟨_,Ze (Zu (i:=2) rQ.nd rfl (Or.inr rfl) (Z0 D1 hr (Za (pv 0) (Za (pv 1) Zb)))) Zt,?_⟩
  exact⟨x,rfl,y,rfl,x,y,C,rfl,b,q⟩
end
end U.S
namespace U.S
open PySem L2 PyProof.Rows PyProof.Rows.jt
section
variable {P:Program}{w:World}{K:PySem.W.Frag}{mg:Str→Option Value}{base:Heap}{cB cL:Addr}
theorem HN {f:Addr}{fd:FuncData}(F:aK K "steps" "steps" rW f fd) (G:Gs mg) (D1:bD P w K mg base 8 "point_pairs" ["board", "lay"] (dN K cB cL)):az P w K mg base (bE P w) 9 f fd ["board", "lay"] (dN K cB cL):=by
 refine F.iB z4 (fun vs H Q E h=> ?_) (fun ao A outer s H vs Q E hr h=> ?_)
 ·obtain⟨x,y,C,rfl,_⟩:=h
  rfl
 ·obtain⟨x,y,C,rfl,b,q⟩:=h
  have hu:=hr.units
  refine⟨_,Zj (Zw (Zm (JA (Nat.lt_of_le_of_lt (Nat.add_le_add_left (by decide:2≤64) _) hu)) rfl G.sorted PyProof.Rows.Boot.«sorted» (Za (Z8 ["line", "row", "other", "there"] 4 [] (Yb (Z0 D1 hr (Za (pv 0) (Za (pv 1) Zb))))
    (fun C s H fp=>show PG (aZ _ _ _ C s H fp) _ (gZ K 4 (bT (bG 0) (bT (bG 1) (bT (bG 2) (bT (bG 3) g8))))) from ZZ rfl (Zo (pb 0) (Zo (pb 1) (Zo (pb 2) (Zo (pb 3) ZQ))))) (fun C s H fp=>Ya)
    (fun C s H fp D=>ZK rfl (Zs (Za (Zs (Za (Zr YL (pv 2) (pv 0)) (Za (Zr YL (pv 3) (pv 1)) Zb))) (Za (pv 0) (Za (pv 2) Zb)))))) Zb))),?_⟩
  exact⟨x,rfl,y,rfl,x,y,C,rfl,b,q⟩
theorem Io {f:Addr}{fd:FuncData}(F:aK K "first_like" "first_like" sj f fd) (D1:bD P w K mg base 9 "steps" ["board", "lay"] (dN K cB cL)):az P w K mg base (bE P w) 10 f fd ["board", "lay"] (dN K cB cL):=by
 refine F.iB pI (fun vs H Q E h=> ?_) (fun ao A outer s H vs Q E hr h=> ?_)
 ·obtain⟨x,y,C,rfl,_⟩:=h
  rfl
 ·obtain⟨x,y,C,rfl,b,q⟩:=h
  refine⟨_,Ze (Zu (i:=2) pI.nd rfl (Or.inl rfl) (Z0 D1 hr (Za (pv 0) (Za (pv 1) Zb)))) Zt,?_⟩
  exact⟨x,rfl,y,rfl,x,y,C,rfl,b,q⟩
theorem HL {f:Addr}{fd:FuncData}(F:aK K "is_unlike" "is_unlike" rV f fd) (D1:bD P w K mg base 10 "first_like" ["board", "lay"] (dN K cB cL)):az P w K mg base (bE P w) 11 f fd ["board", "lay"] (dN K cB cL):=by
 refine F.iB zZ (fun vs H Q E h=> ?_) (fun ao A outer s H vs Q E hr h=> ?_)
 ·obtain⟨x,y,C,rfl,_⟩:=h
  rfl
 ·obtain⟨x,y,C,rfl,b,q⟩:=h
  refine⟨_,Zj (Zw (DI (YG (Z0 D1 hr (Za (pv 0) (Za (pv 1) Zb)))))),?_⟩
  exact⟨x,rfl,y,rfl,x,y,C,rfl,b,q⟩
end
section
theorem O3 (xs:List V):(bj xs).Pairwise fun a b=>a.1<b.1:=by
 unfold bj
 refine List.pairwise_filterMap.mpr (List.Pairwise.imp ?_ (List.pairwise_lt_range (n:=xs.length)))
 intro a b oF p hp q hq
 obtain⟨r,hr,rfl⟩:=Option.map_eq_some_iff.mp hp
 obtain⟨r',cK,rfl⟩:=Option.map_eq_some_iff.mp hq
 show(a:Int)< (b:Int)
 omega
def lD (ps:List (Int×Int)):List aJ:=ps.flatMap fun a=> (ps.filter fun b=>decide (a.1<b.1)).map fun b=> (a.1,a.2,b.1,b.2)
theorem W4 (ps:List (Int×Int)):dQ ps=lD ps:=by
 unfold dQ jb lD pairsOf
 rw[List.take_length]
theorem WO {α β:Type}{f:α→β}{l:List α}(h:l.Nodup):(l.map f).Nodup↔∀a∈l,∀b∈l,f a=f b→a=b:=by
 rw[List.nodup_iff_pairwise_ne,List.pairwise_map]
 constructor
 ·intro pw a ha b hb e
  obtain⟨i,hi,rfl⟩:=List.getElem_of_mem ha
  obtain⟨j,hj,rfl⟩:=List.getElem_of_mem hb
  have p:=List.pairwise_iff_getElem.mp pw
  rcases Nat.lt_trichotomy i j with q |q |q
  ·exact absurd e (p i j hi hj q)
  ·subst q;rfl
  ·exact absurd e.symm (p j i hj hi q)
 ·intro inj
  refine List.Pairwise.imp_of_mem ?_ (List.nodup_iff_pairwise_ne.mp h)
  intro a b ha hb ne e
  exact ne (inj a ha b hb e)
theorem U4 (xs:List V):(dQ (bj xs)).Nodup:=by
 have:=Wm xs
 rw[List.nodup_iff_pairwise_ne,List.pairwise_map]at this
 exact List.nodup_iff_pairwise_ne.mpr (List.Pairwise.imp (fun h e=>h (by rw[e])) this)
theorem EI {xs:List V}{p:aJ} :p∈dQ (bj xs)↔∃l o:Nat,l<o∧o<xs.length∧∃a b,rowAt xs l=some a∧rowAt xs o=some b∧p=((l:Int),a,(o:Int),b):=by
 rw[W4]
 unfold lD
 rw[List.mem_flatMap]
 constructor
 ·rintro⟨a,ha,hq⟩
  obtain⟨b,hb,rfl⟩:=List.mem_map.mp hq
  obtain⟨cQ,gY⟩:=List.mem_filter.mp hb
  obtain⟨l,hl,hr,e⟩:=Yf.mp ha
  obtain⟨o,ho,cK,e'⟩:=Yf.mp cQ
  have:=of_decide_eq_true gY
  refine⟨l,o,by omega,ho,a.2,b.2,hr,cK,by rw[e,e']⟩
 ·rintro⟨l,o,h1,h2,a,b,h3,h4,rfl⟩
  exact⟨((l:Int),a),Yf.mpr ⟨l,by omega,h3,rfl⟩,List.mem_map.mpr ⟨((o:Int),b),List.mem_filter.mpr ⟨Yf.mpr ⟨o,h2,h4,rfl⟩,decide_eq_true (by show(l:Int)<o;omega)⟩,rfl⟩⟩
def yO (xs:List V):Prop:=∀p∈dQ (bj xs),∀q∈dQ (bj xs),dh (eJ p) (eJ q)→p=q
theorem Pg {a b:aJ}(h:a.2.2.1≠b.2.2.1∨a.2.2.2≠b.2.2.2):gO a b=true∨gO b a=true:=by
 unfold gO
 simp only[YW,Jr,and_false,or_false]
 omega
theorem PR {xs:List V}{r:Option aJ}(f:kT (gP xs xs.length) r):r.isNone=true↔yO xs:=by
 have mem:∀{p:aJ},p∈dQ (bj xs)→eJ p∈gP xs xs.length:=fun hp=> (Yk xs).mem_iff.mp (List.mem_map_of_mem hp)
 cases r with
 |none=>
  refine⟨fun _ p hp q hq s=> ?_,fun _=>rfl⟩
  refine Classical.byContradiction fun ne=> ?_
  obtain⟨l,o,_,_,a,b,g1,g2,rfl⟩:=EI.mp hp
  obtain⟨l',o',_,_,a',b',g3,g4,rfl⟩:=EI.mp hq
  have d:(l:Int)≠(l':Int)∨(o:Int)≠(o':Int):=by
   refine Classical.byContradiction fun c=>ne ?_
   have e1:l=l':=by omega
   have e2:o=o':=by omega
   subst e1 e2
   rw[g1]at g3
   rw[g2]at g4
   cases g3
   cases g4
   rfl
  rcases Pg (a:=eJ ((l:Int),a,(o:Int),b)) (b:=eJ ((l':Int),a',(o':Int),b')) d with z |z
  ·have:=f _ (mem hp) _ (mem hq) s
   rw[z]at this
   cases this
  ·have:=f _ (mem hq) _ (mem hp) ⟨s.1.symm,s.2.symm⟩
   rw[z]at this
   cases this
 |some k=>
  refine⟨fun h=> (by cases h),fun h=> ?_⟩
  obtain⟨⟨a,ha,b,hb,s,l,_⟩,_⟩:=f
  obtain⟨p,hp,rfl⟩:=List.mem_map.mp ((Yk xs).mem_iff.mpr ha)
  obtain⟨q,hq,rfl⟩:=List.mem_map.mp ((Yk xs).mem_iff.mpr hb)
  rw[h p hp q hq s]at l
  unfold gO at l
  simp only[YW,Jr,and_false,or_false]at l
  omega
end
end U.S
namespace U.S
open PySem L2 PyProof.Rows
section
def sk (a b:Int×Int):List Int:=[b.1 - a.1,b.2 - a.2]
def pk:List (Int×Int)→List (List Int)
 | []=> []
 |a::r=>r.map (sk a)++pk r
def bz (xs:List V):Bool:=decide (pk (bj xs)).Nodup
def rM (p:aJ):List Int:=[p.2.2.1 - p.1,p.2.2.2 - p.2.1]
theorem Dq:∀{ps:List (Int×Int)},(ps.Pairwise fun a b=>a.1<b.1)→(lD ps).map rM=pk ps
 | [],_=>rfl
 |a::l,h=>by
  obtain⟨h1,h2⟩:=List.pairwise_cons.mp h
  have ih:=Dq h2
  have e:lD (a::l)=(l.map fun b=> (a.1,a.2,b.1,b.2))++lD l:=by
   unfold lD
   rw[List.flatMap_cons]
   congr 1
   ·rw[List.filter_cons_of_neg (by simp),List.filter_eq_self.mpr fun b hb=>decide_eq_true (h1 b hb)]
   ·rw[List.flatMap_def,List.flatMap_def]
    congr 1
    refine List.map_congr_left fun c hc=> ?_
    rw[List.filter_cons_of_neg (by have:=h1 c hc;simp;omega)]
  rw[e,List.map_append,ih,List.map_map]
  rfl
theorem Ez (p q:aJ):dh (eJ p) (eJ q)↔rM p=rM q:=by
 unfold dh eJ rM
 simp
theorem Q0 (xs:List V):bz xs=true↔yO xs:=by
 unfold bz
 rw[decide_eq_true_iff,←Dq (O3 xs),←W4,WO (U4 xs)]
 unfold yO
 constructor
 ·intro h p hp q hq s
  exact h p hp q hq ((Ez p q).mp s)
 ·intro h p hp q hq s
  exact h p hp q hq ((Ez p q).mpr s)
theorem yL {xs:List V}{r:Option aJ}(f:kT (gP xs xs.length) r):r.isNone=bz xs:=by
 have h1:=PR f
 have h2:=Q0 xs
 cases hr:r.isNone<;>cases hu:bz xs<;>simp_all
def gA (hg:Nat) (xs:List V) (l:Nat):List Int:=((List.range hg).map fun(k:Nat)=> (k:Int)).filter fun r=> !dR (.int r) xs&&bz (xs.set l (.int r))
def fJ (wd hg:Nat):Nat→List (List V)
 |0=> [List.replicate wd .ae]
 |i+1=> (fJ wd hg i).flatMap fun xs=> (V.ae::(gA hg xs i).map V.int).map fun v=>xs.set i v
def gL (hg:Nat) (xs:List V):List (List Int):=(List.range xs.length).flatMap fun l=>if xs[l]? =some V.ae then (gA hg xs l).map fun r=> [(l:Int),r] else []
theorem aA {H:Hp}{p:Addr}{o:HO}(h:H p=none):af H (upd H p o):=fun b u hb=>by rw[Zf (Zg hb h)];exact hb
theorem Wc {v:V}(hv:v≠.ae):∀{xs:List V}{i:Nat},xs[i]? =some V.ae→(rowsOf (xs.set i v)).Perm (v::rowsOf xs)
 | [],_,h=>by simp at h
 |x::xs,0,h=>by
  have:x=.ae:=by simpa using h
  subst this
  rw[List.set_cons_zero]
  unfold rowsOf
  rw[List.filter_cons_of_pos (by simpa using hv),List.filter_cons_of_neg (by simp)]
 |x::xs,i+1,h=>by
  have ih:=Wc hv (xs:=xs) (i:=i) (by simpa using h)
  rw[List.set_cons_succ]
  unfold rowsOf at ih ⊢
  by_cases z:(!decide (x=V.ae))=true
  ·rw[List.filter_cons_of_pos (p:=fun x=> !decide (x=V.ae)) z,List.filter_cons_of_pos (p:=fun x=> !decide (x=V.ae)) z]
   exact(ih.cons x).trans (List.Perm.swap v x _)
  ·rw[List.filter_cons_of_neg (p:=fun x=> !decide (x=V.ae)) z,List.filter_cons_of_neg (p:=fun x=> !decide (x=V.ae)) z]
   exact ih
theorem Sl {r:Int}{xs:List V}(h:V.int r∈xs):dR (.int r) xs=true:=by
 unfold dR
 exact List.any_eq_true.mpr ⟨_,h,by simp[ee]⟩
theorem JZ {wd hg:Int}{xs:List V}{i:Nat}{r:Int}(h:dA wd hg xs) (hi:xs[i]? =some V.ae) (h0:0≤r) (h1:r<hg) (hn:dR (.int r) xs=false):dA wd hg (xs.set i (.int r)):=by
 have pm:=Wc (v:=.int r) (by intro z;cases z) hi
 refine⟨by rw[List.length_set];exact h.len,fun x hx=> ?_,pm.nodup_iff.mpr (List.nodup_cons.mpr ⟨fun m=> ?_,h.nd⟩)⟩
 ·rcases List.mem_cons.mp (pm.mem_iff.mp hx) with rfl |hx
  ·show(decide (0≤r)&&decide (r≤hg - 1))=true
   rw[decide_eq_true h0,decide_eq_true (by omega)]
   rfl
  ·exact h.row x hx
 ·have:=Sl (List.mem_filter.mp m).1
  rw[hn]at this
  cases this
theorem Eu {wd hg:Int}{xs:List V}(h:dA wd hg xs):xs.all fq=true:=List.all_eq_true.mpr fun v hv=>by
 rcases h.ok v hv with rfl |⟨i,rfl⟩<;>rfl
theorem YI {K:PySem.W.Frag}{H:Hp}{a b:Addr}{xs ys:List V}{Q:VK}(h1:H a=some (.tup xs)) (h2:H b=some (.tup ys)) (hl:xs.length+ys.length≤1000) (q:∀t H',af H H'→H' t=some (.tup (xs++ys))→Q (.ref t) H'):jJ K (.ref a) (.ref b) H Q:=by
 cases xs with
 |nil=>exact .inl ⟨a,b,ys,rfl,rfl,ah.of h1,ah.of h2,q b H (af.refl _) h2⟩
 |cons x xs=>
  refine .inr ⟨a,b,_,_,rfl,rfl,ah.of h1,ah.of h2,by simp,by rw[sizeLine_eq];omega,fun e=> ?_,fun _ p hp=>q p _ (aA hp) Zc⟩
  subst e
  exact q a H (af.refl _) (by rw[List.append_nil];exact h1)
theorem yM {xs:List V}{i:Nat}(h:i<xs.length):aV xs none (some (i:Int))=xs.take i:=by
 unfold aV
 rw[HT.vN,HT.jG,Nat.min_eq_left (by omega)]
 simp
theorem oK {xs:List V}{i:Nat}(h:i<xs.length):aV xs (some ((i:Int)+1)) none=xs.drop (i+1):=by
 unfold aV
 rw[show(i:Int)+1=((i+1:Nat):Int) from rfl,HT.vN,HT.jG,Nat.min_eq_left (by omega)]
 exact List.take_of_length_le (by simp)
end
section
variable {P:Program}{w:World}{K:PySem.W.Frag}{mg:Str→Option Value}{base:Heap}
abbrev vE:Stmt:=top 26
def u6:Sp:=fun vs H Q _=> ∃(l:Addr) (xs:List V) (i:Nat) (v:V),vs=[.ref l,.int i,v]∧H l=some (.tup xs)∧i<xs.length∧xs.length≤12∧∀t H',af H H'→H' t=some (.tup (xs.set i v))→Q (.ref t) H'
theorem GH:bu ["lay", "line", "row"] ["lay", "line", "row"] (aC vE):=⟨rfl,rfl,rfl,by decide+kernel,rfl,by decide+kernel,by decide+kernel⟩
theorem HJ {f:Addr}{fd:FuncData}(F:aK K "with_point" "with_point" vE f fd):az P w K mg base aM 1 f fd ["lay", "line", "row"] u6:=by
 refine F.ok GH (fun vs H Q E h=> ?_) (fun ao A outer s H vs Q E hr h=> ?_)
 ·obtain⟨l,xs,i,v,rfl,_⟩:=h
  rfl
 ·obtain⟨l,xs,i,v,rfl,hl,hi,Cu,q⟩:=h
  refine⟨_,Zj (Zw (Zr gp (Zr gp (ZW Y7 (pv 0) Z7 (Z6 (pv 1))) (Zs (Za (pv 2) Zb))) (ZW Y7 (pv 0) (Z6 (Zr Z3 (pv 1) Zh)) Z7))),?_⟩
  refine⟨_,rfl,_,rfl,_,rfl,l,xs,rfl,ah.of hl,?_,fun p hp=> ?_⟩
  ·rintro⟨_,z⟩
   rw[HT.jG]at z
   omega
  have s1:=aA (o:=.tup (aV xs none (some (i:Int)))) hp
  have e1:upd H p (.tup (aV xs none (some (i:Int)))) p=some (.tup (aV xs none (some (i:Int)))):=Zc
  generalize upd H p (HO.tup (aV xs none (some (i:Int))))=H1 at s1 e1
  rw[yM hi]at e1
  refine⟨_,rfl,(by show 1≤sizeLine;decide),fun p2 cE=> ?_⟩
  have s2:=aA (o:=.tup [v]) cE
  have e2:upd H1 p2 (.tup [v]) p2=some (.tup [v]):=Zc
  generalize upd H1 p2 (HO.tup [v])=H2 at s2 e2
  refine YI (s2 _ _ e1) e2 (by rw[List.length_take];simp;omega) fun t3 H3 s3 e3=> ?_
  refine⟨_,rfl,_,rfl,_,_,rfl,rfl,_,rfl,l,xs,rfl,ah.of ((s1.trans (s2.trans s3)) _ _ hl),?_,fun p4 LO=> ?_⟩
  ·rintro⟨z,_⟩
   rw[show(i:Int)+1=((i+1:Nat):Int) from rfl,HT.jG]at z
   omega
  have s4:=aA (o:=.tup (aV xs (some ((i:Int)+1)) none)) LO
  have e4:upd H3 p4 (.tup (aV xs (some ((i:Int)+1)) none)) p4=some (.tup (aV xs (some ((i:Int)+1)) none)):=Zc
  generalize upd H3 p4 (HO.tup (aV xs (some ((i:Int)+1)) none))=H4 at s4 e4
  rw[oK hi]at e4
  refine YI (s4 _ _ e3) e4 (by rw[List.length_append,List.length_take,List.length_drop];simp;omega) fun t5 H5 s5 e5=> ?_
  refine q t5 H5 (s1.trans (s2.trans (s3.trans (s4.trans s5)))) ?_
  rw[e5,List.append_assoc,List.set_eq_take_append_cons_drop,if_pos hi]
  rfl
abbrev r9:Stmt:=top 33
def vh:Sp:=fun vs H Q _=> ∃x y wd hg xs,vs=[x,y]∧fe H x y wd hg xs∧bz xs=true∧∀(H':Hp),af H H'→Q .ae H'
theorem Ah:bu ["board", "lay"] ["board", "lay"] (aC r9):=⟨rfl,rfl,rfl,by decide+kernel,rfl,by decide+kernel,by decide+kernel⟩
theorem Ic {f:Addr}{fd:FuncData}(F:aK K "need_unlike" "need_unlike" r9 f fd) (D1:Def P w K mg base 11 "is_unlike" ["board", "lay"] pz):az P w K mg base aM 12 f fd ["board", "lay"] vh:=by
 refine F.ok Ah (fun vs H Q E h=> ?_) (fun ao A outer s H vs Q E hr h=> ?_)
 ·obtain⟨x,y,wd,hg,xs,rfl,_⟩:=h
  rfl
 ·obtain⟨x,y,wd,hg,xs,rfl,l,u,q⟩:=h
  refine⟨_,Zj (ZO (Z2 (ZM (Zi D1 hr (Za (pv 0) (Za (pv 1) Zb))))) Zt Zz),?_⟩
  refine⟨x,rfl,y,rfl,x,y,wd,hg,xs,rfl,l,fun H' r sm fi=> ⟨_,rfl,?_⟩⟩
  rw[yL fi,u]
  exact aH (q H' sm)
def oH (xs:List V) (l:Nat) (i:Nat):List Int:=((List.range i).map fun(k:Nat)=> (k:Int)).filter fun r=> !dR (.int r) xs&&bz (xs.set l (.int r))
theorem JQ (xs:List V) (l i:Nat):oH xs l (i+1)=oH xs l i++(if (!dR (.int (i:Int)) xs&&bz (xs.set l (.int (i:Int))))=true then [(i:Int)] else []):=by
 unfold oH
 rw[List.range_succ,List.map_append,List.filter_append]
 cases h:(!dR (.int (i:Int)) xs&&bz (xs.set l (.int (i:Int))))<;>simp_all
abbrev vQ:Stmt:=top 35
def vw:Sp:=fun vs H Q _=> ∃(b l:Addr) (i:Nat) (wd hg:Int) (xs:List V),vs=[.ref b,.ref l,.int i]∧bM H (.ref b) wd hg∧H l=some (.tup xs)∧dA wd hg xs∧xs[i]? =some .ae∧∀(q:Addr) (H':Hp),af H H'→H q=none→H' q=some (.lst ((gA hg.toNat xs i).map V.int))→Q (.ref q) H'
theorem GJ:bu ["board", "lay", "line"] ["board", "lay", "line"] (aC vQ):=⟨rfl,rfl,rfl,by decide+kernel,rfl,by decide+kernel,by decide+kernel⟩
theorem Im {f:Addr}{fd:FuncData}(F:aK K "free_rows" "free_rows" vQ f fd) (G:Gs mg) (Tw:Def P w K mg base 11 "is_unlike" ["board", "lay"] pz) (Tv:Def P w K mg base 1 "with_point" ["lay", "line", "row"] u6):az P w K mg base aM 12 f fd ["board", "lay", "line"] vw:=by
 refine F.ok GJ (fun vs H Q E h=> ?_) (fun ao A outer s H vs Q E hr h=> ?_)
 ·obtain⟨b,l,i,wd,hg,xs,rfl,_⟩:=h
  rfl
 ·obtain⟨b,l,i,wd,hg,xs,rfl,bd,hl,ly,hi,q⟩:=h
  refine⟨_,Zj (Zw (Z8 ["row", "board", "lay", "line"] 1 [0,1,2] (ZY rfl G.range (Za (ZI ZS (pv 0) Zh (fun _ _=>rfl)) Zb)) (fun C s H fp=>pb 0)
   (fun C s H fp=>Yp (PW.pt (Wf (ZJ (show bf (aZ _ _ _ C s H fp) (compareOp .NotIn) (vY K true) from YH) (pv 0) (pv 2) rfl) (Jj (ZM (Zi Tw hr (Za (pv 1) (Za (Zi Tv (hr.mono (by decide)) (Za (pv 2) (Za (pv 3) (Za (pv 0) Zb)))) Zb))))))))
   (fun C s H fp D=>ZK rfl (pv 0)))),?_⟩
  obtain⟨b',eb,hb⟩:=ZD bd.1
  cases eb
  have aT:i<xs.length:=(List.getElem?_eq_some_iff.mp hi).1
  have pX:xs.length≤12:=by
   have h1:=ly.len
   have h2:=bd.2.2.1
   omega
  have g1:=bd.2.2.2.1
  have g2:=bd.2.2.2.2
  refine⟨_,rfl,b,_,1,.int hg,rfl,rfl,ah.of hb,rfl,_,rfl,by omega,by omega,?_⟩
  refine Jb (fun k ys σ H1=> ∃v,σ=[v,some (.ref b),some (.ref l),some (.int i)]∧af H H1∧ys=(oH xs i k).map V.int∧ys.length≤k) ⟨_,rfl,af.refl _,rfl,Nat.zero_le _⟩ ?_ ?_
  ·rintro k ys σ H1 hk ⟨v,rfl,s1,rfl,hlen⟩
   have es:=JQ xs i k
   rw[Int.zero_add]
   refine Zn ?_
   dsimp only[List.set]
   refine⟨_,rfl,_,rfl,l,xs,rfl,.inr (ah.of (s1 _ _ hl)),rfl,Eu ly,_,rfl,?_⟩
   cases hn:dR (.int (k:Int)) xs with
   |true=>
    rw[hn]at es
    refine aH ?_
    refine aH ⟨_,rfl,s1,?_,by omega⟩
    rw[es]
    simp
   |false=>
    rw[hn]at es
    refine aW ?_
    refine⟨_,rfl,_,rfl,_,rfl,_,rfl,l,xs,i,.int (k:Int),rfl,s1 _ _ hl,aT,pX,fun t H2 s2 e2=> ?_⟩
    refine⟨.ref b,.ref t,wd,hg,_,rfl,⟨bd.same (s1.trans s2),Zq e2,JZ ly hi (by omega) (by omega) hn⟩,fun H3 r s3 fi=> ⟨_,rfl,?_⟩⟩
    rw[yL fi]
    have lj:=s1.trans (s2.trans s3)
    cases hu:bz (xs.set i (.int (k:Int))) with
    |true=>
     rw[hu]at es
     refine aW ⟨_,rfl,by rw[sizeLine_eq];omega,⟨_,rfl,lj,?_,by rw[List.length_append];simp at hlen ⊢;omega⟩⟩
     rw[es]
     simp
    |false=>
     rw[hu]at es
     refine aH ⟨_,rfl,lj,?_,by omega⟩
     rw[es]
     simp
  ·rintro ys σ H1 ⟨v,rfl,s1,rfl,hlen⟩ p hp
   exact q p _ (s1.trans (aA hp)) (s1.free hp) Zc
end
section
def kh (hg:Nat) (xs:List V) (i:Nat):List (List Int):=(List.range i).flatMap fun l=>if xs[l]? =some V.ae then (gA hg xs l).map fun r=> [(l:Int),r] else []
theorem Y4 (hg:Nat) (xs:List V) (i:Nat):kh hg xs (i+1)=kh hg xs i++(if xs[i]? =some V.ae then (gA hg xs i).map fun r=> [(i:Int),r] else []):=by
 unfold kh
 rw[List.range_succ,List.flatMap_append]
 simp
theorem Si (hg:Nat) (xs:List V) (l:Nat):(gA hg xs l).length≤hg:=by
 unfold gA
 refine Nat.le_trans (List.length_filter_le _ _) ?_
 rw[List.length_map,List.length_range]
 exact Nat.le_refl _
end
section
variable {P:Program}{w:World}{K:PySem.W.Frag}{mg:Str→Option Value}{base:Heap}
abbrev r6:Stmt:=top 37
def nG:Sp:=fun vs H Q _=> ∃(b l:Addr) (wd hg:Int) (xs:List V),vs=[.ref b,.ref l]∧bM H (.ref b) wd hg∧H l=some (.tup xs)∧dA wd hg xs∧bz xs=true∧∀(q:Addr) (H':Hp) (ts:List V),af H H'→H q=none→H' q=some (.lst ts)→Paired (ba H') ts (gL hg.toNat xs)→Q (.ref q) H'
theorem Ad:bu ["board", "lay"] ["board", "lay"] (aC r6):=⟨rfl,rfl,rfl,by decide+kernel,rfl,by decide+kernel,by decide+kernel⟩
theorem HY {f:Addr}{fd:FuncData}(F:aK K "places_left" "places_left" r6 f fd) (G:Gs mg) (TF:Def P w K mg base 12 "need_unlike" ["board", "lay"] vh) (TM:Def P w K mg base 12 "free_rows" ["board", "lay", "line"] vw):az P w K mg base aM 13 f fd ["board", "lay"] nG:=by
 refine F.ok Ad (fun vs H Q E h=> ?_) (fun ao A outer s H vs Q E hr h=> ?_)
 ·obtain⟨b,l,wd,hg,xs,rfl,_⟩:=h
  rfl
 ·obtain⟨b,l,wd,hg,xs,rfl,bd,hl,ly,un,q⟩:=h
  refine⟨_,Ze (ZX (Zi TF hr (Za (pv 0) (Za (pv 1) Zb))))
   (Zj (Zw (Z8 ["line", "elder", "row", "board", "lay"] 3 [0,1] (EK rfl G.enumerate (Za (pv 1) Zb))
    (fun C s H fp=>show PG (aZ _ _ _ C s H fp) _ (gZ K 2 (bT (bG 0) (bT (bG 1) g8))) from ZZ rfl (Zo (pb 0) (Zo (pb 1) ZQ)))
    (fun C s H fp=>Yp (Ys (YG (pv 1))))
    (fun C s H fp D=>UZ rfl rfl rfl (show PI (aZ _ _ _ C s H fp) _ _ (wG K _) from Yb (Zi TM hr (Za (pv 3) (Za (pv 4) (Za (pv 0) Zb)))))
     (show PG (aZ _ _ _ C s H fp) _ (bG 2) from pb 2) Ya (ZK rfl (Zs (Za (pv 0) (Za (pv 2) Zb)))) (by intro _;rfl) (by intro g' h;cases h))))),?_⟩
  have pX:xs.length≤12:=by
   have h1:=ly.len
   have h2:=bd.2.2.1
   omega
  have g2:=bd.2.2.2.2
  refine⟨_,rfl,_,rfl,.ref b,.ref l,wd,hg,xs,rfl,⟨bd,Zq hl,ly⟩,un,fun H1 s1=> ?_⟩
  refine⟨_,rfl,l,rfl,⟨xs,ah.of (s1 _ _ hl)⟩,?_⟩
  refine W9 (xs:=xs) (fun i ys σ H2=> ∃v0 v1 v2,σ=[v0,v1,v2,some (.ref b),some (.ref l)]∧af H1 H2∧Paired (ba H2) ys (kh hg.toNat xs i)∧ys.length≤i*12) ⟨_,_,_,rfl,af.refl _,.nil,Nat.zero_le _⟩ (fun i ys σ H2 _ ⟨_,_,_,_,s2,_⟩=>ah.of ((s1.trans s2) _ _ hl)) ?_ ?_
  ·rintro i v T ys σ H2 hv hT ⟨v0,v1,v2,rfl,s2,dC,dq⟩
   have hi:i<xs.length:=(List.getElem?_eq_some_iff.mp hv).1
   have sT:=aA (o:=.par [.int (i:Int),v]) hT
   refine⟨T,_,rfl,ah.nX Zc,rfl,_,_,rfl,_,_,rfl,rfl,?_⟩
   refine⟨_,rfl,_,rfl,?_⟩
   generalize upd H2 T (HO.par [V.int (i:Int),v])=H3 at sT
   have es:=Y4 hg.toNat xs i
   rw[hv]at es
   rcases ly.ok v (List.mem_of_getElem? hv) with rfl |⟨r,rfl⟩
   ·refine aW ?_
    rw[if_pos rfl]at es
    refine⟨_,rfl,_,rfl,_,rfl,b,l,i,wd,hg,xs,rfl,bd.same (s1.trans (s2.trans sT)),(s1.trans (s2.trans sT)) _ _ hl,ly,hv,fun fa H4 s4 nf ef=> ?_⟩
    have fl:=Si hg.toNat xs i
    generalize gA hg.toNat xs i=fs at ef es fl
    refine⟨fa,rfl,⟨_,ag.of ef⟩,?_⟩
    refine Z9 (xs:=fs.map V.int) (fun j ys σ H5=> ∃v2,σ=[some (.int (i:Int)),some .ae,v2,some (.ref b),some (.ref l)]∧af H4 H5∧Paired (ba H5) ys (kh hg.toNat xs i++(fs.take j).map fun r=> [(i:Int),r])∧ys.length≤i*12+j) ⟨_,rfl,af.refl _,by simpa using Paired.ck dC fun v q' hq=>hq.same (sT.trans s4),dq⟩ (fun i ys σ H2 _ ⟨_,_,s2,_⟩=>ag.of (s2 _ _ ef)) ?_ ?_
    ·rintro j v ys σ H5 gR ⟨v2,rfl,s5,fk,jh⟩
     rw[List.getElem?_map]at gR
     obtain⟨r,cK,rfl⟩:=Option.map_eq_some_iff.mp gR
     have hj:j<fs.length:=(List.getElem?_eq_some_iff.mp cK).1
     refine Zn ?_
     dsimp only[List.set]
     unfold rh
     refine aW (?_:zB _ _ _ _ _)
     refine⟨_,rfl,_,rfl,(by show 2≤sizeLine;decide),fun t6 Ll=> ⟨by rw[sizeLine_eq];omega,?_⟩⟩
     have s6:=aA (o:=.tup [.int (i:Int),.int r]) Ll
     refine⟨_,rfl,s5.trans s6,?_,by rw[List.length_append];simp;omega⟩
     rw[List.take_add_one,cK,List.map_append,←List.append_assoc]
     exact Paired.snoc (Paired.ck fk fun v q' hq=>hq.same s6) ⟨t6,rfl,Zc⟩
    ·rintro ys σ H5 ⟨v2,rfl,s5,fk,jh⟩
     rw[List.length_map]at fk jh
     refine⟨_,_,_,rfl,s2.trans (sT.trans (s4.trans s5)),?_,by omega⟩
     rw[es]
     rw[List.take_length]at fk
     exact fk
   ·refine aH ?_
    refine⟨_,_,_,rfl,s2.trans sT,?_,by omega⟩
    rw[es,if_neg (by intro z;cases z),List.append_nil]
    exact Paired.ck dC fun v q' hq=>hq.same sT
  ·rintro ys σ H2 ⟨v0,v1,v2,rfl,s2,dC,dq⟩ p hp
   have s4:=aA (o:=.lst ys) hp
   exact q p _ ys (s1.trans (s2.trans s4)) ((s1.trans s2).free hp) Zc (Paired.ck dC fun v q' hq=>hq.same s4)
abbrev rX:Stmt:=top 38
def pA:Sp:=fun vs H Q _=> ∃(b l:Addr) (wd hg:Int) (xs:List V),vs=[.ref b,.ref l]∧bM H (.ref b) wd hg∧H l=some (.tup xs)∧dA wd hg xs∧bz xs=true∧∀(H':Hp),af H H'→Q (.bl (gL hg.toNat xs).isEmpty) H'
theorem Ab:bu ["board", "lay"] ["board", "lay"] (aC rX):=⟨rfl,rfl,rfl,by decide+kernel,rfl,by decide+kernel,by decide+kernel⟩
theorem Jn {α β:Type}{R:α→β→Prop}{xs:List α}{ys:List β}(h:Paired R xs ys):xs.isEmpty=ys.isEmpty:=by
 cases h<;>rfl
theorem HR {f:Addr}{fd:FuncData}(F:aK K "is_stuck" "is_stuck" rX f fd) (qQ:Def P w K mg base 13 "places_left" ["board", "lay"] nG):az P w K mg base aM 14 f fd ["board", "lay"] pA:=by
 refine F.ok Ab (fun vs H Q E h=> ?_) (fun ao A outer s H vs Q E hr h=> ?_)
 ·obtain⟨b,l,wd,hg,xs,rfl,_⟩:=h
  rfl
 ·obtain⟨b,l,wd,hg,xs,rfl,bd,hl,ly,un,q⟩:=h
  refine⟨_,Zj (Zw (ZV (UC (Nat.lt_of_succ_lt (WA hr))) (Zi qQ hr (Za (pv 0) (Za (pv 1) Zb))) (ZF Zb) (bK _))),?_⟩
  refine⟨_,rfl,_,rfl,b,l,wd,hg,xs,rfl,bd,hl,ly,un,fun p H1 ts s1 np ep pr=> ?_⟩
  refine⟨by show 0≤sizeLine;decide,fun c hc=> ⟨p,c,ts,rfl,rfl,ag.of (aA hc _ _ ep),ag.of Zc,?_⟩⟩
  rw[Jn pr]
  exact q _ (s1.trans (aA hc))
end
section
theorem UX (n:Nat):rowsOf (List.replicate n V.ae)=[]:=by
 unfold rowsOf
 exact List.filter_eq_nil_iff.mpr fun x hx=>by rw[List.eq_of_mem_replicate hx];simp
theorem QB (n:Nat):bj (List.replicate n V.ae)=[]:=by
 unfold bj
 rw[List.filterMap_eq_nil_iff]
 intro l hl
 unfold rowAt
 rw[List.getElem?_replicate]
 split<;>rfl
theorem qz (w h:Nat):∀i,∀xs∈fJ w h i,dA w h xs∧bz xs=true∧∀j,i≤j→j<w→xs[j]? =some V.ae
 |0,xs,hx=>by
  have e:xs=List.replicate w V.ae:=by simpa[fJ] using hx
  subst e
  refine⟨⟨by rw[List.length_replicate],fun r hr=> ?_,by rw[UX];exact List.nodup_nil⟩,?_,fun j _ hj=>by rw[List.getElem?_replicate,if_pos hj]⟩
  ·rw[UX]at hr
   cases hr
  ·unfold bz
   rw[QB]
   rfl
 |i+1,xs,hx=>by
  unfold fJ at hx
  obtain⟨ys,hy,hm⟩:=List.mem_flatMap.mp hx
  obtain⟨h1,h2,h3⟩:=qz w h i ys hy
  obtain⟨v,hv,rfl⟩:=List.mem_map.mp hm
  have hlen:ys.length=w:=by have:=h1.len;omega
  have later:∀v j,i+1≤j→j<w→(ys.set i v)[j]? =some V.ae:=fun v j hj tP=>by
   rw[List.getElem?_set_ne (by omega)]
   exact h3 j (by omega) tP
  by_cases hi:i<w
  ·have hn:=h3 i (Nat.le_refl _) hi
   rcases List.mem_cons.mp hv with rfl |hv
   ·have e:ys.set i V.ae=ys:=by
     refine List.ext_getElem? fun j=> ?_
     by_cases hj:i=j
     ·subst hj
      rw[List.getElem?_set_self (by omega),hn]
     ·rw[List.getElem?_set_ne hj]
    rw[e]
    exact⟨h1,h2,fun j hj tP=>h3 j (by omega) tP⟩
   ·obtain⟨r,hr,rfl⟩:=List.mem_map.mp hv
    unfold gA at hr
    obtain⟨gU,dg⟩:=List.mem_filter.mp hr
    obtain⟨k,hk,rfl⟩:=List.mem_map.mp gU
    rw[List.mem_range]at hk
    rw[Bool.and_eq_true,Bool.not_eq_true']at dg
    exact⟨JZ h1 hn (by omega) (by omega) dg.1,dg.2,later _⟩
  ·have e:∀v,ys.set i v=ys:=fun v=>List.set_eq_of_length_le (by omega)
   rw[e]
   exact⟨h1,h2,fun j hj tP=>by omega⟩
def nV (ps:List (Int×Int)) (i:Nat):List (List Int):=(List.range i).flatMap fun k=>match ps[k]? with
 |some a=> (ps.drop (k+1)).map (sk a)
 |none=> []
theorem RW {ps:List (Int×Int)}{i:Nat}{a:Int×Int}(h:ps[i]? =some a):nV ps (i+1)=nV ps i++(ps.drop (i+1)).map (sk a):=by
 unfold nV
 rw[List.range_succ,List.flatMap_append]
 simp[h]
theorem Du:∀ps:List (Int×Int),nV ps ps.length=pk ps
 | []=>rfl
 |a::r=>by
  have ih:=Du r
  unfold nV at ih ⊢
  rw[List.length_cons,List.range_succ_eq_map,List.flatMap_cons,List.flatMap_map]
  unfold pk
  rw[←ih]
  rfl
theorem QE {xs:List V}{i:Nat}{r:Int}(h:rowAt xs i=some r):ft xs (i:Int)=some (.int r):=by
 refine Yc ?_
 unfold rowAt at h
 cases e:xs[i]? with
 |none=>rw[e]at h;cases h
 |some v=>
  rw[e]at h
  cases v with
  |int y=>have:y=r:=Option.some.inj h;rw[this]
  |_=>cases h
theorem Pn {xs:List V}{q:Int×Int}(h:q∈bj xs):ft xs q.1=some (.int q.2):=by
 obtain⟨l,hl,hr,e⟩:=Yf.mp h
 rw[e]
 exact QE hr
theorem Jf {H:Hp}{L:Addr}{zs:List V}{o:HO}(e:H L=some (.lst zs)) {v:V}{k:List Int}(h:ba H v k):ba (upd H L o) v k:=by
 obtain⟨t,rfl,ht⟩:=h
 refine⟨t,rfl,?_⟩
 rw[Zf (fun z=> ?_)]
 ·exact ht
 ·subst z
  rw[e]at ht
  cases ht
theorem YU {H H1:Hp}{L:Addr}{o:HO}(s:af H H1) (n:H L=none):af H (upd H1 L o):=fun b u h=>by
 rw[Zf (Zg h n)]
 exact s b u h
theorem Wi {α β:Type}{F:α→β→Prop} :∀{a c:List α}{b d:List β},Paired F a b→Paired F c d→Paired F (a++c) (b++d)
 |_,_,_,_,.nil,h=>h
 |_,_,_,_,.cons x y,h=> .cons x (Wi y h)
theorem QO (xs:List V):(bj xs).length≤xs.length:=by
 unfold bj
 refine Nat.le_trans (List.length_filterMap_le _ _) ?_
 rw[List.length_range]
 exact Nat.le_refl _
end
section
variable {P:Program}{w:World}{K:PySem.W.Frag}{mg:Str→Option Value}{base:Heap}
abbrev vK:Stmt:=top 44
def vo:Sp:=fun vs H Q _=> ∃(a:Addr) (xs:List V),vs=[.ref a]∧H a=some (.tup xs)∧uC xs∧xs.length≤12∧∀(q:Addr) (H':Hp) (ts:List V),af H H'→H q=none→H' q=some (.lst ts)→Paired (ba H') ts (pk (bj xs))→ts.length≤144→Q (.ref q) H'
abbrev IV:List Str:=["_law_lay_here", "_law_some", "_law_found", "_law_at", "_law_line"]
theorem pH:bu IV ["_law_lay_here"] (aC vK):=⟨rfl,rfl,rfl,by decide+kernel,rfl,by decide+kernel,by decide+kernel⟩
theorem Ij {f:Addr}{fd:FuncData}(F:aK K "_law_steps" "_law_steps" vK f fd) (G:Gs mg):az P w K mg base aM 1 f fd ["_law_lay_here"] vo:=by
 refine F.ok pH (fun vs H Q E h=> ?_) (fun ao A outer s H vs Q E hr h=> ?_)
 ·obtain⟨a,xs,rfl,_⟩:=h
  rfl
 ·obtain⟨a,xs,rfl,ha,ok,pX,q⟩:=h
  refine⟨_,Ze (Jk ["_law_line", "_law_lay_here"] 1 [0] (i:=1) pH.nd rfl (Or.inl rfl) (ZY rfl G.range (Za (Zm ZC rfl G.len boot_len (Za (pv 0) Zb)) Zb)) (fun C s H fp=>pb 0)
    (fun C s H fp=>Yp (Ys (Uy (ZI (show mZ (aZ _ _ _ C s H fp) (pN K) from ZS) (pv 1) (pv 0) (fun _ _=>rfl))))) (fun C s H fp D=>ZK rfl (pv 0)))
   (Ze (Zu (i:=2) pH.nd rfl (Or.inl rfl) (ZF Zb))
   (Ze (YE PassesOwn.never rfl (Rp rfl G.enumerate (Za (pv 1) Zb)) (ZZ rfl (Zo (ZL (i:=3) pH.nd rfl (Or.inl rfl)) (Zo (ZL (i:=4) pH.nd rfl (Or.inr rfl)) ZQ)))
    (Zj (ZX (Jm PySem.F.plainAttrs_list PySem.F.slot_list_extend PySem.F.type_list_extend RH (pv 2) (Za
     (Z8 ["_law_other", "_law_lay_here", "_law_line"] 1 [0,4] (Yb (ZW ED (pv 1) (Z6 (Zr Z3 (pv 3) Zh)) Z7)) (fun C s H fp=>pb 0) (fun C s H fp=>Ya)
      (fun C s H fp D=>ZK rfl (Zs (Za (Zr YL (pv 0) (pv 2)) (Za (Zr YL (ZI (show mZ (aZ _ _ _ C s H fp) (pN K) from ZS) (pv 1) (pv 0) (fun _ _=>rfl)) (ZI (show mZ (aZ _ _ _ C s H fp) (pN K) from ZS) (pv 1) (pv 2) (fun _ _=>rfl))) Zb))))) Zb)))))
   (Zj (Zw (pv 2))))),?_⟩
  have Kv:=QO xs
  refine Zp ⟨_,rfl,a,xs,rfl,.inr (ah.of ha),_,rfl,by omega,by omega,?_⟩
  refine Jb (fun k ys σ H1=> ∃v,σ=[v,some (.ref a)]∧af H H1∧ys=((ja xs k).map (·.1)).map V.int∧ys.length≤k) ⟨_,rfl,af.refl _,rfl,Nat.zero_le _⟩ ?_ ?_
  ·rintro k ys σ H1 hk ⟨v,rfl,s1,rfl,hlen⟩
   have aN:k<xs.length:=by omega
   rw[Int.zero_add]
   refine Zn ?_
   dsimp only[List.set]
   obtain⟨v,hv⟩:∃v,xs[k]? =some v:=⟨_,List.getElem?_eq_getElem aN⟩
   have iT:ft xs (k:Int)=some v:=Yc hv
   refine⟨_,rfl,_,rfl,a,xs,(k:Int),v,rfl,rfl,ah.of (s1 _ _ ha),iT,_,rfl,?_⟩
   have er:rowAt xs k=nR v:=by unfold rowAt;rw[hv];rfl
   have es:=Y9 xs k
   rw[er]at es
   rcases ok v (List.mem_of_getElem? hv) with rfl |⟨r,rfl⟩
   ·refine aH ⟨_,rfl,s1,?_,by omega⟩
    rw[es]
    simp[nR]
   ·refine aW ⟨_,rfl,by rw[sizeLine_eq];omega,⟨_,rfl,s1,?_,by rw[List.length_append];simp at hlen ⊢;omega⟩⟩
    rw[es]
    simp[nR]
  ·rintro ys σ H1 ⟨v,rfl,s1,rfl,hlen⟩ m hm
   have e0:ja xs (Int.toNat (xs.length:Int))=bj xs:=by rw[Int.toNat_natCast];rfl
   have sm:=aA (o:=.lst (((ja xs (Int.toNat (xs.length:Int))).map (·.1)).map V.int)) hm
   have em:upd H1 m (.lst (((ja xs (Int.toNat (xs.length:Int))).map (·.1)).map V.int)) m=some (.lst (((ja xs (Int.toNat (xs.length:Int))).map (·.1)).map V.int)):=Zc
   generalize upd H1 m (HO.lst (((ja xs (Int.toNat (xs.length:Int))).map (·.1)).map V.int))=H2 at sm em
   rw[e0]at em
   have cG:∀q'∈bj xs,ft xs q'.1=some (.int q'.2):=fun q' h=>Pn h
   generalize bj xs=ps at em Kv q cG
   have nm:H m=none:=s1.free hm
   have Ap:=s1.trans sm
   dsimp only[List.set]
   refine Zp (ZA ⟨by show 0≤sizeLine;decide,fun L hL=>Zn ?_⟩)
   dsimp only[List.set]
   have nL:H L=none:=Ap.free hL
   have L4:m≠L:=Zg em hL
   have sL:=aA (o:=.lst []) hL
   have eL:upd H2 L (.lst []) L=some (.lst []):=Zc
   generalize upd H2 L (HO.lst [])=H3 at sL eL
   have ka:=Ap.trans sL
   refine Zp ⟨_,rfl,m,rfl,⟨_,ag.of (sL _ _ em)⟩,?_⟩
   refine Sh (xs:=(ps.map (·.1)).map V.int) (fun i σ H4=> ∃zs v3 v4,σ=[some (.ref a),some (.ref m),some (.ref L),v3,v4]∧af H H4∧H4 m=some (.lst ((ps.map (·.1)).map V.int))∧H4 L=some (.lst zs)∧Paired (ba H4) zs (nV ps i)∧zs.length≤i*12) ⟨_,_,_,rfl,ka,sL _ _ em,eL,.nil,Nat.zero_le _⟩ (fun i σ H4 _ ⟨_,_,_,_,_,e,_⟩=>ag.of e) ?_ ?_
   ·rintro i v T σ H4 hv hT ⟨zs,v3,v4,rfl,s4,yk,fY,fw,ji⟩
    rw[List.getElem?_map,List.getElem?_map]at hv
    obtain⟨z,hz,rfl⟩:=Option.map_eq_some_iff.mp hv
    obtain⟨p0,xb,rfl⟩:=Option.map_eq_some_iff.mp hz
    have hi:i<ps.length:=(List.getElem?_eq_some_iff.mp xb).1
    have sT:=aA (o:=.par [.int (i:Int),.int p0.1]) hT
    refine⟨T,_,rfl,ah.nX Zc,rfl,_,_,rfl,_,_,rfl,rfl,?_⟩
    generalize upd H4 T (HO.par [V.int (i:Int),V.int p0.1])=H5 at sT
    have kJ:=sT _ _ fY
    have NU:=sT _ _ yk
    refine⟨_,rfl,.inl ⟨rfl,_,ag.of kJ⟩,?_⟩
    refine⟨_,rfl,_,rfl,_,_,rfl,rfl,_,rfl,m,_,rfl,ag.of NU,fun p6 LL=> ?_⟩
    have MI:aV ((ps.map (·.1)).map V.int) (some ((i:Int)+1)) none=((ps.drop (i+1)).map (·.1)).map V.int:=by
     rw[oK (by simpa using hi),←List.map_drop,←List.map_drop]
    rw[MI]
    have s6:=aA (o:=.lst (((ps.drop (i+1)).map (·.1)).map V.int)) LL
    have e6:upd H5 p6 (.lst (((ps.drop (i+1)).map (·.1)).map V.int)) p6=some (.lst (((ps.drop (i+1)).map (·.1)).map V.int)):=Zc
    generalize upd H5 p6 (HO.lst (((ps.drop (i+1)).map (·.1)).map V.int))=H6 at s6 e6
    refine⟨p6,rfl,⟨_,ag.of e6⟩,?_⟩
    have es:=RW xb
    have kA:∀q'∈ps.drop (i+1),ft xs q'.1=some (.int q'.2):=fun q' h=>cG q' (List.mem_of_mem_drop h)
    have KG:(ps.drop (i+1)).length≤12:=by rw[List.length_drop];omega
    generalize ps.drop (i+1)=rs at e6 es kA KG
    have MS:=(s4.trans (sT.trans s6)) _ _ ha
    have h0:=cG p0 (List.mem_of_getElem? xb)
    refine Z9 (xs:=(rs.map (·.1)).map V.int) (fun j ys σ H7=> ∃v,σ=[v,some (.ref a),some (.int p0.1)]∧af H6 H7∧Paired (ba H7) ys ((rs.take j).map (sk p0))∧ys.length≤j) ⟨_,rfl,af.refl _,.nil,Nat.zero_le _⟩ (fun i ys σ H2 _ ⟨_,_,s2,_⟩=>ag.of (s2 _ _ e6)) ?_ ?_
    ·rintro j v ys σ H7 gR ⟨v0,rfl,s7,pQ,BJ⟩
     rw[List.getElem?_map,List.getElem?_map]at gR
     obtain⟨z,bg,rfl⟩:=Option.map_eq_some_iff.mp gR
     obtain⟨p1,oo,rfl⟩:=Option.map_eq_some_iff.mp bg
     have hj:j<rs.length:=(List.getElem?_eq_some_iff.mp oo).1
     have h1:=kA p1 (List.mem_of_getElem? oo)
     have Cg:=ah.of (K:=K) (s7 _ _ MS)
     refine Zn ?_
     dsimp only[List.set]
     try unfold rh
     refine aW ?_
     refine⟨_,rfl,_,rfl,_,_,rfl,rfl,_,rfl,_,rfl,a,xs,p1.1,_,rfl,rfl,Cg,h1,_,rfl,_,rfl,a,xs,p0.1,_,rfl,rfl,Cg,h0,_,_,rfl,rfl,(by show 2≤sizeLine;decide),fun t8 wQ=> ⟨by rw[sizeLine_eq];omega,?_⟩⟩
     have s8:=aA (o:=.tup [.int (p1.1 - p0.1),.int (p1.2 - p0.2)]) wQ
     refine⟨_,rfl,s7.trans s8,?_,by rw[List.length_append];simp;omega⟩
     rw[List.take_add_one,oo,List.map_append]
     exact Paired.snoc (Paired.ck pQ fun v q' hq=>hq.same s8) ⟨t8,rfl,Zc⟩
    ·rintro ys σ H7 ⟨v0,rfl,s7,pQ,BJ⟩ p8 LK
     rw[List.length_map,List.length_map]at pQ BJ
     rw[List.take_length]at pQ
     have s8:=aA (o:=.lst ys) LK
     have e8:upd H7 p8 (.lst ys) p8=some (.lst ys):=Zc
     generalize upd H7 p8 (HO.lst ys)=H8 at s8 e8
     have sr:=sT.trans (s6.trans (s7.trans s8))
     have yo:=sr _ _ fY
     have NT:=sr _ _ yk
     refine⟨L,p8,zs,ys,rfl,rfl,yo,e8,by rw[sizeLine_eq];omega,?_⟩
     refine⟨_,_,_,rfl,YU (s4.trans sr) nL,?_,Zc,?_,by rw[List.length_append];omega⟩
     ·rw[Zf L4]
      exact NT
     ·rw[es]
      exact Wi (Paired.ck fw fun v q' hq=>Jf yo (hq.same sr)) (Paired.ck pQ fun v q' hq=>Jf yo (hq.same s8))
   ·rintro σ H4 ⟨zs,v3,v4,rfl,s4,yk,fY,fw,ji⟩
    rw[List.length_map,List.length_map]at fw ji
    rw[Du]at fw
    exact⟨_,rfl,q L H4 zs s4 nL fY fw (by omega)⟩
abbrev sh:Stmt:=top 45
def pB:Sp:=fun vs H Q _=> ∃(a:Addr) (xs:List V),vs=[.ref a]∧H a=some (.tup xs)∧uC xs∧xs.length≤12∧∀(H':Hp),af H H'→Q (.bl (bz xs)) H'
theorem Ai:bu ["_law_lay_here", "_law_some"] ["_law_lay_here"] (aC sh):=⟨rfl,rfl,rfl,by decide+kernel,rfl,by decide+kernel,by decide+kernel⟩
theorem Ii {f:Addr}{fd:FuncData}(F:aK K "_law_unlike" "_law_unlike" sh f fd) (G:Gs mg) (TK:Def P w K mg base 1 "_law_steps" ["_law_lay_here"] vo):az P w K mg base aM 2 f fd ["_law_lay_here"] pB:=by
 refine F.ok Ai (fun vs H Q E h=> ?_) (fun ao A outer s H vs Q E hr h=> ?_)
 ·obtain⟨a,xs,rfl,_⟩:=h
  rfl
 ·obtain⟨a,xs,rfl,ha,ok,pX,q⟩:=h
  have hu:(bV aM P w K mg base ["_law_lay_here", "_law_some"] "_law_unlike" (aC sh) f ao A outer s H E).fm.A.units+4<cLine:=Nat.lt_of_le_of_lt (Nat.add_le_add_left (by decide:4≤64) _) hr.units
  refine⟨_,Ze (Zu (i:=1) Ai.nd rfl (Or.inl rfl) (Zi TK hr (Za (pv 0) Zb)))
   (Zj (Zw (ZV Jo (RV rfl hu rfl G.len rfl G.set (pv 1)) (Zm ZC rfl G.len boot_len (Za (pv 1) Zb)) (bK _)))),?_⟩
  refine Zp (ZA ⟨_,rfl,a,xs,rfl,ha,ok,pX,fun t H1 ts s1 nt e1 pr Bd=>Zn ?_⟩)
  dsimp only[List.set]
  have lk:=Paired.length pr
  refine⟨_,rfl,t,ts,_,rfl,ag.of e1,pr,by omega,_,rfl,t,ts,rfl,.inl (ag.of e1),rfl,?_⟩
  have z:decide (V.int (iF (pk (bj xs)):Int)=V.int (ts.length:Int))=bz xs:=by
   unfold bz
   rw[decide_eq_decide,lk,←Qg]
   constructor
   ·intro h
    injection h with h
    omega
   ·intro h
    rw[h]
  rw[z]
  exact q H1 s1
end
section
theorem En {α β:Type}{f g:α→Option β} :∀{l:List α},(∀x∈l,f x=g x)→l.filterMap f=l.filterMap g
 | [],_=>rfl
 |a::l,h=>by
  rw[List.filterMap_cons,List.filterMap_cons,h a List.mem_cons_self,En fun x hx=>h x (List.mem_cons_of_mem _ hx)]
theorem QA (xs:List V) (n:Nat):bj (xs++List.replicate n V.ae)=bj xs:=by
 unfold bj
 rw[List.length_append,List.length_replicate,List.range_add,List.filterMap_append]
 have e2:(((List.range n).map fun x=>xs.length+x).filterMap fun l=> (rowAt (xs++List.replicate n V.ae) l).map fun r=> ((l:Int),r))=[]:=by
  rw[List.filterMap_eq_nil_iff]
  intro l hl
  obtain⟨k,hk,rfl⟩:=List.mem_map.mp hl
  unfold rowAt
  rw[List.getElem?_append_right (by omega),List.getElem?_replicate]
  split<;>rfl
 rw[e2,List.append_nil]
 refine En fun l hl=> ?_
 rw[List.mem_range]at hl
 unfold rowAt
 rw[List.getElem?_append_left hl]
theorem EC {x v:V}{t:List V} :∀{fs:List V},(fs++x::t).set fs.length v=fs++v::t
 | []=>rfl
 |a::fs=>by
  show a::(fs++x::t).set fs.length v=_
  rw[EC]
  rfl
abbrev dD (w:Nat) (fs:List V):List V:=fs++List.replicate (w - fs.length) V.ae
theorem Rn {w:Nat}{fs:List V}(h:fs.length<w):dD w fs=fs++V.ae::List.replicate (w - (fs.length+1)) V.ae:=by
 unfold dD
 rw[show w - fs.length=(w - (fs.length+1))+1 by omega,List.replicate_succ]
theorem Wj {w:Nat}{fs:List V}{v:V}(h:fs.length<w):dD w (fs++[v])=(dD w fs).set fs.length v:=by
 rw[Rn h,EC]
 unfold dD
 rw[List.length_append,List.append_assoc]
 rfl
theorem PB {w:Nat}{fs:List V}{r:Int} :dR (.int r) (dD w fs)=dR (.int r) fs:=by
 unfold dR dD
 rw[List.any_append]
 have:((List.replicate (w - fs.length) V.ae).any fun y=>ee y (.int r))=false:=by
  rw[List.any_eq_false]
  intro x hx
  rw[List.eq_of_mem_replicate hx]
  simp[ee]
 rw[this,Bool.or_false]
theorem QX {w h:Nat}{fs:List V}(hm:dD w fs∈fJ w h fs.length) (hi:fs.length<w):dD w (fs++[V.ae])∈fJ w h (fs.length+1):=by
 rw[Wj hi]
 exact List.mem_flatMap.mpr ⟨_,hm,List.mem_map.mpr ⟨_,List.mem_cons_self,rfl⟩⟩
theorem QW {w h:Nat}{fs:List V}{r:Int}(hm:dD w fs∈fJ w h fs.length) (hi:fs.length<w) (h0:0≤r) (h1:r<h) (hn:dR (.int r) fs=false) (hu:bz (fs++[.int r])=true):dD w (fs++[V.int r])∈fJ w h (fs.length+1):=by
 rw[Wj hi]
 refine List.mem_flatMap.mpr ⟨_,hm,List.mem_map.mpr ⟨_,List.mem_cons_of_mem _ (List.mem_map_of_mem ?_),rfl⟩⟩
 unfold gA
 refine List.mem_filter.mpr ⟨List.mem_map.mpr ⟨r.toNat,List.mem_range.mpr (by omega),by omega⟩,?_⟩
 rw[PB,hn,←Wj hi]
 have:bz (dD w (fs++[V.int r]))=bz (fs++[V.int r]):=by
  unfold bz dD
  rw[QA]
 rw[this,hu]
 rfl
theorem OW {w h:Nat}{fs:List V}{i:Nat}(hm:dD w fs∈fJ w h i):uC fs:=fun x hx=> (qz w h i _ hm).1.ok x (List.mem_append_left _ hx)
end
section
variable {P:Program}{w:World}{K:PySem.W.Frag}{mg:Str→Option Value}{base:Heap}
abbrev vO:Stmt:=top 47
def vq:Sp:=fun vs H Q _=> ∃(p b:Addr) (wd hg n:Int),vs=[.ref p,.ref b,.int n]∧bW H p∧bM H (.ref b) wd hg∧∀(l:Addr) (H':Hp) (xs:List V),aw p H H'→bW H' p→H' l=some (.tup xs)→l≠p→xs∈fJ wd.toNat hg.toNat wd.toNat→Q (.ref l) H'
abbrev IZ:List Str:=["_law_state_here", "_law_board", "_law_bare", "_law_found", "_law_line", "_law_first", "_law_none", "_law_rows", "_law_good"]
theorem j8:bu IZ ["_law_state_here", "_law_board", "_law_bare"] (aC vO):=⟨rfl,rfl,rfl,by decide+kernel,rfl,by decide+kernel,by decide+kernel⟩
theorem Il {f:Addr}{fd:FuncData}(F:aK K "_law_grown" "_law_grown" vO f fd) (G:Gs mg) (jC:Def P w K mg base 1 "_law_take" ["_law_state_here", "_law_many"] kZ) (qR:Def P w K mg base 2 "_law_unlike" ["_law_lay_here"] pB):az P w K mg base aM 3 f fd ["_law_state_here", "_law_board", "_law_bare"] vq:=by
 refine F.ok j8 (fun vs H Q E h=> ?_) (fun ao A outer s H vs Q E hr h=> ?_)
 ·obtain⟨p,b,wd,hg,n,rfl,_⟩:=h
  rfl
 ·obtain⟨p,b,wd,hg,n,rfl,st,bd,q⟩:=h
  have gU:=hr.mono (show 1≤2 by decide)
  refine⟨_,Ze (Zu (i:=3) j8.nd rfl (Or.inr rfl) (Zs Zb))
   (Ze (YE PassesOwn.never rfl (ZY rfl G.range (Za (ZI ZS (pv 1) Zh (fun _ _=>rfl)) Zb)) (ZL (i:=4) j8.nd rfl (Or.inl rfl))
    (Ze (JF (Zs (Za (Zi jC gU (Za (pv 0) (Za (ZI ZS (pv 1) Zh (fun _ _=>rfl)) Zb))) (Za (Zi jC gU (Za (pv 0) (Za Zh Zb))) Zb))) (ZZ rfl (Zo (ZL (i:=5) j8.nd rfl (Or.inr rfl)) (Zo (ZL (i:=6) j8.nd rfl (Or.inl rfl)) ZQ))))
    (Ze (Jk ["_law_k", "_law_board", "_law_first"] 1 [1,5] (i:=7) j8.nd rfl (Or.inl rfl) (ZY rfl G.range (Za (ZI ZS (pv 1) Zh (fun _ _=>rfl)) Zb)) (fun C s H fp=>pb 0) (fun C s H fp=>Ya)
     (fun C s H fp D=>ZK rfl (Zr Ja (Zr Z3 (pv 2) (pv 0)) (ZI (show mZ (aZ _ _ _ C s H fp) (pN K) from ZS) (pv 1) Zh (fun _ _=>rfl)))))
    (Ze (Jk ["_law_row", "_law_found"] 1 [3] (i:=8) j8.nd rfl (Or.inl rfl) (Yb (pv 7)) (fun C s H fp=>pb 0)
     (fun C s H fp=>Yp (PW.pt (Wf (ZJ (show bf (aZ _ _ _ C s H fp) (compareOp .NotIn) (vY K true) from YH) (pv 0) (pv 1) rfl) (Jj (ZM (Zi qR hr (Za (Zr (show bf (aZ _ _ _ C s H fp) (binaryOp .Add) (jJ K) from gp) (pv 1) (Zs (Za (pv 0) Zb))) Zb))))))) (fun C s H fp D=>ZK rfl (pv 0)))
    (Zj (Zu (i:=3) j8.nd rfl (Or.inr rfl) (Zr gp (pv 3) (U0 (PW.pt (We (ZJ (UC hr.uR) (pv 8) (ZF Zb) (bK _)) (Y8 (ZJ yK (pv 6) (pv 2) (bK _))))) (Zs (Za Yv Zb)) (Zs (Za (ZI ZU (pv 8) Zh (fun _ _=>rfl)) Zb))))))))))
   (Zj (Zw (pv 3)))),?_⟩
  obtain⟨a,e,hb⟩:=ZD bd.1
  cases e
  obtain⟨_,w1,w2,g1,g2⟩:=id bd
  obtain⟨u0,v0,e0,_⟩:=id st
  have Ca:b≠p:=Ye hb e0 (by intro z;cases z)
  have eH:(hg.toNat:Int)=hg:=by omega
  refine Zp (ZA ⟨Nat.zero_le _,fun f0 xw=>Zn ?_⟩)
  dsimp only[List.set]
  have s0:=aA (o:=.tup []) xw
  have CS:upd H f0 (.tup []) f0=some (.tup []):=Zc
  generalize upd H f0 (HO.tup [])=H0 at s0 CS
  have eK:=st.same s0
  refine Zp ⟨_,rfl,b,_,_,_,rfl,rfl,ah.of (s0 _ _ hb),iX,wd,rfl,by omega,by omega,?_⟩
  refine Yi (n:=wd.toNat) (fun i σ H2=> ∃(fa:Addr) (fs:List V) (x4 x5 x6 x7 x8:Option V),σ=[some (.ref p),some (.ref b),some (.int n),some (.ref fa),x4,x5,x6,x7,x8]∧aw p H H2∧bW H2 p∧H2 fa=some (.tup fs)∧fs.length=i∧dD wd.toNat fs∈fJ wd.toNat hg.toNat i)
   ⟨f0,[],none,none,none,none,none,rfl,s0.x,eK,CS,rfl,by simp[dD,fJ]⟩ ?_ ?_
  ·rintro i σ H2 hi ⟨fa,fs,x4,x5,x6,x7,x8,rfl,k2,ak,kG,rfl,hm⟩
   rw[Int.zero_add]
   refine Zn ?_
   dsimp only[List.set]
   have aT:fs.length<wd.toNat:=hi
   have As:=OW hm
   have flat:fs.all fq=true:=List.all_eq_true.mpr fun x hx=>by
    rcases As x hx with z |⟨j,z⟩<;>rw[z]<;>rfl
   have gY:=k2 _ _ hb Ca
   refine Zp (ZA ⟨_,rfl,_,rfl,b,_,_,_,rfl,rfl,ah.of gY,da,p,hg,rfl,ak,by omega,by omega,fun c1 o3 _ _ aO=> ⟨_,rfl,p,6,rfl,aO,by decide,by decide,fun c2 o4 _ _ cT=> ⟨(by show 2≤sizeLine;decide),fun tt Bp=> ⟨tt,_,rfl,ah.of Zc,rfl,_,_,rfl,_,_,rfl,rfl,?_⟩⟩⟩⟩)
   have uO:aw p H2 (upd (upd H2 p o3) p o4):=aw.upd.trans aw.upd
   generalize upd (upd H2 p o3) p o4=H4 at cT uO Bp
   have s5:=aA (o:=.tup [.int c1,.int c2]) Bp
   generalize upd H4 tt (HO.tup [V.int c1,V.int c2])=H5 at s5
   have cM:=cT.same s5
   have k5:aw p H H5:=k2.trans (uO.trans s5.x)
   obtain⟨uz,vz,ez,_⟩:=id ak
   have xu:fa≠p:=Ye kG ez (by intro z;cases z)
   have tT:=s5 _ _ (uO _ _ kG xu)
   have ua:=k5 _ _ hb Ca
   dsimp only[List.set]
   refine Zp ⟨_,rfl,b,_,_,_,rfl,rfl,ah.of ua,da,hg,rfl,by omega,by omega,?_⟩
   refine Jb (fun k ys aj H'=> ∃v rs,aj=[v,some (.ref b),some (.int c1)]∧H'=H5∧ys=rs.map V.int∧(∀r∈rs,0≤r∧r<hg)∧rs.length≤k) ⟨_,[],rfl,rfl,rfl,(fun r h=>by cases h),Nat.zero_le _⟩ ?_ ?_
   ·rintro k ys aj H' hk ⟨v,rs,rfl,rfl,rfl,wX,L7⟩
    refine Zn ?_
    dsimp only[List.set]
    try unfold rh
    refine aW ?_
    refine⟨_,rfl,_,rfl,_,_,rfl,rfl,_,rfl,b,_,_,_,rfl,rfl,ah.of ua,da,_,_,rfl,rfl,by omega,by rw[sizeLine_eq,List.length_map];omega,?_⟩
    refine⟨_,rs++[_],rfl,rfl,by rw[List.map_append];rfl,fun r cK=> ?_,by rw[List.length_append];simp;omega⟩
    rcases List.mem_append.mp cK with z |z
    ·exact wX r z
    ·rw[List.mem_singleton.mp z]
     exact⟨Int.emod_nonneg _ (by omega),Int.emod_lt_of_pos _ (by omega)⟩
   ·rintro ys aj H' ⟨v,rs,rfl,rfl,rfl,wX,L7⟩ L hL
    have s6:=aA (o:=.lst (rs.map V.int)) hL
    have eL:upd H' L (.lst (rs.map V.int)) L=some (.lst (rs.map V.int)):=Zc
    generalize upd H' L (HO.lst (rs.map V.int))=H6 at s6 eL
    dsimp only[List.set]
    refine Zp ⟨_,rfl,L,rfl,⟨_,ag.of eL⟩,?_⟩
    refine Z9 (xs:=rs.map V.int) (fun j ys aj Fd=> ∃v gs,aj=[v,some (.ref fa)]∧af H6 Fd∧ys=gs.map V.int∧(∀r∈gs,0≤r∧r<hg∧dR (.int r) fs=false∧bz (fs++[.int r])=true)∧gs.length≤j) ⟨_,[],rfl,af.refl _,rfl,(fun r h=>by cases h),Nat.zero_le _⟩ (fun j ys aj Fd _ ⟨_,_,_,s',_⟩=>ag.of (s' _ _ eL)) ?_ ?_
    ·rintro j y ys aj H7 hy ⟨v,gs,rfl,s7,rfl,qr,Mb⟩
     rw[List.getElem?_map]at hy
     obtain⟨r,qi,rfl⟩:=Option.map_eq_some_iff.mp hy
     have hj:j<rs.length:=(List.getElem?_eq_some_iff.mp qi).1
     obtain⟨r0,r1⟩:=wX r (List.mem_of_getElem? qi)
     have BZ:=s7 _ _ (s6 _ _ tT)
     refine Zn ?_
     dsimp only[List.set]
     refine⟨_,rfl,_,rfl,fa,fs,rfl,.inr (ah.of BZ),rfl,flat,_,rfl,?_⟩
     cases hn:dR (.int r) fs with
     |true=>exact aH (aH ⟨_,gs,rfl,s7,rfl,qr,by omega⟩)
     |false=>
      refine aW ?_
      refine⟨_,rfl,_,rfl,(by show 1≤sizeLine;decide),fun t8 wQ=> ?_⟩
      have s8:=aA (o:=.tup [.int r]) wQ
      have e8:upd H7 t8 (.tup [.int r]) t8=some (.tup [.int r]):=Zc
      generalize upd H7 t8 (HO.tup [V.int r])=H8 at s8 e8
      refine YI (s8 _ _ BZ) e8 (by simp;omega) fun t9 H9 s9 e9=> ?_
      refine⟨t9,_,rfl,e9,fun x hx=> ?_,by rw[List.length_append];simp;omega,fun jB fg=> ⟨_,rfl,?_⟩⟩
      ·rcases List.mem_append.mp hx with z |z
       ·exact As x z
       ·exact .inr ⟨r,List.mem_singleton.mp z⟩
      have Ak:=s7.trans (s8.trans (s9.trans fg))
      cases hu:bz (fs++[.int r]) with
      |true=>
       refine aW ⟨_,rfl,by rw[sizeLine_eq,List.length_map];omega,⟨_,gs++[r],rfl,Ak,by rw[List.map_append];rfl,fun r' cK=> ?_,by rw[List.length_append];simp;omega⟩⟩
       rcases List.mem_append.mp cK with z |z
       ·exact qr r' z
       ·rw[List.mem_singleton.mp z]
        exact⟨r0,r1,hn,hu⟩
      |false=>exact aH ⟨_,gs,rfl,Ak,rfl,qr,by omega⟩
    ·rintro ys aj H7 ⟨v,gs,rfl,s7,rfl,qr,Mb⟩ M hM
     have s8:=aA (o:=.lst (gs.map V.int)) hM
     have eM:upd H7 M (.lst (gs.map V.int)) M=some (.lst (gs.map V.int)):=Zc
     generalize upd H7 M (HO.lst (gs.map V.int))=H8 at s8 eM
     dsimp only[List.set]
     have vT:=s6.trans (s7.trans s8)
     have VJ:=vT _ _ tT
     refine ZA ⟨_,rfl,_,rfl,by show 0≤sizeLine;decide,fun c hc=> ⟨M,c,_,rfl,rfl,ag.of (aA hc _ _ eM),ag.of Zc,_,rfl,?_⟩⟩
     have s9:=aA (o:=.lst []) hc
     generalize upd H8 c (HO.lst [])=H9 at s9
     have AS:∀{jB:Hp},af H9 jB→∀t,jB t=none→jJ K (.ref fa) (.ref t) (upd jB t (.tup [.ae])) fun v H'=>bG 3 v [some (.ref p),some (.ref b),some (.int n),some (.ref fa),some (.int (fs.length:Int)),some (.int c1),some (.int c2),some (.ref L),some (.ref M)] H' fun aR H2=> ∃(fa:Addr) (qy:List V) (x4 x5 x6 x7 x8:Option V),aR=[some (.ref p),some (.ref b),some (.int n),some (.ref fa),x4,x5,x6,x7,x8]∧aw p H H2∧bW H2 p∧H2 fa=some (.tup qy)∧qy.length=fs.length+1∧dD wd.toNat qy∈fJ wd.toNat hg.toNat (fs.length+1):=by
      intro jB fg t ht
      have dm:=aA (o:=.tup [.ae]) ht
      have gk:=vT.trans (s9.trans (fg.trans dm))
      refine YI (gk _ _ tT) Zc (by simp;omega) fun t9 fK cW e12=>Zn ?_
      exact⟨t9,_,_,_,_,_,_,rfl,k5.trans (gk.trans cW).x,cM.same (gk.trans cW),e12,by simp,QX hm aT⟩
     cases gs with
     |nil=>exact aW ⟨by show 1≤sizeLine;decide,AS (af.refl _)⟩
     |cons g gs=>
      refine aH ⟨_,rfl,_,rfl,_,_,rfl,rfl,_,rfl,?_⟩
      cases decide (c2<n) with
      |true=>exact aW ⟨by show 1≤sizeLine;decide,AS (af.refl _)⟩
      |false=>
       refine aH ⟨_,rfl,M,_,0,.int g,rfl,rfl,ag.of (s9 _ _ eM),(Yc (j:=0) rfl:ft (List.map V.int (g::gs)) ((0:Nat):Int)=some (.int g)),by show 1≤sizeLine;decide,fun t ht=> ?_⟩
       have dm:=aA (o:=.tup [.int g]) ht
       have gk:=vT.trans (s9.trans dm)
       obtain⟨m0,m1,m2,m3⟩:=qr g List.mem_cons_self
       refine YI (gk _ _ tT) Zc (by simp;omega) fun t9 fK cW e12=>Zn ?_
       exact⟨t9,_,_,_,_,_,_,rfl,k5.trans (gk.trans cW).x,cM.same (gk.trans cW),e12,by simp,QW hm aT m0 (by omega) m2 m3⟩
  ·rintro σ H2 ⟨fa,fs,x4,x5,x6,x7,x8,rfl,k2,ak,kG,Mu,hm⟩
   obtain⟨uz,vz,ez,_⟩:=id ak
   have xu:fa≠p:=Ye kG ez (by intro z;cases z)
   have e:dD wd.toNat fs=fs:=by
    unfold dD
    rw[Mu,Nat.sub_self]
    exact List.append_nil _
   rw[e]at hm
   exact⟨_,rfl,q fa H2 fs k2 ak kG xu hm⟩
end
section
theorem Q8 {hg:Nat}{xs:List V}{l:Nat}{r:Int} :r∈gA hg xs l↔(0≤r∧r<hg)∧dR (.int r) xs=false∧bz (xs.set l (.int r))=true:=by
 unfold gA
 rw[List.mem_filter,List.mem_map,Bool.and_eq_true,Bool.not_eq_true']
 constructor
 ·rintro⟨⟨k,hk,rfl⟩,h⟩
  rw[List.mem_range]at hk
  exact⟨by omega,h⟩
 ·rintro⟨h,h'⟩
  exact⟨⟨r.toNat,List.mem_range.mpr (by omega),by omega⟩,h'⟩
theorem Wr {hg:Nat}{xs:List V}{k:List Int} :k∈gL hg xs↔∃(l:Nat) (r:Int),k=[(l:Int),r]∧xs[l]? =some V.ae∧r∈gA hg xs l:=by
 unfold gL
 rw[List.mem_flatMap]
 constructor
 ·rintro⟨l,hl,h⟩
  by_cases e:xs[l]? =some V.ae
  ·rw[if_pos e]at h
   obtain⟨r,hr,rfl⟩:=List.mem_map.mp h
   exact⟨l,r,rfl,e,hr⟩
  ·rw[if_neg e]at h
   cases h
 ·rintro⟨l,r,rfl,e,hr⟩
  refine⟨l,List.mem_range.mpr (List.getElem?_eq_some_iff.mp e).1,?_⟩
  rw[if_pos e]
  exact List.mem_map.mpr ⟨r,hr,rfl⟩
theorem lF {α β:Type}{R:α→β→Prop} :∀{xs:List α}{ys:List β},Paired R xs ys→∀v∈xs,∃y∈ys,R v y
 |_,_,.nil,v,h=>by cases h
 |_,_,.cons a b,v,h=>by
  rcases List.mem_cons.mp h with rfl |h
  ·exact⟨_,List.mem_cons_self,a⟩
  ·obtain⟨y,hy,r⟩:=lF b v h
   exact⟨y,List.mem_cons_of_mem _ hy,r⟩
end
end U.S
namespace L2
open PySem PySem.Spec PyProof.Rows SeqAt
theorem RJ {K:PySem.W.Frag}{l1 l2:Addr}{xs zs:List V}{g:TG}{tt:TT}{ti:TC}{ys:List V}{σ:St}{H:Hp}{Q:List V→St→Hp→Prop}(hlen:xs.length=zs.length) (Pv:Nat→List V→St→Hp→Prop) (h0:Pv 0 ys σ H)
  (hl:∀i ys σ H,i≤xs.length→Pv i ys σ H→ag K H l1 xs∧ag K H l2 zs)
  (hs:∀i x y T ys σ H,xs[i]? =some x→zs[i]? =some y→H T=none→Pv i ys σ H→g (.ref T) σ (upd H T (.par [x,y])) fun aR H2=>tt aR H2 fun b H3=>if b=true then ti ys aR H3 (Pv (i+1)) else Pv (i+1) ys aR H3)
  (hd:∀ys σ H,Pv xs.length ys σ H→Q ys σ H):iw g tt ti (uK K l1 l2) ys σ H Q:=by
 have e:min xs.length zs.length=xs.length:=by rw[←hlen];exact Nat.min_self _
 refine W8 Pv h0 (fun i ys σ H hi=>hl i ys σ H (by rw[e]at hi;exact hi)) hs ?_
 rw[e]
 exact hd
end L2
namespace U
open PySem L2 PyProof.Rows
section
variable {P:Program}{w:World}{K:PySem.W.Frag}{mg:Str→Option Value}{base:Heap}
def yS (R:Hp→V→V→Prop) (H:Hp) (x y:V):Prop:=∃(a b:Addr) (xs ys:List V),x=.ref a∧y=.ref b∧H a=some (.lst xs)∧H b=some (.lst ys)∧Paired (R H) xs ys∧xs.length≤1000
theorem jx.same {R:Hp→V→V→Prop}(hR:∀{H H':Hp}{x y:V},R H x y→af H H'→R H' x y) {H H':Hp}{x y:V}(r:jx R H x y) (s:af H H'):jx R H' x y:=by
 obtain⟨a,b,xs,ys,e1,e2,h1,h2,pr,hl⟩:=r
 exact⟨a,b,xs,ys,e1,e2,s _ _ h1,s _ _ h2,Paired.ck pr fun _ _ q=>hR q s,hl⟩
theorem RO {R:Hp→V→V→Prop}{k:Nat}(hR:∀{H H':Hp}{x y:V},R H x y→af H H'→R H' x y) {f:Addr}{fd:FuncData}(F:aK K "_law_same" "_law_same" nN f fd) (G:Gs mg) (D:Def P w K mg base k "_law_same" ["_law_found", "_law_due"] (gH R)):
  az P w K mg base aM (k+1) f fd ["_law_found", "_law_due"] (gH (yS R)):=by
 refine F.ok rO (fun vs H Q E h=> ?_) (fun ao A outer s H vs Q E hr h=> ?_)
 ·obtain⟨x,y,rfl,_⟩:=h
  rfl
 ·obtain⟨x,y,rfl,⟨a,b,xs,ys,rfl,rfl,ha,hb,pr,hl⟩,q⟩:=h
  refine⟨_,Ze (ZO (ZM (Zm (Y6 (a:= "list") (b:= "tuple")) rfl G.isinstance boot_isinstance (Za (pv 1) (Za (Zs (Za (ZE (v:=.ty "list") rfl G.list boot_list rfl) (Za (ZE (v:=.ty "tuple") rfl G.tuple boot_tuple rfl) Zb))) Zb))))
    (Ze (ZO (PW.pt (We (ZJ W5 (Zm (ZB (c:= "list")) rfl G.isinstance boot_isinstance (Za (pv 0) (Za (ZE (v:=.ty "list") rfl G.list boot_list rfl) Zb))) (Zm (ZB (c:= "list")) rfl G.isinstance boot_isinstance (Za (pv 1) (Za (ZE (v:=.ty "list") rfl G.list boot_list rfl) Zb))) (bK _))
      (Y8 (ZJ W5 (Zm (ZB (c:= "tuple")) rfl G.isinstance boot_isinstance (Za (pv 0) (Za (ZE (v:=.ty "tuple") rfl G.tuple boot_tuple rfl) Zb))) (Zm (ZB (c:= "tuple")) rfl G.isinstance boot_isinstance (Za (pv 1) (Za (ZE (v:=.ty "tuple") rfl G.tuple boot_tuple rfl) Zb))) (bK _))))) Zt Zz)
    (Zj (Zw (Yw (ZV Jo (Zm ZC rfl G.len boot_len (Za (pv 0) Zb)) (Zm ZC rfl G.len boot_len (Za (pv 1) Zb)) (bK _))
     (Yu (Zm JC rfl G.all boot_all (Za (Z8 ["_law_one", "_law_other"] 2 [] (EL rfl G.zip (Za (pv 0) (Za (pv 1) Zb)))
      (fun C s H fp=>show PG (aZ _ _ _ C s H fp) _ (gZ K 2 (bT (bG 0) (bT (bG 1) g8))) from ZZ rfl (Zo (pb 0) (Zo (pb 1) ZQ))) (fun C s H fp=>Ya)
      (fun C s H fp D'=>ZK rfl (Zi D hr (Za (pv 0) (Za (pv 1) Zb))))) Zb))))))) Zz) Zt,?_⟩
  refine⟨_,rfl,(by show 2≤sizeLine;decide),fun t ht=> ?_⟩
  have s1:=Zl (o:=.tup [V.ty "list",V.ty "tuple"]) ht
  have e1:upd H t (.tup [V.ty "list",V.ty "tuple"]) t=some (.tup [V.ty "list",V.ty "tuple"]):=Zc
  generalize upd H t (HO.tup [V.ty "list",V.ty "tuple"])=H1 at s1 e1
  have fV:=s1 _ _ ha
  have cQ:=s1 _ _ hb
  refine⟨_,t,_,_,rfl,ah.of e1,.inr (.inr (.inl ⟨b,ys,rfl,cQ,rfl⟩)),(show _=some true from rfl),_,rfl,aW ?_⟩
  refine⟨_,rfl,_,_,_,rfl,.lst fV,(show _=some true from rfl),_,rfl,_,_,_,rfl,.lst cQ,(show _=some true from rfl),rfl,_,rfl,aH ?_⟩
  refine⟨_,rfl,_,_,_,rfl,.lst fV,(show _=some false from rfl),_,rfl,_,_,_,rfl,.lst cQ,(show _=some false from rfl),rfl,_,rfl,aH ?_⟩
  have hlen:xs.length=ys.length:=Paired.length pr
  refine⟨_,rfl,a,xs,rfl,.inl (ag.of fV),_,rfl,b,ys,rfl,.inl (ag.of cQ),rfl,_,rfl,?_⟩
  have el:decide (V.int (xs.length:Int)=V.int (ys.length:Int))=true:=decide_eq_true (by rw[hlen])
  rw[el]
  refine aW ⟨_,rfl,_,rfl,a,b,rfl,⟨xs,ys,ag.of fV,ag.of cQ⟩,?_⟩
  refine RJ (xs:=xs) (zs:=ys) hlen (fun i zs σ H2=> ∃v0 v1,σ=[v0,v1]∧af H1 H2∧zs=List.replicate i (V.bl true)) ⟨_,_,rfl,af.refl _,rfl⟩ (fun i zs σ H2 _ ⟨_,_,_,s2,_⟩=> ⟨ag.of (s2 _ _ fV),ag.of (s2 _ _ cQ)⟩) ?_ ?_
  ·rintro i x y T zs σ H2 hx hy hT ⟨v0,v1,rfl,s2,rfl⟩
   obtain⟨y',iI,r⟩:=Y3 pr hx
   rw[hy]at iI
   cases iI
   have sT:=Zl (o:=.par [x,y]) hT
   have hi:i<xs.length:=(List.getElem?_eq_some_iff.mp hx).1
   refine⟨T,_,rfl,ah.nX Zc,rfl,_,_,rfl,_,_,rfl,rfl,?_⟩
   refine⟨x,rfl,y,rfl,x,y,rfl,hR r (s1.trans (s2.trans sT)),fun H3 s3=> ⟨by rw[List.length_replicate,sizeLine_eq];omega,_,_,rfl,s2.trans (sT.trans s3),?_⟩⟩
   rw[List.replicate_succ']
  ·rintro zs σ H2 ⟨v0,v1,rfl,s2,rfl⟩ p hp
   refine⟨p,List.replicate xs.length true,rfl,?_,?_⟩
   ·rw[List.map_replicate]
    exact ag.of Zc
   ·have e:(List.replicate xs.length true).all id=true:=by simp
    rw[e]
    exact q _ (s1.trans (s2.trans (Zl hp)))
def yT (_:Hp) (x y:V):Prop:=∃k:Bool,x=.bl k∧y=.bl k
theorem Rj {f:Addr}{fd:FuncData}(F:aK K "_law_same" "_law_same" nN f fd) (G:Gs mg):az P w K mg base aM 1 f fd ["_law_found", "_law_due"] (gH yT):=by
 refine F.ok rO (fun vs H Q E h=> ?_) (fun ao A outer s H vs Q E hr h=> ?_)
 ·obtain⟨x,y,rfl,_⟩:=h
  rfl
 ·obtain⟨x,y,rfl,⟨k,rfl,rfl⟩,q⟩:=h
  refine⟨_,Ze (ZO (ZM (Zm (WV (a:= "list") (b:= "tuple")) rfl G.isinstance boot_isinstance (Za (pv 1) (Za (Zs (Za (ZE (v:=.ty "list") rfl G.list boot_list rfl) (Za (ZE (v:=.ty "tuple") rfl G.tuple boot_tuple rfl) Zb))) Zb)))) Zt Zz)
   (Ze (ZO (PW.pt (We (Ys (YG (pv 1))) (Y8 (Ys (YG (pv 0)))))) Zt Zz)
   (Zj (Zw (Yw (ZV Jo (Zm (ZB (c:= "bool")) rfl G.isinstance boot_isinstance (Za (pv 0) (Za (ZE (v:=.ty "bool") rfl G.bool boot_bool rfl) Zb)))
     (Zm (ZB (c:= "bool")) rfl G.isinstance boot_isinstance (Za (pv 1) (Za (ZE (v:=.ty "bool") rfl G.bool boot_bool rfl) Zb))) (bK _))
    (Yu (ZV Jo (pv 0) (pv 1) (bK _))))))),?_⟩
  refine⟨_,rfl,(by show 2≤sizeLine;decide),fun t ht=> ?_⟩
  have s1:=Zl (o:=.tup [V.ty "list",V.ty "tuple"]) ht
  refine⟨_,t,_,_,rfl,ah.of Zc,.inr (.inl ⟨k,rfl,rfl⟩),(show _=some false from rfl),_,rfl,aH ?_⟩
  refine⟨_,rfl,_,rfl,aH ⟨_,rfl,_,rfl,aH ?_⟩⟩
  refine⟨_,rfl,_,_,_,rfl,.bl k,(show _=some true from rfl),_,rfl,_,_,_,rfl,.bl k,(show _=some true from rfl),rfl,_,rfl,?_⟩
  refine aW ⟨_,rfl,_,rfl,(by cases k<;>rfl),?_⟩
  have e:decide (V.bl k=V.bl k)=true:=decide_eq_true rfl
  rw[e]
  exact q _ s1
end
end U
namespace U.S
open PySem L2 PyProof.Rows
section
variable {P:Program}{w:World}{K:PySem.W.Frag}{mg:Str→Option Value}{base:Heap}{cB cL cU:Addr}
def Fi (K:PySem.W.Frag) (cB cL cU:Addr) (H:Hp) (x y:V) (C:Addr):Prop:=Fj K cB cL H x y C∨(C=cU∧∃wd hg xs,fe H x y wd hg xs∧bz xs=false)
def dB (K:PySem.W.Frag) (cB cL cU:Addr):Sp:=fun vs H _ E=> ∃x y C,vs=[x,y]∧Fi K cB cL cU H x y C∧∀e H',af H H'→E (.ref e) (some C) H'
theorem Ib {f:Addr}{fd:FuncData}(F:aK K "need_unlike" "need_unlike" r9 f fd) (X:Exc K mg "NoUnlike" cU) (D1:Def P w K mg base 11 "is_unlike" ["board", "lay"] pz) (R1:bD P w K mg base 11 "is_unlike" ["board", "lay"] (dN K cB cL)):az P w K mg base (bE P w) 12 f fd ["board", "lay"] (dB K cB cL cU):=by
 refine F.iB Ah (fun vs H Q E h=> ?_) (fun ao A outer s H vs Q E hr h=> ?_)
 ·obtain⟨x,y,C,rfl,_⟩:=h
  rfl
 ·obtain⟨x,y,C,rfl,b,q⟩:=h
  rcases b with b |⟨rfl,wd,hg,xs,la,un⟩
  ·refine⟨_,Zj (ZO (Z2 (ZM (Z0 R1 hr (Za (pv 0) (Za (pv 1) Zb))))) Zt Zz),?_⟩
   exact⟨x,rfl,y,rfl,x,y,C,rfl,b,q⟩
  ·refine⟨_,Zj (ZO (Z2 (ZM (Zi D1 hr (Za (pv 0) (Za (pv 1) Zb))))) (Zj (Wg PySem.F.excBase_ValueError X.m X.x rfl (Za Yt Zb))) Zz),?_⟩
   refine⟨_,rfl,_,rfl,x,y,wd,hg,xs,rfl,la,fun H1 r s1 fi=> ⟨_,rfl,?_⟩⟩
   rw[yL fi,un]
   exact aW ⟨by show 1≤sizeLine;decide,fun e=>q e H1 s1⟩
theorem HX {f:Addr}{fd:FuncData}(F:aK K "places_left" "places_left" r6 f fd) (R1:bD P w K mg base 12 "need_unlike" ["board", "lay"] (dB K cB cL cU)):az P w K mg base (bE P w) 13 f fd ["board", "lay"] (dB K cB cL cU):=by
 refine F.iB Ad (fun vs H Q E h=> ?_) (fun ao A outer s H vs Q E hr h=> ?_)
 ·obtain⟨x,y,C,rfl,_⟩:=h
  rfl
 ·obtain⟨x,y,C,rfl,b,q⟩:=h
  refine⟨_,Ze (ZX (Z0 R1 hr (Za (pv 0) (Za (pv 1) Zb)))) Zt,?_⟩
  exact⟨x,rfl,y,rfl,x,y,C,rfl,b,q⟩
theorem HQ {f:Addr}{fd:FuncData}(F:aK K "is_stuck" "is_stuck" rX f fd) (R1:bD P w K mg base 13 "places_left" ["board", "lay"] (dB K cB cL cU)):az P w K mg base (bE P w) 14 f fd ["board", "lay"] (dB K cB cL cU):=by
 refine F.iB Ab (fun vs H Q E h=> ?_) (fun ao A outer s H vs Q E hr h=> ?_)
 ·obtain⟨x,y,C,rfl,_⟩:=h
  rfl
 ·obtain⟨x,y,C,rfl,b,q⟩:=h
  refine⟨_,Zj (Zw (ZV (UC (Nat.lt_of_succ_lt (WA hr))) (Z0 R1 hr (Za (pv 0) (Za (pv 1) Zb))) (ZF Zb) (bK _))),?_⟩
  exact⟨x,rfl,y,rfl,x,y,C,rfl,b,q⟩
end
section
variable {P:Program}{w:World}{K:PySem.W.Frag}{mg:Str→Option Value}{base:Heap}
abbrev vL:Stmt:=top 51
def rK:Sp:=fun vs H Q _=> ∃(b l:Addr) (wd hg:Int) (xs:List V),vs=[.ref b,.ref l]∧bM H (.ref b) wd hg∧H l=some (.tup xs)∧dA wd hg xs∧∀(q:Addr) (H':Hp) (ts:List V),af H H'→H q=none→H' q=some (.lst ts)→Paired (ba H') ts (gL hg.toNat xs)→ts.length≤144→Q (.ref q) H'
abbrev IW:List Str:=["_law_board", "_law_lay_here", "_law_found", "_law_line", "_law_row"]
theorem rR:bu IW ["_law_board", "_law_lay_here"] (aC vL):=⟨rfl,rfl,rfl,by decide+kernel,rfl,by decide+kernel,by decide+kernel⟩
theorem Ik {f:Addr}{fd:FuncData}(F:aK K "_law_places" "_law_places" vL f fd) (G:Gs mg) (qR:Def P w K mg base 2 "_law_unlike" ["_law_lay_here"] pB):az P w K mg base aM 3 f fd ["_law_board", "_law_lay_here"] rK:=by
 refine F.ok rR (fun vs H Q E h=> ?_) (fun ao A outer s H vs Q E hr h=> ?_)
 ·obtain⟨b,l,wd,hg,xs,rfl,_⟩:=h
  rfl
 ·obtain⟨b,l,wd,hg,xs,rfl,bd,hl,ly,q⟩:=h
  refine⟨_,Ze (Zu (i:=2) rR.nd rfl (Or.inl rfl) (ZF Zb))
   (Ze (YE PassesOwn.never rfl (ZY rfl G.range (Za (ZI ZS (pv 0) Zh (fun _ _=>rfl)) Zb)) (ZL (i:=3) rR.nd rfl (Or.inl rfl))
    (Zj (YE PassesOwn.never rfl (ZY rfl G.range (Za (ZI ZS (pv 0) Zh (fun _ _=>rfl)) Zb)) (ZL (i:=4) rR.nd rfl (Or.inl rfl))
     (Zj (ZO (PW.pt (Wf (Ys (YG (ZI ZS (pv 1) (pv 3) (fun _ _=>rfl)))) (Jj (ZJ YH (pv 4) (pv 1) rfl))))
      (Zj (ZO (ZM (Zi qR hr (Za (Zr gp (Zr gp (ZW Y7 (pv 1) Z7 (Z6 (pv 3))) (Zs (Za (pv 4) Zb))) (ZW Y7 (pv 1) (Z6 (Zr Z3 (pv 3) Zh)) Z7)) Zb)))
       (Zj (ZX (Jm PySem.F.plainAttrs_list PySem.F.slot_list_append PySem.F.type_list_append YA (pv 2) (Za (Zs (Za (pv 3) (Za (pv 4) Zb))) Zb)))) Zz)) Zz)))))
   (Zj (Zw (pv 2)))),?_⟩
  obtain⟨b',eb,hb⟩:=ZD bd.1
  cases eb
  obtain⟨_,w1,w2,g1,g2⟩:=id bd
  have len:=ly.len
  refine Zp (ZA ⟨by show 0≤sizeLine;decide,fun L hL=>Zn ?_⟩)
  dsimp only[List.set]
  have sL:=aA (o:=.lst []) hL
  have eL:upd H L (.lst []) L=some (.lst []):=Zc
  generalize upd H L (HO.lst [])=H1 at sL eL
  refine Zp ⟨_,rfl,b,_,_,_,rfl,rfl,ah.of (sL _ _ hb),iX,wd,rfl,by omega,by omega,?_⟩
  refine Yi (n:=wd.toNat) (fun i σ H4=> ∃zs x3 x4,σ=[some (.ref b),some (.ref l),some (.ref L),x3,x4]∧af H H4∧H4 L=some (.lst zs)∧Paired (ba H4) zs (kh hg.toNat xs i)∧zs.length≤i*12) ⟨_,_,_,rfl,sL,eL,.nil,Nat.zero_le _⟩ ?_ ?_
  ·rintro i σ H4 hi ⟨zs,x3,x4,rfl,s4,fY,fw,ji⟩
   rw[Int.zero_add]
   refine Zn ?_
   dsimp only[List.set]
   refine⟨_,rfl,b,_,_,_,rfl,rfl,ah.of (s4 _ _ hb),da,hg,rfl,by omega,by omega,?_⟩
   have es:=Y4 hg.toNat xs i
   have gW:i<xs.length:=by omega
   obtain⟨v,hv⟩:∃v,xs[i]? =some v:=⟨_,List.getElem?_eq_getElem gW⟩
   rw[hv]at es
   refine Yi (n:=hg.toNat) (fun j σ H5=> ∃zs x4,σ=[some (.ref b),some (.ref l),some (.ref L),some (.int (i:Int)),x4]∧af H H5∧H5 L=some (.lst zs)∧Paired (ba H5) zs (kh hg.toNat xs i++if some v=some V.ae then (oH xs i j).map fun r=> [(i:Int),r] else [])∧zs.length≤i*12+j) ⟨_,_,rfl,s4,fY,by
     have:(if some v=some V.ae then (oH xs i 0).map fun r=> [(i:Int),r] else [])=[]:=by split<;>rfl
     rw[this,List.append_nil]
     exact fw,ji⟩ ?_ ?_
   ·rintro j σ H5 hj ⟨zs,x4,rfl,s5,kJ,fk,jh⟩
    rw[Int.zero_add]
    refine Zn ?_
    dsimp only[List.set]
    have tN:=s5 _ _ hl
    refine⟨_,rfl,_,rfl,l,xs,(i:Int),v,rfl,rfl,ah.of tN,Yc hv,_,rfl,?_⟩
    have ef:=JQ xs i j
    rcases ly.ok v (List.mem_of_getElem? hv) with rfl |⟨r,rfl⟩
    ·rw[if_pos rfl]at fk ⊢
     refine aW ⟨_,rfl,_,rfl,l,xs,rfl,.inr (ah.of tN),rfl,Eu ly,_,rfl,?_⟩
     cases hn:dR (.int (j:Int)) xs with
     |true=>
      rw[hn]at ef
      refine aH (ZN ⟨_,_,rfl,s5,kJ,?_,by omega⟩)
      rw[ef]
      simpa using fk
     |false=>
      rw[hn]at ef
      refine aW ?_
      refine⟨_,rfl,_,rfl,_,rfl,l,xs,rfl,ah.of tN,?_,fun p hp=> ?_⟩
      ·rintro⟨_,z⟩
       rw[HT.jG]at z
       omega
      have s6:=aA (o:=.tup (aV xs none (some (i:Int)))) hp
      have e6:upd H5 p (.tup (aV xs none (some (i:Int)))) p=some (.tup (aV xs none (some (i:Int)))):=Zc
      generalize upd H5 p (HO.tup (aV xs none (some (i:Int))))=H6 at s6 e6
      rw[yM gW]at e6
      refine⟨_,rfl,(by show 1≤sizeLine;decide),fun p2 cE=> ?_⟩
      have s7:=aA (o:=.tup [.int (j:Int)]) cE
      have e7:upd H6 p2 (.tup [.int (j:Int)]) p2=some (.tup [.int (j:Int)]):=Zc
      generalize upd H6 p2 (HO.tup [.int (j:Int)])=H7 at s7 e7
      refine YI (s7 _ _ e6) e7 (by rw[List.length_take];simp;omega) fun t8 H8 s8 e8=> ?_
      refine⟨_,rfl,_,rfl,_,_,rfl,rfl,_,rfl,l,xs,rfl,ah.of ((s6.trans (s7.trans s8)) _ _ tN),?_,fun p9 fG=> ?_⟩
      ·rintro⟨z,_⟩
       rw[show(i:Int)+1=((i+1:Nat):Int) from rfl,HT.jG]at z
       omega
      have s9:=aA (o:=.tup (aV xs (some ((i:Int)+1)) none)) fG
      have e9:upd H8 p9 (.tup (aV xs (some ((i:Int)+1)) none)) p9=some (.tup (aV xs (some ((i:Int)+1)) none)):=Zc
      generalize upd H8 p9 (HO.tup (aV xs (some ((i:Int)+1)) none))=H9 at s9 e9
      rw[oK gW]at e9
      refine YI (s9 _ _ e8) e9 (by rw[List.length_append,List.length_take,List.length_drop];simp;omega) fun rn jB fg e10=> ?_
      have ex:xs.take i++[V.int (j:Int)]++xs.drop (i+1)=xs.set i (.int (j:Int)):=by
       rw[List.append_assoc,List.set_eq_take_append_cons_drop,if_pos gW]
       rfl
      rw[ex]at e10
      have G6:=s6.trans (s7.trans (s8.trans (s9.trans fg)))
      have lJ:=JZ ly hv (by omega:(0:Int)≤(j:Int)) (by omega) hn
      refine⟨rn,_,rfl,e10,lJ.ok,by rw[List.length_set];omega,fun kS dm=> ⟨_,rfl,?_⟩⟩
      have gk:=G6.trans dm
      cases hu:bz (xs.set i (.int (j:Int))) with
      |true=>
       rw[hu]at ef
       refine aW ?_
       have CY:=gk _ _ kJ
       refine⟨_,rfl,.inl ⟨rfl,_,ag.of CY⟩,_,rfl,_,rfl,(by show 2≤sizeLine;decide),fun o9 Ln=> ?_⟩
       have cW:=aA (o:=.tup [.int (i:Int),.int (j:Int)]) Ln
       have e12:upd kS o9 (.tup [.int (i:Int),.int (j:Int)]) o9=some (.tup [.int (i:Int),.int (j:Int)]):=Zc
       generalize upd kS o9 (HO.tup [.int (i:Int),.int (j:Int)])=fK at cW e12
       have Al:=gk.trans cW
       have yp:=cW _ _ CY
       refine⟨L,zs,.ref o9,rfl,rfl,yp,by rw[sizeLine_eq];omega,ZN ?_⟩
       refine⟨_,_,rfl,YU (s5.trans Al) hL,Zc,?_,by rw[List.length_append];simp;omega⟩
       rw[ef]
       simp only[Bool.not_false,Bool.and_self,if_true,List.map_append,List.map_cons,List.map_nil]
       rw[←List.append_assoc]
       exact Paired.snoc (Paired.ck fk fun v q' hq=>Jf yp (hq.same Al)) (Jf yp ⟨o9,rfl,e12⟩)
      |false=>
       rw[hu]at ef
       refine aH (ZN ⟨_,_,rfl,s5.trans gk,gk _ _ kJ,?_,by omega⟩)
       rw[ef]
       simpa using Paired.ck fk fun v q' hq=>ba.same hq gk
    ·rw[if_neg (by intro z;cases z)]at fk ⊢
     exact aH (aH (ZN ⟨_,_,rfl,s5,kJ,fk,by omega⟩))
   ·rintro σ H5 ⟨zs,x4,rfl,s5,kJ,fk,jh⟩
    refine⟨_,_,_,rfl,s5,kJ,?_,by omega⟩
    rw[es]
    exact fk
  ·rintro σ H4 ⟨zs,x3,x4,rfl,s4,fY,fw,ji⟩
   have e:kh hg.toNat xs wd.toNat=gL hg.toNat xs:=by
    rw[show wd.toNat=xs.length by omega]
    rfl
   rw[e]at fw
   exact⟨_,rfl,q L H4 zs s4 hL fY fw (by omega)⟩
end
theorem O2 {hg:Nat}{xs:List V}{k:List Int}(h:k∈gL hg xs):k.length=2:=by
 obtain⟨l,r,rfl,_⟩:=Wr.mp h
 rfl
theorem JP {α:Type}{R:α→α→Prop} :∀{xs:List α},(∀x∈xs,R x x)→Paired R xs xs
 | [],_=> .nil
 |_::_,h=> .cons (h _ List.mem_cons_self) (JP fun x hx=>h x (List.mem_cons_of_mem _ hx))
theorem RT {H:Hp}{ts i7:List V}{ks:List (List Int)}(p:Paired (ba H) ts ks):Paired (ba H) i7 ks→(∀k∈ks,k.length=2)→Paired (jx R0 H) ts i7:=by
 induction p generalizing i7 with
 |nil=>intro q _;cases q;exact .nil
 |cons hh _ ih=>
  intro q h
  cases q with
  |cons h2 t'=>
   obtain⟨a,ea,ha⟩:=hh
   obtain⟨b,eb,hb⟩:=h2
   refine .cons ⟨a,b,_,_,ea,eb,ha,hb,?_,?_⟩ (ih t' fun k hk=>h k (List.mem_cons_of_mem _ hk))
   ·refine JP fun x hx=> ?_
    obtain⟨i,_,rfl⟩:=List.mem_map.mp hx
    exact⟨i,rfl,rfl⟩
   ·rw[List.length_map,h _ List.mem_cons_self]
    decide
section
variable {P:Program}{w:World}{K:PySem.W.Frag}{mg:Str→Option Value}{base:Heap}
abbrev vI:Stmt:=top 52
def vc:Sp:=fun vs H Q _=> ∃(b l:Addr) (wd hg:Int) (xs:List V),vs=[.ref b,.ref l]∧bM H (.ref b) wd hg∧H l=some (.tup xs)∧dA wd hg xs∧bz xs=true∧∀(H':Hp),af H H'→Q (.bl true) H'
abbrev IT:List Str:=["_law_board", "_law_lay_here", "_law_due", "_law_turn", "_law_found"]
theorem rP:bu IT ["_law_board", "_law_lay_here"] (aC vI):=⟨rfl,rfl,rfl,by decide+kernel,rfl,by decide+kernel,by decide+kernel⟩
theorem HU {f:Addr}{fd:FuncData}(F:aK K "_law_right" "_law_right" vI f fd) (G:Gs mg) (uM:Def P w K mg base 3 "_law_places" ["_law_board", "_law_lay_here"] rK) (qQ:Def P w K mg base 13 "places_left" ["board", "lay"] nG) (zf:Def P w K mg base 14 "is_stuck" ["board", "lay"] pA)
  (Tz:Def P w K mg base 3 "_law_same" ["_law_found", "_law_due"] (gH (yS (jx R0)))) (TB:Def P w K mg base 1 "_law_same" ["_law_found", "_law_due"] (gH yT)):az P w K mg base aM 15 f fd ["_law_board", "_law_lay_here"] vc:=by
 refine F.ok rP (fun vs H Q E h=> ?_) (fun ao A outer s H vs Q E hr h=> ?_)
 ·obtain⟨b,l,wd,hg,xs,rfl,_⟩:=h
  rfl
 ·obtain⟨b,l,wd,hg,xs,rfl,bd,hl,ly,un,q⟩:=h
  refine⟨_,Ze (Zu (i:=2) rP.nd rfl (Or.inl rfl) (Zi uM (hr.mono (by decide)) (Za (pv 0) (Za (pv 1) Zb))))
   (Ze (YE PassesOwn.never rfl (ZY rfl G.range (Za Zh Zb)) (ZL (i:=3) rP.nd rfl (Or.inl rfl))
    (Ze (Zu (i:=4) rP.nd rfl (Or.inl rfl) (Zi qQ (hr.mono (by decide)) (Za (pv 0) (Za (pv 1) Zb))))
    (Ze (ZO (Z2 (ZM (Zi Tz (hr.mono (by decide)) (Za (pv 4) (Za (pv 2) Zb))))) Zt Zz)
    (Ze (ZX (Jm PySem.F.plainAttrs_list PySem.F.slot_list_append PySem.F.type_list_append YA (pv 4) (Za (Zs Zb) Zb)))
    (Zj (ZX (OX PySem.F.plainAttrs_list PySem.F.slot_list_reverse PySem.F.type_list_reverse SU (pv 4))))))))
   (Zj (Zw (Zi TB (hr.mono (by decide)) (Za (Zi zf hr (Za (pv 0) (Za (pv 1) Zb))) (Za (ZV (UC (Nat.lt_of_succ_lt (WA hr))) (pv 2) (ZF Zb) (bK _)) Zb)))))),?_⟩
  refine Zp (ZA ⟨_,rfl,_,rfl,b,l,wd,hg,xs,rfl,bd,hl,ly,fun d H2 ts s2 nd ed pr Bd=>Zn ?_⟩)
  dsimp only[List.set]
  have two:∀k∈gL hg.toNat xs,k.length=2:=fun k hk=>O2 hk
  have Vu:=Paired.length pr
  refine Zp ⟨2,rfl,by decide,by decide,?_⟩
  refine Yi (fun i σ H'=> ∃v3 v4,σ=[some (.ref b),some (.ref l),some (.ref d),v3,v4]∧af H2 H') ⟨_,_,rfl,af.refl _⟩ ?_ ?_
  ·rintro i σ H3 hi ⟨v3,v4,rfl,s3⟩
   rw[Int.zero_add]
   refine Zn ?_
   dsimp only[List.set]
   have ka:=s2.trans s3
   refine Zp (ZA ⟨_,rfl,_,rfl,b,l,wd,hg,xs,rfl,bd.same ka,ka _ _ hl,ly,un,fun g H4 i7 s4 ng eg Ay=>Zn ?_⟩)
   dsimp only[List.set]
   have nP:=s3.trans s4
   have Vt:=Paired.length Ay
   refine Zp ⟨_,rfl,_,rfl,.ref g,.ref d,rfl,⟨g,d,i7,ts,rfl,rfl,eg,nP _ _ ed,RT Ay (Paired.ck pr fun v q' hq=>hq.same nP) two,by omega⟩,fun H5 s5=> ⟨true,rfl,aH (ZN ?_)⟩⟩
   dsimp only
   have AY:H2 g=none:=s3.free ng
   have CQ:=s5 _ _ eg
   refine Zp ⟨_,rfl,.inl ⟨rfl,_,ag.of CQ⟩,Nat.zero_le _,fun t ht=> ?_⟩
   have s6:=aA (o:=.tup []) ht
   generalize upd H5 t (HO.tup [])=H6 at s6
   refine⟨g,i7,.ref t,rfl,rfl,s6 _ _ CQ,by rw[sizeLine_eq];omega,ZN ?_⟩
   dsimp only
   have An:af H2 (upd H6 g (.lst (i7++[.ref t]))):=YU (nP.trans (s5.trans s6)) AY
   have e26:upd H6 g (.lst (i7++[.ref t])) g=some (.lst (i7++[.ref t])):=Zc
   generalize upd H6 g (HO.lst (i7++[.ref t]))=H7 at An e26
   refine⟨_,rfl,.inl ⟨rfl,_,ag.of e26⟩,g,_,rfl,rfl,e26,ZN ?_⟩
   exact⟨_,_,rfl,YU An AY⟩
  ·rintro σ H3 ⟨v3,v4,rfl,s3⟩
   have ka:=s2.trans s3
   refine⟨_,rfl,_,rfl,b,l,wd,hg,xs,rfl,bd.same ka,ka _ _ hl,ly,un,fun H4 s4=> ⟨_,rfl,by show 0≤sizeLine;decide,fun c hc=> ⟨d,c,ts,rfl,rfl,ag.of (aA hc _ _ ((s3.trans s4) _ _ ed)),ag.of Zc,?_⟩⟩⟩
   rw[Jn pr]
   exact⟨_,_,rfl,⟨_,rfl,rfl⟩,fun H5 s5=>q H5 (ka.trans (s4.trans ((aA hc).trans s5)))⟩
abbrev vP:Stmt:=top 53
def vv:Sp:=fun vs H Q _=> ∃(b l:Addr) (wd hg:Int) (xs:List V),vs=[.ref b,.ref l]∧bM H (.ref b) wd hg∧H l=some (.tup xs)∧dA wd hg xs∧bz xs=true∧∀(l':Addr) (H':Hp) (ys:List V),af H H'→H' l'=some (.tup ys)→dA wd hg ys→bz ys=true→Q (.ref l') H'
abbrev I0:List Str:=["_law_board", "_law_lay_here", "_law_some", "_law_line", "_law_row"]
theorem nM:bu I0 ["_law_board", "_law_lay_here"] (aC vP):=⟨rfl,rfl,rfl,by decide+kernel,rfl,by decide+kernel,by decide+kernel⟩
theorem Iq {f:Addr}{fd:FuncData}(F:aK K "_law_filled" "_law_filled" vP f fd) (G:Gs mg) (uM:Def P w K mg base 3 "_law_places" ["_law_board", "_law_lay_here"] rK):az P w K mg base aM 4 f fd ["_law_board", "_law_lay_here"] vv:=by
 refine F.ok nM (fun vs H Q E h=> ?_) (fun ao A outer s H vs Q E hr h=> ?_)
 ·obtain⟨b,l,wd,hg,xs,rfl,_⟩:=h
  rfl
 ·obtain⟨b,l,wd,hg,xs,rfl,bd,hl,ly,un,q⟩:=h
  refine⟨_,Ze (Zu (i:=2) nM.nd rfl (Or.inl rfl) (Zi uM hr (Za (pv 0) (Za (pv 1) Zb))))
   (Ze (QN PassesOwn.never (ZJ (DH (Nat.lt_of_succ_lt (WA hr))) (pv 2) (ZF Zb) (bK _))
    (Ze (JF (ZI ZU (pv 2) (Zr UB (Zm ZC rfl G.len boot_len (Za (pv 2) Zb)) Zh) (fun _ _=>rfl)) (ZZ rfl (Zo (ZL (i:=3) nM.nd rfl (Or.inl rfl)) (Zo (ZL (i:=4) nM.nd rfl (Or.inl rfl)) ZQ))))
    (Ze (Zu (i:=1) nM.nd rfl (Or.inl rfl) (Zr gp (Zr gp (ZW Y7 (pv 1) Z7 (Z6 (pv 3))) (Zs (Za (pv 4) Zb))) (ZW Y7 (pv 1) (Z6 (Zr Z3 (pv 3) Zh)) Z7)))
    (Zj (Zu (i:=2) nM.nd rfl (Or.inl rfl) (Zi uM hr (Za (pv 0) (Za (pv 1) Zb))))))))
   (Zj (Zw (pv 1)))),?_⟩
  obtain⟨_,w1,w2,g1,g2⟩:=id bd
  refine Zp (ZA ⟨_,rfl,_,rfl,b,l,wd,hg,xs,rfl,bd,hl,ly,fun d H2 ts s2 nd ed pr Bd=>Zn ?_⟩)
  dsimp only[List.set]
  refine Zp ⟨fun m σ H'=> ∃(l' d:Addr) (ys ts:List V) (v3 v4:Option V),m=ys.length - (rowsOf ys).length∧σ=[some (.ref b),some (.ref l'),some (.ref d),v3,v4]∧af H H'∧H' l'=some (.tup ys)∧dA wd hg ys∧bz ys=true∧H' d=some (.lst ts)∧Paired (ba H') ts (gL hg.toNat ys),
   ⟨_,l,d,xs,ts,_,_,rfl,rfl,s2,s2 _ _ hl,ly,un,ed,pr⟩,?_⟩
  rintro m σ H3 ⟨l3,d3,ys,fL,v3,v4,rfl,rfl,s3,kF,pU,uS,yl,fQ⟩
  refine⟨_,rfl,by show 0≤sizeLine;decide,fun c hc=> ⟨d3,c,fL,rfl,rfl,ag.of (aA hc _ _ yl),ag.of Zc,_,rfl,?_⟩⟩
  have s4:=aA (o:=.lst []) hc
  generalize upd H3 c (HO.lst [])=H4 at s4
  cases wO:fL.isEmpty with
  |true=>exact aH ⟨_,rfl,q l3 H4 ys (s3.trans s4) (s4 _ _ kF) pU uS⟩
  |false=>
   refine aW ⟨fun σ H'=> ∃m',m'<ys.length - (rowsOf ys).length∧∃(l' d:Addr) (ys ts:List V) (v3 v4:Option V),m'=ys.length - (rowsOf ys).length∧σ=[some (.ref b),some (.ref l'),some (.ref d),v3,v4]∧af H H'∧H' l'=some (.tup ys)∧dA wd hg ys∧bz ys=true∧H' d=some (.lst ts)∧Paired (ba H') ts (gL hg.toNat ys),fun aj H' h=>h,?_⟩
   have VC:0<fL.length:=by
    cases fL with
    |nil=>cases wO
    |cons _ _=>simp
   have ay:fL.length/2<fL.length:=by omega
   obtain⟨k,hk,t,ek,ht⟩:=lF fQ fL[fL.length/2] (List.getElem_mem ay)
   obtain⟨i,r,rfl,hx,hf⟩:=Wr.mp hk
   obtain⟨⟨sD,wa⟩,hn,hu⟩:=Q8.mp hf
   have iT:ft fL ((fL.length:Int)/2)=some (.ref t):=by
    have:(fL.length:Int)/2=((fL.length/2:Nat):Int):=rfl
    rw[this]
    exact Yc (by rw[List.getElem?_eq_getElem ay,ek])
   have gW:i<ys.length:=(List.getElem?_eq_some_iff.mp hx).1
   have len:=pU.len
   refine Zp (ZA ⟨_,rfl,_,rfl,d3,fL,rfl,.inl (ag.of (s4 _ _ yl)),_,_,rfl,rfl,⟨by decide,by decide⟩,d3,fL,_,_,rfl,rfl,ag.of (s4 _ _ yl),iT,?_⟩)
   refine⟨t,_,rfl,ah.of (s4 _ _ ht),rfl,_,_,rfl,_,_,rfl,rfl,?_⟩
   dsimp only[List.set]
   have ji:=s4 _ _ kF
   refine Zp (ZA ⟨_,rfl,_,rfl,_,rfl,l3,ys,rfl,ah.of ji,?_,fun p hp=> ?_⟩)
   ·rintro⟨_,z⟩
    rw[HT.jG]at z
    omega
   have s6:=aA (o:=.tup (aV ys none (some (i:Int)))) hp
   have e6:upd H4 p (.tup (aV ys none (some (i:Int)))) p=some (.tup (aV ys none (some (i:Int)))):=Zc
   generalize upd H4 p (HO.tup (aV ys none (some (i:Int))))=H6 at s6 e6
   rw[yM gW]at e6
   refine⟨_,rfl,(by show 1≤sizeLine;decide),fun p2 cE=> ?_⟩
   have s7:=aA (o:=.tup [.int r]) cE
   have e7:upd H6 p2 (.tup [.int r]) p2=some (.tup [.int r]):=Zc
   generalize upd H6 p2 (HO.tup [.int r])=H7 at s7 e7
   refine YI (s7 _ _ e6) e7 (by rw[List.length_take];simp;omega) fun t8 H8 s8 e8=> ?_
   refine⟨_,rfl,_,rfl,_,_,rfl,rfl,_,rfl,l3,ys,rfl,ah.of ((s6.trans (s7.trans s8)) _ _ ji),?_,fun p9 fG=> ?_⟩
   ·rintro⟨z,_⟩
    rw[show(i:Int)+1=((i+1:Nat):Int) from rfl,HT.jG]at z
    omega
   have s9:=aA (o:=.tup (aV ys (some ((i:Int)+1)) none)) fG
   have e9:upd H8 p9 (.tup (aV ys (some ((i:Int)+1)) none)) p9=some (.tup (aV ys (some ((i:Int)+1)) none)):=Zc
   generalize upd H8 p9 (HO.tup (aV ys (some ((i:Int)+1)) none))=H9 at s9 e9
   rw[oK gW]at e9
   refine YI (s9 _ _ e8) e9 (by rw[List.length_append,List.length_take,List.length_drop];simp;omega) fun rn jB fg e10=>Zn ?_
   dsimp only[List.set]
   have ex:ys.take i++[V.int r]++ys.drop (i+1)=ys.set i (.int r):=by
    rw[List.append_assoc,List.set_eq_take_append_cons_drop,if_pos gW]
    rfl
   rw[ex]at e10
   have lJ:=JZ pU hx sD (by omega) hn
   have G8:=s4.trans (s6.trans (s7.trans (s8.trans (s9.trans fg))))
   have Aq:=s3.trans G8
   refine ZA ⟨_,rfl,_,rfl,b,rn,wd,hg,_,rfl,bd.same Aq,e10,lJ,fun d5 kS FC dm Vo N8 fk _=>Zn ?_⟩
   have pm:=(Wc (v:=V.int r) (by intro z;cases z) hx).length_eq
   have le:=List.length_filter_le (fun x=> !decide (x=V.ae)) (ys.set i (.int r))
   have Vx:(rowsOf (ys.set i (.int r))).length≤ys.length:=by
    rw[List.length_set]at le
    exact le
   rw[List.length_cons]at pm
   refine⟨_,?_,rn,d5,_,FC,_,_,rfl,rfl,Aq.trans dm,dm _ _ e10,lJ,hu,N8,fk⟩
   rw[List.length_set]
   omega
end
end U.S
namespace L2
open PySem PySem.Spec PyProof.Rows SeqAt
section
variable {X:Cx}
theorem Qt (hu:X.A.units+1<cLine):bf X (compareOp .NotEq) (fun x y H Q=> ∃(a b:Addr) (xs:List Str),x=.ref a∧y=.ref b∧ag X.K H a (xs.map V.str)∧ag X.K H b (xs.map V.str)∧Q (.bl false) H):=by
 intro pins s σ H x y u v Q I rx ry h
 obtain⟨a,b,xs,rfl,rfl,ha,hb,q⟩:=h
 cases rx
 cases ry
 obtain⟨us,r1,p1,_⟩:=I.list ha
 obtain⟨vs,r2,p2,_⟩:=I.list hb
 have l1:=r1.length
 have l2:=r2.length
 rw[List.length_map]at l1 l2
 refine RcNeAt.lists (e:=fun _=>true) p1.isList p2.isList (by simp;omega) (Nat.lt_of_succ_lt hu) (fun j h1 h2=> ?_) _ _ _ _ ?_
 ·have hj:j<xs.length:=by simp at h1;omega
  have e:(xs.map V.str)[j]? =some (V.str xs[j]):=by simp[hj]
  obtain⟨u,iK,ru⟩:=r1.get e
  obtain⟨v,gR,rv⟩:=r2.get e
  have e1:us.toArray[j]=u:=by simpa using (List.getElem?_eq_some_iff.mp iK).2
  have e2:vs.toArray[j]=v:=by simpa using (List.getElem?_eq_some_iff.mp gR).2
  rw[e1,e2]
  obtain⟨t1,rfl⟩:=ru
  obtain⟨t2,rfl⟩:=rv
  have y:=EqAt.str_str (A:=X.A.in1) (s:=s) xs[j] t1 xs[j] t2
  simpa using y
 ·have e:(List.range us.toArray.size).all (fun _=>true)=true:=by simp
  rw[e]
  exact⟨.bl false,H,I,rfl,q⟩
end
end L2
namespace U
open PySem L2 PyProof.Rows
theorem Ux {K:PySem.W.Frag}{H:Hp}{P:Addr}{ps:Array Value}{v:V}(t:cR K H v) (h:H P=some (.bH ps)):v≠.ref P:=fun z=>by
 obtain⟨T,ty⟩:=t
 subst z
 cases ty with
 |lst e=>rw[h]at e;cases e
 |bU e=>rw[h]at e;cases e
 |tup e=>rw[h]at e;cases e
 |dK e=>rw[h]at e;cases e
 |dT e=>rw[h]at e;cases e
theorem Dw {H H':Hp}{P p:Addr}{q:Str}{o:HO}(h:TabAt H P q) (s:aw p H H') (hp:H p=some o) (h1:∀ps,o≠.bH ps) (h2:∀c,o≠hJ c q):TabAt H' P q:=by
 obtain⟨ps,e,t,f⟩:=h
 refine⟨ps,s _ _ e fun z=>by rw[z,hp]at e;cases e;exact h1 _ rfl,t,fun pos cv z=> ?_⟩
 obtain⟨d,e1,e2⟩:=f pos cv z
 exact⟨d,e1,s _ _ e2 fun z=>by rw[z,hp]at e2;cases e2;exact h2 _ rfl⟩
theorem WI {K:PySem.W.Frag}{H H':Hp}{p:Addr}{v:V}(b:i5 K H v) (s:aw p H H') (n:fb p H v):i5 K H' v:=⟨yI b.1 s n,by rw[Jg b.1.1 s n.1];exact b.2⟩
theorem YV {K:PySem.W.Frag}{H:Hp}{Pt:Addr}{ps:Array Value}{v:V}(t:eD K H v) (h:H Pt=some (.bH ps)):fb Pt H v:=⟨Ux t.1 h,fun xs e y hy=>Ux (t.2 xs e y hy) h⟩
theorem bM.x {H H':Hp}{p:Addr}{x:V}{wd hg:Int}(b:bM H x wd hg) (s:aw p H H') (hn:x≠.ref p):bM H' x wd hg:=by
 obtain⟨a,e,h⟩:=ZD b.1
 subst e
 exact⟨Zq (s _ _ h fun z=>hn (by rw[z])),b.2⟩
theorem bM.bH {H:Hp}{Pt:Addr}{ps:Array Value}{x:V}{wd hg:Int}(b:bM H x wd hg) (h:H Pt=some (.bH ps)):x≠.ref Pt:=by
 obtain⟨a,e,h'⟩:=ZD b.1
 subst e
 intro z
 cases z
 rw[h]at h'
 cases h'
def kO (K:PySem.W.Frag) (wd hg:Int) (H:Hp) (y:V):Prop:=eD K H y∧cA wd hg (bh H y)=false
theorem kO.same {K:PySem.W.Frag}{wd hg:Int}{H H':Hp}{y:V}(b:kO K wd hg H y) (s:af H H'):kO K wd hg H' y:=⟨b.1.same s,by rw[Yj b.1.1 s];exact b.2⟩
theorem kO.x {K:PySem.W.Frag}{wd hg:Int}{p:Addr}{H H':Hp}{y:V}(b:kO K wd hg H y) (s:aw p H H') (n:fb p H y):kO K wd hg H' y:=⟨yI b.1 s n,by rw[Jg b.1.1 s n.1];exact b.2⟩
theorem Jv {wd hg:Int}{xs:List V}(h:cA wd hg (some xs)=true):S.dA wd hg xs:=by
 have h':(decide ((xs.length:Int)=wd)&&((rowsOf xs).all fun r=>cw r 0 (hg - 1))&&decide (rowsOf xs).Nodup)=true:=h
 simp only[Bool.and_eq_true,decide_eq_true_eq,List.all_eq_true]at h'
 exact⟨h'.1.1,h'.1.2,h'.2⟩
theorem Rx:∀n:Nat,n<13→3≤n→(cA (n:Int) 12 (some (L2.upTo n))&& !S.bz (L2.upTo n))=true:=by decide+kernel
theorem Qh {n:Nat}(h3:3≤n) (Cu:n≤12):S.dA (n:Int) 12 (L2.upTo n)∧S.bz (L2.upTo n)=false:=by
 have:=Rx n (by omega) h3
 rw[Bool.and_eq_true,Bool.not_eq_true']at this
 exact⟨Jv this.1,this.2⟩
abbrev iD:Arguments:= {posonlyargs:=[],args:=[],vararg:=none,kwonlyargs:=[],kw_defaults:=[],kwarg:=none,defaults:=[]}
abbrev pJ (a b c:Str):Scope:= {kind:=.function,names:=[(a,.free),(b,.free),(c,.free)],isGenerator:=false,isCoroutine:=false}
abbrev pD:Scope:= {kind:=.function,names:=[("_law_call",.free),("_law_like",.free),("len",.globalImplicit)],isGenerator:=false,isCoroutine:=false}
def cV (x y:Str) (p1 p2 p3 p4:Pos):Expr:=.Call (.Name "_law_call" p1) [.Name x p2,.Name y p3] [] p4
def cX (p1 p2 p3 p4 p5 p6 p7 p8:Pos):Expr:=.Call (.Name "_law_call" p1) [.Tuple [.Call (.Name "len" p2) [.Name "_law_like" p3] [] p4,.Constant (.int 12) 0 p5] 0 p6,.Name "_law_like" p7] [] p8
theorem Ku {p1 p2 p3 p4:Pos} :oN iD (cV "_law_none" "_law_bad" p1 p2 p3 p4) (pJ "_law_bad" "_law_call" "_law_none") ["_law_call", "_law_none", "_law_bad"]:=⟨rfl,rfl,rfl,by decide,by decide,by decide,fun _ _ _ _ _=>rfl⟩
theorem Kt {p1 p2 p3 p4:Pos} :oN iD (cV "_law_board" "_law_bad" p1 p2 p3 p4) (pJ "_law_bad" "_law_board" "_law_call") ["_law_call", "_law_board", "_law_bad"]:=⟨rfl,rfl,rfl,by decide,by decide,by decide,fun _ _ _ _ _=>rfl⟩
theorem Ks {p1 p2 p3 p4 p5 p6 p7 p8:Pos} :oN iD (cX p1 p2 p3 p4 p5 p6 p7 p8) pD ["_law_call", "_law_like"]:=⟨rfl,rfl,rfl,by decide,by decide,by decide,fun _ _ _ _ _=>rfl⟩
theorem Kr {p1 p2 p3 p4:Pos} :oN iD (cV "_law_board" "_law_drawn" p1 p2 p3 p4) (pJ "_law_board" "_law_call" "_law_drawn") ["_law_call", "_law_board", "_law_drawn"]:=⟨rfl,rfl,rfl,by decide,by decide,by decide,fun _ _ _ _ _=>rfl⟩
section
variable {X:Cx}{aB aL aU gS gI:Addr}
def uD (K:PySem.W.Frag) (aB aL aU gS gI C:Addr) (ws:List V) (H:Hp):Prop:=∃g vx vy,ws=[.ref g,vx,vy]∧(g=gS∨g=gI)∧S.Fi K aB aL aU H vx vy C
theorem yw {x y:Str}{scope:Scope}{C f:Addr}{q:Str}{cl:List (Str×Addr)}{ws:List V}{p1 p2 p3 p4:Pos}(hS:∀b',bD X.prog X.w X.K X.mg b' 13 "places_left" ["board", "lay"] (S.dB X.K aB aL aU)) (hI:∀b',bD X.prog X.w X.K X.mg b' 14 "is_stuck" ["board", "lay"] (S.dB X.K aB aL aU)) (mS:X.mg "places_left" =some (.ref gS)) (mI:X.mg "is_stuck" =some (.ref gI))
  (kc:scope.names.lookup ("_law_call" :Str)=some .free) (kx:scope.names.lookup x=some .free) (ky:scope.names.lookup y=some .free) (dx:(x==("__debug__" :Str))=false) (dy:(y==("__debug__" :Str))=false)
  (ex:(x==("__classdict__" :Str))=false) (ey:(y==("__classdict__" :Str))=false):
  uN X 14 C f q (cV x y p1 p2 p3 p4) scope cl ["_law_call",x,y] ws (uD X.K aB aL aU gS gI C ws):=by
 intro dz cc A outer s2 H2 Q2 E2 hr pre hE
 obtain⟨g,vx,vy,rfl,jQ,pre⟩:=pre
 have fin:∀{k':Nat}{fn:Str},k'≤14→(∀b',bD X.prog X.w X.K X.mg b' k' fn ["board", "lay"] (S.dB X.K aB aL aU))→X.mg fn=some (.ref g)→∃t,PE (jW X.prog X.w X.K X.mg dz ["_law_call",x,y] q scope f (.ref cc) cl A outer s2 H2 E2) (cV x y p1 p2 p3 p4) t∧t ([V.ref g,vx,vy].map some) H2 Q2:=by
  intro k' fn aN hU mg
  obtain⟨g',fd,F,hg,hk,hb⟩:=hU dz
  rw[mg]at hg
  cases hg
  refine⟨_,Wh (X:=jW X.prog X.w X.K X.mg dz ["_law_call",x,y] q scope f (.ref cc) cl A outer s2 H2 E2) (i:=0) F (hr.mono aN) (YK (i:=0) rfl (.inr (.inr kc)) (by decide) (by decide)) hk hb .nil (E:=E2) (AF (X:=jW X.prog X.w X.K X.mg dz ["_law_call",x,y] q scope f (.ref cc) cl A outer s2 H2 E2) (fun e s' z=>z) rfl rfl rfl)
   (Za (YK (i:=1) rfl (.inr (.inr kx)) dx ex) (Za (YK (i:=2) rfl (.inr (.inr ky)) dy ey) Zb)),?_⟩
  exact⟨rfl,vx,rfl,vy,rfl,vx,vy,C,rfl,pre,hE⟩
 rcases jQ with rfl |rfl
 ·exact fin (by decide) hS mS
 ·exact fin (by decide) hI mI
def ES (gS gI:Addr) (ws:List V) (H:Hp):Prop:=∃(g o:Addr) (n:Nat),ws=[.ref g,.ref o]∧(g=gS∨g=gI)∧3≤n∧n≤12∧H o=some (.tup (L2.upTo n))
theorem OK {f:Addr}{q:Str}{cl:List (Str×Addr)}{ws:List V}{p1 p2 p3 p4 p5 p6 p7 p8:Pos}(mL:X.mg "len" =none) (hS:∀b',bD X.prog X.w X.K X.mg b' 13 "places_left" ["board", "lay"] (S.dB X.K aB aL aU)) (hI:∀b',bD X.prog X.w X.K X.mg b' 14 "is_stuck" ["board", "lay"] (S.dB X.K aB aL aU)) (mS:X.mg "places_left" =some (.ref gS)) (mI:X.mg "is_stuck" =some (.ref gI)):
  uN X 14 aU f q (cX p1 p2 p3 p4 p5 p6 p7 p8) pD cl ["_law_call", "_law_like"] ws (ES gS gI ws):=by
 intro dz cc A outer s2 H2 Q2 E2 hr pre hE
 obtain⟨g,o,n,rfl,jQ,n3,Kb,ho⟩:=pre
 obtain⟨ly,un⟩:=Qh n3 Kb
 have fin:∀{k':Nat}{fn:Str},k'≤14→(∀b',bD X.prog X.w X.K X.mg b' k' fn ["board", "lay"] (S.dB X.K aB aL aU))→X.mg fn=some (.ref g)→∃t,PE (jW X.prog X.w X.K X.mg dz ["_law_call", "_law_like"] q pD f (.ref cc) cl A outer s2 H2 E2) (cX p1 p2 p3 p4 p5 p6 p7 p8) t∧t ([V.ref g,V.ref o].map some) H2 Q2:=by
  intro k' fn aN hU mg
  obtain⟨g',fd,F,hg,hk,hb⟩:=hU dz
  rw[mg]at hg
  cases hg
  refine⟨_,Wh (X:=jW X.prog X.w X.K X.mg dz ["_law_call", "_law_like"] q pD f (.ref cc) cl A outer s2 H2 E2) (i:=0) F (hr.mono aN) (YK (i:=0) rfl (.inr (.inr rfl)) (by decide) (by decide)) hk hb .nil (E:=E2) (AF (X:=jW X.prog X.w X.K X.mg dz ["_law_call", "_law_like"] q pD f (.ref cc) cl A outer s2 H2 E2) (fun e s' z=>z) rfl rfl rfl)
   (Za (Zs (Za (Zm ZC rfl mL boot_len (Za (YK (i:=1) rfl (.inr (.inr rfl)) (by decide) (by decide)) Zb)) (Za Zh Zb))) (Za (YK (i:=1) rfl (.inr (.inr rfl)) (by decide) (by decide)) Zb)),?_⟩
  refine⟨rfl,_,rfl,o,_,rfl,.inr (ah.of ho),(by show 2≤sizeLine;decide),fun t ht=> ?_⟩
  have ll:((L2.upTo n).length:Int)=(n:Int):=by unfold L2.upTo;rw[List.length_map,List.length_range]
  rw[ll]
  have s1:=S.aA (o:=.tup [V.int (n:Int),V.int 12]) ht
  have e1:upd H2 t (.tup [V.int (n:Int),V.int 12]) t=some (.tup [V.int (n:Int),V.int 12]):=Zc
  generalize upd H2 t (HO.tup [V.int (n:Int),V.int 12])=H3 at s1 e1
  exact⟨.ref o,rfl,.ref t,.ref o,aU,rfl,.inr ⟨rfl,(n:Int),12,L2.upTo n,⟨⟨Zq e1,by omega,by omega,by decide,by decide⟩,Zq (s1 _ _ ho),ly⟩,un⟩,fun e H' s'=>hE e H' (s1.trans s')⟩
 rcases jQ with rfl |rfl
 ·exact fin (by decide) hS mS
 ·exact fin (by decide) hI mI
end
def KA (so si:Scope):Bool:=si.names.all fun z=>z.2 !=.free||so.names.lookup z.1==some .cell||so.names.lookup z.1==some .free
theorem uA {X:Cx}{scope:Scope}(h:KA X.env.scope scope=true):∀z∈scope.names,z.2=.free→X.env.kindOf z.1=some .cell∨X.env.kindOf z.1=some .free:=fun z hz e=>by
 have:=List.all_eq_true.mp h z hz
 simp only[Bool.or_eq_true,bne_iff_ne,ne_eq,beq_iff_eq]at this
 rcases this with (h |h) |h
 ·exact absurd e h
 ·exact .inl h
 ·exact .inr h
theorem wk {σ:L2.St}{i j l:Nat}{a b c:V}(h1:σ[i]? =some (some a)) (h2:σ[j]? =some (some b)) (h3:σ[l]? =some (some c)):∀(k i':Nat) v,[i,j,l][k]? =some i'→[a,b,c][k]? =some v→σ[i']? =some (some v):=fun k i' v e1 e2=>by
 match k,e1,e2 with
 |0,e1,e2=>cases e1;cases e2;exact h1
 |1,e1,e2=>cases e1;cases e2;exact h2
 |2,e1,e2=>cases e1;cases e2;exact h3
 |k+3,e1,e2=>simp at e1
theorem wB {X:Cx}{x y z:Str}{i j l:Nat}(h1:LN X x i) (h2:LN X y j) (h3:LN X z l):∀(k:Nat) u m,[x,y,z][k]? =some u→[i,j,l][k]? =some m→LN X u m:=fun k u m e1 e2=>by
 match k,e1,e2 with
 |0,e1,e2=>cases e1;cases e2;exact h1
 |1,e1,e2=>cases e1;cases e2;exact h2
 |2,e1,e2=>cases e1;cases e2;exact h3
 |k+3,e1,e2=>simp at e1
theorem HE {σ:L2.St}{i j:Nat}{a b:V}(h1:σ[i]? =some (some a)) (h2:σ[j]? =some (some b)):∀(k i':Nat) v,[i,j][k]? =some i'→[a,b][k]? =some v→σ[i']? =some (some v):=fun k i' v e1 e2=>by
 match k,e1,e2 with
 |0,e1,e2=>cases e1;cases e2;exact h1
 |1,e1,e2=>cases e1;cases e2;exact h2
 |k+2,e1,e2=>simp at e1
theorem Kx {X:Cx}{x y:Str}{i j:Nat}(h1:LN X x i) (h2:LN X y j):∀(k:Nat) u m,[x,y][k]? =some u→[i,j][k]? =some m→LN X u m:=fun k u m e1 e2=>by
 match k,e1,e2 with
 |0,e1,e2=>cases e1;cases e2;exact h1
 |1,e1,e2=>cases e1;cases e2;exact h2
 |k+2,e1,e2=>simp at e1
theorem UY {K:PySem.W.Frag}{H:Hp}{W:Addr}{v:V}(t:cR K H v) (h:H W=none):v≠.ref W:=fun z=>by
 obtain⟨T,ty⟩:=t
 subst z
 cases ty with
 |lst e=>rw[h]at e;cases e
 |bU e=>rw[h]at e;cases e
 |tup e=>rw[h]at e;cases e
 |dK e=>rw[h]at e;cases e
 |dT e=>rw[h]at e;cases e
theorem RM {K:PySem.W.Frag}{H:Hp}{W:Addr}{v:V}(t:eD K H v) (h:H W=none):fb W H v:=⟨UY t.1 h,fun xs e y hy=>UY (t.2 xs e y hy) h⟩
structure HeldAt (K:PySem.W.Frag) (Pt:Addr) (qn:Str) (a:Addr) (ns:List Int) (p:Addr) (b:Addr) (wd hg:Int) (vn vb:V) (o:Addr) (n:Nat) (H:Hp):Prop where
 lg:eY K H a ns
 tab:TabAt H Pt qn
 none:i5 K H vn
 bad:kO K wd hg H vb
 jY:bM H (.ref b) wd hg
 n9:H o=some (.tup (L2.upTo n))
 st:bW H p
theorem bW.x {H H':Hp}{p q:Addr}(h:bW H p) (s:aw q H H') (hn:p≠q):bW H' p:=let ⟨u,v,e,r⟩:=h;⟨u,v,s _ _ e hn,r⟩
section
variable {K:PySem.W.Frag}{Pt:Addr}{qn:Str}{a:Addr}{ns:List Int}{p b:Addr}{wd hg:Int}{vn vb:V}{o:Addr}{n:Nat}{H H':Hp}
theorem HeldAt.same (h:HeldAt K Pt qn a ns p b wd hg vn vb o n H) (s:af H H'):HeldAt K Pt qn a ns p b wd hg vn vb o n H':=
 ⟨h.lg.same s,ZR h.tab s,h.none.same s,h.bad.same s,h.jY.same s,s _ _ h.n9,h.st.same s⟩
theorem HeldAt.x (h:HeldAt K Pt qn a ns p b wd hg vn vb o n H) (s:aw Pt H H') (t:TabAt H' Pt qn):HeldAt K Pt qn a ns p b wd hg vn vb o n H':=by
 obtain⟨ps,hp,_⟩:=h.tab
 exact⟨h.lg.x s hp (fun _ _ z=>by cases z),t,WI h.none s (YV h.none.1 hp),h.bad.x s (YV h.bad.1 hp),h.jY.x s (h.jY.bH hp),s _ _ h.n9 (fun z=>by have:=h.n9;rw[z,hp]at this;cases this),
  h.st.x s (fun z=>by obtain⟨u,v,e,_⟩:=h.st;rw[z,hp]at e;cases e)⟩
theorem HeldAt.w {W:Addr}{zs:List V}(h:HeldAt K Pt qn a ns p b wd hg vn vb o n H) (s:aw W H H') (e:H W=some (.lst zs)) (n1:fb W H vn) (n2:fb W H vb) (n3:p≠W):HeldAt K Pt qn a ns p b wd hg vn vb o n H':=
 ⟨h.lg.x s e (fun _ _ z=>by cases z),Dw h.tab s e (fun _ z=>by cases z) (fun _ z=>by cases z),WI h.none s n1,h.bad.x s n2,
  h.jY.x s (fun z=>by
   cases z
   obtain⟨o',e',h'⟩:=ZD h.jY.1
   cases e'
   rw[e]at h'
   cases h'),s _ _ h.n9 (Ye h.n9 e (by intro z;cases z)),h.st.x s n3⟩
end
theorem QR (n:Nat) (v:V):(List.replicate n [v]).flatten=List.replicate n v:=by
 induction n with
 |zero=>rfl
 |succ n ih=>rw[List.replicate_succ,List.flatten_cons,ih,List.replicate_succ];rfl
theorem Pd:S.gL 2 [.int 0,.ae]=[[1,1]]:=by decide+kernel
theorem Pe:(S.gL 3 [.int 2]).isEmpty=true:=by decide+kernel
section
variable {P:Program}{w:World}{K:PySem.W.Frag}{mg:Str→Option Value}{base:Heap}
abbrev cJ:Stmt:=top 54
def vm (K:PySem.W.Frag) (Pt:Addr):Sp:=fun vs H Q _=> ∃(a:Addr) (ns:List Int),vs=[.ref a]∧eY K H a ns∧ns.length≤63∧H Pt=some (.bH #[])∧∀H',Q (.bl true) H'
abbrev gN:List Str:=["_law_script", "_law_k", "_law_state_here", "_law_side", "_law_lay_here", "_law_few", "_law_words", "_law_bad", "_law_board", "_law_call", "_law_drawn", "_law_like", "_law_none"]
theorem fN:bu gN ["_law_script"] (aC cJ):=⟨rfl,rfl,rfl,by decide+kernel,rfl,by decide+kernel,by decide+kernel⟩
theorem OS {f c Pt fR cS aB aL aU gS gI:Addr}{oc:Value}{od an:Option Addr}{kV doc pm ct:Value}{fA:Array (Option Value)}
  (lk:K.lookup f=some ⟨oc,od,.func (PySem.W.fnOf "law" "law" (gE cJ) (dM cJ) (aC cJ) .none kV doc pm an (.ref c) ct),fA⟩) (cP:PySem.W.codeIn K (.ref c) "law" =true) (G:Gs mg)
  (Tx:Def P w K mg base 2 "_law_state" ["_law_script", "_law_k"] (u9 K)) (jC:Def P w K mg base 1 "_law_take" ["_law_state_here", "_law_many"] kZ) (Ff:Def P w K mg base 3 "_law_grown" ["_law_state_here", "_law_board", "_law_bare"] S.vq) (zg:Def P w K mg base 15 "_law_right" ["_law_board", "_law_lay_here"] S.vc) (TN:Def P w K mg base 4 "_law_filled" ["_law_board", "_law_lay_here"] S.vv)
  (TJ:Def P w K mg base 2 "_law_no_board" ["_law_state_here"] (vf K)) (TH:Def P w K mg base 2 "_law_no_lay" ["_law_state_here", "_law_board", "_law_lay_here"] (vi K)) (TL:Def P w K mg base 2 "_law_lay" ["_law_state_here", "_law_board"] (vp K)) (qR:Def P w K mg base 2 "_law_unlike" ["_law_lay_here"] S.pB)
  (qQ:Def P w K mg base 13 "places_left" ["board", "lay"] S.nG) (zf:Def P w K mg base 14 "is_stuck" ["board", "lay"] S.pA)
  (hR:∀b',Def P w K mg b' 16 "_law_word" ["_law_call"] (rE P w K mg b' cS 15)) (hS:∀b',bD P w K mg b' 13 "places_left" ["board", "lay"] (S.dB K aB aL aU)) (hI:∀b',bD P w K mg b' 14 "is_stuck" ["board", "lay"] (S.dB K aB aL aU)) (mS:mg "places_left" =some (.ref gS)) (mI:mg "is_stuck" =some (.ref gI)) (mR:mg "_law_word" =some (.ref fR)) (kR:PySem.W.keepIn K (.ref fR)=true)
  (MB:mW K mg cS aB 0) (ML:mW K mg cS aL 1) (MU:mW K mg cS aU 6) (hC:PySem.W.CodeHd base c Pt)
  (xN:∃bm ob,mg "__builtins__" =some (.ref bm)∧bm≠builtinsNs∧base.get? bm=some ob∧ob.cls=.type "module" ∧ob.dict=some builtinsNs∧ob.data=.plain):
  az P w K mg base aM 17 f (PySem.W.fnOf "law" "law" (gE cJ) (dM cJ) (aC cJ) .none kV doc pm an (.ref c) ct) ["_law_script"] (vm K Pt):=by
 refine yG lk cP fN (fun vs H Q E h=> ?_) (fun A outer s H vs Q E hr h=> ?_)
 ·obtain⟨a,ns,rfl,_⟩:=h
  rfl
 ·obtain⟨a,ns,rfl,lg,qk,Lh,q⟩:=h
  have C:LCtx (bV aM P w K mg base gN "law" (aC cJ) f (.ref c) A outer s H E).fm cS c Pt fR "is_stuck" 14 ["board", "lay"] (S.dB K aB aL aU):=⟨⟨rfl,hC,xN⟩,hR,hI,hr,mR,kR⟩
  have NC:LN (bV aM P w K mg base gN "law" (aC cJ) f (.ref c) A outer s H E).fm "_law_call" 9:=⟨rfl,rfl,rfl⟩
  have NN:LN (bV aM P w K mg base gN "law" (aC cJ) f (.ref c) A outer s H E).fm "_law_none" 12:=⟨rfl,rfl,rfl⟩
  have NB:LN (bV aM P w K mg base gN "law" (aC cJ) f (.ref c) A outer s H E).fm "_law_bad" 7:=⟨rfl,rfl,rfl⟩
  have ND:LN (bV aM P w K mg base gN "law" (aC cJ) f (.ref c) A outer s H E).fm "_law_board" 8:=⟨rfl,rfl,rfl⟩
  have NW:LN (bV aM P w K mg base gN "law" (aC cJ) f (.ref c) A outer s H E).fm "_law_drawn" 10:=⟨rfl,rfl,rfl⟩
  have NK:LN (bV aM P w K mg base gN "law" (aC cJ) f (.ref c) A outer s H E).fm "_law_like" 11:=⟨rfl,rfl,rfl⟩
  have gU:=hr.mono (show 1≤16 by decide)
  have dg:=hr.mono (show 2≤16 by decide)
  have kC:=hr.mono (show 3≤16 by decide)
  have Ly:=hr.mono (show 4≤16 by decide)
  have LA:=hr.mono (show 13≤16 by decide)
  have Lz:=hr.mono (show 14≤16 by decide)
  have wY:=hr.mono (show 15≤16 by decide)
  have main:∃t,eZ (bV aM P w K mg base gN "law" (aC cJ) f (.ref c) A outer s H E).fm (dM cJ) t∧t {nx:=fun _ H'=>Q .ae H',rt:=Q} (start gN [.ref a]) H:=by
   refine⟨_,Ze (YE PassesOwn.never rfl (ZY rfl G.range (Za (Zm (Ul rfl) rfl G.max boot_max (Za Zh (Za (Zm (Uk rfl) rfl G.min boot_min (Za (Zm ZC rfl G.len boot_len (Za (pv 0) Zb)) (Za Zh Zb))) Zb))) Zb)) (ZL (i:=1) fN.nd rfl (Or.inl rfl))
     (Ze (Zu (i:=2) fN.nd rfl (Or.inl rfl) (Zi Tx dg (Za (pv 0) (Za (pv 1) Zb))))
     (Ze (Zu (i:=3) fN.nd rfl (Or.inl rfl) (ZI ZU (ZF (Za Zh (Za Zh (Za Zh Zb)))) (Zi jC gU (Za (pv 2) (Za Zh Zb))) (fun _ _=>rfl)))
     (Ze (Zu (i:=8) fN.nd rfl (Or.inr rfl) (Zs (Za (Zr Z3 Zh (Zi jC gU (Za (pv 2) (Za (pv 3) Zb)))) (Za (Zr Z3 Zh (Zi jC gU (Za (pv 2) (Za (pv 3) Zb)))) Zb))))
     (Ze (Zu (i:=4) fN.nd rfl (Or.inl rfl) (Zi Ff kC (Za (pv 2) (Za (pv 8) (Za (Zi jC gU (Za (pv 2) (Za Zh Zb))) Zb)))))
     (Ze (ZO (PW.pt (We (Z2 (ZM (Zi zg wY (Za (pv 8) (Za (pv 4) Zb))))) (Y8 (Z2 (ZM (Zi zg wY (Za (Zs (Za (ZI ZS (pv 8) Zh (fun _ _=>rfl)) (Za (Zm (Uk rfl) rfl G.min boot_min (Za (ZI ZS (pv 8) Zh (fun _ _=>rfl)) (Za Zh Zb))) Zb))) (Za (Zr EG (Zs (Za Yv Zb)) (ZI ZS (pv 8) Zh (fun _ _=>rfl))) Zb)))))))) Zt Zz)
     (Ze (Zu (i:=5) fN.nd rfl (Or.inl rfl) (Zs (Za (Zr Z3 Zh (Zi jC gU (Za (pv 2) (Za Zh Zb)))) (Za (Zr Z3 Zh (Zi jC gU (Za (pv 2) (Za Zh Zb)))) Zb))))
     (Ze (ZO (Z2 (ZM (Zi zg wY (Za (pv 5) (Za (Zi TN Ly (Za (pv 5) (Za (Zi Ff kC (Za (pv 2) (Za (pv 5) (Za Zh Zb)))) Zb))) Zb))))) Zt Zz)
     (Ze (JF (Zs (Za (Zi TJ dg (Za (pv 2) Zb)) (Za (Zi TH dg (Za (pv 2) (Za (pv 8) (Za (pv 4) Zb)))) Zb))) (ZZ rfl (Zo (ZL (i:=12) fN.nd rfl (Or.inr rfl)) (Zo (ZL (i:=7) fN.nd rfl (Or.inr rfl)) ZQ))))
     (Ze (Zu (i:=11) fN.nd rfl (Or.inr rfl) (Yh WG rfl G.tuple boot_tuple (Za (Yh JS rfl G.range boot_range (Za (Zr Z3 Zh (Zi jC gU (Za (pv 2) (Za Zh Zb)))) Zb)) Zb)))
     (Ze (YE PassesOwn.never rfl (Yb (ZF (Za (YF (v:=.ref gS) rfl mS rfl) (Za (YF (v:=.ref gI) rfl mI rfl) Zb)))) (ZL (i:=9) fN.nd rfl (Or.inr rfl))
      (Ze (Zu (i:=6) fN.nd rfl (Or.inl rfl) (ZF (Za (Jl (idx:=[9,12,7]) (Pre:=uD K aB aL aU gS gI aB) C Ku rfl (wB NC NN NB) rfl rfl (uA (by kernel_rfl)) MB (fun f ws _=>yw hS hI mS mI rfl rfl rfl rfl rfl rfl rfl)) Zb)))
      (Ze (ZX (Jm PySem.F.plainAttrs_list PySem.F.slot_list_append PySem.F.type_list_append YA (pv 6) (Za (Jl (idx:=[9,8,7]) (Pre:=uD K aB aL aU gS gI aL) C Kt rfl (wB NC ND NB) rfl rfl (uA (by kernel_rfl)) ML (fun f ws _=>yw hS hI mS mI rfl rfl rfl rfl rfl rfl rfl)) Zb)))
      (Zj (ZO (ZJ (Qt (WA hr)) (Zr YM (pv 6) (ZF (Za (Jl (idx:=[9,11]) (Pre:=ES gS gI) C Ks rfl (Kx NC NK) rfl rfl (uA (by kernel_rfl)) MU (fun f ws _=>OK (aB:=aB) (aL:=aL) G.len hS hI mS mI)) Zb))) (ZF (Za Yt (Za Yt (Za Yt Zb)))) (bK _)) Zt Zz)))))
     (Ze (Zu (i:=10) fN.nd rfl (Or.inr rfl) (Zi TL dg (Za (pv 2) (Za (pv 8) Zb))))
     (Zj (YE PassesOwn.never rfl (Yb (ZF (Za (YF (v:=.ref gS) rfl mS rfl) (Za (YF (v:=.ref gI) rfl mI rfl) Zb)))) (ZL (i:=9) fN.nd rfl (Or.inr rfl))
      (Zj (ZO (PW.pt (Wf (Z2 (ZM (Zi qR dg (Za (pv 10) Zb)))) (Jj (ZJ W5 (Jl (idx:=[9,8,10]) (Pre:=uD K aB aL aU gS gI aU) C Kr rfl (wB NC ND NW) rfl rfl (uA (by kernel_rfl)) MU (fun f ws _=>yw hS hI mS mI rfl rfl rfl rfl rfl rfl rfl)) Yt (bK _))))) Zt Zz))))))))))))))))
    (Zj (Zw (Yw (ZV (Qr (WA hr)) (Zi qQ LA (Za (Zs (Za Zh (Za Zh Zb))) (Za (Zs (Za Zh (Za Yv Zb))) Zb))) (ZF (Za (Zs (Za Zh (Za Zh Zb))) Zb)) (bK _))
     (Yu (ZV OV (Zi zf Lz (Za (Zs (Za Zh (Za Zh Zb))) (Za (Zs (Za Zh Zb)) Zb))) W3 (bK _)))))),?_⟩
   have zv:TabAt H Pt (lq (bV aM P w K mg base gN "law" (aC cJ) f (.ref c) A outer s H E).fm):=⟨#[],Lh,trivial,fun pos cv z=>by cases z⟩
   generalize kD:lq (bV aM P w K mg base gN "law" (aC cJ) f (.ref c) A outer s H E).fm=qn at zv
   refine Zp ?_
   refine⟨_,rfl,a,_,rfl,.inl lg.sq,_,_,rfl,_,_,rfl,_,rfl,(by rw[List.length_map];split<;>split<;>omega),(by rw[List.length_map];split<;>split<;>omega),?_⟩
   refine Yi (fun i σ H'=> ∃s1 s2 s3 s4 s5 s6 s7 s8 s9 fg dm cW,σ=[some (.ref a),s1,s2,s3,s4,s5,s6,s7,s8,s9,fg,dm,cW]∧eY K H' a ns∧TabAt H' Pt qn) ⟨_,_,_,_,_,_,_,_,_,_,_,_,rfl,lg,zv⟩ ?_ ?_
   ·rintro i σ H0 hi ⟨s1,s2,s3,s4,s5,s6,s7,s8,s9,fg,dm,cW,rfl,sc,tb⟩
    rw[Int.zero_add]
    refine Zn ?_
    dsimp only[List.set]
    refine Zp (ZA ⟨_,rfl,_,rfl,a,ns,i,rfl,sc.sq,fun p H1 np q1 av=>Zn ?_⟩)
    dsimp only[List.set]
    replace sc:=sc.same q1
    replace tb:=ZR tb q1
    have step:∀{H H':Hp},aw p H H'→bW H p→eY K H a ns→TabAt H Pt qn→eY K H' a ns∧TabAt H' Pt qn:=fun x ⟨u,v,e,_⟩ s t=> ⟨s.x x e (fun _ _ z=>by cases z),Dw t x e (fun _ z=>by cases z) (fun _ z=>by cases z)⟩
    have wx:∀{H:Hp}{l:Addr},bW H p→H l=none→l≠p:=fun⟨_,_,e,_⟩ h z=>by rw[z,e]at h;cases h
    refine Zp (ZA ⟨(by show 3≤sizeLine;decide),fun L hL=> ?_⟩)
    have q2:=S.aA (o:=.lst [V.int 12,V.int 6,V.int 4]) hL
    have e2:upd H1 L (.lst [V.int 12,V.int 6,V.int 4]) L=some (.lst [V.int 12,V.int 6,V.int 4]):=Zc
    have nL:=wx av hL
    generalize upd H1 L (HO.lst [V.int 12,V.int 6,V.int 4])=H2 at q2 e2
    have ak:=av.same q2
    refine⟨_,rfl,p,3,rfl,ak,by decide,by decide,fun r2 o2 g0 g3 aO=> ?_⟩
    have x3:aw p H2 (upd H2 p o2):=aw.upd
    generalize upd H2 p o2=H3 at aO x3
    obtain⟨pJ,FH⟩:=step x3 ak (sc.same q2) (ZR tb q2)
    obtain⟨sd,iT,Vf,Ve⟩:∃m:Int,ft [V.int 12,V.int 6,V.int 4] r2=some (.int m)∧1≤m∧m≤12:=by
     rcases (by omega:r2=0∨r2=1∨r2=2) with rfl |rfl |rfl
     ·exact⟨12,rfl,by decide,by decide⟩
     ·exact⟨6,rfl,by decide,by decide⟩
     ·exact⟨4,rfl,by decide,by decide⟩
    refine⟨L,_,_,_,rfl,rfl,ag.of (x3 _ _ e2 nL),iT,Zn ?_⟩
    dsimp only[List.set]
    refine Zp (ZA ⟨_,rfl,_,rfl,p,sd,rfl,aO,by omega,by omega,fun r o r0 rS cT=> ⟨_,_,rfl,rfl,_,rfl,_,rfl,p,sd,rfl,cT,by omega,by omega,fun r' o' sD Vi cM=> ⟨_,_,rfl,rfl,(by show 2≤sizeLine;decide),fun b hb=>Zn ?_⟩⟩⟩)
    dsimp only[List.set]
    have x5:aw p H3 (upd (upd H3 p o) p o'):=aw.upd.trans aw.upd
    generalize upd (upd H3 p o) p o'=H5 at cM x5 hb
    have nb:=wx cM hb
    have q6:=S.aA (o:=.tup [.int (1+r),.int (1+r')]) hb
    have eb:upd H5 b (.tup [.int (1+r),.int (1+r')]) b=some (.tup [.int (1+r),.int (1+r')]):=Zc
    generalize upd H5 b (HO.tup [.int (1+r),.int (1+r')])=H6 at q6 eb
    have rC:=cM.same q6
    obtain⟨GQ,FG⟩:=step x5 aO pJ FH
    have GP:=GQ.same q6
    have FF:=ZR FG q6
    generalize K6:1+r=wd at *
    generalize VI:1+r'=hg at *
    have w1:1≤wd∧wd≤12∧1≤hg∧hg≤12:=by omega
    have bd:∀{H':Hp},H' b=some (.tup [.int wd,.int hg])→bM H' (.ref b) wd hg:=fun e=> ⟨Zq e,w1⟩
    refine Zp (ZA ⟨_,rfl,_,rfl,_,rfl,p,6,rfl,rC,by decide,by decide,fun k o7 _ _ pf=> ⟨p,b,wd,hg,_,rfl,pf,bd (by rw[Zf nb];exact eb),fun l H8 xs x8 uY el nl hm=>Zn ?_⟩⟩)
    dsimp only[List.set]
    have x7:aw p H6 (upd H6 p o7):=aw.upd
    generalize upd H6 p o7=H7 at pf x7 x8
    obtain⟨GO,FE⟩:=step x7 rC GP FF
    obtain⟨GN,nB⟩:=step x8 pf GO FE
    have yn:=x8 _ _ (x7 _ _ eb nb) nb
    obtain⟨ly,un,_⟩:=S.qz _ _ _ xs hm
    rw[show(wd.toNat:Int)=wd by omega,show(hg.toNat:Int)=hg by omega]at ly
    refine Zp ⟨_,rfl,_,rfl,b,l,wd,hg,xs,rfl,bd yn,el,ly,un,fun H9 s9=> ⟨true,rfl,aH ?_⟩⟩
    have ym:=s9 _ _ yn
    refine⟨_,rfl,b,_,0,_,rfl,rfl,ah.of ym,iX,_,rfl,b,_,1,_,rfl,rfl,ah.of ym,da,_,_,rfl,(by show 2≤sizeLine;decide),fun t ht=> ?_⟩
    generalize BF:(if (7:Int)<hg then (7:Int) else hg)=mh
    have Kf:1≤mh∧mh≤12:=by rw[←BF];split<;>omega
    have we:=S.aA (o:=.tup [.int wd,.int mh]) ht
    have e10:upd H9 t (.tup [.int wd,.int mh]) t=some (.tup [.int wd,.int mh]):=Zc
    generalize upd H9 t (HO.tup [.int wd,.int mh])=jB at we e10
    refine⟨(by show 1≤sizeLine;decide),fun p2 cE=> ⟨_,rfl,b,_,0,.int wd,rfl,rfl,ah.of (S.aA cE _ _ (we _ _ ym)),iX,p2,wd,[.ae],rfl,rfl,Zc,by simp,by omega,by omega,by simp;omega,fun c2 kS dm e11=> ?_⟩⟩
    rw[QR wd.toNat V.ae]at e11
    obtain⟨A8,Ft,_⟩:=S.qz wd.toNat mh.toNat 0 _ (by simp[S.fJ]:List.replicate wd.toNat V.ae∈S.fJ wd.toNat mh.toNat 0)
    rw[show(wd.toNat:Int)=wd by omega,show(mh.toNat:Int)=mh by omega]at A8
    have Ao:=(S.aA cE).trans dm
    refine⟨t,c2,wd,mh,_,rfl,⟨Zq (Ao _ _ e10),w1.1,w1.2.1,Kf⟩,e11,A8,Ft,fun fK cW=> ⟨true,rfl,aH (ZN ?_)⟩⟩
    dsimp only
    have pL:=s9.trans (we.trans (Ao.trans cW))
    have rD:=uY.same pL
    have G0:=GN.same pL
    have oW:=ZR nB pL
    have Oa:=pL _ _ yn
    have N0:=pL _ _ el
    refine Zp (ZA ⟨_,rfl,p,5,rfl,rD,by decide,by decide,fun c AL c0 c5 pj=> ⟨_,_,rfl,rfl,_,rfl,p,5,rfl,pj,by decide,by decide,fun c' AK VR VQ uZ=> ⟨_,_,rfl,rfl,(by show 2≤sizeLine;decide),fun d hd=>Zn ?_⟩⟩⟩)
    dsimp only[List.set]
    have uQ:aw p fK (upd (upd fK p AL) p AK):=aw.upd.trans aw.upd
    generalize upd (upd fK p AL) p AK=Fc at uZ uQ hd
    have nd:=wx uZ hd
    have pP:=S.aA (o:=.tup [.int (1+c),.int (1+c')]) hd
    have ed:upd Fc d (.tup [.int (1+c),.int (1+c')]) d=some (.tup [.int (1+c),.int (1+c')]):=Zc
    generalize upd Fc d (HO.tup [.int (1+c),.int (1+c')])=Ts at pP ed
    have zQ:=uZ.same pP
    obtain⟨GZ,FT⟩:=step uQ rD G0 oW
    have GY:=GZ.same pP
    have FQ:=ZR FT pP
    have yy:∀{H':Hp},H' d=some (.tup [.int (1+c),.int (1+c')])→bM H' (.ref d) (1+c) (1+c'):=fun e=> ⟨Zq e,by omega,by omega,by omega,by omega⟩
    refine Zp ⟨_,rfl,_,rfl,_,rfl,_,rfl,p,d,1+c,1+c',3,rfl,zQ,yy ed,fun l2 nj ys nA ph qB Vm me=> ?_⟩
    obtain⟨lJ,Fw,_⟩:=S.qz _ _ _ ys me
    rw[show((1+c).toNat:Int)=1+c by omega,show((1+c').toNat:Int)=1+c' by omega]at lJ
    have CT:=nA _ _ ed nd
    refine⟨d,l2,1+c,1+c',ys,rfl,yy CT,qB,lJ,Fw,fun l3 kQ zs i8 NY pU uS=> ⟨d,l3,1+c,1+c',zs,rfl,yy (i8 _ _ CT),NY,pU,uS,fun ni G9=> ⟨true,rfl,aH (ZN ?_)⟩⟩⟩
    dsimp only
    have su:=i8.trans G9
    obtain⟨GX,FP⟩:=step nA zQ GY FQ
    have zP:=ph.same su
    have GW:=GX.same su
    have FO:=ZR FP su
    have zr:∀{b:Addr}{o:HO},b≠p→fK b=some o→ni b=some o:=fun hn e=>su _ _ (nA _ _ (pP _ _ (uQ _ _ e hn)) hn)
    have CU:=zr nb Oa
    have NZ:=zr nl N0
    refine Zp (ZA ⟨_,rfl,p,rfl,zP,fun vn Tr j7 zO bb nr=> ⟨_,rfl,_,rfl,_,rfl,p,b,l,xs,wd,hg,rfl,zO,⟨bd (j7 _ _ CU nb),j7 _ _ NZ nl,ly.is⟩,fun vb uL j6 GA gl=> ⟨(by show 2≤sizeLine;decide),fun t3 Lm=> ?_⟩⟩⟩)
    obtain⟨GV,FN⟩:=step j7 zP GW FO
    obtain⟨GU,FK⟩:=step j6 zO GV FN
    have Df:=WI bb j6 nr
    have AO:=UF bb.1.1 j6 nr.1 nr
    have N9:=j6 _ _ (j7 _ _ CU nb) nb
    have gm:=S.aA (o:=.tup [vn,vb]) Lm
    refine⟨t3,_,rfl,ah.of Zc,rfl,_,_,rfl,_,_,rfl,rfl,?_⟩
    dsimp only[List.set]
    generalize upd uL t3 (HO.tup [vn,vb])=kP at gm
    have zN:=GA.same gm
    have Iw:fb p kP vn:=⟨AO.1,fun xs e=>AO.2 xs (by rw[←Yj Df.1.1 gm];exact e)⟩
    have Nk:dj K p wd hg kP vb:=UL gl gm.x
    refine Zp (ZA ⟨_,rfl,p,10,rfl,zN,by decide,by decide,fun rl ol Vh Vg zM=> ⟨_,_,rfl,rfl,3+rl,rfl,fun q3 om=> ⟨q3,3+rl,rfl,Zc,by omega,by omega,fun o3 xg=>Zn ?_⟩⟩⟩)
    dsimp only[List.set]
    have oT:aw p kP (upd kP p ol):=aw.upd
    generalize upd kP p ol=zc at zM oT om xg
    have Aw:=S.aA (o:=.fj 0 (3+rl)) om
    generalize upd zc q3 (HO.fj 0 (3+rl))=Fb at Aw xg
    have Av:=S.aA (o:=.tup (L2.upTo (3+rl).toNat)) xg
    have e24:upd Fb o3 (.tup (L2.upTo (3+rl).toNat)) o3=some (.tup (L2.upTo (3+rl).toNat)):=Zc
    generalize upd Fb o3 (HO.tup (L2.upTo (3+rl).toNat))=zb at Av e24
    generalize hn:(3+rl).toNat=n at e24
    have n3:3≤n∧n≤12:=by omega
    obtain⟨GS,FJ⟩:=step oT zN (GU.same gm) (ZR FK gm)
    have nT:=Aw.trans Av
    have Nj:=UL Nk oT
    have held:HeldAt K Pt qn a ns p b wd hg vn vb o3 n zb:=⟨GS.same nT,ZR FJ nT,(WI (Df.same gm) oT Iw).same nT,(show kO K wd hg zc vb from Nj.1).same nT,(bd (oT _ _ (gm _ _ N9) nb)).same nT,e24,zM.same nT⟩
    refine Zp ⟨(by show 2≤sizeLine;decide),fun t4 l7=> ⟨t4,rfl,⟨_,ag.of Zc⟩,?_⟩⟩
    have Au:=S.aA (o:=.lst [V.ref gS,V.ref gI]) l7
    have e25:upd zb t4 (.lst [V.ref gS,V.ref gI]) t4=some (.lst [V.ref gS,V.ref gI]):=Zc
    generalize upd zb t4 (HO.lst [V.ref gS,V.ref gI])=VZ at Au e25
    replace held:=held.same Au
    have keep:∀{H H':Hp}{b:Addr}{o:HO},TabAt H Pt qn→aw Pt H H'→H b=some o→(∀ps,o≠.bH ps)→H' b=some o:=fun⟨ps,hp,_⟩ x e hn=>x _ _ e (fun z=>by rw[z,hp]at e;cases e;exact hn _ rfl)
    have two:∀{j:Nat}{v:V},[V.ref gS,V.ref gI][j]? =some v→∃g:Addr,v=.ref g∧(g=gS∨g=gI):=fun hv=>by
     have:=List.mem_of_getElem? hv
     simp only[List.mem_cons,List.not_mem_nil,or_false]at this
     rcases this with rfl |rfl
     ·exact⟨_,rfl,.inl rfl⟩
     ·exact⟨_,rfl,.inr rfl⟩
    refine Eo (xs:=[V.ref gS,V.ref gI]) (fun j σ H'=> ∃s6 s9,σ=[some (.ref a),some (.int (i:Int)),some (.ref p),some (.int sd),some (.ref l),some (.ref d),s6,some vb,some (.ref b),s9,fg,some (.ref o3),some vn]∧HeldAt K Pt qn a ns p b wd hg vn vb o3 n H'∧H' t4=some (.lst [V.ref gS,V.ref gI])) ⟨_,_,rfl,held,e25⟩ (fun j σ H' _ ⟨_,_,_,_,e⟩=>ag.of e) ?_ ?_
    ·rintro j v σ Ts hv ⟨s6,s9,rfl,jS,et⟩
     obtain⟨g,rfl,jQ⟩:=two hv
     refine Zn ?_
     dsimp only[List.set]
     refine Zp (ZA ⟨[.ref g,vn,vb],rfl,wk rfl rfl rfl,by rw[kD];exact jS.tab,fun H' x'=> ?_,fun nj nA zH=> ⟨(by show 1≤sizeLine;decide),fun W hW=>Zn ?_⟩⟩)
     ·obtain⟨ps,hp,_⟩:=jS.tab
      exact⟨g,vn,vb,rfl,jQ,.inl (.inl ⟨rfl,WI jS.none x' (YV jS.none.1 hp)⟩)⟩
     rw[kD]at zH
     dsimp only[List.set]
     have tY:=jS.x nA zH
     have CN:=keep jS.tab nA et (fun _ z=>by cases z)
     have nU:=S.aA (o:=.lst [V.str (wordOf 0)]) hW
     have e17:upd nj W (.lst [V.str (wordOf 0)]) W=some (.lst [V.str (wordOf 0)]):=Zc
     generalize upd nj W (HO.lst [V.str (wordOf 0)])=kQ at nU e17
     have jk:=tY.same nU
     have NR:=nU _ _ CN
     have tW:t4≠W:=Zg CN hW
     refine Zp ⟨_,rfl,.inl ⟨rfl,_,ag.of e17⟩,[.ref g,.ref b,vb],rfl,wk rfl rfl rfl,by rw[kD];exact jk.tab,fun H' x'=> ?_,fun ni ra zG=> ?_⟩
     ·obtain⟨ps,hp,_⟩:=jk.tab
      have z:=jk.bad.x x' (YV jk.bad.1 hp)
      exact⟨g,.ref b,vb,rfl,jQ,.inl (.inr ⟨rfl,wd,hg,jk.jY.x x' (jk.jY.bH hp),z.1,z.2⟩)⟩
     rw[kD]at zG
     have MG:=jk.x ra zG
     have NQ:=keep jk.tab ra NR (fun _ z=>by cases z)
     have e18:=keep jk.tab ra e17 (fun _ z=>by cases z)
     refine⟨W,_,_,rfl,rfl,e18,by rw[sizeLine_eq];decide,ZN ?_⟩
     dsimp only
     have j7:aw W ni (upd ni W (.lst ([V.str (wordOf 0)]++[V.str (wordOf 1)]))):=aw.upd
     have e19:upd ni W (.lst ([V.str (wordOf 0)]++[V.str (wordOf 1)])) W=some (.lst ([V.str (wordOf 0)]++[V.str (wordOf 1)])):=Zc
     generalize upd ni W (HO.lst ([V.str (wordOf 0)]++[V.str (wordOf 1)]))=Tr at j7 e19
     have AN:∀{v:V},eD K nj v→fb W ni v:=fun {v} t=>by
      have A5:fb W nj v:=RM t hW
      have Ka:fb W kQ v:=⟨A5.1,fun xs e=>A5.2 xs (by rw[←Yj t.1 nU];exact e)⟩
      obtain⟨ps,hp,_⟩:=jk.tab
      exact UF (nU.lE t.1) ra (Ux (nU.lE t.1) hp) Ka
     have pW:p≠W:=by
      obtain⟨u,v,e,_⟩:=tY.st
      exact Zg e hW
     have oE:=MG.w j7 e18 (AN tY.none.1) (AN tY.bad.1) pW
     have NP:=j7 _ _ NQ tW
     refine⟨_,rfl,[.ref g,.ref o3],rfl,HE rfl rfl,by rw[kD];exact oE.tab,fun H' x'=> ⟨g,o3,n,rfl,jQ,n3.1,n3.2,keep oE.tab x' oE.n9 (fun _ z=>by cases z)⟩,fun uL j6 zF=> ⟨(by show 1≤sizeLine;decide),fun U hU=> ?_⟩⟩
     rw[kD]at zF
     have MF:=oE.x j6 zF
     have NO:=keep oE.tab j6 NP (fun _ z=>by cases z)
     have e20:=keep oE.tab j6 e19 (fun _ z=>by cases z)
     have gm:=S.aA (o:=.lst [V.str (wordOf 6)]) hU
     have e21:upd uL U (.lst [V.str (wordOf 6)]) U=some (.lst [V.str (wordOf 6)]):=Zc
     generalize upd uL U (HO.lst [V.str (wordOf 6)])=kP at gm e21
     refine⟨W,U,_,_,rfl,rfl,gm _ _ e20,e21,by rw[sizeLine_eq];decide,fun Z hZ=> ?_⟩
     have wc:=S.aA (o:=.lst (([V.str (wordOf 0)]++[V.str (wordOf 1)])++[V.str (wordOf 6)])) hZ
     have e22:upd kP Z (.lst (([V.str (wordOf 0)]++[V.str (wordOf 1)])++[V.str (wordOf 6)])) Z=some (.lst (([wordOf 0,wordOf 1,wordOf 6]:List Str).map V.str)):=Zc
     generalize upd kP Z (HO.lst (([V.str (wordOf 0)]++[V.str (wordOf 1)])++[V.str (wordOf 6)]))=zc at wc e22
     refine⟨(by show 3≤sizeLine;decide),fun Y hY=> ?_⟩
     refine⟨Z,Y,[wordOf 0,wordOf 1,wordOf 6],rfl,rfl,ag.of (S.aA hY _ _ e22),ag.of Zc,?_⟩
     refine⟨_,rfl,aH (ZN ?_)⟩
     exact⟨_,_,rfl,MF.same (gm.trans (wc.trans (S.aA hY))),(gm.trans (wc.trans (S.aA hY))) _ _ NO⟩
    rintro σ VY ⟨s6,s9,rfl,oD,et⟩
    dsimp only
    refine Zp (ZA ⟨_,rfl,_,rfl,p,b,wd,hg,rfl,oD.st,oD.jY,fun dr za ds zo Vc N7 Kn=>Zn ?_⟩)
    dsimp only[List.set]
    obtain⟨GR,FI⟩:=step zo oD.st oD.lg oD.tab
    have OL:bM za (.ref b) wd hg:=oD.jY.x zo (fun z=>nb (by cases z;rfl))
    have wz:=Jv Kn
    have lend:=wz.len
    refine⟨(by show 2≤sizeLine;decide),fun t5 qg=> ⟨t5,rfl,⟨_,ag.of Zc⟩,?_⟩⟩
    have pO:=S.aA (o:=.lst [V.ref gS,V.ref gI]) qg
    have e28:upd za t5 (.lst [V.ref gS,V.ref gI]) t5=some (.lst [V.ref gS,V.ref gI]):=Zc
    generalize upd za t5 (HO.lst [V.ref gS,V.ref gI])=VX at pO e28
    refine Eo (xs:=[V.ref gS,V.ref gI]) (fun j σ H'=> ∃s9,σ=[some (.ref a),some (.int (i:Int)),some (.ref p),some (.int sd),some (.ref l),some (.ref d),s6,some vb,some (.ref b),s9,some (.ref dr),some (.ref o3),some vn]∧eY K H' a ns∧TabAt H' Pt qn∧bM H' (.ref b) wd hg∧H' dr=some (.tup ds)∧H' t5=some (.lst [V.ref gS,V.ref gI])) ⟨_,rfl,GR.same pO,ZR FI pO,OL.same pO,pO _ _ N7,e28⟩ (fun j σ H' _ ⟨_,_,_,_,_,_,e⟩=>ag.of e) ?_ ?_
    ·rintro j v σ Tq hv ⟨s9,rfl,rT,rd,qJ,ui,CM⟩
     obtain⟨g,rfl,jQ⟩:=two hv
     refine Zn ?_
     dsimp only[List.set]
     refine⟨_,rfl,dr,ds,rfl,ui,wz.ok,by omega,fun VW fO=> ?_⟩
     cases hu:S.bz ds with
     |true=>exact⟨true,rfl,aH (aH (ZN ⟨_,rfl,rT.same fO,ZR rd fO,qJ.same fO,fO _ _ ui,fO _ _ CM⟩))⟩
     |false=>
      refine⟨false,rfl,aW ?_⟩
      have nC:=ZR rd fO
      refine⟨[.ref g,.ref b,.ref dr],rfl,wk rfl rfl rfl,by rw[kD];exact nC,fun H' x'=> ?_,fun VV q0 zE=> ⟨rfl,?_⟩⟩
      ·obtain⟨ps,hp,_⟩:=id nC
       exact⟨g,.ref b,.ref dr,rfl,jQ,.inr ⟨rfl,wd,hg,ds,⟨(qJ.same fO).x x' ((qJ.same fO).bH hp),Zq (keep nC x' (fO _ _ ui) (fun _ z=>by cases z)),wz⟩,hu⟩⟩
      rw[kD]at zE
      refine⟨_,rfl,aH (ZN ?_)⟩
      obtain⟨ps,hp,_⟩:=id nC
      exact⟨_,rfl,(rT.same fO).x q0 hp (fun _ _ z=>by cases z),zE,(qJ.same fO).x q0 ((qJ.same fO).bH hp),keep nC q0 (fO _ _ ui) (fun _ z=>by cases z),keep nC q0 (fO _ _ CM) (fun _ z=>by cases z)⟩
    ·rintro σ Tq ⟨s9,rfl,rT,rd,_⟩
     exact⟨_,_,_,_,_,_,_,_,_,_,_,_,rfl,rT,rd⟩
   ·rintro σ H1 ⟨s1,s2,s3,s4,s5,s6,s7,s8,s9,fg,dm,cW,rfl,sc,tb⟩
    dsimp only
    refine⟨(by show 2≤sizeLine;decide),fun b1 cQ=> ⟨(by show 2≤sizeLine;decide),fun l1 jj=> ?_⟩⟩
    have v1:=S.aA (o:=.tup [V.int 2,V.int 2]) cQ
    have f1:upd H1 b1 (.tup [V.int 2,V.int 2]) b1=some (.tup [V.int 2,V.int 2]):=Zc
    generalize upd H1 b1 (HO.tup [V.int 2,V.int 2])=H2 at v1 f1 jj
    have v2:=S.aA (o:=.tup [V.int 0,V.ae]) jj
    have f2:upd H2 l1 (.tup [V.int 0,V.ae]) l1=some (.tup [V.int 0,V.ae]):=Zc
    generalize upd H2 l1 (HO.tup [V.int 0,V.ae])=H3 at v2 f2
    refine⟨b1,l1,2,2,_,rfl,⟨Zq (v2 _ _ f1),by decide,by decide,by decide,by decide⟩,f2,Jv (by decide+kernel),by decide+kernel,fun q4 H4 ts s4 n4 e4 fw=> ?_⟩
    have HB:Paired (ba H4) ts [[1,1]]:=by
     have z:=fw
     rw[show(2:Int).toNat=2 from rfl,Pd]at z
     exact z
    refine⟨(by show 2≤sizeLine;decide),fun t5 qg=> ⟨(by show 1≤sizeLine;decide),fun m5 BG=> ?_⟩⟩
    have v5:=S.aA (o:=.tup [V.int 1,V.int 1]) qg
    have f5:upd H4 t5 (.tup [V.int 1,V.int 1]) t5=some (.tup [V.int 1,V.int 1]):=Zc
    generalize upd H4 t5 (HO.tup [V.int 1,V.int 1])=H5 at v5 f5 BG
    have v6:=S.aA (o:=.lst [V.ref t5]) BG
    refine⟨q4,m5,ts,[.ref t5],[[1,1]],rfl,rfl,ag.of ((v5.trans v6) _ _ e4),ag.of Zc,Paired.ck HB fun v q' hq=>ba.same hq (v5.trans v6),.cons ⟨t5,rfl,v6 _ _ f5⟩ .nil,_,rfl,aW ?_⟩
    refine⟨(by show 2≤sizeLine;decide),fun b2 gY=> ⟨(by show 1≤sizeLine;decide),fun l2 dq=> ?_⟩⟩
    generalize upd H5 m5 (HO.lst [V.ref t5])=H6 at gY dq
    have v7:=S.aA (o:=.tup [V.int 1,V.int 3]) gY
    have f7:upd H6 b2 (.tup [V.int 1,V.int 3]) b2=some (.tup [V.int 1,V.int 3]):=Zc
    generalize upd H6 b2 (HO.tup [V.int 1,V.int 3])=H7 at v7 f7 dq
    have v8:=S.aA (o:=.tup [V.int 2]) dq
    have f8:upd H7 l2 (.tup [V.int 2]) l2=some (.tup [V.int 2]):=Zc
    generalize upd H7 l2 (HO.tup [V.int 2])=H8 at v8 f8
    refine⟨b2,l2,1,3,_,rfl,⟨Zq (v8 _ _ f7),by decide,by decide,by decide,by decide⟩,f8,Jv (by decide+kernel),by decide+kernel,fun H9 s9=> ⟨_,_,rfl,rfl,?_⟩⟩
    rw[show(3:Int).toNat=3 from rfl,Pe]
    exact q _
  obtain⟨t,ht,hq⟩:=main
  exact⟨t,ht.fm,hq⟩
end
end U
namespace U
open PySem L2 PyProof.Rows PySem.Spec
abbrev xZ:List Str:=["isinstance", "int", "bool", "tuple", "list", "len", "all", "set", "range", "max", "min", "enumerate", "zip", "sorted", "ValueError"]
section
variable {P:Program}{w:World}{K:PySem.W.Frag}{mg:Str→Option Value}{base:Heap}
theorem Pf {h:Heap}{t1:Tok}(KX:K.In h) (G:h.Ns mainGlobals mg) (e:xZ.all (sO K)=true) (lo:PySem.W.nsIn K mainGlobals "LONGEST_SIDE" =some (some (.int 12 t1))):Gs mg∧mg "ValueError" =none:=by
 have k:∀x∈xZ,mg x=none:=fun x hx=>RN KX G (List.all_eq_true.mp e x hx)
 exact⟨⟨k _ (by simp),k _ (by simp),k _ (by simp),k _ (by simp),k _ (by simp),k _ (by simp),k _ (by simp),k _ (by simp),k _ (by simp),k _ (by simp),k _ (by simp),k _ (by simp),k _ (by simp),k _ (by simp),⟨t1,PySem.W.mg_of KX G lo⟩⟩,k _ (by simp)⟩
def sY (K:PySem.W.Frag) (C c:Value) (b:Bool):Bool:=match PySem.W.kitOne K C c with |some d=>d==b |none=>false
theorem DL {C c:Value}{b:Bool}(h:sY K C c b=true):PySem.W.kitOne K C c=some b:=by
 unfold sY at h
 split at h
 ·rename_i d q
  rw[q,beq_iff_eq.mp h]
 ·cases h
def Ki (K:PySem.W.Frag) (C:Addr) (iC:Nat):Bool:=(List.range 15).all fun i=>match PySem.W.nsIn K mainGlobals (AW.getD i "") with |some (some (.ref c))=>sY K (.ref C) (.ref c) (decide (i=iC)) |_=>false
def mroOk (K:PySem.W.Frag) (C:Addr) (b:Value):Bool:=match PySem.W.mroIn K C b with |some d=>d |none=>false
theorem U7 {C:Addr}{b:Value}(h:mroOk K C b=true):PySem.W.mroIn K C b=some true:=by
 unfold mroOk at h
 split at h
 ·rename_i d q
  rw[q,h]
 ·cases h
def yf (K:PySem.W.Frag) (C c:Value):Bool:=match PySem.W.exmOne K C c with |some d=>d |none=>false
theorem Qa {C c:Value}(h:yf K C c=true):PySem.W.exmOne K C c=some true:=by
 unfold yf at h
 split at h
 ·rename_i d q
  rw[q,h]
 ·cases h
def qA (K:PySem.W.Frag) (cS C:Addr) (iC:Nat):Bool:=mroOk K C (.type "object")&&mroOk K C (.type "BaseException")&&(PySem.W.clsIn K C).isSome&&yf K (.ref C) (.ref cS)&&Ki K C iC&&sY K (.ref C) (.type "ValueError") true&&PySem.W.excIn K C qH "ValueError.__new__"
theorem UG {h:Heap}{cS C:Addr}{iC:Nat}(KX:K.In h) (G:h.Ns mainGlobals mg) (mv:mg "ValueError" =none) (ms:mg "StepError" =some (.ref cS)) (hi:iC<15) (e:qA K cS C iC=true)
  (ga:PySem.W.findIn K (.ref C) "__getattribute__" =some (some (.builtin "BaseException.__getattribute__"))) (hook:PySem.W.findIn K (.ref C) "__getattr__" =some none) (cl:PySem.W.findIn K (.ref C) "__class__" =some (some (.builtin "object.__class__"))):mW K mg cS C iC∧PySem.W.excIn K C qH "ValueError.__new__" =true:=by
 unfold qA at e
 simp only[Bool.and_eq_true]at e
 obtain⟨⟨⟨⟨⟨⟨e1,e2⟩,e3⟩,e4⟩,e5⟩,e6⟩,e7⟩:=e
 refine⟨⟨⟨ga,hook,cl,U7 e1,U7 e2,e3⟩,ms,Qa e4,fun i hi=> ?_,mv,DL e6,hi⟩,e7⟩
 have:=List.all_eq_true.mp e5 i (List.mem_range.mpr hi)
 split at this
 ·rename_i c q
  exact⟨c,PySem.W.mg_of KX G q,DL this⟩
 ·cases this
set_option maxHeartbeats 4000000 in
theorem KH {h:Heap}{fa c Pt f cS aB aL aU:Addr}{oc:Value}{od an:Option Addr}{kV doc pm ct:Value}{fA:Array (Option Value)}{t1:Tok}(KX:K.In h) (G:h.Ns mainGlobals mg) (hmg:mg "law" =some (.ref fa))
  (d0:bw K "is_whole" vD) (d1:bw K "is_whole_within" vC) (d2:bw K "is_tuple_of" vF) (d3:bw K "is_board" vS) (d4:bw K "need_board" r8) (d5:bw K "is_lay" sf) (d6:bw K "need_lay" S.pK) (d7:bw K "with_point" S.vE) (d8:bw K "points" S.rY) (d9:bw K "point_pairs" S.rZ) (C6:bw K "steps" S.rW) (C5:bw K "first_like" S.sj) (C4:bw K "is_unlike" S.rV) (C3:bw K "need_unlike" S.r9) (Ox:bw K "free_rows" S.vQ) (yt:bw K "places_left" S.r6) (yr:bw K "is_stuck" S.rX) (Ow:bw K "_law_cell_at" vR) (Ov:bw K "_law_state" vH) (Ou:bw K "_law_take" vG) (C2:bw K "_law_word" vB) (Ot:bw K "_law_steps" S.vK) (Oq:bw K "_law_unlike" S.sh) (Oo:bw K "_law_lay" vM) (Om:bw K "_law_grown" S.vO) (Ol:bw K "_law_no_board" nO) (Oj:bw K "_law_no_lay" vJ) (uo:bw K "_law_same" nN) (Oi:bw K "_law_places" S.vL) (Oh:bw K "_law_right" S.vI) (Og:bw K "_law_filled" S.vP)
  (l1:PySem.W.nsIn K mainGlobals "law" =some (some (.ref f))) (l2:K.lookup f=some ⟨oc,od,.func (PySem.W.fnOf "law" "law" (gE cJ) (dM cJ) (aC cJ) .none kV doc pm an (.ref c) ct),fA⟩) (l3:PySem.W.codeIn K (.ref c) "law" =true) (l4:PySem.W.codeHdIn K c Pt=true)
  (g1:xZ.all (sO K)=true) (lo:PySem.W.nsIn K mainGlobals "LONGEST_SIDE" =some (some (.int 12 t1)))
  (eB:PySem.W.nsIn K mainGlobals "NoBoard" =some (some (.ref aB))) (eL:PySem.W.nsIn K mainGlobals "NoLay" =some (some (.ref aL))) (eU:PySem.W.nsIn K mainGlobals "NoUnlike" =some (some (.ref aU))) (eS:PySem.W.nsIn K mainGlobals "StepError" =some (some (.ref cS)))
  (x0:qA K cS aB 0=true) (x1:qA K cS aL 1=true) (x6:qA K cS aU 6=true)
  (gaB:PySem.W.findIn K (.ref aB) "__getattribute__" =some (some (.builtin "BaseException.__getattribute__"))) (hoB:PySem.W.findIn K (.ref aB) "__getattr__" =some none) (clB:PySem.W.findIn K (.ref aB) "__class__" =some (some (.builtin "object.__class__")))
  (gaL:PySem.W.findIn K (.ref aL) "__getattribute__" =some (some (.builtin "BaseException.__getattribute__"))) (hoL:PySem.W.findIn K (.ref aL) "__getattr__" =some none) (clL:PySem.W.findIn K (.ref aL) "__class__" =some (some (.builtin "object.__class__")))
  (gaU:PySem.W.findIn K (.ref aU) "__getattribute__" =some (some (.builtin "BaseException.__getattribute__"))) (hoU:PySem.W.findIn K (.ref aU) "__getattr__" =some none) (clU:PySem.W.findIn K (.ref aU) "__class__" =some (some (.builtin "object.__class__"))):
  ∃fd:FuncData,(∀(s:Shared) (u:Value),BindsTo s fd ⟨[u],[]⟩ [("_law_script",u)])∧∀base:Heap,K.In base→base.Ns mainGlobals mg→qS mg base→az P w K mg base aM 17 fa fd ["_law_script"] (vm K Pt):=by
 have e0:=hmg.symm.trans (PySem.W.mg_of KX G l1)
 cases e0
 obtain⟨gs,mv⟩:=Pf KX G g1 lo
 have ms:=PySem.W.mg_of KX G eS
 obtain⟨MB,xB⟩:=UG KX G mv ms (by decide:0<15) x0 gaB hoB clB
 obtain⟨ML,xL⟩:=UG KX G mv ms (by decide:1<15) x1 gaL hoL clL
 obtain⟨MU,xU⟩:=UG KX G mv ms (by decide:6<15) x6 gaU hoU clU
 have CL:S.ze K mg aB aL:=⟨PySem.W.mg_of KX G eB,xB,PySem.W.mg_of KX G eL,xL⟩
 have NM:Exc K mg "NoUnlike" aU:=⟨PySem.W.mg_of KX G eU,xU⟩
 refine⟨PySem.W.fnOf "law" "law" (gE cJ) (dM cJ) (aC cJ) .none kV doc pm an (.ref c) ct,fun s u=> .of_eq rfl,fun base kb nb bm=> ?_⟩
 have good:∀b':Heap,(Def P w K mg b' 13 "places_left" ["board", "lay"] S.nG∧bD P w K mg b' 13 "places_left" ["board", "lay"] (S.dB K aB aL aU))∧(Def P w K mg b' 14 "is_stuck" ["board", "lay"] S.pA∧bD P w K mg b' 14 "is_stuck" ["board", "lay"] (S.dB K aB aL aU)):=fun b'=>by
  have D0:Def P w K mg b' 1 "is_whole" ["thing"] (u5 K):=d0.to KX G (b1 fun _ _ _ _ _ _ _=>rfl) fun f fd F=>Rm F gs
  have D1:Def P w K mg b' 2 "is_whole_within" ["thing", "least", "most"] (rF K):=d1.to KX G (b3 fun _ _ _ _ _ _ _ _ _=>rfl) fun f fd F=>RQ F D0
  have D3:Def P w K mg b' 1 "is_tuple_of" ["thing", "many"] (rG K):=d2.to KX G (b2 fun _ _ _ _ _ _ _ _=>rfl) fun f fd F=>Rl F gs
  have D4:Def P w K mg b' 3 "is_board" ["thing"] (rL K):=d3.to KX G (b1 fun _ _ _ _ _ _ _=>rfl) fun f fd F=>Rh F gs D3 D1
  have D5:Def P w K mg b' 4 "need_board" ["board"] (vg K):=d4.to KX G (b1 fun _ _ _ _ _ _ _=>rfl) fun f fd F=>UD F D4
  have D6:Def P w K mg b' 5 "is_lay" ["board", "thing"] (rJ K):=d5.to KX G (b2 fun _ _ _ _ _ _ _ _=>rfl) fun f fd F=>OT F gs D5 D3 D1
  have D7:Def P w K mg b' 6 "need_lay" ["board", "lay"] S.rH:=d6.to KX G (b2 fun _ _ _ _ _ _ _ _=>rfl) fun f fd F=>S.Ig F D6
  have D8:Def P w K mg b' 7 "points" ["board", "lay"] S.vd:=d8.to KX G (b2 fun _ _ _ _ _ _ _ _=>rfl) fun f fd F=>S.HW F gs D7
  have D9:Def P w K mg b' 8 "point_pairs" ["board", "lay"] S.ve:=d9.to KX G (b2 fun _ _ _ _ _ _ _ _=>rfl) fun f fd F=>S.Ia F D8
  have TY:Def P w K mg b' 9 "steps" ["board", "lay"] S.u7:=C6.to KX G (b2 fun _ _ _ _ _ _ _ _=>rfl) fun f fd F=>S.HP F gs D9
  have TX:Def P w K mg b' 10 "first_like" ["board", "lay"] S.vt:=C5.to KX G (b2 fun _ _ _ _ _ _ _ _=>rfl) fun f fd F=>S.Ip F gs TY
  have zh:Def P w K mg b' 11 "is_unlike" ["board", "lay"] S.pz:=C4.to KX G (b2 fun _ _ _ _ _ _ _ _=>rfl) fun f fd F=>S.HM F TX
  have TV:Def P w K mg b' 12 "need_unlike" ["board", "lay"] S.vh:=C3.to KX G (b2 fun _ _ _ _ _ _ _ _=>rfl) fun f fd F=>S.Ic F zh
  have TU:Def P w K mg b' 1 "with_point" ["lay", "line", "row"] S.u6:=d7.to KX G (b3 fun _ _ _ _ _ _ _ _ _=>rfl) fun f fd F=>S.HJ F
  have TR:Def P w K mg b' 12 "free_rows" ["board", "lay", "line"] S.vw:=Ox.to KX G (b3 fun _ _ _ _ _ _ _ _ _=>rfl) fun f fd F=>S.Im F gs zh TU
  have Fg:Def P w K mg b' 13 "places_left" ["board", "lay"] S.nG:=yt.to KX G (b2 fun _ _ _ _ _ _ _ _=>rfl) fun f fd F=>S.HY F gs TV TR
  have TQ:Def P w K mg b' 14 "is_stuck" ["board", "lay"] S.pA:=yr.to KX G (b2 fun _ _ _ _ _ _ _ _=>rfl) fun f fd F=>S.HR F Fg
  have R5:bD P w K mg b' 4 "need_board" ["board"] (vj K aB):=d4.iq KX G (b1 fun _ _ _ _ _ _ _=>rfl) fun f fd F=>S.Ih F gs CL D4
  have R6:bD P w K mg b' 5 "is_lay" ["board", "thing"] (vk K aB):=d5.iq KX G (b2 fun _ _ _ _ _ _ _ _=>rfl) fun f fd F=>Qn F R5
  have R7:bD P w K mg b' 6 "need_lay" ["board", "lay"] (S.dN K aB aL):=d6.iq KX G (b2 fun _ _ _ _ _ _ _ _=>rfl) fun f fd F=>S.Ie F CL R6 D6
  have R8:bD P w K mg b' 7 "points" ["board", "lay"] (S.dN K aB aL):=d8.iq KX G (b2 fun _ _ _ _ _ _ _ _=>rfl) fun f fd F=>S.HV F R7
  have R9:bD P w K mg b' 8 "point_pairs" ["board", "lay"] (S.dN K aB aL):=d9.iq KX G (b2 fun _ _ _ _ _ _ _ _=>rfl) fun f fd F=>S.HZ F R8
  have Tg:bD P w K mg b' 9 "steps" ["board", "lay"] (S.dN K aB aL):=C6.iq KX G (b2 fun _ _ _ _ _ _ _ _=>rfl) fun f fd F=>S.HN F gs R9
  have Tf:bD P w K mg b' 10 "first_like" ["board", "lay"] (S.dN K aB aL):=C5.iq KX G (b2 fun _ _ _ _ _ _ _ _=>rfl) fun f fd F=>S.Io F Tg
  have Te:bD P w K mg b' 11 "is_unlike" ["board", "lay"] (S.dN K aB aL):=C4.iq KX G (b2 fun _ _ _ _ _ _ _ _=>rfl) fun f fd F=>S.HL F Tf
  have Td:bD P w K mg b' 12 "need_unlike" ["board", "lay"] (S.dB K aB aL aU):=C3.iq KX G (b2 fun _ _ _ _ _ _ _ _=>rfl) fun f fd F=>S.Ib F NM zh Te
  have ER:bD P w K mg b' 13 "places_left" ["board", "lay"] (S.dB K aB aL aU):=yt.iq KX G (b2 fun _ _ _ _ _ _ _ _=>rfl) fun f fd F=>S.HX F Td
  have Tc:bD P w K mg b' 14 "is_stuck" ["board", "lay"] (S.dB K aB aL aU):=yr.iq KX G (b2 fun _ _ _ _ _ _ _ _=>rfl) fun f fd F=>S.HQ F ER
  exact⟨⟨Fg,ER⟩,TQ,Tc⟩
 have hR:∀b':Heap,Def P w K mg b' 16 "_law_word" ["_law_call"] (rE P w K mg b' cS 15):=fun b'=>C2.to KX G (b1 fun _ _ _ _ _ _ _=>rfl) fun f fd F=>Qp F gs
 have E1:Def P w K mg base 1 "_law_cell_at" ["_law_script", "_law_k"] (vA K):=Ow.to KX G (b2 fun _ _ _ _ _ _ _ _=>rfl) fun f fd F=>Qm F gs
 have E2:Def P w K mg base 2 "_law_state" ["_law_script", "_law_k"] (u9 K):=Ov.to KX G (b2 fun _ _ _ _ _ _ _ _=>rfl) fun f fd F=>Rk F gs E1
 have E3:Def P w K mg base 1 "_law_take" ["_law_state_here", "_law_many"] kZ:=Ou.to KX G (b2 fun _ _ _ _ _ _ _ _=>rfl) fun f fd F=>Qo F
 have E4:Def P w K mg base 2 "_law_no_board" ["_law_state_here"] (vf K):=Ol.to KX G (b1 fun _ _ _ _ _ _ _=>rfl) fun f fd F=>OU F E3
 have E5:Def P w K mg base 2 "_law_no_lay" ["_law_state_here", "_law_board", "_law_lay_here"] (vi K):=Oj.to KX G (b3 fun _ _ _ _ _ _ _ _ _=>rfl) fun f fd F=>Pj F gs E3
 have E6:Def P w K mg base 2 "_law_lay" ["_law_state_here", "_law_board"] (vp K):=Oo.to KX G (b2 fun _ _ _ _ _ _ _ _=>rfl) fun f fd F=>Ph F gs E3
 have E7:Def P w K mg base 1 "_law_steps" ["_law_lay_here"] S.vo:=Ot.to KX G (b1 fun _ _ _ _ _ _ _=>rfl) fun f fd F=>S.Ij F gs
 have E8:Def P w K mg base 2 "_law_unlike" ["_law_lay_here"] S.pB:=Oq.to KX G (b1 fun _ _ _ _ _ _ _=>rfl) fun f fd F=>S.Ii F gs E7
 have E9:Def P w K mg base 3 "_law_grown" ["_law_state_here", "_law_board", "_law_bare"] S.vq:=Om.to KX G (b3 fun _ _ _ _ _ _ _ _ _=>rfl) fun f fd F=>S.Il F gs E3 E8
 have Fe:Def P w K mg base 3 "_law_places" ["_law_board", "_law_lay_here"] S.rK:=Oi.to KX G (b2 fun _ _ _ _ _ _ _ _=>rfl) fun f fd F=>S.Ik F gs E8
 have S1:Def P w K mg base 1 "_law_same" ["_law_found", "_law_due"] (gH R0):=uo.to KX G (b2 fun _ _ _ _ _ _ _ _=>rfl) fun f fd F=>Ri F gs
 have S2:Def P w K mg base 2 "_law_same" ["_law_found", "_law_due"] (gH (jx R0)):=uo.to KX G (b2 fun _ _ _ _ _ _ _ _=>rfl) fun f fd F=>RP (R:=R0) (fun r s=>R0.same r s) F gs S1
 have S3:Def P w K mg base 3 "_law_same" ["_law_found", "_law_due"] (gH (yS (jx R0))):=uo.to KX G (b2 fun _ _ _ _ _ _ _ _=>rfl) fun f fd F=>RO (R:=jx R0) (fun r s=>jx.same (R:=R0) (fun r s=>R0.same r s) r s) F gs S2
 have S4:Def P w K mg base 1 "_law_same" ["_law_found", "_law_due"] (gH yT):=uo.to KX G (b2 fun _ _ _ _ _ _ _ _=>rfl) fun f fd F=>Rj F gs
 have Tu:Def P w K mg base 15 "_law_right" ["_law_board", "_law_lay_here"] S.vc:=Oh.to KX G (b2 fun _ _ _ _ _ _ _ _=>rfl) fun f fd F=>S.HU F gs Fe (good base).1.1 (good base).2.1 S3 S4
 have Tt:Def P w K mg base 4 "_law_filled" ["_law_board", "_law_lay_here"] S.vv:=Og.to KX G (b2 fun _ _ _ _ _ _ _ _=>rfl) fun f fd F=>S.Iq F gs Fe
 obtain⟨fR,NL,Oc,FR⟩:=id C2
 obtain⟨gS,_,mS,_⟩:=id yt
 obtain⟨gI,_,mI,_⟩:=id yr
 exact OS l2 l3 gs E2 E3 E9 Tu Tt E4 E5 E6 E8 (good base).1.1 (good base).2.1 hR (fun b'=> (good b').1.2) (fun b'=> (good b').2.2) (PySem.W.mg_of KX G mS) (PySem.W.mg_of KX G mI) (PySem.W.mg_of KX G Oc) FR.kp MB ML MU (PySem.W.codeHd_of_K kb l4) bm
end
end U
theorem PySem.W.Fast.tw15842650251903602720:True:=⟨⟩
theorem PySem.W.Fast.tw14695926537285279808:True:=⟨⟩
theorem PySem.W.Fast.tw11271200591631083744:True:=⟨⟩
theorem PySem.W.Fast.tw14477342120998646112:True:=⟨⟩
theorem PySem.W.Fast.tw4804590367349470624:True:=⟨⟩
theorem PySem.W.Fast.tw12791002856898559584:True:=⟨⟩
theorem PySem.W.Fast.tw3848146527440449152:True:=⟨⟩
theorem PySem.W.Fast.tw8142686081878365888:True:=⟨⟩
theorem PySem.W.Fast.tw14666010203910359776:True:=⟨⟩
theorem PySem.W.Fast.tw1507308310556270464:True:=⟨⟩
theorem PySem.W.Fast.tw2612244169689794432:True:=⟨⟩
theorem PySem.W.Fast.tw6934602050910190753:True:=⟨⟩
theorem PySem.W.Fast.tw13429879262615098561:True:=⟨⟩
theorem PySem.W.Fast.tw11338911292437886209:True:=⟨⟩
theorem PySem.W.Fast.tw17236768579107161505:True:=⟨⟩
theorem PySem.W.Fast.tw14811775264749501025:True:=⟨⟩
theorem PySem.W.Fast.tw17954456450731713153:True:=⟨⟩
theorem PySem.W.Fast.tw7075757182866690913:True:=⟨⟩
theorem PySem.W.Fast.tw5506996311950060417:True:=⟨⟩
theorem PySem.W.Fast.tw4331272616639475617:True:=⟨⟩
theorem PySem.W.Fast.tw9233201474654004546:True:=⟨⟩
theorem PySem.W.Fast.tw2689257517286235490:True:=⟨⟩
theorem PySem.W.Fast.tw5104327745889795426:True:=⟨⟩
theorem PySem.W.Fast.tw18024741820193240514:True:=⟨⟩
theorem PySem.W.Fast.tw16922441954630815298:True:=⟨⟩
theorem PySem.W.Fast.tw1320830346907647714:True:=⟨⟩
theorem PySem.W.Fast.tw15963971108117678850:True:=⟨⟩
theorem PySem.W.Fast.tw18123650883570323234:True:=⟨⟩
theorem PySem.W.Fast.tw3670375437737950178:True:=⟨⟩
theorem PySem.W.Fast.tw1539463904573060099:True:=⟨⟩
theorem PySem.W.Fast.tw1492794356976310339:True:=⟨⟩
theorem PySem.W.Fast.tw17504469225223832803:True:=⟨⟩
theorem PySem.W.Fast.tw11087775994763333891:True:=⟨⟩
theorem PySem.W.Fast.tw8443837370125157635:True:=⟨⟩
theorem PySem.W.Fast.tw8029561939665710339:True:=⟨⟩
theorem PySem.W.Fast.tw11842870463807178083:True:=⟨⟩
theorem PySem.W.Fast.tw3304517785564478883:True:=⟨⟩
theorem PySem.W.Fast.tw12727796676178167235:True:=⟨⟩
theorem PySem.W.Fast.tw1197434627169368547:True:=⟨⟩
theorem PySem.W.Fast.tw8952306492391599875:True:=⟨⟩
theorem PySem.W.Fast.tw13853765217950715651:True:=⟨⟩
theorem PySem.W.Fast.tw10966375624203748227:True:=⟨⟩
theorem PySem.W.Fast.tw17294956814298836867:True:=⟨⟩
theorem PySem.W.Fast.tw2604725222818704291:True:=⟨⟩
theorem PySem.W.Fast.tw10424132349642983331:True:=⟨⟩
theorem PySem.W.Fast.tw7657938979602113572:True:=⟨⟩
theorem PySem.W.Fast.tw17086229219271643268:True:=⟨⟩
theorem PySem.W.Fast.tw14401768271944359332:True:=⟨⟩
theorem PySem.W.Fast.tw5193057437921016260:True:=⟨⟩
theorem PySem.W.Fast.tw3707084331671719428:True:=⟨⟩
theorem PySem.W.Fast.tw2463319513109881380:True:=⟨⟩
theorem PySem.W.Fast.tw3182200108664206948:True:=⟨⟩
theorem PySem.W.Fast.tw1825574636119142116:True:=⟨⟩
theorem PySem.W.Fast.tw6573683530959012644:True:=⟨⟩
theorem PySem.W.Fast.tw5159836420740172580:True:=⟨⟩
theorem PySem.W.Fast.tw7459515692824339268:True:=⟨⟩
theorem PySem.W.Fast.tw17321425759274483556:True:=⟨⟩
theorem PySem.W.Fast.tw14194619651464392612:True:=⟨⟩
theorem PySem.W.Fast.tw16161054240094386116:True:=⟨⟩
theorem PySem.W.Fast.tw3250926138050342852:True:=⟨⟩
theorem PySem.W.Fast.tw4593328329243405637:True:=⟨⟩
theorem PySem.W.Fast.tw12974208423309645445:True:=⟨⟩
theorem PySem.W.Fast.tw18373357927676520133:True:=⟨⟩
theorem PySem.W.Fast.tw6058571413753167589:True:=⟨⟩
theorem PySem.W.Fast.tw13166129804148257509:True:=⟨⟩
theorem PySem.W.Fast.tw10000191602640598981:True:=⟨⟩
theorem PySem.W.Fast.tw15249122172459096198:True:=⟨⟩
theorem PySem.W.Fast.tw17395751262402065638:True:=⟨⟩
theorem PySem.W.Fast.tw14301971141701942502:True:=⟨⟩
theorem PySem.W.Fast.tw1074776460987567366:True:=⟨⟩
theorem PySem.W.Fast.tw16512822697843358054:True:=⟨⟩
theorem PySem.W.Fast.tw15660022412202174022:True:=⟨⟩
theorem PySem.W.Fast.tw11342038095346262758:True:=⟨⟩
theorem PySem.W.Fast.tw15391294651080627014:True:=⟨⟩
theorem PySem.W.Fast.tw1993005240386692966:True:=⟨⟩
theorem PySem.W.Fast.tw9194753145080548230:True:=⟨⟩
theorem PySem.W.Fast.tw14700263824521665510:True:=⟨⟩
theorem PySem.W.Fast.tw13953606643748993095:True:=⟨⟩
theorem PySem.W.Fast.tw9474517524682924391:True:=⟨⟩
theorem PySem.W.Fast.tw450137780170260903:True:=⟨⟩
theorem PySem.W.Fast.tw16332804953690897863:True:=⟨⟩
theorem PySem.W.Fast.tw15176946737179081191:True:=⟨⟩
theorem PySem.W.Fast.tw1534915760063771207:True:=⟨⟩
theorem PySem.W.Fast.tw522048859453496071:True:=⟨⟩
theorem PySem.W.Fast.tw10020677440364790535:True:=⟨⟩
theorem PySem.W.Fast.tw10100839062862330663:True:=⟨⟩
theorem PySem.W.Fast.tw10506814233276778311:True:=⟨⟩
theorem PySem.W.Fast.tw15818450782367022919:True:=⟨⟩
theorem PySem.W.Fast.tw7711779800262427527:True:=⟨⟩
theorem PySem.W.Fast.tw15757326359451245479:True:=⟨⟩
theorem PySem.W.Fast.tw2066515208699916263:True:=⟨⟩
theorem PySem.W.Fast.tw6445456827522150375:True:=⟨⟩
theorem PySem.W.Fast.tw9677347566634112040:True:=⟨⟩
theorem PySem.W.Fast.tw2602794509194142056:True:=⟨⟩
theorem PySem.W.Fast.tw8090069314269985224:True:=⟨⟩
theorem PySem.W.Fast.tw7067194035510352360:True:=⟨⟩
theorem PySem.W.Fast.tw14157047138481852968:True:=⟨⟩
theorem PySem.W.Fast.tw13736587405406724680:True:=⟨⟩
theorem PySem.W.Fast.tw1630778341488438888:True:=⟨⟩
theorem PySem.W.Fast.tw6964493618229964616:True:=⟨⟩
theorem PySem.W.Fast.tw2636737338259570664:True:=⟨⟩
theorem PySem.W.Fast.tw5194390483926680552:True:=⟨⟩
theorem PySem.W.Fast.tw4076856250619858953:True:=⟨⟩
theorem PySem.W.Fast.tw10337581425384986697:True:=⟨⟩
theorem PySem.W.Fast.tw16909158571670051945:True:=⟨⟩
theorem PySem.W.Fast.tw3935987704802361545:True:=⟨⟩
theorem PySem.W.Fast.tw4072393273119290633:True:=⟨⟩
theorem PySem.W.Fast.tw2512974456095875401:True:=⟨⟩
theorem PySem.W.Fast.tw13686892707687933289:True:=⟨⟩
theorem PySem.W.Fast.tw16974848883489016201:True:=⟨⟩
theorem PySem.W.Fast.tw10420544332536215945:True:=⟨⟩
theorem PySem.W.Fast.tw9896737151069352393:True:=⟨⟩
theorem PySem.W.Fast.tw15042265919868847593:True:=⟨⟩
theorem PySem.W.Fast.tw17298791567878317577:True:=⟨⟩
theorem PySem.W.Fast.tw2179534921029080713:True:=⟨⟩
theorem PySem.W.Fast.tw12939342473988017897:True:=⟨⟩
theorem PySem.W.Fast.tw18353100830804941577:True:=⟨⟩
theorem PySem.W.Fast.tw10380786242715753289:True:=⟨⟩
theorem PySem.W.Fast.tw9643549790650422153:True:=⟨⟩
theorem PySem.W.Fast.tw7526966062075335625:True:=⟨⟩
theorem PySem.W.Fast.tw6888532496131692650:True:=⟨⟩
theorem PySem.W.Fast.tw12584170164925051082:True:=⟨⟩
theorem PySem.W.Fast.tw12585957406632410378:True:=⟨⟩
theorem PySem.W.Fast.tw11702759084220758410:True:=⟨⟩
theorem PySem.W.Fast.tw418983943832955274:True:=⟨⟩
theorem PySem.W.Fast.tw4088672954927052170:True:=⟨⟩
theorem PySem.W.Fast.tw17350311259055845802:True:=⟨⟩
theorem PySem.W.Fast.tw5438029043812956650:True:=⟨⟩
theorem PySem.W.Fast.tw7433715449172284938:True:=⟨⟩
theorem PySem.W.Fast.tw18235156898803735274:True:=⟨⟩
theorem PySem.W.Fast.tw11020605993332763434:True:=⟨⟩
theorem PySem.W.Fast.tw9916351947817279338:True:=⟨⟩
theorem PySem.W.Fast.tw14323663005096172522:True:=⟨⟩
theorem PySem.W.Fast.tw512515452244397034:True:=⟨⟩
theorem PySem.W.Fast.tw6233869763457920107:True:=⟨⟩
theorem PySem.W.Fast.tw13510849142593161451:True:=⟨⟩
theorem PySem.W.Fast.tw10170394068396683563:True:=⟨⟩
theorem PySem.W.Fast.tw18402716104517580171:True:=⟨⟩
theorem PySem.W.Fast.tw10712785281925035435:True:=⟨⟩
theorem PySem.W.Fast.tw4299073473137135051:True:=⟨⟩
theorem PySem.W.Fast.tw16479114141937963755:True:=⟨⟩
theorem PySem.W.Fast.tw2385090680397539083:True:=⟨⟩
theorem PySem.W.Fast.tw14317152559375246283:True:=⟨⟩
theorem PySem.W.Fast.tw14006981986735460396:True:=⟨⟩
theorem PySem.W.Fast.tw1148131735216296204:True:=⟨⟩
theorem PySem.W.Fast.tw2871161592045324844:True:=⟨⟩
theorem PySem.W.Fast.tw13489938749686102604:True:=⟨⟩
theorem PySem.W.Fast.tw5980309922290552524:True:=⟨⟩
theorem PySem.W.Fast.tw16179387613615040236:True:=⟨⟩
theorem PySem.W.Fast.tw1484479695060899724:True:=⟨⟩
theorem PySem.W.Fast.tw3271094027691933612:True:=⟨⟩
theorem PySem.W.Fast.tw1956647114062382189:True:=⟨⟩
theorem PySem.W.Fast.tw13380863404713250061:True:=⟨⟩
theorem PySem.W.Fast.tw10758600540765774093:True:=⟨⟩
theorem PySem.W.Fast.tw17819002108470040877:True:=⟨⟩
theorem PySem.W.Fast.tw4926685463542587885:True:=⟨⟩
theorem PySem.W.Fast.tw9096597057212488397:True:=⟨⟩
theorem PySem.W.Fast.tw13962044725301788397:True:=⟨⟩
theorem PySem.W.Fast.tw12940250166657762157:True:=⟨⟩
theorem PySem.W.Fast.tw9226780293886500717:True:=⟨⟩
theorem PySem.W.Fast.tw18262983785924948877:True:=⟨⟩
theorem PySem.W.Fast.tw13894354251219616846:True:=⟨⟩
theorem PySem.W.Fast.tw14141034261382918286:True:=⟨⟩
theorem PySem.W.Fast.tw3053235116383408334:True:=⟨⟩
theorem PySem.W.Fast.tw2172436334669495630:True:=⟨⟩
theorem PySem.W.Fast.tw16902328534906465614:True:=⟨⟩
theorem PySem.W.Fast.tw2422472667889457550:True:=⟨⟩
theorem PySem.W.Fast.tw5350344397320484270:True:=⟨⟩
theorem PySem.W.Fast.tw16869023207067306446:True:=⟨⟩
theorem PySem.W.Fast.tw804554702871212590:True:=⟨⟩
theorem PySem.W.Fast.tw2812949205052816942:True:=⟨⟩
theorem PySem.W.Fast.tw17501161923313713742:True:=⟨⟩
theorem PySem.W.Fast.tw17029280802514909998:True:=⟨⟩
theorem PySem.W.Fast.tw8171556732089723726:True:=⟨⟩
theorem PySem.W.Fast.tw8756399086136045454:True:=⟨⟩
theorem PySem.W.Fast.tw13041152121745019822:True:=⟨⟩
theorem PySem.W.Fast.tw3599902556010276879:True:=⟨⟩
theorem PySem.W.Fast.tw15905662097539367119:True:=⟨⟩
theorem PySem.W.Fast.tw2630337966554199247:True:=⟨⟩
theorem PySem.W.Fast.tw6370180171826537711:True:=⟨⟩
theorem PySem.W.Fast.tw10901141978144952559:True:=⟨⟩
theorem PySem.W.Fast.tw13385732070538402031:True:=⟨⟩
theorem PySem.W.Fast.tw833226777091131663:True:=⟨⟩
theorem PySem.W.Fast.tw15945418798081658127:True:=⟨⟩
theorem PySem.W.Fast.tw9743376762487267599:True:=⟨⟩
theorem PySem.W.Fast.tw11270077329443953999:True:=⟨⟩
theorem PySem.W.Fast.tw12703683540292339023:True:=⟨⟩
theorem PySem.W.Fast.tw8685269077463111023:True:=⟨⟩
theorem PySem.W.Fast.tw5526477406376891759:True:=⟨⟩
theorem PySem.W.Fast.tw7547070464279062895:True:=⟨⟩
theorem PySem.W.Fast.tw17405255213794992527:True:=⟨⟩
theorem PySem.W.Fast.tw15862182944276466159:True:=⟨⟩
theorem PySem.W.Fast.tw4692821020261632591:True:=⟨⟩
theorem PySem.W.Fast.tw2652272858554214991:True:=⟨⟩
theorem PySem.W.Fast.tw13108738875005516399:True:=⟨⟩
theorem PySem.W.Fast.tw436130241328362159:True:=⟨⟩
theorem PySem.W.Fast.tw17216239044663521999:True:=⟨⟩
theorem PySem.W.Fast.tw14119470668136657679:True:=⟨⟩
theorem PySem.W.Fast.tw8718804027664385839:True:=⟨⟩
theorem PySem.W.Fast.tw16057415367714083631:True:=⟨⟩
theorem PySem.W.Fast.tw6116242352751784751:True:=⟨⟩
theorem PySem.W.Fast.tw10618263444938121071:True:=⟨⟩
theorem PySem.W.Fast.tw17263057673240460271:True:=⟨⟩
theorem PySem.W.Fast.tw149540019360563472:True:=⟨⟩
theorem PySem.W.Fast.tw1229494502937370992:True:=⟨⟩
theorem PySem.W.Fast.tw17433596313991899664:True:=⟨⟩
theorem PySem.W.Fast.tw9026337766378096240:True:=⟨⟩
theorem PySem.W.Fast.tw13247550140716132080:True:=⟨⟩
theorem PySem.W.Fast.tw1418031957391528944:True:=⟨⟩
theorem PySem.W.Fast.tw16938590447886436401:True:=⟨⟩
theorem PySem.W.Fast.tw15186048453648182321:True:=⟨⟩
theorem PySem.W.Fast.tw12761757005180451921:True:=⟨⟩
theorem PySem.W.Fast.tw15834592768068617553:True:=⟨⟩
theorem PySem.W.Fast.tw8551334616690562417:True:=⟨⟩
theorem PySem.W.Fast.tw10865824573305415025:True:=⟨⟩
theorem PySem.W.Fast.tw17329447023359742417:True:=⟨⟩
theorem PySem.W.Fast.tw11915497145854268913:True:=⟨⟩
theorem PySem.W.Fast.tw15193549378996768305:True:=⟨⟩
theorem PySem.W.Fast.tw179346626922821457:True:=⟨⟩
theorem PySem.W.Fast.tw1643074962484441969:True:=⟨⟩
theorem PySem.W.Fast.tw13945105800324732817:True:=⟨⟩
theorem PySem.W.Fast.tw985667738464250801:True:=⟨⟩
theorem PySem.W.Fast.tw8497037303926469617:True:=⟨⟩
theorem PySem.W.Fast.tw2578473798714855634:True:=⟨⟩
theorem PySem.W.Fast.tw9804496578047286514:True:=⟨⟩
theorem PySem.W.Fast.tw10572586282373739826:True:=⟨⟩
theorem PySem.W.Fast.tw7097238045084898802:True:=⟨⟩
theorem PySem.W.Fast.tw16761981454078337586:True:=⟨⟩
theorem PySem.W.Fast.tw17630482084700335762:True:=⟨⟩
theorem PySem.W.Fast.tw7793894609278659314:True:=⟨⟩
theorem PySem.W.Fast.tw2456804448756643634:True:=⟨⟩
theorem PySem.W.Fast.tw1667525451491420050:True:=⟨⟩
theorem PySem.W.Fast.tw10970885964386515922:True:=⟨⟩
theorem PySem.W.Fast.tw95898780520649714:True:=⟨⟩
theorem PySem.W.Fast.tw2783429273314449651:True:=⟨⟩
theorem PySem.W.Fast.tw18152704879875409395:True:=⟨⟩
theorem PySem.W.Fast.tw1240808267024788979:True:=⟨⟩
theorem PySem.W.Fast.tw3828158307622319731:True:=⟨⟩
theorem PySem.W.Fast.tw16405988227659568787:True:=⟨⟩
theorem PySem.W.Fast.tw14768821835119096659:True:=⟨⟩
theorem PySem.W.Fast.tw1463714111386453364:True:=⟨⟩
theorem PySem.W.Fast.tw426346086218222100:True:=⟨⟩
theorem PySem.W.Fast.tw1323893502383588020:True:=⟨⟩
theorem PySem.W.Fast.tw13715767206259661524:True:=⟨⟩
theorem PySem.W.Fast.tw3569052914613593812:True:=⟨⟩
theorem PySem.W.Fast.tw799793470758107892:True:=⟨⟩
theorem PySem.W.Fast.tw9960975012530690932:True:=⟨⟩
theorem PySem.W.Fast.tw11297742436816023508:True:=⟨⟩
theorem PySem.W.Fast.tw17674656490913846260:True:=⟨⟩
theorem PySem.W.Fast.tw13042216406906820789:True:=⟨⟩
theorem PySem.W.Fast.tw8296109417865493:True:=⟨⟩
theorem PySem.W.Fast.tw11020350232534665557:True:=⟨⟩
theorem PySem.W.Fast.tw10274221686029981141:True:=⟨⟩
theorem PySem.W.Fast.tw4134414539787652629:True:=⟨⟩
theorem PySem.W.Fast.tw12879138627316139605:True:=⟨⟩
theorem PySem.W.Fast.tw12041554466277583509:True:=⟨⟩
theorem PySem.W.Fast.tw17710845999447274165:True:=⟨⟩
theorem PySem.W.Fast.tw1506598485270094517:True:=⟨⟩
theorem PySem.W.Fast.tw4649284220503687029:True:=⟨⟩
theorem PySem.W.Fast.tw7353535888785241142:True:=⟨⟩
theorem PySem.W.Fast.tw15453331846917522646:True:=⟨⟩
theorem PySem.W.Fast.tw5701067764276011318:True:=⟨⟩
theorem PySem.W.Fast.tw9472699865726619990:True:=⟨⟩
theorem PySem.W.Fast.tw10687006359090034070:True:=⟨⟩
theorem PySem.W.Fast.tw5929724143676810742:True:=⟨⟩
theorem PySem.W.Fast.tw3767214980847496726:True:=⟨⟩
theorem PySem.W.Fast.tw12194161648751501910:True:=⟨⟩
theorem PySem.W.Fast.tw15352742777270524598:True:=⟨⟩
theorem PySem.W.Fast.tw5543039658899386102:True:=⟨⟩
theorem PySem.W.Fast.tw1940114405437592470:True:=⟨⟩
theorem PySem.W.Fast.tw16814971549571411894:True:=⟨⟩
theorem PySem.W.Fast.tw10524977049897422806:True:=⟨⟩
theorem PySem.W.Fast.tw11137138277265522807:True:=⟨⟩
theorem PySem.W.Fast.tw14817158145606605047:True:=⟨⟩
theorem PySem.W.Fast.tw18297055060637421847:True:=⟨⟩
theorem PySem.W.Fast.tw12804897472915146007:True:=⟨⟩
theorem PySem.W.Fast.tw2770734597783499095:True:=⟨⟩
theorem PySem.W.Fast.tw15687515508814181847:True:=⟨⟩
theorem PySem.W.Fast.tw3310171799127311831:True:=⟨⟩
theorem PySem.W.Fast.tw9101037857822728727:True:=⟨⟩
theorem PySem.W.Fast.tw2338975164118061719:True:=⟨⟩
theorem PySem.W.Fast.tw18281878192074927799:True:=⟨⟩
theorem PySem.W.Fast.tw16295006368752838455:True:=⟨⟩
theorem PySem.W.Fast.tw1617174122294167383:True:=⟨⟩
theorem PySem.W.Fast.tw7598370022856860599:True:=⟨⟩
theorem PySem.W.Fast.tw18268131990853268471:True:=⟨⟩
theorem PySem.W.Fast.tw13573283862873236600:True:=⟨⟩
theorem PySem.W.Fast.tw12244773580315078776:True:=⟨⟩
theorem PySem.W.Fast.tw5216251651393958040:True:=⟨⟩
theorem PySem.W.Fast.tw15088081070406266008:True:=⟨⟩
theorem PySem.W.Fast.tw13949019178014841080:True:=⟨⟩
theorem PySem.W.Fast.tw7771403098455583224:True:=⟨⟩
theorem PySem.W.Fast.tw1193604062609868280:True:=⟨⟩
theorem PySem.W.Fast.tw12384056041682166392:True:=⟨⟩
theorem PySem.W.Fast.tw17391103753885496984:True:=⟨⟩
theorem PySem.W.Fast.tw2049125257063762680:True:=⟨⟩
theorem PySem.W.Fast.tw10119299756513769208:True:=⟨⟩
theorem PySem.W.Fast.tw12942653828150348536:True:=⟨⟩
theorem PySem.W.Fast.tw17555280242429921176:True:=⟨⟩
theorem PySem.W.Fast.tw14865771922976406585:True:=⟨⟩
theorem PySem.W.Fast.tw5441280053635809401:True:=⟨⟩
theorem PySem.W.Fast.tw9283051392130532473:True:=⟨⟩
theorem PySem.W.Fast.tw18071090754371153049:True:=⟨⟩
theorem PySem.W.Fast.tw16899244077751210169:True:=⟨⟩
theorem PySem.W.Fast.tw13764843191094667641:True:=⟨⟩
theorem PySem.W.Fast.tw15759915631817411993:True:=⟨⟩
theorem PySem.W.Fast.tw13557745066085968345:True:=⟨⟩
theorem PySem.W.Fast.tw16208579191079963129:True:=⟨⟩
theorem PySem.W.Fast.tw10570073372867095065:True:=⟨⟩
theorem PySem.W.Fast.tw9097126227095228217:True:=⟨⟩
theorem PySem.W.Fast.tw4045064368440014809:True:=⟨⟩
theorem PySem.W.Fast.tw4755224145898284282:True:=⟨⟩
theorem PySem.W.Fast.tw17178794364553380122:True:=⟨⟩
theorem PySem.W.Fast.tw4133989030221056314:True:=⟨⟩
theorem PySem.W.Fast.tw4287775092610979194:True:=⟨⟩
theorem PySem.W.Fast.tw14260502488916573594:True:=⟨⟩
theorem PySem.W.Fast.tw11994044069529112026:True:=⟨⟩
theorem PySem.W.Fast.tw6745777750603210266:True:=⟨⟩
theorem PySem.W.Fast.tw9710913519840136858:True:=⟨⟩
theorem PySem.W.Fast.tw5690130335782320826:True:=⟨⟩
theorem PySem.W.Fast.tw5989980610208613082:True:=⟨⟩
theorem PySem.W.Fast.tw12141188661268803418:True:=⟨⟩
theorem PySem.W.Fast.tw1167040947838717818:True:=⟨⟩
theorem PySem.W.Fast.tw1006225924414223290:True:=⟨⟩
theorem PySem.W.Fast.tw6582482949144086490:True:=⟨⟩
theorem PySem.W.Fast.tw14156877075250710522:True:=⟨⟩
theorem PySem.W.Fast.tw13059062306966330459:True:=⟨⟩
theorem PySem.W.Fast.tw3288743991081564315:True:=⟨⟩
theorem PySem.W.Fast.tw17638337601820051611:True:=⟨⟩
theorem PySem.W.Fast.tw6033989817817000315:True:=⟨⟩
theorem PySem.W.Fast.tw13678550056613696987:True:=⟨⟩
theorem PySem.W.Fast.tw4883639871944700699:True:=⟨⟩
theorem PySem.W.Fast.tw11239192426727354235:True:=⟨⟩
theorem PySem.W.Fast.tw7095588956207657020:True:=⟨⟩
theorem PySem.W.Fast.tw11158566039776228476:True:=⟨⟩
theorem PySem.W.Fast.tw15023490043705104636:True:=⟨⟩
theorem PySem.W.Fast.tw3370956677311704412:True:=⟨⟩
theorem PySem.W.Fast.tw4020702374545414556:True:=⟨⟩
theorem PySem.W.Fast.tw12944328746108732220:True:=⟨⟩
theorem PySem.W.Fast.tw17679461711884478268:True:=⟨⟩
theorem PySem.W.Fast.tw4888677971341757308:True:=⟨⟩
theorem PySem.W.Fast.tw4036749403001006044:True:=⟨⟩
theorem PySem.W.Fast.tw6309326495766133789:True:=⟨⟩
theorem PySem.W.Fast.tw4856429131536981085:True:=⟨⟩
theorem PySem.W.Fast.tw1403683878023957629:True:=⟨⟩
theorem PySem.W.Fast.tw13453186417620296893:True:=⟨⟩
theorem PySem.W.Fast.tw12369312009603934397:True:=⟨⟩
theorem PySem.W.Fast.tw741681954358480093:True:=⟨⟩
theorem PySem.W.Fast.tw11226120355775683805:True:=⟨⟩
theorem PySem.W.Fast.tw14021868181968903485:True:=⟨⟩
theorem PySem.W.Fast.tw6632308900022974813:True:=⟨⟩
theorem PySem.W.Fast.tw13221278130403543421:True:=⟨⟩
theorem PySem.W.Fast.tw13804743744928794365:True:=⟨⟩
theorem PySem.W.Fast.tw2368444919135554301:True:=⟨⟩
theorem PySem.W.Fast.tw6024071100398156605:True:=⟨⟩
theorem PySem.W.Fast.tw16777616848982711197:True:=⟨⟩
theorem PySem.W.Fast.tw4067707334287409117:True:=⟨⟩
theorem PySem.W.Fast.tw5838753056966748190:True:=⟨⟩
theorem PySem.W.Fast.tw17014170324093753406:True:=⟨⟩
theorem PySem.W.Fast.tw10608259948399429726:True:=⟨⟩
theorem PySem.W.Fast.tw5130945401129984254:True:=⟨⟩
theorem PySem.W.Fast.tw29038650259615006:True:=⟨⟩
theorem PySem.W.Fast.tw4582511698000583102:True:=⟨⟩
theorem PySem.W.Fast.tw3297095657222987230:True:=⟨⟩
theorem PySem.W.Fast.tw3450616301786618590:True:=⟨⟩
theorem PySem.W.Fast.tw7444666216084917982:True:=⟨⟩
theorem PySem.W.Fast.tw12526733588736555774:True:=⟨⟩
theorem PySem.W.Fast.tw14186424858609234686:True:=⟨⟩
theorem PySem.W.Fast.tw737892998116118366:True:=⟨⟩
theorem PySem.W.Fast.tw6808506889721552766:True:=⟨⟩
theorem PySem.W.Fast.tw9194685481976573918:True:=⟨⟩
theorem PySem.W.Fast.tw3384242287144707103:True:=⟨⟩
theorem PySem.W.Fast.tw3846544039453762623:True:=⟨⟩
theorem PySem.W.Fast.tw14258292854768646367:True:=⟨⟩
theorem PySem.W.Fast.tw2116693943071292671:True:=⟨⟩
theorem PySem.W.Fast.tw13709864302391192831:True:=⟨⟩
theorem PySem.W.Fast.tw6141961155024169375:True:=⟨⟩
theorem PySem.W.Fast.tw2700391637105635807:True:=⟨⟩
theorem PySem.W.Fast.tw15498970548200480255:True:=⟨⟩
theorem PySem.W.Fast.tw8571176443801195167:True:=⟨⟩
theorem PySem.W.Fast.tw14080373222648873695:True:=⟨⟩
theorem PySem.W.Fast.tw4616003246587798335:True:=⟨⟩
theorem PySem.W.Fast.tw12403536381092565983:True:=⟨⟩
theorem PySem.W.Fast.tw13061473197158083583:True:=⟨⟩
theorem PySem.W.Fast.tw14718346681352119776:True:=⟨⟩
theorem PySem.W.Fast.tw12318918641254746113:True:=⟨⟩
theorem PySem.W.Fast.tw13119509466846299553:True:=⟨⟩
theorem PySem.W.Fast.tw6642484209864509634:True:=⟨⟩
theorem PySem.W.Fast.tw11451134549770388802:True:=⟨⟩
theorem PySem.W.Fast.tw3084169454641406019:True:=⟨⟩
theorem PySem.W.Fast.tw3007015643902437891:True:=⟨⟩
theorem PySem.W.Fast.tw18126947100487461540:True:=⟨⟩
theorem PySem.W.Fast.tw14888919459006231653:True:=⟨⟩
theorem PySem.W.Fast.tw8683796094639760645:True:=⟨⟩
theorem PySem.W.Fast.tw13370904365614161285:True:=⟨⟩
theorem PySem.W.Fast.tw16232325357130119781:True:=⟨⟩
theorem PySem.W.Fast.tw3772815327976056806:True:=⟨⟩
theorem PySem.W.Fast.tw5311429817514985735:True:=⟨⟩
theorem PySem.W.Fast.tw9509270308671822151:True:=⟨⟩
theorem PySem.W.Fast.tw5717159826193125223:True:=⟨⟩
theorem PySem.W.Fast.tw10957081321960636585:True:=⟨⟩
theorem PySem.W.Fast.tw9773813578122481129:True:=⟨⟩
theorem PySem.W.Fast.tw9580038057996451401:True:=⟨⟩
theorem PySem.W.Fast.tw6866004949783861193:True:=⟨⟩
theorem PySem.W.Fast.tw9440991404485951530:True:=⟨⟩
theorem PySem.W.Fast.tw7787307448499882410:True:=⟨⟩
theorem PySem.W.Fast.tw15408019259227437642:True:=⟨⟩
theorem PySem.W.Fast.tw2148670345630976908:True:=⟨⟩
theorem PySem.W.Fast.tw2007769415649330381:True:=⟨⟩
theorem PySem.W.Fast.tw13521529568230997966:True:=⟨⟩
theorem PySem.W.Fast.tw4364701004907345871:True:=⟨⟩
theorem PySem.W.Fast.tw998529421525707984:True:=⟨⟩
theorem PySem.W.Fast.tw15182796932945243440:True:=⟨⟩
theorem PySem.W.Fast.tw11933827109222436272:True:=⟨⟩
theorem PySem.W.Fast.tw2660518806400663472:True:=⟨⟩
theorem PySem.W.Fast.tw10765905493126299954:True:=⟨⟩
theorem PySem.W.Fast.tw6547633759287991666:True:=⟨⟩
theorem PySem.W.Fast.tw10221959243756024916:True:=⟨⟩
theorem PySem.W.Fast.tw12211189142645949111:True:=⟨⟩
theorem PySem.W.Fast.tw12274397201881417527:True:=⟨⟩
theorem PySem.W.Fast.tw5259904565032098647:True:=⟨⟩
theorem PySem.W.Fast.tw11535517690623868696:True:=⟨⟩
theorem PySem.W.Fast.tw16981068388717852505:True:=⟨⟩
theorem PySem.W.Fast.tw4931041735733881178:True:=⟨⟩
theorem PySem.W.Fast.tw1170694347859835611:True:=⟨⟩
theorem PySem.W.Fast.tw10903590299153595325:True:=⟨⟩
theorem PySem.W.Fast.tw7156884238320856702:True:=⟨⟩
theorem PySem.W.Fast.tw17365018224317190143:True:=⟨⟩
theorem PySem.W.Fast.tw5312752438489887850:True:=⟨⟩
set_option maxRecDepth 100000 in
set_option maxHeartbeats 0 in
theorem PySem.Challenge.cw_unlikesteps_k51_places_for_a_point_more_holds : PySem.Challenge.rw_unlikesteps_k51_places_for_a_point_more.Holds := by
 w_on; o_law; k_head; (case hw => w_witness2)
 k_fill
 refine U.Fp (l := PySem.Challenge.rw_unlikesteps_k51_places_for_a_point_more) (n := 63) (k := 17) (x := "_law_script") (Pts := [404]) (sp := fun K => U.vm K 404) rfl (by decide) rfl ⟨rfl, by decide, by decide, rfl⟩ (fun w h Y => PySem.W.km_in_of Y) ?hT9 ?hC9 ?hN9 ?F ?S
 case hT9 =>
  intro w h Y P hP
  simp only [List.mem_cons, List.not_mem_nil, or_false] at hP
  rcases hP with rfl
  ·exact PySem.W.km_tabs_of Y 404 (by simp)
 case hC9 =>
  intro w h X P hP
  simp only [List.mem_cons, List.not_mem_nil, or_false] at hP
  rcases hP with rfl
  ·exact ⟨408, PySem.W.codeHd_of_K X (by kernel_rfl)⟩
 case hN9 =>
  intro w P hP
  simp only [List.mem_cons, List.not_mem_nil, or_false] at hP
  rcases hP with rfl
  ·kernel_rfl
 case S => exact fun K H a ns hl hs hp => ⟨a, ns, rfl, hs, hl, hp _ (by simp), fun _ => rfl⟩
 case F =>
  intro w mg fa h KX G hmg
  refine' U.KH (c := 408) (Pt := 404) KX G hmg (U.bL ?a0 ?b0 ?c0 ?e0) (U.bL ?a1 ?b1 ?c1 ?e1) (U.bL ?a2 ?b2 ?c2 ?e2) (U.bL ?a3 ?b3 ?c3 ?e3) (U.bL ?a4 ?b4 ?c4 ?e4) (U.bL ?a5 ?b5 ?c5 ?e5) (U.bL ?a6 ?b6 ?c6 ?e6) (U.bL ?a7 ?b7 ?c7 ?e7) (U.bL ?a8 ?b8 ?c8 ?e8) (U.bL ?a9 ?b9 ?c9 ?e9) (U.bL ?a10 ?b10 ?c10 ?e10) (U.bL ?a11 ?b11 ?c11 ?e11) (U.bL ?a12 ?b12 ?c12 ?e12) (U.bL ?a13 ?b13 ?c13 ?e13) (U.bL ?a14 ?b14 ?c14 ?e14) (U.bL ?a15 ?b15 ?c15 ?e15) (U.bL ?a16 ?b16 ?c16 ?e16) (U.bL ?a17 ?b17 ?c17 ?e17) (U.bL ?a18 ?b18 ?c18 ?e18) (U.bL ?a19 ?b19 ?c19 ?e19) (U.bL ?a20 ?b20 ?c20 ?e20) (U.bL ?a21 ?b21 ?c21 ?e21) (U.bL ?a22 ?b22 ?c22 ?e22) (U.bL ?a23 ?b23 ?c23 ?e23) (U.bL ?a24 ?b24 ?c24 ?e24) (U.bL ?a25 ?b25 ?c25 ?e25) (U.bL ?a26 ?b26 ?c26 ?e26) (U.bL ?a27 ?b27 ?c27 ?e27) (U.bL ?a28 ?b28 ?c28 ?e28) (U.bL ?a29 ?b29 ?c29 ?e29) (U.bL ?a30 ?b30 ?c30 ?e30) ?l1 ?l2 ?l3 ?l4 ?g1 ?lo ?eB ?eL ?eU ?eS ?x0 ?x1 ?x6 ?gaB ?hoB ?clB ?gaL ?hoL ?clL ?gaU ?hoU ?clU
  (case a0 => k_is); (case b0 => k_is); (case c0 => k_is); (case e0 => k_is)
  (case a1 => k_is); (case b1 => k_is); (case c1 => k_is); (case e1 => k_is)
  (case a2 => k_is); (case b2 => k_is); (case c2 => k_is); (case e2 => k_is)
  (case a3 => k_is); (case b3 => k_is); (case c3 => k_is); (case e3 => k_is)
  (case a4 => k_is); (case b4 => k_is); (case c4 => k_is); (case e4 => k_is)
  (case a5 => k_is); (case b5 => k_is); (case c5 => k_is); (case e5 => k_is)
  (case a6 => k_is); (case b6 => k_is); (case c6 => k_is); (case e6 => k_is)
  (case a7 => k_is); (case b7 => k_is); (case c7 => k_is); (case e7 => k_is)
  (case a8 => k_is); (case b8 => k_is); (case c8 => k_is); (case e8 => k_is)
  (case a9 => k_is); (case b9 => k_is); (case c9 => k_is); (case e9 => k_is)
  (case a10 => k_is); (case b10 => k_is); (case c10 => k_is); (case e10 => k_is)
  (case a11 => k_is); (case b11 => k_is); (case c11 => k_is); (case e11 => k_is)
  (case a12 => k_is); (case b12 => k_is); (case c12 => k_is); (case e12 => k_is)
  (case a13 => k_is); (case b13 => k_is); (case c13 => k_is); (case e13 => k_is)
  (case a14 => k_is); (case b14 => k_is); (case c14 => k_is); (case e14 => k_is)
  (case a15 => k_is); (case b15 => k_is); (case c15 => k_is); (case e15 => k_is)
  (case a16 => k_is); (case b16 => k_is); (case c16 => k_is); (case e16 => k_is)
  (case a17 => k_is); (case b17 => k_is); (case c17 => k_is); (case e17 => k_is)
  (case a18 => k_is); (case b18 => k_is); (case c18 => k_is); (case e18 => k_is)
  (case a19 => k_is); (case b19 => k_is); (case c19 => k_is); (case e19 => k_is)
  (case a20 => k_is); (case b20 => k_is); (case c20 => k_is); (case e20 => k_is)
  (case a21 => k_is); (case b21 => k_is); (case c21 => k_is); (case e21 => k_is)
  (case a22 => k_is); (case b22 => k_is); (case c22 => k_is); (case e22 => k_is)
  (case a23 => k_is); (case b23 => k_is); (case c23 => k_is); (case e23 => k_is)
  (case a24 => k_is); (case b24 => k_is); (case c24 => k_is); (case e24 => k_is)
  (case a25 => k_is); (case b25 => k_is); (case c25 => k_is); (case e25 => k_is)
  (case a26 => k_is); (case b26 => k_is); (case c26 => k_is); (case e26 => k_is)
  (case a27 => k_is); (case b27 => k_is); (case c27 => k_is); (case e27 => k_is)
  (case a28 => k_is); (case b28 => k_is); (case c28 => k_is); (case e28 => k_is)
  (case a29 => k_is); (case b29 => k_is); (case c29 => k_is); (case e29 => k_is)
  (case a30 => k_is); (case b30 => k_is); (case c30 => k_is); (case e30 => k_is)
  (case l1 => k_is)
  (case l2 => k_is)
  (case l3 => k_is)
  (case l4 => kernel_rfl)
  (case g1 => kernel_rfl)
  (case lo => k_is)
  (case eB => k_is)
  (case eL => k_is)
  (case eU => k_is)
  (case eS => k_is)
  (case x0 => kernel_rfl)
  (case x1 => kernel_rfl)
  (case x6 => kernel_rfl)
  (case gaB => k_is)
  (case hoB => k_is)
  (case clB => k_is)
  (case gaL => k_is)
  (case hoL => k_is)
  (case clL => k_is)
  (case gaU => k_is)
  (case hoU => k_is)
  (case clU => k_is)
